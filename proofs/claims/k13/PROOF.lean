import PyProof.Rows.All
import Wide.All
import OpenK.AllK
import Wide.FinOn
import HandS.ForMost
import HandS.DictComp
import HandS.Sort
import HandS.More
import HandS.ListItems
import HandS.ForExc
import HandS.Defaults
import KE.SortData
import KE.KDictItemsList
import HandS.DictTup
import HandS.Keys
import HandS.Evl
import HandS.SortKw
import HandS.Style
import HandS.ExcIs
import HandS.IsInst
import HandS.WordsExc
import HandS.Zip
import HandS.FStr
import HandS.ExcInit
import HandS.StrSplit
import HandS.Walk
import HandS.Star
import KE.KExcIs
import HandS.ExcField
import HandS.ReplaceLit
import PySem.Challenge.RW_drawerdesk_k13_read_refused
set_option Elab.async false
set_option linter.all false
set_option maxRecDepth 100000
namespace DK
open PySem L2 PyProof.Rows
/-! the drawers as a list of names with numbers -/
abbrev Dk := List (Str × Int)
def keys (l : Dk) : List Str := l.map (·.1)
def lk : Dk → Str → Option Int
  | [], _ => none
  | p :: r, n => if p.1 = n then some p.2 else lk r n
def put (l : Dk) (n : Str) (z : Int) : Dk := if (lk l n).isSome = true then l.map (fun p => if p.1 = n then (p.1, z) else p) else l ++ [(n, z)]
def low (l : Dk) (z : Int) : Dk := (l.filter fun p => decide (z < p.2)).map fun p => (p.1, p.2 - z)
def lss (l : Dk) (w : Int) : Int := l.foldl (fun a p => min a p.2) w
def enc (l : Dk) : List (Key × V) := l.map fun p => ((Sum.inr p.1 : Key), V.int p.2)
theorem enc_len (l : Dk) : (enc l).length = l.length := List.length_map _
theorem enc_val (n : Str) : ∀ l : Dk, valV (enc l) (Sum.inr n : Key) = (lk l n).map V.int
  | [] => rfl
  | p :: r => by
    show valV (((Sum.inr p.1 : Key), V.int p.2) :: enc r) (Sum.inr n : Key) = _
    by_cases e : p.1 = n
    · rw [valV_pos (p := ((Sum.inr p.1 : Key), V.int p.2)) (by rw [e])]
      simp [lk, e]
    · rw [valV_neg (p := ((Sum.inr p.1 : Key), V.int p.2)) (fun z => e (Sum.inr.inj z)), enc_val n r]
      simp [lk, e]
theorem enc_any (n : Str) (l : Dk) : ((enc l).any fun kv => decide (kv.1 = (Sum.inr n : Key))) = (lk l n).isSome := by
  rw [valV_any, enc_val]
  cases lk l n <;> rfl
theorem enc_put (l : Dk) (n : Str) (z : Int) : putK (enc l) (Sum.inr n : Key) (V.int z) = enc (put l n z) := by
  unfold putK put
  rw [enc_any]
  cases h : (lk l n).isSome with
  | true =>
    rw [if_pos rfl, if_pos rfl]
    unfold enc
    rw [List.map_map, List.map_map]
    refine List.map_congr_left fun p _ => ?_
    by_cases e : p.1 = n
    · simp [e]
    · simp [e]
  | false =>
    rw [if_neg Bool.false_ne_true, if_neg Bool.false_ne_true]
    unfold enc
    rw [List.map_append]
    rfl
theorem enc_append (l m : Dk) : enc (l ++ m) = enc l ++ enc m := List.map_append
theorem enc_keys (l : Dk) : (enc l).map (·.1) = (keys l).map Sum.inr := by
  unfold enc keys
  rw [List.map_map, List.map_map]
  rfl
theorem enc_vals (l : Dk) : (enc l).map (·.2) = (l.map (·.2)).map V.int := by
  unfold enc
  rw [List.map_map, List.map_map]
  rfl
theorem lk_none {n : Str} : ∀ {l : Dk}, lk l n = none ↔ n ∉ keys l
  | [] => by simp [lk, keys]
  | p :: r => by
    have ih := lk_none (n := n) (l := r)
    by_cases e : p.1 = n
    · simp [lk, keys, e]
    · have e' : ¬ n = p.1 := fun z => e z.symm
      simp only [lk, if_neg e, ih, keys, List.map_cons, List.mem_cons, not_or]
      exact ⟨fun h => ⟨e', h⟩, fun h => h.2⟩
theorem lk_mem {n : Str} {z : Int} : ∀ {l : Dk}, lk l n = some z → (n, z) ∈ l
  | [], h => by simp [lk] at h
  | p :: r, h => by
    by_cases e : p.1 = n
    · simp [lk, e] at h
      exact List.mem_cons.mpr (.inl (Prod.ext e.symm h.symm))
    · simp only [lk, if_neg e] at h
      exact List.mem_cons_of_mem _ (lk_mem h)
theorem lk_of_mem {n : Str} {z : Int} : ∀ {l : Dk}, (keys l).Nodup → (n, z) ∈ l → lk l n = some z
  | [], _, h => by simp at h
  | p :: r, nd, h => by
    have nd' := List.nodup_cons.mp (show (p.1 :: keys r).Nodup from nd)
    rcases List.mem_cons.mp h with e | h
    · simp [lk, ← e]
    · have e : ¬ p.1 = n := fun z => nd'.1 (by rw [z]; exact List.mem_map.mpr ⟨_, h, rfl⟩)
      simp only [lk, if_neg e]
      exact lk_of_mem nd'.2 h
theorem lk_map (n m : Str) (z : Int) : ∀ l : Dk, lk (l.map fun p => if p.1 = n then (p.1, z) else p) m = if m = n then (lk l m).map (fun _ => z) else lk l m
  | [] => by simp [lk]
  | p :: r => by
    have ih := lk_map n m z r
    rw [List.map_cons]
    by_cases e : p.1 = n
    · by_cases e2 : m = n
      · subst e2
        simp [lk, e]
      · have e3 : ¬ p.1 = m := fun q => e2 (q.symm.trans e)
        simp only [lk, if_pos e, if_neg e3, if_neg e2, ih]
    · by_cases e2 : m = n
      · have e3 : ¬ p.1 = m := fun q => e (q.trans e2)
        simp only [lk, if_neg e, if_neg e3, if_pos e2] at ih ⊢
        exact ih
      · simp only [lk, if_neg e, if_neg e2] at ih ⊢
        rw [ih]
theorem lk_append (l r : Dk) (m : Str) : lk (l ++ r) m = (lk l m).or (lk r m) := by
  induction l with
  | nil => rfl
  | cons p l ih =>
    rw [List.cons_append]
    by_cases e : p.1 = m
    · simp [lk, e]
    · simp only [lk, if_neg e, ih]
theorem lk_put (l : Dk) (n m : Str) (z : Int) : lk (put l n z) m = if m = n then some z else lk l m := by
  unfold put
  cases h : lk l n with
  | some y =>
    rw [Option.isSome_some, if_pos rfl, lk_map]
    by_cases e : m = n
    · rw [if_pos e, if_pos e, e, h]
      rfl
    · rw [if_neg e, if_neg e]
  | none =>
    rw [Option.isSome_none, if_neg Bool.false_ne_true, lk_append]
    by_cases e : m = n
    · rw [if_pos e, e, h]
      simp [lk]
    · have e' : ¬ n = m := fun q => e q.symm
      rw [if_neg e]
      simp [lk, e']
theorem keys_map (n : Str) (z : Int) (l : Dk) : keys (l.map fun p => if p.1 = n then (p.1, z) else p) = keys l := by
  unfold keys
  rw [List.map_map]
  refine List.map_congr_left fun p _ => ?_
  by_cases e : p.1 = n <;> simp [e]
theorem keys_put (l : Dk) (n : Str) (z : Int) : keys (put l n z) = if n ∈ keys l then keys l else keys l ++ [n] := by
  unfold put
  cases h : lk l n with
  | some y =>
    have hm : n ∈ keys l := List.mem_map.mpr ⟨_, lk_mem h, rfl⟩
    rw [Option.isSome_some, if_pos rfl, if_pos hm, keys_map]
  | none =>
    rw [Option.isSome_none, if_neg Bool.false_ne_true, if_neg (lk_none.mp h)]
    unfold keys
    rw [List.map_append]
    rfl
theorem nodup_put {l : Dk} (nd : (keys l).Nodup) (n : Str) (z : Int) : (keys (put l n z)).Nodup := by
  rw [keys_put]
  by_cases h : n ∈ keys l
  · rw [if_pos h]
    exact nd
  · rw [if_neg h]
    exact nd_snoc nd h
theorem put_len_le (l : Dk) (n : Str) (z : Int) : (put l n z).length ≤ l.length + 1 := by
  unfold put
  split
  · rw [List.length_map]
    omega
  · rw [List.length_append]
    exact Nat.le_refl _
theorem put_len_in {l : Dk} {n : Str} (z : Int) {y : Int} (h : lk l n = some y) : (put l n z).length = l.length := by
  unfold put
  rw [h, Option.isSome_some, if_pos rfl, List.length_map]
theorem put_new {l : Dk} {n : Str} (z : Int) (h : lk l n = none) : put l n z = l ++ [(n, z)] := by
  unfold put
  rw [h, Option.isSome_none, if_neg Bool.false_ne_true]
theorem put_pos {l : Dk} {n : Str} {z : Int} (hp : ∀ p ∈ l, 0 < p.2) (hz : 0 < z) : ∀ p ∈ put l n z, 0 < p.2 := by
  intro p h
  unfold put at h
  split at h
  · obtain ⟨q, hq, rfl⟩ := List.mem_map.mp h
    split
    · exact hz
    · exact hp q hq
  · rcases List.mem_append.mp h with h | h
    · exact hp p h
    · rw [List.mem_singleton.mp h]
      exact hz
theorem low_pos (l : Dk) (z : Int) : ∀ p ∈ low l z, 0 < p.2 := by
  intro p h
  obtain ⟨q, hq, rfl⟩ := List.mem_map.mp h
  have := of_decide_eq_true (List.mem_filter.mp hq).2
  show 0 < q.2 - z
  omega
theorem keys_low (l : Dk) (z : Int) : keys (low l z) = keys (l.filter fun p => decide (z < p.2)) := by
  unfold keys low
  rw [List.map_map]
  rfl
theorem nodup_low {l : Dk} (nd : (keys l).Nodup) (z : Int) : (keys (low l z)).Nodup := by
  rw [keys_low]
  exact nd.sublist (List.filter_sublist.map _)
theorem keys_low_sub {l : Dk} {z : Int} {n : Str} (h : n ∈ keys (low l z)) : n ∈ keys l := by
  rw [keys_low] at h
  exact (List.filter_sublist.map _).subset h
theorem low_len_le (l : Dk) (z : Int) : (low l z).length ≤ l.length := by
  unfold low
  rw [List.length_map]
  exact List.length_filter_le _ _
theorem filter_lt {α : Type} {f : α → Bool} : ∀ {l : List α} {x : α}, x ∈ l → f x = false → (l.filter f).length < l.length
  | [], _, h, _ => by simp at h
  | y :: r, x, h, hf => by
    rcases List.mem_cons.mp h with e | h
    · subst e
      rw [List.filter_cons, if_neg (by rw [hf]; exact Bool.false_ne_true), List.length_cons]
      exact Nat.lt_succ_of_le (List.length_filter_le _ _)
    · have ih := filter_lt h hf
      rw [List.filter_cons]
      split
      · rw [List.length_cons, List.length_cons]
        omega
      · rw [List.length_cons]
        omega
theorem low_len_lt {l : Dk} {p : Str × Int} {z : Int} (h : p ∈ l) (hz : p.2 ≤ z) : (low l z).length < l.length := by
  unfold low
  rw [List.length_map]
  exact filter_lt h (decide_eq_false (by omega))
/-! the least of the weight and all numbers -/
theorem lss_spec : ∀ (l : Dk) (w : Int), lss l w ≤ w ∧ (∀ p ∈ l, lss l w ≤ p.2) ∧ (lss l w = w ∨ ∃ p ∈ l, lss l w = p.2)
  | [], w => ⟨Int.le_refl _, fun _ h => by simp at h, .inl rfl⟩
  | p :: r, w => by
    obtain ⟨h1, h2, h3⟩ := lss_spec r (min w p.2)
    have e : lss (p :: r) w = lss r (min w p.2) := rfl
    rw [e]
    refine ⟨by omega, fun q hq => ?_, ?_⟩
    · rcases List.mem_cons.mp hq with rfl | hq
      · omega
      · exact h2 q hq
    · rcases h3 with h3 | ⟨q, hq, h3⟩
      · by_cases c : w ≤ p.2
        · exact .inl (by rw [h3]; omega)
        · exact .inr ⟨p, List.mem_cons_self, by rw [h3]; omega⟩
      · exact .inr ⟨q, List.mem_cons_of_mem _ hq, h3⟩
theorem lss_eq {l : Dk} {w m : Int} (h1 : ∀ p ∈ l, m ≤ p.2) (h2 : ∃ p ∈ l, m = p.2) : lss l w = min w m := by
  obtain ⟨a, b, c⟩ := lss_spec l w
  obtain ⟨p, hp, e⟩ := h2
  have := b p hp
  rcases c with c | ⟨q, hq, c⟩
  · omega
  · have := h1 q hq
    omega
/-- the desk's own state: its drawers' numbers, what is lost, all weight -/
structure DS where
  l : Dk
  g : Int
  t : Int
def comeM (k : Nat) (s : DS) (n : Str) (w : Int) : DS :=
  match lk s.l n with
  | some z => ⟨put s.l n (z + w), s.g, s.t + w⟩
  | none => if s.l.length < k then ⟨s.l ++ [(n, w)], s.g, s.t + w⟩
    else ⟨if lss s.l w < w then low s.l (lss s.l w) ++ [(n, w - lss s.l w)] else low s.l (lss s.l w), s.g + lss s.l w, s.t + w⟩
structure Ok (k : Nat) (l : Dk) : Prop where
  nd : (keys l).Nodup
  pos : ∀ p ∈ l, 0 < p.2
  len : l.length ≤ k
theorem ok_nil (k : Nat) : Ok k [] := ⟨List.nodup_nil, fun _ h => by simp at h, Nat.zero_le _⟩
theorem come_ok {k : Nat} {s : DS} {n : Str} {w : Int} (o : Ok k s.l) (hw : 0 < w) (hk : 0 < k) : Ok k (comeM k s n w).l := by
  obtain ⟨nd, pos, len⟩ := o
  unfold comeM
  cases h : lk s.l n with
  | some z =>
    have hz := pos _ (lk_mem h)
    exact ⟨nodup_put nd _ _, put_pos pos (by show 0 < z + w; have : 0 < z := hz; omega), by rw [put_len_in _ h]; exact len⟩
  | none =>
    have hn := lk_none.mp h
    dsimp only
    split
    · rename_i hl
      refine ⟨?_, fun p hp => ?_, by rw [List.length_append]; exact hl⟩
      · have e : keys (s.l ++ [(n, w)]) = keys s.l ++ [n] := List.map_append
        rw [e]
        exact nd_snoc nd hn
      · rcases List.mem_append.mp hp with hp | hp
        · exact pos p hp
        · rw [List.mem_singleton.mp hp]
          exact hw
    · rename_i hl
      obtain ⟨a, b, c⟩ := lss_spec s.l w
      dsimp only
      split
      · rename_i hlt
        refine ⟨?_, fun p hp => ?_, ?_⟩
        · have e : keys (low s.l (lss s.l w) ++ [(n, w - lss s.l w)]) = keys (low s.l (lss s.l w)) ++ [n] := List.map_append
          rw [e]
          exact nd_snoc (nodup_low nd _) fun z => hn (keys_low_sub z)
        · rcases List.mem_append.mp hp with hp | hp
          · exact low_pos _ _ p hp
          · rw [List.mem_singleton.mp hp]
            show 0 < w - lss s.l w
            omega
        · rcases c with c | ⟨p, hp, c⟩
          · omega
          · have := low_len_lt hp (z := lss s.l w) (by omega)
            rw [List.length_append]
            show (low s.l (lss s.l w)).length + 1 ≤ k
            omega
      · exact ⟨nodup_low nd _, low_pos _ _, Nat.le_trans (low_len_le _ _) len⟩
/-! the order of names -/
def kle (a b : Str) : Bool := decide (a.cps.toList ≤ b.cps.toList)
theorem kle_trans (a b c : Str) (h1 : kle a b = true) (h2 : kle b c = true) : kle a c = true :=
  decide_eq_true (List.le_trans (of_decide_eq_true h1) (of_decide_eq_true h2))
theorem kle_total (a b : Str) : (kle a b || kle b a) = true := by
  rcases List.le_total a.cps.toList b.cps.toList with h | h
  · simp [kle, h]
  · simp [kle, h]
theorem kle_anti {a b : Str} (h1 : kle a b = true) (h2 : kle b a = true) : a = b := by
  have e : a.cps.toList = b.cps.toList := List.le_antisymm (of_decide_eq_true h1) (of_decide_eq_true h2)
  cases a
  cases b
  congr 1
  exact Array.toList_inj.mp e
theorem keys_perm {l m : Dk} (p : l.Perm m) : (keys l).Perm (keys m) := p.map _
def srt (l : Dk) : Dk := l.mergeSort fun p q => kle p.1 q.1
theorem srt_perm (l : Dk) : (srt l).Perm l := List.mergeSort_perm _ _
theorem srt_pw (l : Dk) : (srt l).Pairwise fun p q => kle p.1 q.1 = true :=
  List.pairwise_mergeSort (le := fun p q : Str × Int => kle p.1 q.1) (fun a b c h1 h2 => kle_trans _ _ _ h1 h2) (fun a b => kle_total _ _) l
theorem pw_perm_eq {l m : List Str} (hl : l.Pairwise fun a b => kle a b = true) (hm : m.Pairwise fun a b => kle a b = true) (p : l.Perm m) : l = m :=
  p.eq_of_pairwise (fun a b _ _ h1 h2 => kle_anti h1 h2) hl hm
theorem srt_keys_pw (l : Dk) : (keys (srt l)).Pairwise fun a b => kle a b = true := List.pairwise_map.mpr (srt_pw l)
theorem pw_keys_eq {l m : Dk} (nd : (keys l).Nodup) (hl : l.Pairwise fun p q => kle p.1 q.1 = true) (hm : m.Pairwise fun p q => kle p.1 q.1 = true) (p : l.Perm m) : l = m := by
  refine p.eq_of_pairwise (fun a b ha hb h1 h2 => ?_) hl hm
  have e := kle_anti h1 h2
  have h3 := lk_of_mem nd (show (a.1, a.2) ∈ l from ha)
  have h4 := lk_of_mem nd (show (b.1, b.2) ∈ l from p.mem_iff.mpr hb)
  rw [e, h4] at h3
  exact Prod.ext e (Option.some.inj h3).symm
theorem srt_of_perm {l m : Dk} (nd : (keys l).Nodup) (p : l.Perm m) : srt l = srt m :=
  pw_keys_eq ((keys_perm (srt_perm l)).nodup_iff.mpr nd) (srt_pw l) (srt_pw m) (((srt_perm l).trans p).trans (srt_perm m).symm)
theorem lk_perm {l m : Dk} (nd : (keys l).Nodup) (p : l.Perm m) (n : Str) : lk l n = lk m n := by
  have nd' : (keys m).Nodup := (keys_perm p).nodup_iff.mp nd
  cases h : lk l n with
  | some z => exact (lk_of_mem nd' (p.mem_iff.mp (lk_mem h))).symm
  | none =>
    have h1 := lk_none.mp h
    exact (lk_none.mpr fun z => h1 ((keys_perm p).mem_iff.mpr z)).symm
theorem risingS_pw : ∀ (p : Str) (l : List Str), risingS p l = true → (∀ x ∈ l, kle p x = true) ∧ l.Pairwise fun a b => kle a b = true
  | p, [], _ => ⟨fun _ h => by simp at h, List.Pairwise.nil⟩
  | p, x :: r, h => by
    simp only [risingS, Bool.and_eq_true] at h
    obtain ⟨h1, h2⟩ := h
    obtain ⟨i1, i2⟩ := risingS_pw x r h2
    have hpx : kle p x = true := by
      rw [ltCps_eq] at h1
      unfold kle
      rw [← PySem.W.not_lt_str]
      exact h1
    refine ⟨fun y hy => ?_, List.pairwise_cons.mpr ⟨i1, i2⟩⟩
    rcases List.mem_cons.mp hy with rfl | hy
    · exact hpx
    · exact kle_trans _ _ _ hpx (i1 y hy)
theorem sortedS_pw : ∀ l : List Str, sortedS l = true → l.Pairwise fun a b => kle a b = true
  | [], _ => List.Pairwise.nil
  | x :: r, h => by
    obtain ⟨a, b⟩ := risingS_pw x r h
    exact List.pairwise_cons.mpr ⟨a, b⟩
theorem sorted_keys {l : Dk} {ys : List Str} (p : ys.Perm (keys l)) (h : sortedS ys = true) : ys = keys (srt l) :=
  pw_perm_eq (sortedS_pw ys h) (srt_keys_pw l) (p.trans (keys_perm (srt_perm l)).symm)
end DK
namespace DK
open PySem L2 PyProof.Rows
/-! what a loop over the drawers has made so far -/
theorem take_snoc {α : Type} {l : List α} {i : Nat} {x : α} (h : l[i]? = some x) : l.take (i + 1) = l.take i ++ [x] := by
  rw [List.take_succ, h]
  rfl
theorem take_fresh {l : Dk} (nd : (keys l).Nodup) {i : Nat} {p : Str × Int} (h : l[i]? = some p) : p.1 ∉ keys (l.take i) := by
  intro hm
  have e := take_snoc h
  have nd2 : (keys (l.take (i + 1))).Nodup := nd.sublist ((List.take_sublist _ _).map _)
  rw [e] at nd2
  have e2 : keys (l.take i ++ [p]) = keys (l.take i) ++ [p.1] := List.map_append
  rw [e2] at nd2
  exact (List.nodup_append.mp nd2).2.2 p.1 hm p.1 List.mem_cons_self rfl
theorem low_snoc (l : Dk) (p : Str × Int) (z : Int) : low (l ++ [p]) z = if z < p.2 then low l z ++ [(p.1, p.2 - z)] else low l z := by
  unfold low
  rw [List.filter_append, List.map_append]
  by_cases h : z < p.2
  · rw [if_pos h]
    simp [h]
  · rw [if_neg h]
    simp [h]
theorem lk_at {l : Dk} (nd : (keys l).Nodup) {i : Nat} {p : Str × Int} (h : l[i]? = some p) : lk l p.1 = some p.2 := lk_of_mem nd (List.mem_of_getElem? h)
def leastM (s : DS) (n : Str) : Int := (lk s.l n).getD 0
def maybeM (k : Nat) (s : DS) : List Str := (keys (srt s.l)).filter fun n => decide (s.t < (leastM s n + s.g) * ((k : Int) + 1))
def surelyM (k : Nat) (s : DS) : List Str := (keys (srt s.l)).filter fun n => decide (s.t < leastM s n * ((k : Int) + 1))
theorem filter_snoc {α : Type} (f : α → Bool) (l : List α) (x : α) : (l ++ [x]).filter f = if f x = true then l.filter f ++ [x] else l.filter f := by
  rw [List.filter_append]
  cases h : f x <;> simp [h]
end DK
namespace DK
open PySem L2 PyProof.Rows
theorem comeM_keys {k : Nat} {s : DS} {n : Str} {w : Int} {m : Str} (h : m ∈ keys (comeM k s n w).l) : m ∈ keys s.l ∨ m = n := by
  unfold comeM at h
  cases e : lk s.l n with
  | some z =>
    rw [e] at h
    dsimp only at h
    rw [keys_put] at h
    split at h
    · exact .inl h
    · rcases List.mem_append.mp h with h | h
      · exact .inl h
      · exact .inr (List.mem_singleton.mp h)
  | none =>
    rw [e] at h
    dsimp only at h
    have ha : ∀ (l : Dk) (z : Int), m ∈ keys (l ++ [(n, z)]) → m ∈ keys l ∨ m = n := fun l z hm => by
      have e2 : keys (l ++ [(n, z)]) = keys l ++ [n] := List.map_append
      rw [e2] at hm
      rcases List.mem_append.mp hm with h | h
      · exact .inl h
      · exact .inr (List.mem_singleton.mp h)
    split at h
    · exact ha _ _ h
    · dsimp only at h
      split at h
      · rcases ha _ _ h with h | h
        · exact .inl (keys_low_sub h)
        · exact .inr h
      · exact .inl (keys_low_sub h)
theorem srt_nil : srt [] = [] := by
  unfold srt
  simp
theorem maybeM_nil (k : Nat) (g t : Int) : maybeM k ⟨[], g, t⟩ = [] := by
  unfold maybeM
  rw [srt_nil]
  rfl
theorem surelyM_nil (k : Nat) (g t : Int) : surelyM k ⟨[], g, t⟩ = [] := by
  unfold surelyM
  rw [srt_nil]
  rfl
theorem maybeM_sub {k : Nat} {s : DS} {m : Str} (h : m ∈ maybeM k s) : m ∈ keys s.l := (keys_perm (srt_perm s.l)).mem_iff.mp (List.mem_filter.mp h).1
theorem surelyM_sub {k : Nat} {s : DS} {m : Str} (h : m ∈ surelyM k s) : m ∈ keys s.l := (keys_perm (srt_perm s.l)).mem_iff.mp (List.mem_filter.mp h).1
theorem maybeM_len (k : Nat) (s : DS) : (maybeM k s).length ≤ s.l.length := by
  refine Nat.le_trans (List.length_filter_le _ _) ?_
  unfold keys
  rw [List.length_map]
  exact Nat.le_of_eq (srt_perm s.l).length_eq
theorem surelyM_len (k : Nat) (s : DS) : (surelyM k s).length ≤ s.l.length := by
  refine Nat.le_trans (List.length_filter_le _ _) ?_
  unfold keys
  rw [List.length_map]
  exact Nat.le_of_eq (srt_perm s.l).length_eq
end DK
set_option Elab.async false
set_option linter.all false
set_option maxRecDepth 100000
set_option maxHeartbeats 2000000
/-! further rules: views of dicts as values, sorted pairs, copies, texts times ints, comprehensions over dicts -/
namespace DK
open PySem PySem.Spec PyProof.Rows L2
/-! ### views -/
def vwO (T : String) (p d : Addr) : HO := .ext fun h => h.get? p = some { cls := .type T, data := .fields #[.ref d] }
theorem vwO_ok {P : Program} {w : World} {H : Hp} {h : Heap} {T : String} {p d : Addr} (e : h.get? p = some { cls := .type T, data := .fields #[.ref d] }) : ObjOk P w H h p (vwO T p d) :=
  ⟨e, ⟨_, e⟩, fun _ _ x k => k _ x⟩
def rVw (T : String) : V → List V → Hp → VK → Prop := fun x xs H Q => ∃ d kvs, x = .ref d ∧ xs = [] ∧ H d = some (.dK kvs) ∧ ∀ p, H p = none → Q (.ref p) (upd H p (vwO T p d))
section
variable {X : Cx}
theorem mt_items : MtR X "dict.items" (rVw "dict_items") := by
  intro pins s σ H x xs v us Q I rx rxs h
  obtain ⟨d, kvs, rfl, rfl, hd, q⟩ := h
  obtain rfl : v = Value.ref d := rx
  obtain rfl := Vals.zero rxs
  obtain ⟨_, hsys, vs, rel, dof⟩ := dk_of I.hok hd
  refine call_meetsIn PySem.F.slot_dict_items dof.typeIs PySem.F.entry_dict_items (PySem.F.args_dict_items_1 _) (meets_dict_items (mixKind X.prog X.w) d hsys) ⟨⟨vs, dof⟩, ?_⟩
  exact ⟨.ref s.heap.objs.size, upd H s.heap.objs.size (vwO "dict_items" s.heap.objs.size d), I.laid (t' := s.toks) (fun b u e => Heap.get?_push_of_some _ e) (Nat.le_refl _) (vwO_ok (Heap.get?_push_size _ rfl)), rfl, q _ (I.hok.fresh (Nat.le_refl _))⟩
theorem mt_values : MtR X "dict.values" (rVw "dict_values") := by
  intro pins s σ H x xs v us Q I rx rxs h
  obtain ⟨d, kvs, rfl, rfl, hd, q⟩ := h
  obtain rfl : v = Value.ref d := rx
  obtain rfl := Vals.zero rxs
  obtain ⟨_, hsys, vs, rel, dof⟩ := dk_of I.hok hd
  refine call_meetsIn PySem.F.slot_dict_values dof.typeIs PySem.F.entry_dict_values (PySem.F.args_dict_values_1 _) (meets_dict_values (mixKind X.prog X.w) d hsys) ⟨⟨vs, dof⟩, ?_⟩
  exact ⟨.ref s.heap.objs.size, upd H s.heap.objs.size (vwO "dict_values" s.heap.objs.size d), I.laid (t' := s.toks) (fun b u e => Heap.get?_push_of_some _ e) (Nat.le_refl _) (vwO_ok (Heap.get?_push_size _ rfl)), rfl, q _ (I.hok.fresh (Nat.le_refl _))⟩
/-- sum(d.values()) -/
def rSumV : List V → Hp → VK → Prop := fun xs H Q => ∃ (p d : Addr) (is : List Int) (kvs : List (Key × V)), xs = [V.ref p] ∧ H p = some (vwO "dict_values" p d) ∧ H d = some (.dK kvs) ∧ kvs.map (·.2) = is.map V.int ∧ Q (.int is.sum) H
theorem preSum_list : ∀ (is : List Int) (k : Nat), k ≤ is.length → preSum (fun i => is.getD i 0) k = (is.take k).sum
  | is, 0, _ => by simp [preSum]
  | is, k + 1, h => by
    show preSum (fun i => is.getD i 0) k + is.getD k 0 = _
    have hk : k < is.length := h
    have e : is[k]? = some (is[k]) := List.getElem?_eq_getElem hk
    rw [preSum_list is k (by omega), sum_take e, List.getD_eq_getElem?_getD, e]
    rfl
theorem cr_sumV (hc : X.calm = true) : CallR X (.builtin "sum") rSumV := by
  intro pins s σ H xs us Q I r h
  obtain ⟨p, d, is, kvs, rfl, hp, hd, hv, q⟩ := h
  obtain rfl := Vals.ref1 r
  have hvw : s.heap.get? p = some { cls := .type "dict_values", data := .fields #[.ref d] } := (show ObjOk X.prog X.w H s.heap p (vwO "dict_values" p d) from I.hok p _ hp).1
  obtain ⟨_, hsys, vs, rel, dof⟩ := dk_of I.hok hd
  obtain ⟨ep, dat⟩ := dof.dictAt
  have K := PySem.W.kdl_values (prog := X.prog) (w := X.w) (knd := mixKind X.prog X.w) (r := p) (d := d) (kvs := vs) (ep := ep)
  have hok : s.heap.IsValuesView p d ∧ s.heap.DictAt (mixKind X.prog X.w) d vs ep := ⟨⟨_, hvw, rfl, rfl⟩, dat⟩
  have hlv : vs.length = is.length := by
    have e1 := congrArg List.length hv
    rw [List.length_map, List.length_map] at e1
    rw [← e1]
    exact (KV.length rel).symm
  have hval : ∀ (i : Nat) (v : Value), (∃ k, vs[i]? = some (k, v)) → ∃ t, v = Value.int (is.getD i 0) t := fun i v ⟨k, hk⟩ => by
    obtain ⟨x, h1, h2⟩ := KV.at' rel hk
    have e1 : (kvs.map (·.2))[i]? = some x := by rw [List.getElem?_map, h1] <;> rfl
    rw [hv, List.getElem?_map] at e1
    obtain ⟨j, hj, e2⟩ := Option.map_eq_some_iff.mp e1
    subst e2
    obtain ⟨t, e3⟩ := h2
    refine ⟨t, ?_⟩
    rw [e3, List.getD_eq_getElem?_getD, hj] <;> rfl
  have hh : X.A.handled = none := I.ok.hd hc
  refine call_sum_walkAnyS ?_
  obtain ⟨oI, St, hit, W, st⟩ := K.iter X.A.in1 s hh hok
  refine hit _ _ ⟨s.heap.objs.size, _, _, _, vs.length, _, _, fun i => is.getD i 0, rfl, W.toS, st, fun b hb => ?_, hval, fun s' t' hm => ?_⟩
  · show b < (s.heap.push oI).objs.size
    rw [size_push']
    rcases List.mem_cons.mp hb with e | hb
    · rw [e]; exact Nat.lt_succ_self _
    · rw [List.mem_singleton.mp hb]; exact Nat.lt_succ_of_lt (K.there _ hok).2
  · have hk : ∀ b o, s.heap.get? b = some o → s'.heap.get? b = some o := fun b o e =>
      hm.heap b o (fun hI => absurd (Heap.lt_size e) (by rw [List.mem_singleton.mp hI]; exact Nat.lt_irrefl _)) (Heap.get?_push_of_some _ e)
    rw [Moved.eq_with hm]
    have e : preSum (fun i => is.getD i 0) vs.length = is.sum := by rw [preSum_list is _ (by omega), List.take_of_length_le (by omega)]
    rw [e]
    exact ⟨.int is.sum, H, I.kept (t' := s'.toks) hk, ⟨t', rfl⟩, q⟩
/-! ### pairs of a dict as tuples -/
abbrev pairs (H : Hp) (ts : List Addr) (l : Dk) : Prop := Paired (fun (t : Addr) (q : Str × Int) => H t = some (.tup [.str q.1, .int q.2])) ts l
theorem pairs_of_enc {H : Hp} {ts : List Addr} {l : Dk} (h : Paired (fun (t : Addr) (q : Key × V) => H t = some (.tup [kV q.1, q.2])) ts (enc l)) : pairs H ts l := by
  induction l generalizing ts with
  | nil => cases h; exact .nil
  | cons p l ih =>
    cases h with
    | cons a b => exact .cons a (ih b)
/-- sorted(d.items()), d's keys texts, its values ints -/
def rSortV : List V → Hp → VK → Prop := fun xs H Q => ∃ p d l, xs = [V.ref p] ∧ H p = some (vwO "dict_items" p d) ∧ H d = some (.dK (enc l)) ∧ (keys l).Nodup ∧
  ∀ (H' : Hp) (q : Addr) (ts : List Addr), Same H H' → H q = none → H' q = some (.lst (ts.map V.ref)) → pairs H' ts (srt l) → Q (.ref q) H'
abbrev encP (q : Str × Int) : PyData := .tuple [.str q.1, .int q.2]
theorem sort_encP {l : Dk} (nd : (keys l).Nodup) : l.mergeSort (PySem.W.dataLe false encP) = srt l := by
  refine PySem.W.sort_congr fun a ha b hb => ?_
  show (!PySem.W.dataLt (encP b) (encP a)) = kle a.1 b.1
  rw [PySem.W.dataLt_pair (by simp [PySem.W.alike]) (by simp [PySem.W.alike]), PySem.W.dataLt_str]
  by_cases e : b.1 = a.1
  · have h1 := lk_of_mem nd (show (a.1, a.2) ∈ l from ha)
    have h2 := lk_of_mem nd (show (b.1, b.2) ∈ l from hb)
    rw [← e, h2] at h1
    have e2 : b.2 = a.2 := Option.some.inj h1
    simp only [PyData.eqv, e, e2, beq_self_eq_true, if_true]
    have := kle_total a.1 a.1
    simpa using this.symm
  · have hne : PyData.eqv (.str b.1) (.str a.1) = false := by
      simp only [PyData.eqv]
      exact beq_eq_false_iff_ne.mpr e
    rw [hne, if_neg Bool.false_ne_true]
    unfold kle
    by_cases h : b.1.cps.toList < a.1.cps.toList
    · have h' : ¬ a.1.cps.toList ≤ b.1.cps.toList := fun q => List.not_lt.mpr q h
      simp [h, h']
    · have h' : a.1.cps.toList ≤ b.1.cps.toList := List.not_lt.mp h
      simp [h, h']
theorem paired_of_each {α β : Type} {R : α → β → Prop} : ∀ {as : List α} {bs : List β}, PySem.W.EachIs R as bs → Paired R as bs
  | _, _, .nil => .nil
  | _, _, .cons h t => .cons h (paired_of_each t)
theorem each_of_idx {α β : Type} {R : α → β → Prop} : ∀ {as : List α} {bs : List β}, as.length = bs.length → (∀ (j : Nat) (a : α) (b : β), as[j]? = some a → bs[j]? = some b → R a b) → PySem.W.EachIs R as bs
  | [], [], _, _ => .nil
  | [], _ :: _, h, _ => by simp at h
  | _ :: _, [], h, _ => by simp at h
  | a :: as, b :: bs, h, f => .cons (f 0 a b rfl rfl) (each_of_idx (by simpa using h) fun j a' b' h1 h2 => f (j + 1) a' b' (by simpa using h1) (by simpa using h2))
theorem cr_sortedV (hc : X.calm = true) (hu : X.A.units + 64 < cLine) : CallR X (.builtin "sorted") rSortV := by
  intro pins s σ H xs us Q I r h
  obtain ⟨p, d, l, rfl, hp, hd, nd, q⟩ := h
  obtain rfl := Vals.ref1 r
  have hvw : s.heap.get? p = some { cls := .type "dict_items", data := .fields #[.ref d] } := (show ObjOk X.prog X.w H s.heap p (vwO "dict_items" p d) from I.hok p _ hp).1
  obtain ⟨hz, hsys, vs, rel, dof⟩ := dk_of I.hok hd
  obtain ⟨ep, dat⟩ := dof.dictAt
  have hh : X.A.handled = none := I.ok.hd hc
  have lv : vs.length = l.length := by rw [← KV.length rel, enc_len]
  rw [enc_len] at hz
  refine Calls.call_function_entry PyProof.Rows.kind_sorted PyProof.Rows.plain_sorted PyProof.Rows.entry_sorted (PyProof.Rows.args_sorted1 _) ?_
  unfold Builtin.«sorted»
  refine wpAny_bind (m := checkCount "sorted" 1 1 _) (wpAny_pure ?_)
  refine wpAny_bind (PySem.W.kdx_collect (A := X.A.in1) (knd := mixKind X.prog X.w) (kvs := vs) (ep := ep) hh ⟨_, hvw, rfl, rfl⟩ dat (by omega) fun h' tk as hk hl hG => ?_)
  have lak : as.length = l.length := by omega
  have ndA : as.Nodup := List.Pairwise.imp (fun {a b} (h : a < b) => Nat.ne_of_lt h) hG.rise
  have pr : ∀ (j : Nat) (b : Addr), as[j]? = some b → ∃ (e : Str × Int) (t u : Tok), l[j]? = some e ∧ h'.get? b = some { cls := .type "tuple", data := .seq #[Value.str e.1 t, Value.int e.2 u] } := by
    intro j b hj
    obtain ⟨key, k, x, h1, h2, h3⟩ := hG.pairs j b hj
    obtain ⟨y, g1, g2⟩ := KV.at' rel h1
    unfold enc at g1
    rw [List.getElem?_map] at g1
    obtain ⟨e, he, ee⟩ := Option.map_eq_some_iff.mp g1
    have ek : (Sum.inr e.1 : Key) = k := congrArg Prod.fst ee
    have ex : V.int e.2 = y := congrArg Prod.snd ee
    subst ek ex
    obtain ⟨u, rfl⟩ := g2
    obtain ⟨t, rfl⟩ := relV_key (show keyIs (Sum.inr e.1) key = true from h2)
    exact ⟨e, t, u, he, h3⟩
  refine wpAny_bind (wpAny_newList ?_ (by rw [List.length_map]; omega))
  have hob : (h'.push { cls := .type "list", data := .seq (as.map Value.ref).toArray }).get? h'.objs.size = some (seqObj "list" (as.map Value.ref).toArray 0) := Heap.get?_push_size _ rfl
  have I0 : Inv X pins σ H { s with heap := h', toks := tk } := I.kept (t' := tk) hk
  have hn0 : H h'.objs.size = none := I0.hok.fresh (Nat.le_refl _)
  have hfp : FpOk X pins H h'.objs.size := I0.fpOk (Nat.le_refl _) hn0
  generalize hh2 : h'.push { cls := .type "list", data := .seq (as.map Value.ref).toArray } = h2 at hob ⊢
  have ka : ∀ b o, h'.get? b = some o → h2.get? b = some o := fun b o e => by rw [← hh2]; exact Heap.get?_push_of_some _ e
  have ne0 : ∀ b o, h'.get? b = some o → b ≠ h'.objs.size := fun b o e => Nat.ne_of_lt (Heap.lt_size e)
  have eR : PySem.W.EachIs (fun v e => ∃ (j : Nat) (b : Addr), v = Value.ref b ∧ as[j]? = some b ∧ l[j]? = some e) (as.map Value.ref) l := by
    refine each_of_idx (by rw [List.length_map, lak]) fun j v e h1 h2 => ?_
    rw [List.getElem?_map] at h1
    obtain ⟨b, hb, rfl⟩ := Option.map_eq_some_iff.mp h1
    exact ⟨j, b, rfl, hb, h2⟩
  have eD : PySem.W.EachIs (fun v e => ∃ as', Reads h2 v (encP e) as' ∧ h'.objs.size ∉ as') (as.map Value.ref) l := by
    refine eR.mono fun v e ⟨j, b, ev, hb, he⟩ => ?_
    subst ev
    obtain ⟨e', t, u, he', hg⟩ := pr j b hb
    have ee : e' = e := Option.some.inj (he'.symm.trans he)
    subst ee
    exact ⟨_, Reads.tuple (ka _ _ hg) rfl rfl (ReadsAll.cons (Reads.str _ t) (ReadsAll.cons (Reads.int _ u) ReadsAll.nil)), by simp⟩
  refine wpAny_bind (wpAny_holding (PySem.W.list_sort_data (A := X.A.in1) (s := { s with heap := h2, toks := tk }) (vs := as.map Value.ref) (bs := l) (enc := encP) hob eR eD
    (PySem.W.AllAlike.of fun _ _ => by simp [PySem.W.alike, PySem.W.alikeAll]) (PySem.W.Sortable.tuples fun b => ⟨_, _, rfl⟩) (by omega) (fun b _ => by
      show X.A.units + 1 + 1 + (encP b).depth < cLine
      simp only [encP, PyData.depth, PyData.depthAll]
      omega) fun out ho eo => ?_))
  refine wpAny_pure ⟨_, rfl, ?_⟩
  rw [sort_encP nd] at eo
  have kF : ∀ b o, b ≠ h'.objs.size → h2.get? b = some o → (sortedHeap h2 h'.objs.size (as.map Value.ref) out.toArray).get? b = some o := fun b o hb e => (PyProof.Rows.sortedHeap_old hb (Heap.lt_size e)).trans e
  have kS : ∀ b o, s.heap.get? b = some o → (sortedHeap h2 h'.objs.size (as.map Value.ref) out.toArray).get? b = some o := fun b o e => kF b o (ne0 _ _ (hk b o e)) (ka _ _ (hk b o e))
  obtain ⟨eF, heF⟩ := PyProof.Rows.sortedHeap_at (vs := as.map Value.ref) (out := out.toArray) hob
  have I1 : Inv X pins σ H { s with heap := sortedHeap h2 h'.objs.size (as.map Value.ref) out.toArray, toks := tk } := I.kept (t' := tk) kS
  obtain ⟨ts, ets⟩ : ∃ ts : List Addr, out = ts.map Value.ref := by
    have key : ∀ (o : List Value) (m : Dk), PySem.W.EachIs (fun v e => ∃ (j : Nat) (b : Addr), v = Value.ref b ∧ as[j]? = some b ∧ l[j]? = some e) o m → ∃ ts : List Addr, o = ts.map Value.ref := by
      intro o m h
      induction h with
      | nil => exact ⟨[], rfl⟩
      | cons h t ih =>
        obtain ⟨j, b, rfl, _, _⟩ := h
        obtain ⟨ts, rfl⟩ := ih
        exact ⟨b :: ts, rfl⟩
    exact key _ _ eo
  have lts : ts.length = l.length := by rw [← ho, ets, List.length_map]
  have I2 : Inv X pins σ (upd H h'.objs.size (.lst (ts.map V.ref))) { s with heap := sortedHeap h2 h'.objs.size (as.map Value.ref) out.toArray, toks := tk } :=
    I1.take (h' := sortedHeap h2 h'.objs.size (as.map Value.ref) out.toArray) (t' := tk) (fun b ob _ e => e) hfp ⟨by rw [List.length_map]; omega, out, eF, by rw [ets]; exact LiI.vals_refs ts, heF⟩
  obtain ⟨H2, I3, g, qt⟩ := L2.DX.takeT (P := fun b ws => ∃ (j : Nat) (e : Str × Int), as[j]? = some b ∧ l[j]? = some e ∧ ws = [.str e.1, .int e.2]) I as _ I2 ndA fun b hb => by
    obtain ⟨j, hj⟩ := List.mem_iff_getElem?.mp hb
    obtain ⟨e, t, u, he, hg⟩ := pr j b hj
    have hbl : s.heap.objs.size ≤ b := Nat.le_of_lt (hG.above b hb)
    refine ⟨hbl, ?_, [.str e.1, .int e.2], ⟨j, e, hj, he, rfl⟩, fun H3 => ⟨(by rw [sizeLine_eq]; show 2 ≤ 16777216; omega), [Value.str e.1 t, Value.int e.2 u], .cons ⟨t, rfl⟩ (.cons ⟨u, rfl⟩ .nil), ⟨_, kF _ _ (ne0 _ _ hg) (ka _ _ hg), rfl, 0, rfl⟩⟩⟩
    rw [upd_ne (ne0 _ _ hg)]
    exact I.hok.fresh hbl
  have gr : Same H H2 := fun b o e => g b o (by rw [upd_ne (ne_of_none e hn0)]; exact e)
  refine ⟨.ref h'.objs.size, H2, I3, rfl, q H2 h'.objs.size ts gr hn0 (g _ _ upd_same) ?_⟩
  have key : ∀ (o : List Value) (m : Dk), PySem.W.EachIs (fun v e => ∃ (j : Nat) (b : Addr), v = Value.ref b ∧ as[j]? = some b ∧ l[j]? = some e) o m → ∀ ts : List Addr, o = ts.map Value.ref → pairs H2 ts m := by
    intro o m h
    induction h with
    | nil =>
      intro ts e
      cases ts with
      | nil => exact .nil
      | cons _ _ => simp at e
    | cons h t ih =>
      intro ts e
      cases ts with
      | nil => simp at e
      | cons c ts =>
        rw [List.map_cons] at e
        injection e with e1 e2
        obtain ⟨j, b, e3, hb, he⟩ := h
        rw [e1] at e3
        have ebc : c = b := Value.ref.inj e3
        subst ebc
        refine .cons ?_ (ih ts e2)
        obtain ⟨ws, ⟨j2, e', j1', j2', ew⟩, hH⟩ := qt c (List.mem_of_getElem? hb)
        have eij : j = j2 := (List.getElem?_inj (List.getElem?_eq_some_iff.mp hb).1 ndA).mp (hb.trans j1'.symm)
        subst eij
        have ee : e' = _ := Option.some.inj (j2'.symm.trans he)
        subst ee
        rw [ew] at hH
        exact hH
  exact key out _ eo ts ets
/-- list(d.items()) -/
def rListV : List V → Hp → VK → Prop := fun xs H Q => ∃ p d l, xs = [V.ref p] ∧ H p = some (vwO "dict_items" p d) ∧ H d = some (.dK (enc l)) ∧
  ∀ (H' : Hp) (q : Addr) (ts : List Addr), Same H H' → H q = none → H' q = some (.lst (ts.map V.ref)) → pairs H' ts l → Q (.ref q) H'
theorem cr_listV (hc : X.calm = true) : CallR X (.type "list") rListV := by
  intro pins s σ H xs us Q I r h
  obtain ⟨p, d, l, rfl, hp, hd, q⟩ := h
  obtain rfl := Vals.ref1 r
  have hvw : s.heap.get? p = some { cls := .type "dict_items", data := .fields #[.ref d] } := (show ObjOk X.prog X.w H s.heap p (vwO "dict_items" p d) from I.hok p _ hp).1
  obtain ⟨hz, hsys, vs, rel, dof⟩ := dk_of I.hok hd
  obtain ⟨ep, dat⟩ := dof.dictAt
  refine PySem.W.kdx_call (knd := mixKind X.prog X.w) (kvs := vs) (ep := ep) (I.ok.hd hc) ⟨_, hvw, rfl, rfl⟩ dat (by rw [← KV.length rel]; exact hz) fun h' tk acc c as hk hS hl hG hacc => ?_
  obtain ⟨H', k1, k2, k3, k4, k5, k6, J⟩ := LiI.items_laid (tk := tk) I hz rel hk hS hl hG hacc
  exact ⟨.ref _, H', J, rfl, q H' _ as k1 k2 k5 (pairs_of_enc k6)⟩
/-! ### texts times ints -/
theorem op_mulS : OpR X (binaryOp .Mult) (fun x y H Q => ∃ z k, x = .str z ∧ y = .int k ∧ z.length ≤ 8 ∧ 0 ≤ k ∧ k ≤ 64 ∧ Q (.str (PySem.Txt.mul z k)) H) := by
  intro pins s σ H x y v u Q I rx ry h
  obtain ⟨z, k, rfl, rfl, hz, h0, h1, q⟩ := h
  obtain ⟨t, rfl⟩ := rx
  obtain ⟨t2, rfl⟩ := ry
  exact PySem.SB.mul (PyProof.Rows.mulOk_of 8 64 hz (by omega) (by omega) (by omega) (by omega)) fun t' k' => ⟨.str (PySem.Txt.mul z k), H, I.tok k', ⟨t', rfl⟩, q⟩
end
/-! ### loops -/
theorem for_enum {K : PySem.W.Frag} {a : Addr} {xs : List V} {g : TG} {tb : TS} {D : Ends} {σ : L2.St} {H : Hp} (Pv : Nat → L2.St → Hp → Prop) (h0 : Pv 0 σ H) (hq : ∀ i σ H, Pv i σ H → SqL K H a xs)
    (hs : ∀ (i : Nat) (x : V) (T : Addr) (σ : L2.St) (H : Hp), xs[i]? = some x → Pv i σ H → H T = none → g (.ref T) σ (upd H T (.tup [.int (i : Nat), x])) fun σ2 H2 => tb { D with nx := Pv (i + 1), ct := Pv (i + 1), bk := D.nx } σ2 H2) (hd : ∀ σ H, Pv xs.length σ H → D.nx σ H) :
    ∃ W : Nat → Nat → L2.St → Hp → Prop, (∃ m, W 0 m σ H) ∧ ∀ i m σ H, W i m σ H →
      ((Ite K a).stop i H ∧ D.nx σ H) ∨ ((Ite K a).go i H ∧ ∃ N : L2.St → Hp → Prop, (∀ σ' H', N σ' H' → ∃ m', m' < m ∧ W (i + 1) m' σ' H') ∧ ∀ v H', (Ite K a).yld i H v H' → g v σ H' fun σ2 H2 => tb { D with nx := N, ct := N, bk := D.nx } σ2 H2) := by
  refine ⟨fun i m σ H => m = xs.length - i ∧ i ≤ xs.length ∧ Pv i σ H, ⟨xs.length, rfl, Nat.zero_le _, h0⟩, ?_⟩
  rintro i m σ H ⟨rfl, hi, p⟩
  have qx := hq i σ H p
  by_cases hlt : i < xs.length
  · have hx : xs[i]? = some xs[i] := List.getElem?_eq_getElem hlt
    refine .inr ⟨⟨xs, _, qx, hx⟩, Pv (i + 1), fun σ' H' p' => ⟨xs.length - (i + 1), by omega, rfl, hlt, p'⟩, fun v H' y => ?_⟩
    obtain ⟨T, x', rfl, hT, rfl, f1⟩ := y
    exact hs i x' T σ H (f1 xs qx) p hT
  · have e : i = xs.length := by omega
    subst e
    exact .inl ⟨⟨xs, qx, Nat.le_refl _⟩, hd σ H p⟩
/-- over the keys of a locked dict -/
theorem for_keys {d : Addr} {od : Obj} {l : Dk} {g : TG} {tb : TS} {D : Ends} {σ : L2.St} {H : Hp} (Pv : Nat → L2.St → Hp → Prop) (h0 : Pv 0 σ H) (hq : ∀ i σ H, Pv i σ H → H d = some (.frz od (.dK (enc l))))
    (hs : ∀ (i : Nat) (p : Str × Int) (σ : L2.St) (H : Hp), l[i]? = some p → Pv i σ H → g (.str p.1) σ H fun σ2 H2 => tb { D with nx := Pv (i + 1), ct := Pv (i + 1), bk := D.nx } σ2 H2) (hd : ∀ σ H, Pv l.length σ H → D.nx σ H) :
    ∃ W : Nat → Nat → L2.St → Hp → Prop, (∃ m, W 0 m σ H) ∧ ∀ i m σ H, W i m σ H →
      ((Itk d od (enc l)).stop i H ∧ D.nx σ H) ∨ ((Itk d od (enc l)).go i H ∧ ∃ N : L2.St → Hp → Prop, (∀ σ' H', N σ' H' → ∃ m', m' < m ∧ W (i + 1) m' σ' H') ∧ ∀ v H', (Itk d od (enc l)).yld i H v H' → g v σ H' fun σ2 H2 => tb { D with nx := N, ct := N, bk := D.nx } σ2 H2) := by
  refine ⟨fun i m σ H => m = l.length - i ∧ i ≤ l.length ∧ Pv i σ H, ⟨l.length, rfl, Nat.zero_le _, h0⟩, ?_⟩
  rintro i m σ H ⟨rfl, hi, p⟩
  have qx := hq i σ H p
  by_cases hlt : i < l.length
  · have hx : l[i]? = some l[i] := List.getElem?_eq_getElem hlt
    refine .inr ⟨⟨qx, by rw [enc_len]; exact hlt⟩, Pv (i + 1), fun σ' H' p' => ⟨l.length - (i + 1), by omega, rfl, hlt, p'⟩, fun v H' y => ?_⟩
    obtain ⟨rfl, k, w, e1, rfl⟩ := y
    unfold enc at e1
    rw [List.getElem?_map, hx] at e1
    have e2 : (Sum.inr (l[i]).1 : Key) = k := congrArg Prod.fst (Option.some.inj e1)
    subst e2
    exact hs i _ σ _ hx p
  · have e : i = l.length := by omega
    subst e
    exact .inl ⟨⟨qx, by rw [enc_len]; exact Nat.le_refl _⟩, hd σ H p⟩
/-- {k: v for k in d}: D the new dict; the body's reading is asked at each key -/
theorem dc_keys {d : Addr} {od : Obj} {l : Dk} {g : TG} {tt : TT} {tk tv : TE} {vs : List Nat} {σ : L2.St} {H1 : Hp} {D : Addr} {Qd : Hp → Prop} (Pv : Nat → Hp → Prop) (h0 : Pv 0 (upd H1 D (.dK []))) (hq : ∀ i H, Pv i H → H d = some (.frz od (.dK (enc l))))
    (hs : ∀ (i : Nat) (p : Str × Int) H, l[i]? = some p → Pv i H → g (.str p.1) (wipe σ vs) H fun σ2 H2 => wipe σ2 vs = wipe σ vs ∧ tt σ2 H2 fun b H3 =>
      if b = true then tk σ2 H3 fun y H4 => tv σ2 H4 fun z H5 => ∃ kvs k, y = kV k ∧ H5 D = some (.dK kvs) ∧ kvs.length < sizeLine ∧ Pv (i + 1) (upd H5 D (.dK (putK kvs k z))) else Pv (i + 1) H3) (hd : ∀ H, Pv l.length H → Qd H) :
    ∃ W : Nat → Nat → Hp → Prop, (∃ m, W 0 m (upd H1 D (.dK []))) ∧ ∀ i m H, W i m H →
      ((Itk d od (enc l)).stop i H ∧ Qd H) ∨ ((Itk d od (enc l)).go i H ∧ ∃ Nx : Hp → Prop, (∀ H', Nx H' → ∃ m', m' < m ∧ W (i + 1) m' H') ∧ ∀ x H', (Itk d od (enc l)).yld i H x H' → g x (wipe σ vs) H' fun σ2 H2 => wipe σ2 vs = wipe σ vs ∧ tt σ2 H2 fun b H3 =>
        if b = true then tk σ2 H3 fun y H4 => tv σ2 H4 fun z H5 => ∃ kvs k, y = kV k ∧ H5 D = some (.dK kvs) ∧ kvs.length < sizeLine ∧ Nx (upd H5 D (.dK (putK kvs k z))) else Nx H3) := by
  refine ⟨fun i m H => m = l.length - i ∧ i ≤ l.length ∧ Pv i H, ⟨l.length, by simp, Nat.zero_le _, h0⟩, ?_⟩
  rintro i m H ⟨rfl, hi, p⟩
  have qx := hq i H p
  by_cases hlt : i < l.length
  · have hx : l[i]? = some l[i] := List.getElem?_eq_getElem hlt
    refine .inr ⟨⟨qx, by rw [enc_len]; exact hlt⟩, Pv (i + 1), fun H' p' => ⟨l.length - (i + 1), by omega, rfl, hlt, p'⟩, fun x H' y => ?_⟩
    obtain ⟨rfl, k, w, e1, rfl⟩ := y
    unfold enc at e1
    rw [List.getElem?_map, hx] at e1
    have e2 : (Sum.inr (l[i]).1 : Key) = k := congrArg Prod.fst (Option.some.inj e1)
    subst e2
    exact hs i _ _ hx p
  · have e : i = l.length := by omega
    subst e
    exact .inl ⟨⟨qx, by rw [enc_len]; exact Nat.le_refl _⟩, hd H p⟩
/-- {k: v for k in xs}, xs a list that stays -/
theorem dc_list {K : PySem.W.Frag} {a : Addr} {xs : List V} {g : TG} {tt : TT} {tk tv : TE} {vs : List Nat} {σ : L2.St} {H1 : Hp} {D : Addr} {Qd : Hp → Prop} (Pv : Nat → Hp → Prop) (h0 : Pv 0 (upd H1 D (.dK []))) (hl : ∀ i H, i ≤ xs.length → Pv i H → SqL K H a xs)
    (hs : ∀ i x H, xs[i]? = some x → Pv i H → g x (wipe σ vs) H fun σ2 H2 => wipe σ2 vs = wipe σ vs ∧ tt σ2 H2 fun b H3 =>
      if b = true then tk σ2 H3 fun y H4 => tv σ2 H4 fun z H5 => ∃ kvs k, y = kV k ∧ H5 D = some (.dK kvs) ∧ kvs.length < sizeLine ∧ Pv (i + 1) (upd H5 D (.dK (putK kvs k z))) else Pv (i + 1) H3) (hd : ∀ H, Pv xs.length H → Qd H) :
    ∃ W : Nat → Nat → Hp → Prop, (∃ m, W 0 m (upd H1 D (.dK []))) ∧ ∀ i m H, W i m H →
      ((Itl K a).stop i H ∧ Qd H) ∨ ((Itl K a).go i H ∧ ∃ Nx : Hp → Prop, (∀ H', Nx H' → ∃ m', m' < m ∧ W (i + 1) m' H') ∧ ∀ x H', (Itl K a).yld i H x H' → g x (wipe σ vs) H' fun σ2 H2 => wipe σ2 vs = wipe σ vs ∧ tt σ2 H2 fun b H3 =>
        if b = true then tk σ2 H3 fun y H4 => tv σ2 H4 fun z H5 => ∃ kvs k, y = kV k ∧ H5 D = some (.dK kvs) ∧ kvs.length < sizeLine ∧ Nx (upd H5 D (.dK (putK kvs k z))) else Nx H3) := by
  refine ⟨fun i m H => m = xs.length - i ∧ i ≤ xs.length ∧ Pv i H, ⟨xs.length, by simp, Nat.zero_le _, h0⟩, ?_⟩
  rintro i m H ⟨rfl, hi, p⟩
  have q := hl i H hi p
  by_cases hlt : i < xs.length
  · refine .inr ⟨⟨xs, xs[i], q, by simp [hlt]⟩, Pv (i + 1), fun H' p' => ⟨xs.length - (i + 1), by omega, rfl, hlt, p'⟩, fun x H' y => ?_⟩
    obtain ⟨e, y⟩ := y
    subst e
    exact hs i x _ (y xs q) p
  · have e : i = xs.length := by omega
    subst e
    exact .inl ⟨⟨xs, q, Nat.le_refl _⟩, hd H p⟩
end DK
set_option Elab.async false
set_option linter.all false
set_option maxRecDepth 100000
set_option maxHeartbeats 2000000
/-! names: texts of 1 to 8 letters -/
namespace DK
open PySem PySem.Spec PyProof.Rows L2
def okC (L : List Nat) : Bool := decide (1 ≤ L.length) && decide (L.length ≤ 8) && L.all fun c => decide (97 ≤ c) && decide (c ≤ 122)
def nmOk (n : Str) : Bool := okC n.cps.toList
def isNm (v : V) : Bool := match v with
  | .str n => nmOk n
  | _ => false
def isNum (v : V) (m : Int) : Bool := match v with
  | .int i => decide (1 ≤ i) && decide (i ≤ m)
  | _ => false
theorem okC_iff {L : List Nat} : okC L = true ↔ 1 ≤ L.length ∧ L.length ≤ 8 ∧ ∀ c ∈ L, 97 ≤ c ∧ c ≤ 122 := by
  unfold okC
  simp only [Bool.and_eq_true, decide_eq_true_eq, List.all_eq_true]
  exact ⟨fun ⟨⟨a, b⟩, c⟩ => ⟨a, b, c⟩, fun ⟨a, b, c⟩ => ⟨⟨a, b⟩, c⟩⟩
theorem nmOk_len {n : Str} (h : nmOk n = true) : n.length ≤ 8 := by
  have := (okC_iff.mp h).2.1
  rwa [Array.length_toList] at this
abbrev abc : Str := "abcdefghijklmnopqrstuvwxyz"
theorem abc_get : ∀ j : Fin 26, abc.cps.toList[(j : Nat)]? = some (97 + (j : Nat)) := by decide +kernel
theorem abc_len : abc.length = 26 := by decide +kernel
theorem abc_at {i : Int} (h0 : 0 ≤ i) (h1 : i < 26) : ∃ c : Nat, 97 ≤ c ∧ c ≤ 122 ∧ atI abc.cps.toList i = some c := by
  obtain ⟨j, rfl⟩ := Int.eq_ofNat_of_zero_le h0
  have hj : j < 26 := by omega
  exact ⟨97 + j, by omega, by omega, atI_nat (abc_get ⟨j, hj⟩)⟩
theorem abc_mem (c : Nat) : decide (c ∈ abc.cps.toList) = (decide (97 ≤ c) && decide (c ≤ 122)) := by
  have e : abc.cps.toList = [97, 98, 99, 100, 101, 102, 103, 104, 105, 106, 107, 108, 109, 110, 111, 112, 113, 114, 115, 116, 117, 118, 119, 120, 121, 122] := by decide +kernel
  rw [e]
  by_cases h : 97 ≤ c ∧ c ≤ 122
  · obtain ⟨h1, h2⟩ := h
    have : c ∈ [97, 98, 99, 100, 101, 102, 103, 104, 105, 106, 107, 108, 109, 110, 111, 112, 113, 114, 115, 116, 117, 118, 119, 120, 121, 122] := by
      simp only [List.mem_cons, List.not_mem_nil, or_false]
      omega
    rw [decide_eq_true this, decide_eq_true h1, decide_eq_true h2]
    rfl
  · have : ¬ c ∈ [97, 98, 99, 100, 101, 102, 103, 104, 105, 106, 107, 108, 109, 110, 111, 112, 113, 114, 115, 116, 117, 118, 119, 120, 121, 122] := by
      simp only [List.mem_cons, List.not_mem_nil, or_false]
      omega
    rw [decide_eq_false this]
    by_cases h1 : 97 ≤ c
    · have h2 : ¬ c ≤ 122 := fun z => h ⟨h1, z⟩
      simp [h1, h2]
    · simp [h1]
/-! texts by their signs -/
theorem cps_add (a b : Str) : (a ++ b).cps.toList = a.cps.toList ++ b.cps.toList := by
  show (a.cps ++ b.cps).toList = _
  rw [Array.toList_append]
theorem len_cps (a : Str) : a.length = a.cps.toList.length := (Array.length_toList).symm
theorem cps_to (a : Str) (n : Nat) : (cutS a none (some (n : Int))).cps.toList = a.cps.toList.take n := by
  unfold cutS
  dsimp only
  have e := len_cps a
  rw [HT.sIx_none, HT.sIx_nat, List.drop_zero, Nat.sub_zero, List.take_eq_take_iff]
  omega
theorem cps_from (a : Str) (n : Nat) : (cutS a (some (n : Int)) none).cps.toList = a.cps.toList.drop n := by
  unfold cutS
  dsimp only
  rw [HT.sIx_none, HT.sIx_nat, len_cps a]
  by_cases h : n ≤ a.cps.toList.length
  · rw [Nat.min_eq_left h, List.take_of_length_le (by rw [List.length_drop]; omega)]
  · rw [Nat.min_eq_right (by omega), Nat.sub_self, List.take_zero, List.drop_eq_nil_of_le (by omega)]
theorem mul_cps (c : Nat) {k : Int} (h1 : 1 ≤ k) : (PySem.Txt.mul ⟨#[c]⟩ k).cps.toList = List.replicate k.toNat c := by
  have key : ∀ (n : Nat) (acc : Array Nat), ((List.replicate n #[c]).foldl (· ++ ·) acc).toList = acc.toList ++ List.replicate n c := by
    intro n
    induction n with
    | zero => intro acc; simp
    | succ n ih =>
      intro acc
      rw [List.replicate_succ, List.foldl_cons, ih, Array.toList_append, List.replicate_succ, List.append_assoc]
      rfl
  unfold PySem.Txt.mul
  rw [if_neg (by omega)]
  by_cases e : k = 1
  · subst e
    rfl
  · have e2 : (k == 1 || (⟨#[c]⟩ : Str).length == 0) = false := by
      have : (⟨#[c]⟩ : Str).length = 1 := rfl
      simp [e, this]
    rw [if_neg (by rw [e2]; exact Bool.false_ne_true)]
    rw [key]
    rfl
theorem okC_rep {c : Nat} {n : Nat} (h1 : 97 ≤ c) (h2 : c ≤ 122) (h3 : 1 ≤ n) (h4 : n ≤ 8) : okC (List.replicate n c) = true :=
  okC_iff.mpr ⟨by rw [List.length_replicate]; exact h3, by rw [List.length_replicate]; exact h4, fun x hx => by rw [List.eq_of_mem_replicate hx]; exact ⟨h1, h2⟩⟩
theorem okC_swap {L : List Nat} {a c : Nat} (h : okC L = true) (ha : a < L.length) (h1 : 97 ≤ c) (h2 : c ≤ 122) : okC (L.take a ++ [c] ++ L.drop (a + 1)) = true := by
  obtain ⟨l1, l2, l3⟩ := okC_iff.mp h
  have e : (L.take a ++ [c] ++ L.drop (a + 1)).length = L.length := by
    rw [List.length_append, List.length_append, List.length_take, List.length_drop, List.length_singleton]
    omega
  refine okC_iff.mpr ⟨by omega, by omega, fun x hx => ?_⟩
  rcases List.mem_append.mp hx with hx | hx
  · rcases List.mem_append.mp hx with hx | hx
    · exact l3 x (List.mem_of_mem_take hx)
    · rw [List.mem_singleton.mp hx]
      exact ⟨h1, h2⟩
  · exact l3 x (List.mem_of_mem_drop hx)
theorem okC_take2 {L : List Nat} {n : Nat} (h : okC L = true) (h1 : 1 ≤ n) (h2 : n ≤ 8) : okC ((L ++ L).take n) = true := by
  obtain ⟨l1, l2, l3⟩ := okC_iff.mp h
  refine okC_iff.mpr ⟨by rw [List.length_take, List.length_append]; omega, by rw [List.length_take]; omega, fun x hx => ?_⟩
  rcases List.mem_append.mp (List.mem_of_mem_take hx) with hx | hx
  · exact l3 x hx
  · exact l3 x hx
theorem okC_take {L : List Nat} {n : Nat} (h : okC L = true) (h1 : 1 ≤ n) : okC (L.take n) = true := by
  obtain ⟨l1, l2, l3⟩ := okC_iff.mp h
  exact okC_iff.mpr ⟨by rw [List.length_take]; omega, by rw [List.length_take]; omega, fun x hx => l3 x (List.mem_of_mem_take hx)⟩
/-! small lists of ints at an open place -/
theorem at3 {a b c : Int} {i : Int} (h0 : 0 ≤ i) (h1 : i < 3) : ∃ v : Int, (v = a ∨ v = b ∨ v = c) ∧ atI [V.int a, V.int b, V.int c] i = some (.int v) := by
  rcases (show i = 0 ∨ i = 1 ∨ i = 2 by omega) with rfl | rfl | rfl
  · exact ⟨a, .inl rfl, rfl⟩
  · exact ⟨b, .inr (.inl rfl), rfl⟩
  · exact ⟨c, .inr (.inr rfl), rfl⟩
theorem at4 {a b c d : Int} {i : Int} (h0 : 0 ≤ i) (h1 : i < 4) : ∃ v : Int, (v = a ∨ v = b ∨ v = c ∨ v = d) ∧ atI [V.int a, V.int b, V.int c, V.int d] i = some (.int v) := by
  rcases (show i = 0 ∨ i = 1 ∨ i = 2 ∨ i = 3 by omega) with rfl | rfl | rfl | rfl
  · exact ⟨a, .inl rfl, rfl⟩
  · exact ⟨b, .inr (.inl rfl), rfl⟩
  · exact ⟨c, .inr (.inr (.inl rfl)), rfl⟩
  · exact ⟨d, .inr (.inr (.inr rfl)), rfl⟩
theorem emod_bd (z : Int) {n : Int} (h : 0 < n) : 0 ≤ z % n ∧ z % n < n := ⟨Int.emod_nonneg _ (by omega), Int.emod_lt_of_pos _ h⟩
theorem last_at {ns : List Int} (h : ns ≠ []) : ∃ z : Int, atI (ns.map V.int) (-1) = some (.int z) := by
  have e : ns.dropLast ++ [ns.getLast h] = ns := List.dropLast_concat_getLast h
  refine ⟨ns.getLast h, ?_⟩
  conv => lhs; rw [← e]
  rw [List.map_append]
  exact atI_last _ _
/-- a type's name, of what is no text, no whole number -/
theorem ty_str {K : PySem.W.Frag} {H : Hp} {v : V} {T : String} (t : TyB K H v T) : T = "str" ↔ ∃ x, v = .str x := by
  cases t <;> simp
theorem ty_int {K : PySem.W.Frag} {H : Hp} {v : V} {T : String} (t : TyB K H v T) : T = "int" ↔ ∃ x, v = .int x := by
  cases t <;> simp
theorem for_str {x : Str} {g : TG} {tb : TS} {D : Ends} {σ : L2.St} {H : Hp} (Pv : Nat → L2.St → Hp → Prop) (h0 : Pv 0 σ H)
    (hs : ∀ (i : Nat) (c : Nat) (σ : L2.St) (H : Hp), x.cps.toList[i]? = some c → Pv i σ H → g (.str ⟨#[c]⟩) σ H fun σ2 H2 => tb { D with nx := Pv (i + 1), ct := Pv (i + 1), bk := D.nx } σ2 H2) (hd : ∀ σ H, Pv x.cps.toList.length σ H → D.nx σ H) :
    ∃ W : Nat → Nat → L2.St → Hp → Prop, (∃ m, W 0 m σ H) ∧ ∀ i m σ H, W i m σ H →
      ((Its x).stop i H ∧ D.nx σ H) ∨ ((Its x).go i H ∧ ∃ N : L2.St → Hp → Prop, (∀ σ' H', N σ' H' → ∃ m', m' < m ∧ W (i + 1) m' σ' H') ∧ ∀ v H', (Its x).yld i H v H' → g v σ H' fun σ2 H2 => tb { D with nx := N, ct := N, bk := D.nx } σ2 H2) := by
  have es : x.cps.toList.length = x.cps.size := Array.length_toList
  refine ⟨fun i m σ H => m = x.cps.size - i ∧ i ≤ x.cps.size ∧ Pv i σ H, ⟨x.cps.size, by simp, Nat.zero_le _, h0⟩, ?_⟩
  rintro i m σ H ⟨rfl, hi, p⟩
  by_cases hlt : i < x.cps.size
  · refine .inr ⟨hlt, Pv (i + 1), fun σ' H' p' => ⟨x.cps.size - (i + 1), by omega, rfl, hlt, p'⟩, fun v H' y => ?_⟩
    obtain ⟨rfl, c, hc, rfl⟩ := y
    exact hs i c σ _ (by rw [Array.getElem?_toList]; exact hc) p
  · have e : i = x.cps.size := by omega
    subst e
    exact .inl ⟨Nat.le_refl _, hd σ H (by rw [es]; exact p)⟩
end DK
set_option Elab.async false
set_option linter.all false
set_option maxRecDepth 100000
set_option maxHeartbeats 2000000
/-! data compared -/
namespace DK
open PySem PySem.Spec PyProof.Rows L2
def Ns (xs : List Str) : Prop := ∀ n ∈ xs, nmOk n = true
theorem str_ok {n : Str} (h : nmOk n = true) : PyData.strOk n = true := by
  unfold PyData.strOk
  rw [← Array.all_toList, List.all_eq_true]
  intro c hc
  have := (okC_iff.mp h).2.2 c hc
  exact decide_eq_true (by omega)
theorem lay_strs : ∀ xs : List Str, Ns xs → PyData.canLayAll0 (xs.map PyData.str) = true
  | [], _ => by simp [PyData.canLayAll0]
  | x :: xs, h => by
    have ih := lay_strs xs fun n hn => h n (List.mem_cons_of_mem _ hn)
    have hx := str_ok (h x List.mem_cons_self)
    rw [List.map_cons]
    simp [PyData.canLayAll0, PyData.canLay0, ih, hx]
theorem dep_strs : ∀ xs : List Str, PyData.depthAll (xs.map PyData.str) = 0
  | [] => by simp [PyData.depthAll]
  | x :: xs => by
    have ih := dep_strs xs
    rw [List.map_cons]
    simp [PyData.depthAll, PyData.depth, ih]
theorem lay_ps : ∀ l : Dk, Ns (keys l) → PyData.canLayAll0 (l.map encP) = true
  | [], _ => by simp [PyData.canLayAll0]
  | x :: xs, h => by
    have ih := lay_ps xs fun n hn => h n (List.mem_cons_of_mem _ hn)
    have hx := str_ok (h x.1 List.mem_cons_self)
    rw [List.map_cons]
    simp [PyData.canLayAll0, PyData.canLay0, encP, ih, hx]
theorem dep_ps : ∀ l : Dk, PyData.depthAll (l.map encP) ≤ 1
  | [] => by simp [PyData.depthAll]
  | x :: xs => by
    have ih := dep_ps xs
    rw [List.map_cons]
    simp [PyData.depthAll, PyData.depth, encP]
    omega
theorem shaped_strs {xs : List Str} (h : Ns xs) : SeqAt.shaped (.list (xs.map PyData.str)) = true := by
  unfold SeqAt.shaped
  simp [PyData.canLay0, PyData.depth, lay_strs xs h, dep_strs]
theorem shaped_ps {l : Dk} (h : Ns (keys l)) : SeqAt.shaped (.list (l.map encP)) = true := by
  have e : PyData.depth (.list (l.map encP)) = PyData.depthAll (l.map encP) + 1 := by simp only [PyData.depth]
  have e2 : PyData.canLay0 (.list (l.map encP)) = true := by simp only [PyData.canLay0, lay_ps l h]
  have e3 : PyData.depth (.list (l.map encP)) ≤ 64 := by
    rw [e]
    exact Nat.le_trans (Nat.succ_le_succ (dep_ps l)) (show 2 ≤ 64 by decide)
  unfold SeqAt.shaped
  rw [e2, decide_eq_true e3]
  rfl
theorem shaped_is (a b c : Int) : SeqAt.shaped (.tuple [.int a, .int b, .int c]) = true := by
  unfold SeqAt.shaped
  simp [PyData.canLay0, PyData.depth, PyData.canLayAll0, PyData.depthAll]
section
variable {K : PySem.W.Frag} {H : Hp}
theorem dpa_strs : ∀ xs : List Str, DpAll K H (xs.map V.str) (xs.map PyData.str)
  | [] => .nil
  | x :: xs => .cons (.str x) (dpa_strs xs)
theorem dp_strs {a : Addr} {xs : List Str} (h : SqL K H a (xs.map V.str)) : Dp K H (.ref a) (.list (xs.map PyData.str)) := .lst h (dpa_strs xs)
theorem dpa_ps : ∀ {ts : List Addr} {l : Dk}, pairs H ts l → DpAll K H (ts.map V.ref) (l.map encP)
  | _, _, .nil => .nil
  | _, _, .cons h t => .cons (.tup (SqT.of h) (.cons (.str _) (.cons (.int _) .nil))) (dpa_ps t)
theorem dp_ps {a : Addr} {ts : List Addr} {l : Dk} (h : H a = some (.lst (ts.map V.ref))) (p : pairs H ts l) : Dp K H (.ref a) (.list (l.map encP)) := .lst (SqL.of h) (dpa_ps p)
theorem dp_is {a : Addr} {x y z : Int} (h : H a = some (.tup [.int x, .int y, .int z])) : Dp K H (.ref a) (.tuple [.int x, .int y, .int z]) := .tup (SqT.of h) (.cons (.int _) (.cons (.int _) (.cons (.int _) .nil)))
/-- equal lists of texts are not told apart -/
theorem ne_strs {Q : VK} {a b : Addr} {xs : List Str} (hn : Ns xs) (h1 : SqL K H a (xs.map V.str)) (h2 : SqL K H b (xs.map V.str)) (q : Q (.bl false) H) : rNeD K (.ref a) (.ref b) H Q :=
  ⟨_, _, dp_strs h1, dp_strs h2, shaped_strs hn, shaped_strs hn, by rw [SeqAt.eqv_refl _ (SeqAt.canLay_of_shaped (shaped_strs hn))]; exact q⟩
theorem ne_ps {Q : VK} {a b : Addr} {ts us : List Addr} {l : Dk} (hn : Ns (keys l)) (h1 : H a = some (.lst (ts.map V.ref))) (p1 : pairs H ts l) (h2 : H b = some (.lst (us.map V.ref))) (p2 : pairs H us l) (q : Q (.bl false) H) : rNeD K (.ref a) (.ref b) H Q :=
  ⟨_, _, dp_ps h1 p1, dp_ps h2 p2, shaped_ps hn, shaped_ps hn, by rw [SeqAt.eqv_refl _ (SeqAt.canLay_of_shaped (shaped_ps hn))]; exact q⟩
theorem eq_is {Q : VK} {a b : Addr} {x y z : Int} (h1 : H a = some (.tup [.int x, .int y, .int z])) (h2 : H b = some (.tup [.int x, .int y, .int z])) (q : Q (.bl true) H) : rEqD K (.ref a) (.ref b) H Q :=
  ⟨_, _, dp_is h1, dp_is h2, shaped_is x y z, shaped_is x y z, by rw [SeqAt.eqv_refl _ (SeqAt.canLay_of_shaped (shaped_is x y z))]; exact q⟩
end
theorem pairs_same {H H' : Hp} (e : Same H H') : ∀ {ts : List Addr} {l : Dk}, pairs H ts l → pairs H' ts l
  | _, _, .nil => .nil
  | _, _, .cons h t => .cons (e _ _ h) (pairs_same e t)
end DK
set_option Elab.async false
set_option linter.all false
set_option maxRecDepth 100000
/-! what a desk tells holds the true numbers between -/
namespace DK
open PySem L2 PyProof.Rows
def tot (l : Dk) : Int := (l.map (·.2)).sum
theorem tot_nil : tot [] = 0 := rfl
theorem tot_cons (p : Str × Int) (l : Dk) : tot (p :: l) = p.2 + tot l := by simp [tot]
theorem tot_append (l m : Dk) : tot (l ++ m) = tot l + tot m := by
  induction l with
  | nil => simp [tot_nil]
  | cons p l ih => rw [List.cons_append, tot_cons, tot_cons, ih]; omega
theorem tot_perm {l m : Dk} (h : l.Perm m) : tot l = tot m := by
  induction h with
  | nil => rfl
  | cons x _ ih => rw [tot_cons, tot_cons, ih]
  | swap x y l => rw [tot_cons, tot_cons, tot_cons, tot_cons]; omega
  | trans _ _ a b => exact a.trans b
theorem lk_low {z : Int} {m : Str} : ∀ {l : Dk}, (keys l).Nodup → lk (low l z) m = match lk l m with | some y => if z < y then some (y - z) else none | none => none
  | [], _ => rfl
  | p :: r, nd => by
    have nd' : (keys r).Nodup := (List.nodup_cons.mp nd).2
    have hp : p.1 ∉ keys r := (List.nodup_cons.mp nd).1
    have e : low (p :: r) z = if z < p.2 then (p.1, p.2 - z) :: low r z else low r z := by
      unfold low
      rw [List.filter_cons]
      by_cases c : z < p.2
      · simp [c]
      · simp [c]
    rw [e]
    by_cases c : z < p.2
    · rw [if_pos c]
      by_cases cm : p.1 = m
      · show (if p.1 = m then some (p.2 - z) else _) = match (if p.1 = m then some p.2 else _) with | some y => if z < y then some (y - z) else none | none => none
        rw [if_pos cm, if_pos cm]
        dsimp only
        rw [if_pos c]
      · show (if p.1 = m then some (p.2 - z) else lk (low r z) m) = match (if p.1 = m then some p.2 else lk r m) with | some y => if z < y then some (y - z) else none | none => none
        rw [if_neg cm, if_neg cm]
        exact lk_low nd'
    · rw [if_neg c]
      by_cases cm : p.1 = m
      · have h1 : lk (low r z) m = none := lk_none.mpr fun h => hp (cm ▸ keys_low_sub h)
        show _ = match (if p.1 = m then some p.2 else _) with | some y => if z < y then some (y - z) else none | none => none
        rw [if_pos cm, h1]
        dsimp only
        rw [if_neg c]
      · show _ = match (if p.1 = m then some p.2 else lk r m) with | some y => if z < y then some (y - z) else none | none => none
        rw [if_neg cm]
        exact lk_low nd'
theorem tot_map_put (n : Str) (z : Int) : ∀ {l : Dk}, (keys l).Nodup → ∀ {y : Int}, lk l n = some y → tot (l.map fun p => if p.1 = n then (p.1, z) else p) = tot l + z - y
  | [], _, y, h => by cases h
  | p :: r, nd, y, h => by
    have nd' : (keys r).Nodup := (List.nodup_cons.mp nd).2
    have hp : p.1 ∉ keys r := (List.nodup_cons.mp nd).1
    rw [List.map_cons, tot_cons, tot_cons]
    by_cases c : p.1 = n
    · have e : r.map (fun p => if p.1 = n then (p.1, z) else p) = r := by
        conv => rhs; rw [← List.map_id r]
        refine List.map_congr_left fun q hq => ?_
        rw [if_neg (fun x => hp (by rw [c, ← x]; exact List.mem_map.mpr ⟨q, hq, rfl⟩))]
        rfl
      have ey : p.2 = y := by
        have : (if p.1 = n then some p.2 else lk r n) = some y := h
        rw [if_pos c] at this
        exact Option.some.inj this
      rw [e, if_pos c, ey]
      show z + tot r = y + tot r + z - y
      omega
    · have h' : lk r n = some y := by
        have : (if p.1 = n then some p.2 else lk r n) = some y := h
        rwa [if_neg c] at this
      rw [if_neg c, tot_map_put n z nd' h']
      omega
theorem tot_put {l : Dk} (nd : (keys l).Nodup) (n : Str) (z : Int) : tot (put l n z) = tot l + z - (lk l n).getD 0 := by
  cases e : lk l n with
  | none =>
    rw [put_new z e, tot_append, tot_cons, tot_nil]
    show tot l + (z + 0) = tot l + z - 0
    omega
  | some y =>
    unfold put
    rw [e]
    show tot (if (some y).isSome = true then _ else _) = _
    rw [if_pos (by rfl), tot_map_put n z nd e]
    rfl
theorem tot_low {z : Int} : ∀ {l : Dk}, (∀ p ∈ l, z ≤ p.2) → tot (low l z) = tot l - z * (l.length : Int)
  | [], _ => by simp [low, tot_nil]
  | p :: r, h => by
    have hp := h p (List.mem_cons_self ..)
    have ih := tot_low (z := z) (l := r) fun q hq => h q (List.mem_cons_of_mem _ hq)
    have e : low (p :: r) z = if z < p.2 then (p.1, p.2 - z) :: low r z else low r z := by
      unfold low
      rw [List.filter_cons]
      by_cases c : z < p.2
      · simp [c]
      · simp [c]
    rw [e, tot_cons, List.length_cons]
    have e2 : z * ((r.length + 1 : Nat) : Int) = z * (r.length : Int) + z := by
      rw [Int.natCast_add, Int.mul_add]
      simp
    by_cases c : z < p.2
    · rw [if_pos c, tot_cons, ih, e2]
      show p.2 - z + _ = _
      omega
    · rw [if_neg c, ih, e2]
      omega
structure Bd (k : Nat) (s : DS) (tr : Dk) : Prop where
  O : Ok k s.l
  nd : (keys tr).Nodup
  pos : ∀ p ∈ tr, 0 < p.2
  sum : tot s.l + ((k : Int) + 1) * s.g = s.t
  all : tot tr = s.t
  g0 : 0 ≤ s.g
  lo : ∀ n, leastM s n ≤ (lk tr n).getD 0
  hi : ∀ n, (lk tr n).getD 0 ≤ leastM s n + s.g
  few : tr.length ≤ k → s.g = 0
theorem Bd.nil (k : Nat) : Bd k ⟨[], 0, 0⟩ [] :=
  ⟨ok_nil k, List.nodup_nil, fun _ h => (List.not_mem_nil h).elim, (by show tot [] + _ * (0 : Int) = 0; rw [tot_nil, Int.mul_zero]; rfl), rfl, Int.le_refl _, fun _ => Int.le_refl _, fun _ => Int.le_refl _, fun _ => rfl⟩
theorem getD_nn {l : Dk} (h : ∀ p ∈ l, 0 < p.2) (n : Str) : 0 ≤ (lk l n).getD 0 := by
  cases e : lk l n with
  | none => exact Int.le_refl _
  | some y => exact Int.le_of_lt (h _ (lk_mem e))
/-- nothing lost: the same drawers -/
theorem Bd.same {k : Nat} {s : DS} {tr : Dk} (b : Bd k s tr) (h : s.g = 0) (n : Str) : lk s.l n = lk tr n := by
  have h1 := b.lo n
  have h2 := b.hi n
  have e : (lk tr n).getD 0 = (lk s.l n).getD 0 := by
    unfold leastM at h1 h2
    omega
  cases e1 : lk s.l n with
  | some y =>
    have hy : 0 < y := b.O.pos _ (lk_mem e1)
    rw [e1] at e
    cases e2 : lk tr n with
    | some x =>
      rw [e2] at e
      exact congrArg some e.symm
    | none =>
      rw [e2] at e
      have : (0 : Int) = y := e
      omega
  | none =>
    rw [e1] at e
    cases e2 : lk tr n with
    | none => rfl
    | some x =>
      have hx : 0 < x := b.pos _ (lk_mem e2)
      rw [e2] at e
      have : x = (0 : Int) := e
      omega
theorem perm_of_lk {l m : Dk} (h1 : (keys l).Nodup) (h2 : (keys m).Nodup) (h : ∀ n, lk l n = lk m n) : (keys l).Perm (keys m) :=
  (List.perm_ext_iff_of_nodup h1 h2).mpr fun n => by
    have a := lk_none (n := n) (l := l)
    have b := lk_none (n := n) (l := m)
    rw [h n] at a
    constructor
    · intro x
      exact Classical.byContradiction fun y => a.mp (b.mpr y) x
    · intro x
      exact Classical.byContradiction fun y => b.mp (a.mpr y) x
theorem Bd.len {k : Nat} {s : DS} {tr : Dk} (b : Bd k s tr) (h : s.g = 0) : s.l.length = tr.length := by
  have := (perm_of_lk b.O.nd b.nd (b.same h)).length_eq
  unfold keys at this
  rw [List.length_map, List.length_map] at this
  exact this
theorem put_len_ge (l : Dk) (n : Str) (z : Int) : l.length ≤ (put l n z).length := by
  cases e : lk l n with
  | none => rw [put_new z e, List.length_append]; omega
  | some y => rw [put_len_in z e]; omega
theorem lk_put' (l : Dk) (n m : Str) (z : Int) : (lk (put l n z) m).getD 0 = if m = n then z else (lk l m).getD 0 := by
  rw [lk_put]
  by_cases c : m = n
  · rw [if_pos c, if_pos c]; rfl
  · rw [if_neg c, if_neg c]
theorem Bd.come {k : Nat} {s : DS} {tr : Dk} {n : Str} {w : Int} (b : Bd k s tr) (hw : 0 < w) (hk : 0 < k) : Bd k (comeM k s n w) (put tr n ((lk tr n).getD 0 + w)) := by
  have O' := come_ok (n := n) b.O hw hk
  have tn := getD_nn b.pos n
  have pos' : ∀ p ∈ put tr n ((lk tr n).getD 0 + w), 0 < p.2 := put_pos b.pos (by omega)
  have all' : tot (put tr n ((lk tr n).getD 0 + w)) = s.t + w := by
    rw [tot_put b.nd, b.all]
    omega
  have ge := put_len_ge tr n ((lk tr n).getD 0 + w)
  have et : (comeM k s n w).t = s.t + w := by
    unfold comeM
    split
    · rfl
    · split <;> rfl
  cases e : lk s.l n with
  | some y =>
    have ec : comeM k s n w = ⟨put s.l n (y + w), s.g, s.t + w⟩ := by unfold comeM; rw [e]
    have ls : ∀ m, leastM (comeM k s n w) m = if m = n then leastM s n + w else leastM s m := fun m => by
      rw [ec]
      show (lk (put s.l n (y + w)) m).getD 0 = _
      rw [lk_put']
      unfold leastM
      rw [e]
      rfl
    refine ⟨O', nodup_put b.nd _ _, pos', ?_, all'.trans et.symm, by rw [ec]; exact b.g0, fun m => ?_, fun m => ?_, fun h => ?_⟩
    · rw [ec]
      show tot (put s.l n (y + w)) + _ * s.g = s.t + w
      rw [tot_put b.O.nd, e, ← b.sum]
      show tot s.l + (y + w) - y + _ = _
      omega
    · rw [ls, lk_put']
      have h1 := b.lo m
      have h2 := b.lo n
      by_cases c : m = n
      · rw [if_pos c, if_pos c]; omega
      · rw [if_neg c, if_neg c]; exact h1
    · rw [ls, lk_put']
      have h1 := b.hi m
      have h2 := b.hi n
      have eg : (comeM k s n w).g = s.g := by rw [ec]
      rw [eg]
      by_cases c : m = n
      · rw [if_pos c, if_pos c]; omega
      · rw [if_neg c, if_neg c]; exact h1
    · have eg : (comeM k s n w).g = s.g := by rw [ec]
      rw [eg]
      exact b.few (Nat.le_trans ge h)
  | none =>
    have l0 : leastM s n = 0 := by unfold leastM; rw [e]; rfl
    by_cases cl : s.l.length < k
    · have ec : comeM k s n w = ⟨s.l ++ [(n, w)], s.g, s.t + w⟩ := by unfold comeM; rw [e]; dsimp only; rw [if_pos cl]
      have ls : ∀ m, leastM (comeM k s n w) m = if m = n then leastM s n + w else leastM s m := fun m => by
        rw [ec, l0]
        show (lk (s.l ++ [(n, w)]) m).getD 0 = _
        rw [← put_new w e, lk_put']
        unfold leastM
        rw [show (0 : Int) + w = w by omega]
      refine ⟨O', nodup_put b.nd _ _, pos', ?_, all'.trans et.symm, by rw [ec]; exact b.g0, fun m => ?_, fun m => ?_, fun h => ?_⟩
      · rw [ec]
        show tot (s.l ++ [(n, w)]) + _ * s.g = s.t + w
        rw [tot_append, tot_cons, tot_nil, ← b.sum]
        show tot s.l + (w + 0) + _ = _
        omega
      · rw [ls, lk_put']
        have h1 := b.lo m
        have h2 := b.lo n
        by_cases c : m = n
        · rw [if_pos c, if_pos c]; omega
        · rw [if_neg c, if_neg c]; exact h1
      · rw [ls, lk_put']
        have h1 := b.hi m
        have h2 := b.hi n
        have eg : (comeM k s n w).g = s.g := by rw [ec]
        rw [eg]
        by_cases c : m = n
        · rw [if_pos c, if_pos c]; omega
        · rw [if_neg c, if_neg c]; exact h1
      · have eg : (comeM k s n w).g = s.g := by rw [ec]
        rw [eg]
        exact b.few (Nat.le_trans ge h)
    · have hlen : s.l.length = k := by have := b.O.len; omega
      obtain ⟨z1, z2, z3⟩ := lss_spec s.l w
      have z0 : 0 < lss s.l w := by
        rcases z3 with h | ⟨p, hp, h⟩
        · omega
        · have := b.O.pos p hp; omega
      have ec : comeM k s n w = ⟨if lss s.l w < w then low s.l (lss s.l w) ++ [(n, w - lss s.l w)] else low s.l (lss s.l w), s.g + lss s.l w, s.t + w⟩ := by
        unfold comeM; rw [e]; dsimp only; rw [if_neg cl]
      generalize lss s.l w = z at *
      have nl : lk (low s.l z) n = none := lk_none.mpr fun h => lk_none.mp e (keys_low_sub h)
      have ls : ∀ m, leastM (comeM k s n w) m = if m = n then w - z else (if m ∈ keys s.l then leastM s m - z else 0) := fun m => by
        have lw : (lk (low s.l z) m).getD 0 = if m ∈ keys s.l then leastM s m - z else 0 := by
          rw [lk_low b.O.nd]
          unfold leastM
          cases em : lk s.l m with
          | none =>
            rw [if_neg (lk_none.mp em)]
            rfl
          | some y =>
            have hm : m ∈ keys s.l := Classical.byContradiction fun h => by rw [lk_none.mpr h] at em; cases em
            rw [if_pos hm]
            have := z2 _ (lk_mem em)
            show (if z < y then some (y - z) else none).getD 0 = y - z
            by_cases c : z < y
            · rw [if_pos c]; rfl
            · rw [if_neg c]
              show (0 : Int) = y - z
              have h3 : z ≤ y := this
              omega
        rw [ec]
        show (lk (if z < w then low s.l z ++ [(n, w - z)] else low s.l z) m).getD 0 = _
        by_cases c1 : z < w
        · rw [if_pos c1, ← put_new (w - z) nl, lk_put', lw]
        · rw [if_neg c1, lw]
          by_cases c : m = n
          · rw [if_pos c, if_neg (by rw [c]; exact lk_none.mp e)]
            omega
          · rw [if_neg c]
      have gg : (comeM k s n w).g = s.g + z := by rw [ec]
      refine ⟨O', nodup_put b.nd _ _, pos', ?_, all'.trans et.symm, by rw [gg]; have := b.g0; omega, fun m => ?_, fun m => ?_, fun h => ?_⟩
      · have e1 : tot (comeM k s n w).l = tot (low s.l z) + (w - z) := by
          rw [ec]
          show tot (if z < w then low s.l z ++ [(n, w - z)] else low s.l z) = _
          by_cases c1 : z < w
          · rw [if_pos c1, tot_append, tot_cons, tot_nil]
            show _ + (w - z + 0) = _
            omega
          · rw [if_neg c1]
            omega
        rw [e1, gg, et, tot_low z2, hlen, ← b.sum, Int.mul_add, Int.add_mul (k : Int) 1 z, Int.mul_comm z (k : Int)]
        omega
      · rw [ls, lk_put']
        have h1 := b.lo m
        have h2 := b.lo n
        have h3 := getD_nn b.pos m
        by_cases c : m = n
        · rw [if_pos c, if_pos c]; omega
        · rw [if_neg c, if_neg c]
          by_cases c2 : m ∈ keys s.l
          · rw [if_pos c2]; omega
          · rw [if_neg c2]; exact h3
      · rw [ls, lk_put', gg]
        have h1 := b.hi m
        have h2 := b.hi n
        by_cases c : m = n
        · rw [if_pos c, if_pos c]; omega
        · rw [if_neg c, if_neg c]
          by_cases c2 : m ∈ keys s.l
          · rw [if_pos c2]; omega
          · rw [if_neg c2]
            have h4 : leastM s m = 0 := by unfold leastM; rw [lk_none.mpr c2]; rfl
            omega
      · have hg := b.few (Nat.le_trans ge h)
        have e1 := b.len hg
        have e2 := b.same hg n
        rw [e] at e2
        rw [put_new _ e2.symm, List.length_append] at h
        have : [(n, (lk tr n).getD 0 + w)].length = 1 := rfl
        omega
/-- a share above all weight by drawers and one stands among those shown -/
theorem Bd.heavy {k : Nat} {s : DS} {tr : Dk} {n : Str} (b : Bd k s tr) (h : s.t < (lk tr n).getD 0 * ((k : Int) + 1)) : n ∈ maybeM k s := by
  have h1 := b.hi n
  have k0 : (0 : Int) ≤ (k : Int) + 1 := by omega
  have tl : 0 ≤ tot s.l := by
    have : ∀ l : Dk, (∀ p ∈ l, 0 < p.2) → 0 ≤ tot l := by
      intro l
      induction l with
      | nil => intro _; exact Int.le_refl _
      | cons p l ih =>
        intro hp
        rw [tot_cons]
        have := hp p (List.mem_cons_self ..)
        have := ih fun q hq => hp q (List.mem_cons_of_mem _ hq)
        omega
    exact this _ b.O.pos
  have h2 := Int.mul_le_mul_of_nonneg_right h1 k0
  refine List.mem_filter.mpr ⟨?_, decide_eq_true (Int.lt_of_lt_of_le h h2)⟩
  refine (keys_perm (srt_perm s.l)).mem_iff.mpr (Classical.byContradiction fun hn => ?_)
  have l0 : leastM s n = 0 := by unfold leastM; rw [lk_none.mpr hn]; rfl
  rw [l0] at h2
  have e : (0 + s.g) * ((k : Int) + 1) = ((k : Int) + 1) * s.g := by rw [Int.zero_add, Int.mul_comm]
  rw [e] at h2
  have := b.sum
  omega
theorem Bd.sure {k : Nat} {s : DS} {tr : Dk} {n : Str} (b : Bd k s tr) (h : n ∈ surelyM k s) : s.t < (lk tr n).getD 0 * ((k : Int) + 1) ∧ n ∈ keys tr := by
  have h1 := b.lo n
  have k0 : (0 : Int) ≤ (k : Int) + 1 := by omega
  have h2 := Int.mul_le_mul_of_nonneg_right h1 k0
  have h3 : s.t < leastM s n * ((k : Int) + 1) := of_decide_eq_true (List.mem_filter.mp h).2
  refine ⟨Int.lt_of_lt_of_le h3 h2, Classical.byContradiction fun hn => ?_⟩
  have hs := surelyM_sub h
  cases e : lk s.l n with
  | none => exact absurd hs (lk_none.mp e)
  | some y =>
    have hy : 0 < y := b.O.pos _ (lk_mem e)
    rw [lk_none.mpr hn] at h1
    unfold leastM at h1
    rw [e] at h1
    have : y ≤ (0 : Int) := h1
    omega
end DK
set_option Elab.async false
set_option linter.all false
set_option maxRecDepth 100000
set_option maxHeartbeats 2000000
/-! whether an int stands among a dict's values -/
namespace DK
open PySem PySem.Spec PyProof.Rows L2
theorem plain_ci : plainId "proto.contains_iter" = true := by decide +kernel
theorem entry_ci : entryFor table "proto.contains_iter" = some Builtin.«proto.contains_iter» := entryFor_of_fast (by kernel_rfl)
theorem vals_no_contains : typeLookup (.type "dict_values") "__contains__" = pure none := by rw [typeLookup_type, builtinLookup_eq_fast]; kernel_rfl
section
variable {prog : Program} {w : World} {A : Around} {I : Addr} {fp wr : List Addr} {n : Nat} {P : Nat → Value → Prop} {St : Nat → Heap → Prop} {x : Value}
theorem ci_none (W : Walks prog w A.in1 I fp wr n P St) (hne : ∀ i v, P i v → ∀ s, SeqAt.EqAt A.in1 s v x false) :
    ∀ (k i : Nat) (s : Shared) (R : Result → Shared → Prop), n - i = k → i ≤ n → St i s.heap →
      (∀ h' tk, (∀ b o, b ∉ wr → s.heap.get? b = some o → h'.get? b = some o) → R (.ok (.ret (.bool false))) { s with heap := h', toks := tk }) →
      codeAny (model prog w) A (.builtin "proto.contains_iter" ⟨[.ref I, x], []⟩) R s := by
  intro k
  induction k with
  | zero =>
    intro i s R hk hi hst hR
    obtain rfl : i = n := by omega
    refine codeAny_builtin entry_ci ?_
    rw [Around.under_plainId plain_ci _]
    show wpAny _ A.in1 (pyNext (.ref I) >>= _) _ _ s
    exact wpAny_bind (W.done s _ _ hst fun h' tk hk => wpAny_bind (wpAny_rule (wpAny_pure (hR h' tk hk))))
  | succ k ih =>
    intro i s R hk hi hst hR
    refine codeAny_builtin entry_ci ?_
    rw [Around.under_plainId plain_ci _]
    show wpAny _ A.in1 (pyNext (.ref I) >>= _) _ _ s
    refine wpAny_bind (W.item i s _ _ (by omega) hst fun v h' tk hP hst' hkp => ?_)
    refine wpAny_bind (hne i v hP _ prog w _ _ ?_)
    refine wpAny_pure ⟨plainId_quiet plain_ci _, ih (i + 1) _ R (by omega) (by omega) hst' fun h2 tk2 hk2 => ?_⟩
    exact hR h2 tk2 fun b o hb e => hk2 b o hb (hkp b o hb e)
end
def rInVw : R2 := fun x y H Q => ∃ (p d : Addr) (is : List Int) (kvs : List (Key × V)) (c : Int), x = .int c ∧ y = .ref p ∧ H p = some (vwO "dict_values" p d) ∧ H d = some (.dK kvs) ∧ kvs.map (·.2) = is.map V.int ∧ c ∉ is ∧ Q (.bl false) H
section
variable {X : Cx}
theorem op_inView (hc : X.calm = true) : OpR X (compareOp .In) rInVw := by
  intro pins s σ H x y v u Q I rx ry h
  obtain ⟨p, d, is, kvs, c, rfl, rfl, hp, hd, hv, hno, q⟩ := h
  obtain rfl : u = Value.ref p := ry
  obtain ⟨tc, rfl⟩ : ∃ t, v = Value.int c t := rx
  have hvw : s.heap.get? p = some { cls := .type "dict_values", data := .fields #[.ref d] } := (show ObjOk X.prog X.w H s.heap p (vwO "dict_values" p d) from I.hok p _ hp).1
  obtain ⟨_, hsys, vs, rel, dof⟩ := dk_of I.hok hd
  obtain ⟨ep, dat⟩ := dof.dictAt
  have K := PySem.W.kdl_values (prog := X.prog) (w := X.w) (knd := mixKind X.prog X.w) (r := p) (d := d) (kvs := vs) (ep := ep)
  have hok : s.heap.IsValuesView p d ∧ s.heap.DictAt (mixKind X.prog X.w) d vs ep := ⟨⟨_, hvw, rfl, rfl⟩, dat⟩
  have hh : X.A.handled = none := I.ok.hd hc
  have hT : s.TypeIs (.ref p) "dict_values" := K.type s hok
  show wpAny _ _ (contains (.ref p) (.int c tc) >>= _) _ _ _
  refine wpAny_bind ?_
  unfold contains
  refine wpAny_holding ?_
  rw [stdlibNamesSay?_of_typeIs hT]
  refine wpAny_bind (wpAny_specialOf hT vals_no_contains ?_)
  refine wpAny_bind (wpAny_callSpecialUnlessNone?_none hT vals_no_contains ?_)
  refine wpAny_bind (wpAny_rule ?_)
  obtain ⟨oI, St, hit, W, st⟩ := K.iter X.A.in1 s hh hok
  refine wpAny_bind (wpAny_tryCatch (wpAny_of_in1 (hit _ _ ?_)))
  refine wpAny_bind (wpAny_runValue (ci_none W (fun i v ⟨k, hk⟩ s' => ?_) _ 0 _ _ rfl (Nat.zero_le _) st fun h' tk hkp => ?_))
  · obtain ⟨x, h1, h2⟩ := KV.at' rel hk
    have e1 : (kvs.map (·.2))[i]? = some x := by rw [List.getElem?_map, h1] <;> rfl
    rw [hv, List.getElem?_map] at e1
    obtain ⟨j, hj, e2⟩ := Option.map_eq_some_iff.mp e1
    subst e2
    obtain ⟨t, rfl⟩ := h2
    have e3 : (j == c) = false := by
      rw [beq_eq_false_iff_ne]
      intro z
      exact hno (z ▸ List.mem_of_getElem? hj)
    rw [← e3]
    exact SeqAt.EqAt.int_int j t c tc
  · have hk : ∀ b o, s.heap.get? b = some o → h'.get? b = some o := fun b o e =>
      hkp b o (fun hI => absurd (Heap.lt_size e) (by rw [List.mem_singleton.mp hI]; exact Nat.lt_irrefl _)) (Heap.get?_push_of_some _ e)
    exact wpAny_pure (wpAny_pure ⟨.bl false, H, I.kept (t' := tk) hk, rfl, q⟩)
end
/-- a list made along a locked dict's keys -/
theorem lc_keys {d : Addr} {od : Obj} {l : Dk} {g : TG} {tt : TT} {te : TE} {vs : List Nat} {σ : L2.St} {H1 : Hp} {D : Addr} {Qd : Hp → Prop} (Pv : Nat → Hp → Prop) (h0 : Pv 0 (upd H1 D (.lst []))) (hq : ∀ i H, Pv i H → H d = some (.frz od (.dK (enc l))))
    (hs : ∀ (i : Nat) (p : Str × Int) H, l[i]? = some p → Pv i H → g (.str p.1) (wipe σ vs) H fun σ2 H2 => wipe σ2 vs = wipe σ vs ∧ tt σ2 H2 fun b H3 =>
      if b = true then te σ2 H3 fun y H4 => ∃ acc, H4 D = some (.lst acc) ∧ acc.length < sizeLine ∧ Pv (i + 1) (upd H4 D (.lst (acc ++ [y]))) else Pv (i + 1) H3) (hd : ∀ H, Pv l.length H → Qd H) :
    ∃ W : Nat → Nat → Hp → Prop, (∃ m, W 0 m (upd H1 D (.lst []))) ∧ ∀ i m H, W i m H →
      ((Itk d od (enc l)).stop i H ∧ Qd H) ∨ ((Itk d od (enc l)).go i H ∧ ∃ Nx : Hp → Prop, (∀ H', Nx H' → ∃ m', m' < m ∧ W (i + 1) m' H') ∧ ∀ x H', (Itk d od (enc l)).yld i H x H' → g x (wipe σ vs) H' fun σ2 H2 => wipe σ2 vs = wipe σ vs ∧ tt σ2 H2 fun b H3 =>
        if b = true then te σ2 H3 fun y H4 => ∃ acc, H4 D = some (.lst acc) ∧ acc.length < sizeLine ∧ Nx (upd H4 D (.lst (acc ++ [y]))) else Nx H3) := by
  refine ⟨fun i m H => m = l.length - i ∧ i ≤ l.length ∧ Pv i H, ⟨l.length, by simp, Nat.zero_le _, h0⟩, ?_⟩
  rintro i m H ⟨rfl, hi, p⟩
  have qx := hq i H p
  by_cases hlt : i < l.length
  · have hx : l[i]? = some l[i] := List.getElem?_eq_getElem hlt
    refine .inr ⟨⟨qx, by rw [enc_len]; exact hlt⟩, Pv (i + 1), fun H' p' => ⟨l.length - (i + 1), by omega, rfl, hlt, p'⟩, fun x H' y => ?_⟩
    obtain ⟨rfl, k, w, e1, rfl⟩ := y
    unfold enc at e1
    rw [List.getElem?_map, hx] at e1
    have e2 : (Sum.inr (l[i]).1 : Key) = k := congrArg Prod.fst (Option.some.inj e1)
    subst e2
    exact hs i _ _ hx p
  · have e : i = l.length := by omega
    subst e
    exact .inl ⟨⟨qx, by rw [enc_len]; exact Nat.le_refl _⟩, hd H p⟩
end DK
set_option Elab.async false
set_option linter.all false
set_option maxRecDepth 100000
set_option maxHeartbeats 2000000
/-! a dict's int values, sorted -/
namespace DK
open PySem PySem.Spec PyProof.Rows L2
def rSortVals (b : Bool) (zs0 : List V) : List V → List V → Hp → VK → Prop := fun xs zs H Q => ∃ (p d : Addr) (is : List Int) (kvs : List (Key × V)), xs = [V.ref p] ∧ zs = zs0 ∧ H p = some (vwO "dict_values" p d) ∧ H d = some (.dK kvs) ∧ kvs.map (·.2) = is.map V.int ∧
  ∀ (js : List Int) (a : Addr), js.Perm is → OrdB b js → H a = none → Q (.ref a) (upd H a (.lst (js.map V.int)))
theorem ints_get : ∀ {vs : List Value} {is : List Int}, vs.length = is.length → (∀ (j : Nat) (v : Value), vs[j]? = some v → ∃ n t, is[j]? = some n ∧ v = .int n t) → IntsAre vs is
  | [], [], _, _ => .nil
  | v :: vs, n :: is, hl, h => by
    obtain ⟨m, t, e1, e2⟩ := h 0 v rfl
    have : n = m := Option.some.inj e1
    subst this e2
    exact .cons n t (ints_get (by simpa using hl) fun j u hu => h (j + 1) u hu)
section
variable {X : Cx}
theorem vals_sorted {b : Bool} {kw : List (Str × Value)} {pins : List (Addr × Obj)} {s : Shared} {σ : L2.St} {H : Hp} {p d : Addr} {is : List Int} {kvs : List (Key × V)} {Q : VK} (hc : X.calm = true) (I : Inv X pins σ H s)
    (hs : ∀ {A : Around} {s : Shared} {a : Addr} {vs : List Value} {n : Nat} {R : PySem.Fin → Shared → Prop} {E : Value → Shared → Prop}, s.heap.get? a = some (seqObj "list" vs.toArray n) → vs.length ≤ sizeLine → IntsAre vs is →
      (∀ out : List Value, SrtO.Srtd SrtO.ltIv out → SrtO.Stb SrtO.ltIv out (if b = true then vs.reverse else vs) → R (.done (.ret .none)) { s with heap := sortedHeap s.heap a vs (if b = true then out.toArray.reverse else out.toArray) }) →
      wpAny (model X.prog X.w) A (Builtin.«list.sort» ⟨[.ref a], kw⟩) R E s)
    (ha1 : ∀ a, argsOk "sorted" ⟨[a], kw⟩) (ha2 : ∀ a, argsOk "list.sort" ⟨[a], kw⟩)
    (hp : H p = some (vwO "dict_values" p d)) (hd : H d = some (.dK kvs)) (hv : kvs.map (·.2) = is.map V.int)
    (q : ∀ (js : List Int) (a : Addr), js.Perm is → OrdB b js → H a = none → Q (.ref a) (upd H a (.lst (js.map V.int)))) : wpAny (model X.prog X.w) X.A (call (.builtin "sorted") [.ref p] kw) (EP X pins σ Q) X.xe s := by
  have hvw : s.heap.get? p = some { cls := .type "dict_values", data := .fields #[.ref d] } := (show ObjOk X.prog X.w H s.heap p (vwO "dict_values" p d) from I.hok p _ hp).1
  obtain ⟨hz, hsys, vs, rel, dof⟩ := dk_of I.hok hd
  obtain ⟨ep, dat⟩ := dof.dictAt
  have K := PySem.W.kdl_values (prog := X.prog) (w := X.w) (knd := mixKind X.prog X.w) (r := p) (d := d) (kvs := vs) (ep := ep)
  have hok : s.heap.IsValuesView p d ∧ s.heap.DictAt (mixKind X.prog X.w) d vs ep := ⟨⟨_, hvw, rfl, rfl⟩, dat⟩
  have hh : X.A.handled = none := I.ok.hd hc
  have lk0 : kvs.length = is.length := by
    have e1 := congrArg List.length hv
    rwa [List.length_map, List.length_map] at e1
  have lv : vs.length = is.length := by rw [← KV.length rel, lk0]
  have hz' : vs.length ≤ sizeLine := by rw [← KV.length rel]; exact hz
  refine call_function_entry_kw kind_sorted plain_sorted entry_sorted (ha1 _) ?_
  unfold Builtin.«sorted»
  refine wpAny_bind (m := checkCount "sorted" 1 1 _) (wpAny_pure ?_)
  refine wpAny_bind (PySem.W.kdu_collect (A := X.A.in1) K hh hok hz' fun h' tk acc hk hacc => ?_)
  have hl : acc.toList.length = is.length := by rw [Array.length_toList, hacc.1, lv]
  have hI : IntsAre acc.toList is := ints_get hl fun j v hj => by
    obtain ⟨k, hkv⟩ := hacc.2 j v (by rw [← Array.getElem?_toList]; exact hj)
    obtain ⟨x, h1, h2⟩ := KV.at' rel hkv
    have e1 : (kvs.map (·.2))[j]? = some x := by rw [List.getElem?_map, h1] <;> rfl
    rw [hv, List.getElem?_map] at e1
    obtain ⟨n, hn, e2⟩ := Option.map_eq_some_iff.mp e1
    subst e2
    obtain ⟨t, e3⟩ := h2
    exact ⟨n, t, hn, e3⟩
  have hz2 : acc.toList.length ≤ sizeLine := by rw [hl, ← lv]; exact hz'
  refine wpAny_bind (wpAny_newList ?_ hz2)
  have hob : (h'.push { cls := .type "list", data := .seq acc.toList.toArray }).get? h'.objs.size = some (seqObj "list" acc.toList.toArray 0) := Heap.get?_push_size _ rfl
  have I0 : Inv X pins σ H { s with heap := h', toks := tk } := I.kept (t' := tk) hk
  refine wpAny_bind (wpAny_holding (wpAny_call_entry_kw slot_list_sort ⟨_, hob, rfl⟩ entry_list_sort ?_ (ha2 _)))
  refine hs hob hz2 hI fun out h1 h2 => ⟨_, rfl, ?_⟩
  obtain ⟨ns', k1, k2, k3⟩ := SrtR.ints_outR hI h1 h2
  have ka : ∀ b o, h'.get? b = some o → (h'.push { cls := .type "list", data := .seq acc.toList.toArray }).get? b = some o := fun b o e => Heap.get?_push_of_some _ e
  have kS : ∀ b' o, h'.get? b' = some o → (sortedHeap (h'.push { cls := .type "list", data := .seq acc.toList.toArray }) h'.objs.size acc.toList (if b = true then out.toArray.reverse else out.toArray)).get? b' = some o := fun b' o e =>
    (sortedHeap_old (Nat.ne_of_lt (Heap.lt_size e)) (Heap.lt_size (ka _ _ e))).trans (ka _ _ e)
  obtain ⟨eF, heF⟩ := sortedHeap_at (vs := acc.toList) (out := (if b = true then out.toArray.reverse else out.toArray)) hob
  have hlen : (ns'.map V.int).length ≤ sizeLine := by
    rw [List.length_map, k2.length_eq, ← hl]
    exact hz2
  have e0 : ((if b = true then out.toArray.reverse else out.toArray).toList).toArray = (if b = true then out.toArray.reverse else out.toArray) := by rw [Array.toArray_toList]
  exact wpAny_pure ⟨_, rfl, .ref h'.objs.size, upd H h'.objs.size (.lst (ns'.map V.int)), I0.laid (t' := tk) kS (Nat.le_refl _) ⟨hlen, _, eF, vals_of_ints k1, by rw [e0]; exact heF⟩, rfl, q _ _ k2 k3 (I0.hok.fresh (Nat.le_refl _))⟩
theorem cr_sortedValsRev {b : Bool} (hc : X.calm = true) : CallRK X (.builtin "sorted") [Str.ofString "reverse"] (rSortVals b [.bl b]) := by
  intro pins s σ H vs zs us ws Q I r rz h
  obtain ⟨p, d, is, kvs, rfl, rfl, hp, hd, hv, q⟩ := h
  obtain rfl := Vals.ref1 r
  obtain ⟨w1, rfl, e1⟩ := vals1 rz
  obtain rfl : w1 = Value.bool b := e1
  exact vals_sorted hc I (fun ho hz hI h => SrtR.list_sort_ordR SrtO.swo_int ho hz (fun h2 => SrtO.ints_sortable hI h2) h) (fun _ => args_sorted_rev _ _) (fun _ => args_list_sort_rev _ _) hp hd hv q
theorem cr_sortedVals (hc : X.calm = true) : CallR X (.builtin "sorted") (fun xs H Q => rSortVals false [] xs [] H Q) := by
  intro pins s σ H vs us Q I r h
  obtain ⟨p, d, is, kvs, rfl, _, hp, hd, hv, q⟩ := h
  obtain rfl := Vals.ref1 r
  exact vals_sorted (b := false) hc I (fun ho hz hI h => SrtO.list_sort_ord SrtO.swo_int ho hz (fun h2 => SrtO.ints_sortable hI h2) fun out h1 h2 => h out h1 h2) (fun _ => args_sorted1 _) (fun _ => args_list_sort _) hp hd hv q
end
end DK
set_option Elab.async false
set_option linter.all false
set_option maxRecDepth 100000
/-! pouring: mathematics -/
namespace DK
open PySem L2 PyProof.Rows
/-! ### ints, falling -/
def fallI (xs : List Int) : List Int := xs.mergeSort fun a b => decide (b ≤ a)
theorem fallI_perm (xs : List Int) : (fallI xs).Perm xs := List.mergeSort_perm _ _
theorem fall_eq {xs ys : List Int} (hx : xs.Pairwise (· ≥ ·)) (hy : ys.Pairwise (· ≥ ·)) (p : xs.Perm ys) : xs = ys :=
  p.eq_of_pairwise (fun a b _ _ h1 h2 => Int.le_antisymm h2 h1) hx hy
theorem fallI_pw (xs : List Int) : (fallI xs).Pairwise (· ≥ ·) := by
  have := List.pairwise_mergeSort (le := fun a b : Int => decide (b ≤ a)) (fun a b c h1 h2 => by simp at *; omega) (fun a b => by simp; omega) xs
  exact this.imp fun h => of_decide_eq_true h
theorem fallI_eq {xs js : List Int} (p : js.Perm xs) (h : js.Pairwise (· ≥ ·)) : js = fallI xs := fall_eq h (fallI_pw _) (p.trans (fallI_perm _).symm)
def vals (l : Dk) : List Int := l.map (·.2)
def kth (l : Dk) (k : Nat) : Int := ((fallI (vals l))[k]?).getD 0
theorem kth_at {l : Dk} {k : Nat} (h : k < l.length) : (fallI (vals l))[k]? = some (kth l k) := by
  have : k < (fallI (vals l)).length := by rw [(fallI_perm _).length_eq]; unfold vals; rw [List.length_map]; exact h
  unfold kth
  rw [List.getElem?_eq_getElem this] <;> rfl
theorem kth_perm {l m : Dk} (p : l.Perm m) (k : Nat) : kth l k = kth m k := by
  unfold kth
  rw [fallI_eq (((fallI_perm _).trans (p.map _)) : (fallI (vals l)).Perm (vals m)) (fallI_pw _)]
def ex (z v : Int) : Int := if z < v then v - z else 0
theorem fall_few {z : Int} : ∀ {js : List Int} {k : Nat}, js.Pairwise (· ≥ ·) → js[k]? = some z → (js.filter fun v => decide (z < v)).length ≤ k
  | [], k, _, h => by simp at h
  | v :: r, 0, hp, h => by
    obtain ⟨h1, h2⟩ := List.pairwise_cons.mp hp
    have e : v = z := by simpa using h
    rw [List.filter_eq_nil_iff.mpr]
    · exact Nat.le_refl _
    · intro x hx
      simp only [decide_eq_true_eq]
      rcases List.mem_cons.mp hx with rfl | hx
      · omega
      · have := h1 x hx
        omega
  | v :: r, k + 1, hp, h => by
    obtain ⟨h1, h2⟩ := List.pairwise_cons.mp hp
    have ih := fall_few h2 (k := k) (by simpa using h)
    rw [List.filter_cons]
    split
    · rw [List.length_cons]; omega
    · omega
theorem sum_ex_le {z : Int} (hz : 0 ≤ z) : ∀ {js : List Int}, (∀ v ∈ js, 0 ≤ v) → (js.map (ex z)).sum ≤ js.sum
  | [], _ => Int.le_refl _
  | v :: r, h => by
    have ih := sum_ex_le hz (js := r) fun x hx => h x (List.mem_cons_of_mem _ hx)
    have hv := h v (List.mem_cons_self ..)
    rw [List.map_cons, List.sum_cons, List.sum_cons]
    unfold ex at ih ⊢
    split <;> omega
theorem fall_sum {z : Int} (hz : 0 ≤ z) : ∀ {js : List Int} {k : Nat}, js.Pairwise (· ≥ ·) → (∀ v ∈ js, 0 ≤ v) → js[k]? = some z → ((k : Int) + 1) * z + (js.map (ex z)).sum ≤ js.sum
  | [], k, _, _, h => by simp at h
  | v :: r, 0, hp, hn, h => by
    have e : v = z := by simpa using h
    have := sum_ex_le hz (js := r) fun x hx => hn x (List.mem_cons_of_mem _ hx)
    rw [List.map_cons, List.sum_cons, List.sum_cons]
    have e2 : ex z v = 0 := by unfold ex; rw [if_neg (by omega)]
    rw [e2]
    have e3 : (((0 : Nat) : Int) + 1) * z = z := by simp
    rw [e3]
    omega
  | v :: r, k + 1, hp, hn, h => by
    obtain ⟨h1, h2⟩ := List.pairwise_cons.mp hp
    have h' : r[k]? = some z := by simpa using h
    have ih := fall_sum hz h2 (fun x hx => hn x (List.mem_cons_of_mem _ hx)) h'
    have hv : v ≥ z := h1 z (List.mem_of_getElem? h')
    rw [List.map_cons, List.sum_cons, List.sum_cons]
    have e2 : ex z v = v - z := by unfold ex; split <;> omega
    rw [e2]
    have e3 : (((k + 1 : Nat) : Int) + 1) * z = ((k : Int) + 1) * z + z := by
      rw [Int.natCast_add, Int.add_mul ((k : Int) + ((1 : Nat) : Int)) 1 z]
      simp
    rw [e3]
    omega
theorem sum_perm {xs ys : List Int} (p : xs.Perm ys) : xs.sum = ys.sum := by
  induction p with
  | nil => rfl
  | cons x _ ih => rw [List.sum_cons, List.sum_cons, ih]
  | swap x y l => simp only [List.sum_cons]; omega
  | trans _ _ a b => exact a.trans b
theorem low_cons (p : Str × Int) (r : Dk) (z : Int) : low (p :: r) z = if z < p.2 then (p.1, p.2 - z) :: low r z else low r z := by
  unfold low
  rw [List.filter_cons]
  by_cases c : z < p.2 <;> simp [c]
theorem tot_low_ex (z : Int) : ∀ l : Dk, tot (low l z) = ((vals l).map (ex z)).sum
  | [] => rfl
  | p :: r => by
    have ih := tot_low_ex z r
    rw [low_cons]
    show _ = (ex z p.2 :: (vals r).map (ex z)).sum
    rw [List.sum_cons, ← ih]
    unfold ex
    split
    · rw [tot_cons]
    · omega
theorem low_len (z : Int) : ∀ l : Dk, (low l z).length = ((vals l).filter fun v => decide (z < v)).length
  | [] => rfl
  | p :: r => by
    have ih := low_len z r
    rw [low_cons]
    show _ = (List.filter _ (p.2 :: vals r)).length
    rw [List.filter_cons]
    by_cases c : z < p.2
    · rw [if_pos c, if_pos (decide_eq_true c), List.length_cons, List.length_cons, ih]
    · rw [if_neg c, if_neg (by simp [c]), ih]
/-! ### the cut -/
def cutM (k : Nat) (l : Dk) (g t : Int) : DS := if l.length ≤ k then ⟨l, g, t⟩ else ⟨low l (kth l k), g + kth l k, t⟩
theorem kth_pos {k : Nat} {l : Dk} (h : k < l.length) (hp : ∀ p ∈ l, 0 < p.2) : 0 < kth l k := by
  have := List.mem_of_getElem? (kth_at h)
  have := (fallI_perm _).mem_iff.mp this
  obtain ⟨p, hp', e⟩ := List.mem_map.mp this
  rw [← e]
  exact hp p hp'
theorem cut_len {k : Nat} {l : Dk} {g t : Int} : (cutM k l g t).l.length ≤ k := by
  unfold cutM
  split
  · assumption
  · rename_i h
    show (low l (kth l k)).length ≤ k
    rw [low_len, ← ((fallI_perm (vals l)).filter _).length_eq]
    exact fall_few (fallI_pw _) (kth_at (by omega))
theorem cut_nd {k : Nat} {l : Dk} {g t : Int} (nd : (keys l).Nodup) : (keys (cutM k l g t).l).Nodup := by
  unfold cutM
  split
  · exact nd
  · exact nodup_low nd _
theorem cut_pos {k : Nat} {l : Dk} {g t : Int} (hp : ∀ p ∈ l, 0 < p.2) : ∀ p ∈ (cutM k l g t).l, 0 < p.2 := by
  unfold cutM
  split
  · exact hp
  · exact low_pos l _
theorem cut_ok {k : Nat} {l : Dk} {g t : Int} (nd : (keys l).Nodup) (hp : ∀ p ∈ l, 0 < p.2) : Ok k (cutM k l g t).l := ⟨cut_nd nd, cut_pos hp, cut_len⟩
theorem cut_keys {k : Nat} {l : Dk} {g t : Int} {n : Str} (h : n ∈ keys (cutM k l g t).l) : n ∈ keys l := by
  unfold cutM at h
  split at h
  · exact h
  · exact keys_low_sub h
theorem cut_t (k : Nat) (l : Dk) (g t : Int) : (cutM k l g t).t = t := by unfold cutM; split <;> rfl
theorem cut_same {k : Nat} {l : Dk} {g t : Int} (h : l.length ≤ k) : cutM k l g t = ⟨l, g, t⟩ := by unfold cutM; rw [if_pos h]
theorem low_perm {l m : Dk} (p : l.Perm m) (z : Int) : (low l z).Perm (low m z) := (p.filter _).map _
theorem cut_perm {k : Nat} {l m : Dk} (p : l.Perm m) (g t : Int) : (cutM k l g t).l.Perm (cutM k m g t).l ∧ (cutM k l g t).g = (cutM k m g t).g := by
  unfold cutM
  rw [p.length_eq, kth_perm p k]
  split
  · exact ⟨p, rfl⟩
  · exact ⟨low_perm p _, rfl⟩
/-! ### sums of drawers -/
def sumD (l m : Dk) : Dk := m.foldl (fun a p => put a p.1 ((lk a p.1).getD 0 + p.2)) l
theorem sumD_snoc (l m : Dk) (p : Str × Int) : sumD l (m ++ [p]) = put (sumD l m) p.1 ((lk (sumD l m) p.1).getD 0 + p.2) := by unfold sumD; rw [List.foldl_append]; rfl
theorem sumD_nil (l : Dk) : sumD l [] = l := rfl
theorem sumD_cons (l : Dk) (p : Str × Int) (m : Dk) : sumD l (p :: m) = sumD (put l p.1 ((lk l p.1).getD 0 + p.2)) m := rfl
theorem sumD_nd : ∀ {m l : Dk}, (keys l).Nodup → (keys (sumD l m)).Nodup
  | [], l, h => h
  | p :: m, l, h => sumD_nd (m := m) (nodup_put h _ _)
theorem sumD_pos : ∀ {m l : Dk}, (∀ p ∈ l, 0 < p.2) → (∀ p ∈ m, 0 < p.2) → ∀ p ∈ sumD l m, 0 < p.2
  | [], l, h, _ => h
  | p :: m, l, h, h2 => sumD_pos (m := m) (put_pos h (by have := getD_nn h p.1; have := h2 p (List.mem_cons_self ..); omega)) fun q hq => h2 q (List.mem_cons_of_mem _ hq)
theorem sumD_tot : ∀ {m l : Dk}, (keys l).Nodup → tot (sumD l m) = tot l + tot m
  | [], l, _ => by rw [sumD_nil, tot_nil]; omega
  | p :: m, l, h => by
    rw [sumD_cons, sumD_tot (m := m) (nodup_put h _ _), tot_put h, tot_cons]
    omega
theorem sumD_lk (n : Str) : ∀ {m l : Dk}, (keys m).Nodup → (lk (sumD l m) n).getD 0 = (lk l n).getD 0 + (lk m n).getD 0
  | [], l, _ => by show (lk l n).getD 0 = _ + 0; omega
  | p :: m, l, h => by
    have nd' : (keys m).Nodup := (List.nodup_cons.mp h).2
    have hp : p.1 ∉ keys m := (List.nodup_cons.mp h).1
    rw [sumD_cons, sumD_lk n nd', lk_put']
    show _ = _ + (if p.1 = n then some p.2 else lk m n).getD 0
    by_cases c : p.1 = n
    · have e : lk m n = none := lk_none.mpr (c ▸ hp)
      rw [if_pos c.symm, if_pos c, e, c]
      show (lk l n).getD 0 + p.2 + 0 = (lk l n).getD 0 + p.2
      omega
    · rw [if_neg (fun x => c x.symm), if_neg c]
theorem sumD_keys {n : Str} : ∀ {m l : Dk}, n ∈ keys (sumD l m) ↔ n ∈ keys l ∨ n ∈ keys m
  | [], l => by simp [sumD_nil, keys]
  | p :: m, l => by
    rw [sumD_cons, sumD_keys (m := m), keys_put]
    show _ ↔ _ ∨ n ∈ p.1 :: keys m
    split
    · rename_i h
      constructor
      · rintro (a | a)
        · exact .inl a
        · exact .inr (List.mem_cons_of_mem _ a)
      · rintro (a | a)
        · exact .inl a
        · rcases List.mem_cons.mp a with rfl | a
          · exact .inl h
          · exact .inr a
    · rw [List.mem_append, List.mem_singleton, List.mem_cons, or_assoc]
theorem sumD_len : ∀ {m l : Dk}, (sumD l m).length ≤ l.length + m.length
  | [], l => by simp [sumD_nil]
  | p :: m, l => by
    rw [sumD_cons]
    have := sumD_len (m := m) (l := put l p.1 ((lk l p.1).getD 0 + p.2))
    have := put_len_le l p.1 ((lk l p.1).getD 0 + p.2)
    rw [List.length_cons]
    omega
theorem nd_of_keys {l : Dk} (h : (keys l).Nodup) : l.Nodup := (List.pairwise_map.mp h).imp fun h e => h (by rw [e])
theorem perm_of_lk2 {l m : Dk} (h1 : (keys l).Nodup) (h2 : (keys m).Nodup) (h : ∀ n, lk l n = lk m n) : l.Perm m :=
  (List.perm_ext_iff_of_nodup (nd_of_keys h1) (nd_of_keys h2)).mpr fun p => ⟨fun hp => lk_mem ((h p.1).symm.trans (lk_of_mem h1 hp)), fun hp => lk_mem ((h p.1).trans (lk_of_mem h2 hp))⟩
theorem lk_of_getD {l m : Dk} (h1 : ∀ p ∈ l, 0 < p.2) (h2 : ∀ p ∈ m, 0 < p.2) {n : Str} (h : (lk l n).getD 0 = (lk m n).getD 0) : lk l n = lk m n := by
  cases e1 : lk l n with
  | none =>
    cases e2 : lk m n with
    | none => rfl
    | some y =>
      have := h2 _ (lk_mem e2)
      rw [e1, e2] at h
      have h : (0 : Int) = y := h
      have : 0 < y := this
      omega
  | some x =>
    have hx := h1 _ (lk_mem e1)
    cases e2 : lk m n with
    | none =>
      rw [e1, e2] at h
      have h : x = (0 : Int) := h
      have : 0 < x := hx
      omega
    | some y =>
      rw [e1, e2] at h
      exact congrArg some h
/-- the order of what is added up says nothing -/
theorem sumD_perm {l l' m m' : Dk} (nl : (keys l).Nodup) (nm : (keys m).Nodup) (pl : ∀ p ∈ l, 0 < p.2) (pm : ∀ p ∈ m, 0 < p.2) (hl : l.Perm l') (hm : m.Perm m') : (sumD l m).Perm (sumD l' m') := by
  have nl' : (keys l').Nodup := (keys_perm hl).nodup_iff.mp nl
  have nm' : (keys m').Nodup := (keys_perm hm).nodup_iff.mp nm
  have pl' : ∀ p ∈ l', 0 < p.2 := fun p h => pl p (hl.mem_iff.mpr h)
  have pm' : ∀ p ∈ m', 0 < p.2 := fun p h => pm p (hm.mem_iff.mpr h)
  refine perm_of_lk2 (sumD_nd nl) (sumD_nd nl') fun n => lk_of_getD (sumD_pos pl pm) (sumD_pos pl' pm') ?_
  rw [sumD_lk n nm, sumD_lk n nm', lk_perm nl hl n, lk_perm nm hm n]
def pourM (k : Nat) (s s' : DS) : DS := cutM k (sumD (srt s.l) (srt s'.l)) (s.g + s'.g) (s.t + s'.t)
theorem srt_ok {k : Nat} {l : Dk} (o : Ok k l) : Ok k (srt l) := ⟨(keys_perm (srt_perm l)).nodup_iff.mpr o.nd, fun p hp => o.pos p ((srt_perm l).mem_iff.mp hp), by rw [(srt_perm l).length_eq]; exact o.len⟩
theorem pour_ok {k k' j : Nat} {s s' : DS} (o : Ok k s.l) (o' : Ok k' s'.l) : Ok j (pourM j s s').l :=
  cut_ok (sumD_nd (srt_ok o).nd) (sumD_pos (srt_ok o).pos (srt_ok o').pos)
theorem pour_keys {k : Nat} {s s' : DS} {n : Str} (h : n ∈ keys (pourM k s s').l) : n ∈ keys s.l ∨ n ∈ keys s'.l := by
  rcases sumD_keys.mp (cut_keys h) with h | h
  · exact .inl ((keys_perm (srt_perm _)).mem_iff.mp h)
  · exact .inr ((keys_perm (srt_perm _)).mem_iff.mp h)
end DK
set_option Elab.async false
set_option linter.all false
set_option maxRecDepth 100000
/-! a desk that was poured: what it tells holds the true numbers between -/
namespace DK
open PySem L2 PyProof.Rows
structure Hd (k : Nat) (s : DS) (tr : Dk) : Prop where
  O : Ok k s.l
  nd : (keys tr).Nodup
  pos : ∀ p ∈ tr, 0 < p.2
  sum : tot s.l + ((k : Int) + 1) * s.g ≤ s.t
  all : tot tr = s.t
  g0 : 0 ≤ s.g
  lo : ∀ n, leastM s n ≤ (lk tr n).getD 0
  hi : ∀ n, (lk tr n).getD 0 ≤ leastM s n + s.g
theorem Hd.nil (k : Nat) : Hd k ⟨[], 0, 0⟩ [] :=
  ⟨ok_nil k, List.nodup_nil, fun _ h => (List.not_mem_nil h).elim, (by show tot [] + _ * (0 : Int) ≤ 0; rw [tot_nil, Int.mul_zero]; decide), rfl, Int.le_refl _, fun _ => Int.le_refl _, fun _ => Int.le_refl _⟩
theorem Hd.come {k : Nat} {s : DS} {tr : Dk} {n : Str} {w : Int} (b : Hd k s tr) (hw : 0 < w) (hk : 0 < k) : Hd k (comeM k s n w) (put tr n ((lk tr n).getD 0 + w)) := by
  have O' := come_ok (n := n) b.O hw hk
  have tn := getD_nn b.pos n
  have pos' : ∀ p ∈ put tr n ((lk tr n).getD 0 + w), 0 < p.2 := put_pos b.pos (by omega)
  have all' : tot (put tr n ((lk tr n).getD 0 + w)) = s.t + w := by
    rw [tot_put b.nd, b.all]
    omega
  have ge := put_len_ge tr n ((lk tr n).getD 0 + w)
  have et : (comeM k s n w).t = s.t + w := by
    unfold comeM
    split
    · rfl
    · split <;> rfl
  cases e : lk s.l n with
  | some y =>
    have ec : comeM k s n w = ⟨put s.l n (y + w), s.g, s.t + w⟩ := by unfold comeM; rw [e]
    have ls : ∀ m, leastM (comeM k s n w) m = if m = n then leastM s n + w else leastM s m := fun m => by
      rw [ec]
      show (lk (put s.l n (y + w)) m).getD 0 = _
      rw [lk_put']
      unfold leastM
      rw [e]
      rfl
    refine ⟨O', nodup_put b.nd _ _, pos', ?_, all'.trans et.symm, by rw [ec]; exact b.g0, fun m => ?_, fun m => ?_⟩
    · rw [ec]
      show tot (put s.l n (y + w)) + _ * s.g ≤ s.t + w
      rw [tot_put b.O.nd, e]
      have := b.sum
      show tot s.l + (y + w) - y + _ ≤ _
      omega
    · rw [ls, lk_put']
      have h1 := b.lo m
      have h2 := b.lo n
      by_cases c : m = n
      · rw [if_pos c, if_pos c]; omega
      · rw [if_neg c, if_neg c]; exact h1
    · rw [ls, lk_put']
      have h1 := b.hi m
      have h2 := b.hi n
      have eg : (comeM k s n w).g = s.g := by rw [ec]
      rw [eg]
      by_cases c : m = n
      · rw [if_pos c, if_pos c]; omega
      · rw [if_neg c, if_neg c]; exact h1
  | none =>
    have l0 : leastM s n = 0 := by unfold leastM; rw [e]; rfl
    by_cases cl : s.l.length < k
    · have ec : comeM k s n w = ⟨s.l ++ [(n, w)], s.g, s.t + w⟩ := by unfold comeM; rw [e]; dsimp only; rw [if_pos cl]
      have ls : ∀ m, leastM (comeM k s n w) m = if m = n then leastM s n + w else leastM s m := fun m => by
        rw [ec, l0]
        show (lk (s.l ++ [(n, w)]) m).getD 0 = _
        rw [← put_new w e, lk_put']
        unfold leastM
        rw [show (0 : Int) + w = w by omega]
      refine ⟨O', nodup_put b.nd _ _, pos', ?_, all'.trans et.symm, by rw [ec]; exact b.g0, fun m => ?_, fun m => ?_⟩
      · rw [ec]
        show tot (s.l ++ [(n, w)]) + _ * s.g ≤ s.t + w
        rw [tot_append, tot_cons, tot_nil]
        have := b.sum
        show tot s.l + (w + 0) + _ ≤ _
        omega
      · rw [ls, lk_put']
        have h1 := b.lo m
        have h2 := b.lo n
        by_cases c : m = n
        · rw [if_pos c, if_pos c]; omega
        · rw [if_neg c, if_neg c]; exact h1
      · rw [ls, lk_put']
        have h1 := b.hi m
        have h2 := b.hi n
        have eg : (comeM k s n w).g = s.g := by rw [ec]
        rw [eg]
        by_cases c : m = n
        · rw [if_pos c, if_pos c]; omega
        · rw [if_neg c, if_neg c]; exact h1
    · have hlen : s.l.length = k := by have := b.O.len; omega
      obtain ⟨z1, z2, z3⟩ := lss_spec s.l w
      have z0 : 0 < lss s.l w := by
        rcases z3 with h | ⟨p, hp, h⟩
        · omega
        · have := b.O.pos p hp; omega
      have ec : comeM k s n w = ⟨if lss s.l w < w then low s.l (lss s.l w) ++ [(n, w - lss s.l w)] else low s.l (lss s.l w), s.g + lss s.l w, s.t + w⟩ := by
        unfold comeM; rw [e]; dsimp only; rw [if_neg cl]
      generalize lss s.l w = z at *
      have nl : lk (low s.l z) n = none := lk_none.mpr fun h => lk_none.mp e (keys_low_sub h)
      have ls : ∀ m, leastM (comeM k s n w) m = if m = n then w - z else (if m ∈ keys s.l then leastM s m - z else 0) := fun m => by
        have lw : (lk (low s.l z) m).getD 0 = if m ∈ keys s.l then leastM s m - z else 0 := by
          rw [lk_low b.O.nd]
          unfold leastM
          cases em : lk s.l m with
          | none =>
            rw [if_neg (lk_none.mp em)]
            rfl
          | some y =>
            have hm : m ∈ keys s.l := Classical.byContradiction fun h => by rw [lk_none.mpr h] at em; cases em
            rw [if_pos hm]
            have := z2 _ (lk_mem em)
            show (if z < y then some (y - z) else none).getD 0 = y - z
            by_cases c : z < y
            · rw [if_pos c]; rfl
            · rw [if_neg c]
              show (0 : Int) = y - z
              have h3 : z ≤ y := this
              omega
        rw [ec]
        show (lk (if z < w then low s.l z ++ [(n, w - z)] else low s.l z) m).getD 0 = _
        by_cases c1 : z < w
        · rw [if_pos c1, ← put_new (w - z) nl, lk_put', lw]
        · rw [if_neg c1, lw]
          by_cases c : m = n
          · rw [if_pos c, if_neg (by rw [c]; exact lk_none.mp e)]
            omega
          · rw [if_neg c]
      have gg : (comeM k s n w).g = s.g + z := by rw [ec]
      refine ⟨O', nodup_put b.nd _ _, pos', ?_, all'.trans et.symm, by rw [gg]; have := b.g0; omega, fun m => ?_, fun m => ?_⟩
      · have e1 : tot (comeM k s n w).l = tot (low s.l z) + (w - z) := by
          rw [ec]
          show tot (if z < w then low s.l z ++ [(n, w - z)] else low s.l z) = _
          by_cases c1 : z < w
          · rw [if_pos c1, tot_append, tot_cons, tot_nil]
            show _ + (w - z + 0) = _
            omega
          · rw [if_neg c1]
            omega
        rw [e1, gg, et, tot_low z2, hlen, Int.mul_add, Int.add_mul (k : Int) 1 z, Int.mul_comm z (k : Int)]
        have := b.sum
        omega
      · rw [ls, lk_put']
        have h1 := b.lo m
        have h2 := b.lo n
        have h3 := getD_nn b.pos m
        by_cases c : m = n
        · rw [if_pos c, if_pos c]; omega
        · rw [if_neg c, if_neg c]
          by_cases c2 : m ∈ keys s.l
          · rw [if_pos c2]; omega
          · rw [if_neg c2]; exact h3
      · rw [ls, lk_put', gg]
        have h1 := b.hi m
        have h2 := b.hi n
        by_cases c : m = n
        · rw [if_pos c, if_pos c]; omega
        · rw [if_neg c, if_neg c]
          by_cases c2 : m ∈ keys s.l
          · rw [if_pos c2]; omega
          · rw [if_neg c2]
            have h4 : leastM s m = 0 := by unfold leastM; rw [lk_none.mpr c2]; rfl
            omega
/-- a share above all weight by drawers and one stands among those shown -/
theorem Hd.heavy {k : Nat} {s : DS} {tr : Dk} {n : Str} (b : Hd k s tr) (h : s.t < (lk tr n).getD 0 * ((k : Int) + 1)) : n ∈ maybeM k s := by
  have h1 := b.hi n
  have k0 : (0 : Int) ≤ (k : Int) + 1 := by omega
  have tl : 0 ≤ tot s.l := by
    have : ∀ l : Dk, (∀ p ∈ l, 0 < p.2) → 0 ≤ tot l := by
      intro l
      induction l with
      | nil => intro _; exact Int.le_refl _
      | cons p l ih =>
        intro hp
        rw [tot_cons]
        have := hp p (List.mem_cons_self ..)
        have := ih fun q hq => hp q (List.mem_cons_of_mem _ hq)
        omega
    exact this _ b.O.pos
  have h2 := Int.mul_le_mul_of_nonneg_right h1 k0
  refine List.mem_filter.mpr ⟨?_, decide_eq_true (Int.lt_of_lt_of_le h h2)⟩
  refine (keys_perm (srt_perm s.l)).mem_iff.mpr (Classical.byContradiction fun hn => ?_)
  have l0 : leastM s n = 0 := by unfold leastM; rw [lk_none.mpr hn]; rfl
  rw [l0] at h2
  have e : (0 + s.g) * ((k : Int) + 1) = ((k : Int) + 1) * s.g := by rw [Int.zero_add, Int.mul_comm]
  rw [e] at h2
  have := b.sum
  omega
theorem tot_srt (l : Dk) : tot (srt l) = tot l := tot_perm (srt_perm l)
/-- the cut keeps the numbers between -/
theorem Hd.cut {k : Nat} {l tr : Dk} {g t : Int} (nd : (keys l).Nodup) (hp : ∀ p ∈ l, 0 < p.2) (nt : (keys tr).Nodup) (pt : ∀ p ∈ tr, 0 < p.2) (hs : tot l + ((k : Int) + 1) * g ≤ t) (ha : tot tr = t) (hg : 0 ≤ g)
    (lo : ∀ n, (lk l n).getD 0 ≤ (lk tr n).getD 0) (hi : ∀ n, (lk tr n).getD 0 ≤ (lk l n).getD 0 + g) : Hd k (cutM k l g t) tr := by
  by_cases c : l.length ≤ k
  · rw [cut_same c]
    exact ⟨⟨nd, hp, c⟩, nt, pt, hs, ha, hg, lo, hi⟩
  · have z0 := kth_pos (by omega : k < l.length) hp
    have ec : cutM k l g t = ⟨low l (kth l k), g + kth l k, t⟩ := by unfold cutM; rw [if_neg c]
    have O := cut_ok (k := k) (g := g) (t := t) nd hp
    have few : ((k : Int) + 1) * kth l k + tot (low l (kth l k)) ≤ tot l := by
      rw [tot_low_ex, ← sum_perm ((fallI_perm (vals l)).map (ex (kth l k))), show tot l = (vals l).sum from rfl, ← sum_perm (fallI_perm (vals l))]
      refine fall_sum (Int.le_of_lt z0) (fallI_pw _) (fun v hv => ?_) (kth_at (by omega))
      obtain ⟨p, h1, rfl⟩ := List.mem_map.mp ((fallI_perm _).mem_iff.mp hv)
      exact Int.le_of_lt (hp p h1)
    rw [ec] at O ⊢
    generalize kth l k = z at *
    have ls : ∀ n, (lk (low l z) n).getD 0 ≤ (lk l n).getD 0 ∧ (lk l n).getD 0 ≤ (lk (low l z) n).getD 0 + z := fun n => by
      rw [lk_low nd]
      cases e : lk l n with
      | none => exact ⟨Int.le_refl _, by show (0 : Int) ≤ 0 + z; omega⟩
      | some y =>
        have hy : 0 < y := hp _ (lk_mem e)
        show (if z < y then some (y - z) else none).getD 0 ≤ y ∧ y ≤ (if z < y then some (y - z) else none).getD 0 + z
        by_cases c2 : z < y
        · rw [if_pos c2]
          show y - z ≤ y ∧ y ≤ y - z + z
          omega
        · rw [if_neg c2]
          show (0 : Int) ≤ y ∧ y ≤ 0 + z
          omega
    refine ⟨O, nt, pt, ?_, ha, by show 0 ≤ g + z; omega, fun n => Int.le_trans (ls n).1 (lo n), fun n => ?_⟩
    · show tot (low l z) + ((k : Int) + 1) * (g + z) ≤ t
      rw [Int.mul_add]
      omega
    · have h1 := hi n
      have h2 := (ls n).2
      show _ ≤ (lk (low l z) n).getD 0 + (g + z)
      omega
theorem Hd.pour {k : Nat} {s s' : DS} {tr tr' : Dk} (a : Hd k s tr) (b : Hd k s' tr') : Hd k (pourM k s s') (sumD tr tr') := by
  have n1 := srt_ok a.O
  have n2 := srt_ok b.O
  have e1 : ∀ n, (lk (sumD (srt s.l) (srt s'.l)) n).getD 0 = leastM s n + leastM s' n := fun n => by
    rw [sumD_lk n n2.nd, lk_perm n1.nd (srt_perm s.l), lk_perm n2.nd (srt_perm s'.l)]
    rfl
  refine Hd.cut (sumD_nd n1.nd) (sumD_pos n1.pos n2.pos) (sumD_nd a.nd) (sumD_pos a.pos b.pos) ?_ ?_ (by have := a.g0; have := b.g0; omega) (fun n => ?_) fun n => ?_
  · rw [sumD_tot n1.nd, tot_srt, tot_srt, Int.mul_add]
    have := a.sum
    have := b.sum
    omega
  · rw [sumD_tot a.nd, a.all, b.all]
  · rw [e1, sumD_lk n b.nd]
    have := a.lo n
    have := b.lo n
    omega
  · rw [e1, sumD_lk n b.nd]
    have := a.hi n
    have := b.hi n
    omega
theorem Hd.small {k j : Nat} {s : DS} {tr : Dk} (a : Hd k s tr) (h : j ≤ k) : Hd j (cutM j (srt s.l) s.g s.t) tr := by
  have n1 := srt_ok a.O
  refine Hd.cut n1.nd n1.pos a.nd a.pos ?_ a.all a.g0 (fun n => ?_) fun n => ?_
  · rw [tot_srt]
    have h1 := a.sum
    have h2 : ((j : Int) + 1) * s.g ≤ ((k : Int) + 1) * s.g := Int.mul_le_mul_of_nonneg_right (by omega) a.g0
    omega
  · rw [lk_perm n1.nd (srt_perm s.l)]
    exact a.lo n
  · rw [lk_perm n1.nd (srt_perm s.l)]
    exact a.hi n
end DK
set_option Elab.async false
set_option linter.all false
set_option maxRecDepth 100000
set_option maxHeartbeats 4000000
/-! a caught error that is kept behind its clause -/
namespace DK
open PySem PySem.Spec PyProof.Rows L2
/-- an exception object of ours at a, of class cls -/
def ExK (cls : Value) (d : Option Addr) (a : Addr) : HO := .ext fun h => ∃ (oe : Obj) (vs : Array Value), h.get? a = some oe ∧ Zc cls d oe ∧ oe.data = .fields vs
theorem exK_ok {P : Program} {w : World} {H : Hp} {h : Heap} {a : Addr} {cls : Value} {d : Option Addr} {oe : Obj} {vs : Array Value} (e : h.get? a = some oe) (z : Zc cls d oe) (f : oe.data = .fields vs) : ObjOk P w H h a (ExK cls d a) :=
  ⟨⟨oe, vs, e, z, f⟩, ⟨oe, e⟩, fun _ _ ⟨o, v, q, r⟩ k => ⟨o, v, k o q, r⟩⟩
section
variable {X : Cx} {pins : List (Addr × Obj)} {σ : L2.St} {H : Hp} {s : Shared}
/-- an object of ours that was not looked after is looked after from here on -/
theorem Inv.track {a : Addr} {o : HO} (I : Inv X pins σ H s) (hn : H a = none) (h0 : X.s_0.heap.get? a = none) (hL : a ≠ X.env.locals) (hc : ∀ x c, X.env.cells.lookup x = some c → c ≠ a) (hp : ∀ p ∈ X.pn ++ pins, p.1 ≠ a)
    (new : ObjOk X.prog X.w (upd H a o) s.heap a o) : Inv X pins σ (upd H a o) s := by
  have nb : ∀ {b : Addr} {u : Obj}, X.s_0.heap.get? b = some u → b ≠ a := fun e z => by rw [z, h0] at e; cases e
  refine ⟨I.ok, I.os, I.bare, ⟨I.base.keep, I.base.slot, fun b u q n x => ?_, I.base.there, fun b xs q => ?_, fun b u v q => ?_, fun b ps q => ?_⟩, I.loc, I.cell, ?_, fun x c e => ?_, fun p h => ?_, fun b u e => ?_, I.len⟩
  · rw [upd_ne (nb q)]
    exact I.base.free b u q n x
  · have z := I.base.tups b xs q
    rw [upd_ne (ne_of_none z hn)]
    exact z
  · have z := I.base.frzs b u v q
    rw [upd_ne (ne_of_none z hn)]
    exact z
  · obtain ⟨more, z⟩ := I.base.tbls b ps q
    exact ⟨more, by rw [upd_ne (ne_of_none z hn)]; exact z⟩
  · rw [upd_ne hL.symm]
    exact I.free
  · rw [upd_ne (hc x c e)]
    exact I.freeC x c e
  · obtain ⟨g1, g2, g3⟩ := I.pin p h
    exact ⟨g1, by rw [upd_ne (hp p h)]; exact g2, g3⟩
  · by_cases hb : b = a
    · subst hb
      rw [upd_same] at e
      cases e
      exact new
    · rw [upd_ne hb] at e
      exact (I.hok b u e).stay (fun _ _ _ q => q) (fun c q => by rw [upd_ne (ne_of_none q hn)]; exact q) fun c xs q => by rw [upd_ne (ne_of_none q hn)]; exact q
end
/-- what an 'except x as n' that keeps the error wishes of the body's exception -/
def wKeep (K : PySem.W.Frag) (c : Value) (i : Nat) (ts : Addr → Value → Option Addr → TS) (Wout : WX) (D : Ends) : WX := fun cls d σ H =>
  ∃ b, PySem.W.exmOne K cls c = some b ∧ (b = true → ∀ a, H a = none → ts a cls d { D with nx := fun σ' H' => H' a = none → D.nx (σ'.set i none) (upd H' a (ExK cls d a)), bk := fun σ' H' => D.bk (σ'.set i none) H', ct := fun σ' H' => D.ct (σ'.set i none) H' } (σ.set i (some (.ref a))) H) ∧
    (b = false → Wout cls d σ H)
section
variable {X : Cx} {x n : Str} {c : Value} {i : Nat} {body suite : List Stmt} {b₀ : Stmt} {np pos pos' : Pos} {tb : WX → TS} {ts : Addr → Value → Option Addr → TS} {Wout : WX}
theorem ps_try_keep (hst : X.stack = X.env :: X.outer) (hfl : X.env.frame = some X.env.locals) (hex : X.ex = []) (hN : X.N.Nodup) (hi : X.N[i]? = some n) (hln : X.env.kindOf n = some .local) (hc : Names X x c) (tk : Takes X Wout)
    (hb : ∀ (W : WX) (pn : List (Addr × Obj)) (xe : Value → Shared → Prop), Takes (X.tr pn xe) W → PassesOwn (model X.prog X.w) X.A X.env xe → PSs (X.tr pn xe) body (tb W))
    (hsu : ∀ (a : Addr) (oe : Obj) (cls : Value) (d : Option Addr) (pn : List (Addr × Obj)), Zc cls d oe → (∃ vs, oe.data = .fields vs) → PSs (X.suite a ((a, oe) :: pn)) (b₀ :: suite) (ts a cls d)) :
    PS X (.Try body [.ExceptHandler (some (.Name x np)) (some n) (b₀ :: suite) pos'] [] [] pos) (fun D σ H => tb (wKeep X.K c i ts Wout D) D σ H) := by
  refine ⟨fun pins s σ H D I rd => ?_⟩
  have okX := I.ok
  have hfrm : X.A.frames = some (X.env :: X.outer) := by rw [okX.frames, hst]
  have hloc : Loc X.env.scope n := .inl hln
  refine wpAny_Try_except (wpAny_mono ((hb (wKeep X.K c i ts Wout D) (X.pn ++ pins) (fun e t₁ => wpAny (model X.prog X.w) X.A (noteFrame e X.env) (fun _ t₂ => wpAny (model X.prog X.w) X.A (setFlight e none) (fun _ t₃ =>
    wpAny (model X.prog X.w) X.A (handleBy e X.env [.ExceptHandler (some (.Name x np)) (some n) (b₀ :: suite) pos']) (SP X pins D) X.xe t₃) X.xe t₂) X.xe t₁) (fun u t xx => ?_) PassesOwn.looking).run [] s σ H D (I.toTry _) rd) (fun f s1 hsp => ?_) (fun e s1 he => he))
  · -- caught
    obtain ⟨a, B, sB, pins', σB, HB, cls, d, rfl, JB, inB, upB, skyB, na, osB, agB, b, hb1, hyes, hno⟩ := xx
    have J0 : Inv X pins σB HB sB := JB.ofTry okX
    have sky' : Sky B (X.env :: X.outer) a (Zc cls d) X.env.locals t.heap := by rw [← hst]; exact skyB
    show wpAny (model X.prog X.w) X.A (noteFrame (.ref a) X.env) _ _ _
    refine Sky.land Zc.steady hfrm hfl sky' fun g3 fl3 up3 => ?_
    have J3 : Inv X pins σB HB { t with heap := g3 } := J0.landed inB fl3.1 (upB.trans up3) osB agB
    obtain ⟨oe3, vs3, he3, hz3, hd3⟩ := fl3.there
    have nfr : a ∉ frs (X.env :: X.outer) := fun hm => by
      obtain ⟨_, o', e', hnf⟩ := fl3.2.2.1.mem hm
      rw [he3] at e'
      cases e'
      exact hnf _ hd3
    have nL : a ≠ X.env.locals := fun z => nfr (List.mem_filterMap.mpr ⟨X.env, List.mem_cons_self, by rw [hfl, z]⟩)
    have nF : a ∉ X.fs := fun hm => by
      obtain ⟨e, he, q⟩ := List.mem_filterMap.mp hm
      exact nfr (List.mem_filterMap.mpr ⟨e, List.mem_cons_of_mem _ he, q⟩)
    have hB : sB.heap.get? a = none := by
      cases e : sB.heap.get? a with
      | none => rfl
      | some o =>
        have z := inB a o e (by rw [hst]; exact nfr)
        rw [fl3.2.1] at z
        cases z
    have h0 : X.s_0.heap.get? a = none := by
      cases e : X.s_0.heap.get? a with
      | none => rfl
      | some o =>
        obtain ⟨o', z⟩ := J0.base.there a o e (by rw [hex]; exact fun z => nomatch z)
        rw [hB] at z
        cases z
    have hcell : ∀ y c', X.env.cells.lookup y = some c' → c' ≠ a := fun y c' e z => by
      obtain ⟨v, o, ho, _⟩ := J0.cell y c' e
      rw [z, hB] at ho
      cases ho
    have hpin : ∀ p ∈ X.pn ++ pins, p.1 ≠ a := fun p h z => by
      have q := (J0.pin p h).1
      rw [z, hB] at q
      cases q
    have S3 := J3.suite he3 hd3 na nL nF
    refine wpAny_handleBy_cons (codeAny_handlers_test ?_) (by intro q; cases q)
    have LT : PySem.W.Looks (model X.prog X.w) g3 (typeOf (.ref a)) cls := fun A Q E s k q => wpAny_typeOf_ref (k _ _ he3) (by rw [hz3.1]; exact q)
    have LM := PySem.W.exm_one (M := model X.prog X.w) (J3.kIn) LT hb1
    have tested : ∀ {Q E : Value → Shared → Prop}, Q c { t with heap := g3 } → wpAny (model X.prog X.w) (X.A.mark (some (.ref a))) (eval (.Name x np) X.env) Q E { t with heap := g3 } := fun {Q E} q => by
      obtain ⟨hg, hdbg, hm | ⟨hm, hv, hnn⟩⟩ := hc
      · exact ld_glob (X := X.suite a ((a, oe3) :: (X.pn ++ pins))) S3 hg hm q hdbg
      · exact ld_blt (X := X.suite a ((a, oe3) :: (X.pn ++ pins))) S3 hg hm hv q hnn hdbg
    refine tested (LM.here ?_)
    cases b with
    | true =>
      refine codeAny_handlers_suite_as (HandSPX.lands_againZ fl3 fun g4 fl4 up4 => ?_)
      have J4 : Inv X pins σB HB { t with heap := g4 } := J0.landed inB fl4.1 ((upB.trans up3).trans up4) osB agB
      obtain ⟨oe4, vs4, he4, hz4, hd4⟩ := fl4.there
      have S4 := J4.suite he4 hd4 na nL nF
      refine store_ok (X := X.suite a ((a, oe4) :: (X.pn ++ pins))) (v := .ref a) S4 hN hi hloc rfl (fun s5 S5 => wpAny_mono ((hsu a oe4 cls d (X.pn ++ pins) hz4 ⟨_, hd4⟩).run [] s5 _ HB _ S5 (hyes rfl a na)) (fun f s6 hsp => ?_) (fun _ _ z => False.elim z)) (.inr hln)
      have past : ∀ {σ6 : L2.St} {H6 : Hp} {Q : Shared → Prop}, Inv (X.suite a ((a, oe4) :: (X.pn ++ pins))) [] σ6 H6 s6 → (∀ s7, Inv X pins (σ6.set i none) H6 s7 → Q s7) →
          wpAny (model X.prog X.w) X.A (do bindName X.env n .none; unbindBehindTheSuite X.env n pos') (fun _ s7 => Q s7) X.xe s6 := fun {σ6 H6 Q} S6 hq => gone_ok (S6.unsuite okX) hN hi hln hq
      cases f with
      | next =>
        obtain ⟨σ6, H6, S6, q6⟩ := hsp
        refine gone_ok (X := X.suite a ((a, oe4) :: (X.pn ++ pins))) S6 hN hi hln fun s7 S7 => ?_
        obtain ⟨p1, p2, _⟩ := S7.pin (a, oe4) (List.mem_append_left _ List.mem_cons_self)
        exact ⟨_, _, Inv.track (S7.unsuite okX) p2 h0 nL hcell hpin (exK_ok p1 hz4 hd4), q6 p2⟩
      | brk =>
        obtain ⟨σ6, H6, S6, q6⟩ := hsp
        exact past S6 fun s7 J7 => ⟨_, _, J7, q6⟩
      | cont =>
        obtain ⟨σ6, H6, S6, q6⟩ := hsp
        exact past S6 fun s7 J7 => ⟨_, _, J7, q6⟩
      | ret u =>
        obtain ⟨v6, σ6, H6, S6, r6, q6⟩ := hsp
        refine past S6 fun s7 J7 => ⟨_, _, _, J7, r6, q6⟩
    | false =>
      show wpAny _ X.A (handleBy (.ref a) X.env []) _ _ _
      refine wpAny_handleBy_nil ?_
      obtain ⟨k1, k2, k3, oe, vs, T, oT, ts', he, hz, hd, h1, hr⟩ := id fl3
      unfold PySem.passOn
      refine wpAny_bind (wpAny_field he hd h1 ?_)
      rw [if_neg (show ¬ ((Value.ref T == Value.none) = true) from by simp)]
      have last : wpAny (model X.prog X.w) X.A (setFlight (.ref a) X.env.frame) (fun _ t4 => wpAny (model X.prog X.w) X.A (throw (.ref a) : Sem Flow) (SP X pins D) X.xe t4) X.xe { t with heap := g3 } := by
        rw [hfl]
        refine HandSPX.setFlight_upZ fl3 fun g4 hh4 up4 => wpAny_throw (tk _ _ ?_)
        exact ⟨a, B, sB, pins, σB, HB, cls, d, rfl, J0, inB, (upB.trans up3).trans up4, .inr (.inr (by rw [hst]; exact hh4)), na, osB, agB, hno rfl⟩
      first
        | exact wpAny_bind (wpAny_pure (wpAny_bind last))
        | exact wpAny_bind last
  · cases f with
    | next =>
      obtain ⟨σ1, H1, J1, q⟩ := hsp
      exact wpAny_execs_nil ⟨σ1, H1, J1.ofTry okX, q⟩
    | brk =>
      obtain ⟨σ1, H1, J1, q⟩ := hsp
      exact ⟨σ1, H1, J1.ofTry okX, q⟩
    | cont =>
      obtain ⟨σ1, H1, J1, q⟩ := hsp
      exact ⟨σ1, H1, J1.ofTry okX, q⟩
    | ret u =>
      obtain ⟨v, σ1, H1, J1, r, q⟩ := hsp
      exact ⟨v, σ1, H1, J1.ofTry okX, r, q⟩
end
/-! ### isinstance of a kept error -/
def rIsK (K : PySem.W.Frag) : List V → Hp → VK → Prop := fun xs H Q => ∃ (a D C : Addr) (b : Bool), xs = [.ref a, .ref C] ∧ H a = some (ExK (.ref D) none a) ∧ ExcC K D ∧ PySem.W.kitOne K (.ref D) (.ref C) = some b ∧ Q (.bl b) H
def rIsKT (K : PySem.W.Frag) : List V → Hp → VK → Prop := fun xs H Q => ∃ (a D tp : Addr) (cs : List V) (us : List Value) (b : Bool), xs = [.ref a, .ref tp] ∧ H tp = some (.tup cs) ∧ Paired ClsV cs us ∧ H a = some (ExK (.ref D) none a) ∧ ExcC K D ∧ PySem.W.kitAny K (.ref D) us = some b ∧ Q (.bl b) H
section
variable {X : Cx}
theorem inst_of {P : Program} {w : World} {H : Hp} {h : Heap} {a D : Addr} (o : ObjOk P w H h a (ExK (.ref D) none a)) : ∃ oe, PySem.W.InstAt h a oe D none := by
  obtain ⟨⟨oe, vs, e, z, f⟩, _, _⟩ := o
  refine ⟨oe, ?_⟩
  obtain ⟨oc, od, oda, osl⟩ := oe
  obtain ⟨z1, z2⟩ := z
  dsimp only at z1 z2 f
  subst z1 z2 f
  exact ⟨e, rfl, rfl, trivial⟩
theorem call_isK : CallR X (.builtin "isinstance") (rIsK X.K) := by
  intro pins s σ H xs us Q I r h
  obtain ⟨a, D, C, b, rfl, ha, hC, e, q⟩ := h
  obtain ⟨u1, u2, rfl, r1, r2⟩ := vals2 r
  cases (show u1 = Value.ref a from r1)
  cases (show u2 = Value.ref C from r2)
  obtain ⟨oe, J⟩ := inst_of (show ObjOk X.prog X.w H s.heap a (ExK (.ref D) none a) from I.hok a _ ha)
  exact PySem.W.kia_one (PySem.W.handS_kitx_exc hC.hg hC.hk hC.hs hC.hd hC.ha hC.hn hC.ht hC.hm) I.kIn J e (fun z => nomatch z) fun tk => ⟨.bl b, H, I.tok tk, rfl, q⟩
theorem call_isKT : CallR X (.builtin "isinstance") (rIsKT X.K) := by
  intro pins s σ H xs us Q I r h
  obtain ⟨a, D, tp, cs, ws, b, rfl, hT, k, ha, hC, e, q⟩ := h
  obtain ⟨u1, u2, rfl, r1, r2⟩ := vals2 r
  cases (show u1 = Value.ref a from r1)
  cases (show u2 = Value.ref tp from r2)
  obtain ⟨oe, J⟩ := inst_of (show ObjOk X.prog X.w H s.heap a (ExK (.ref D) none a) from I.hok a _ ha)
  obtain ⟨_, its, rv, o, h1, h2, n, h3⟩ := (show ObjOk X.prog X.w H s.heap tp (.tup cs) from I.hok tp _ hT)
  have e3 := ClsV.all k rv
  subst e3
  obtain ⟨oc, od, dt, sl⟩ := o
  simp only at h2 h3
  subst h2 h3
  exact PySem.W.kia_tup (PySem.W.handS_kitx_exc hC.hg hC.hk hC.hs hC.hd hC.ha hC.hn hC.ht hC.hm) I.kIn J h1 e (fun z => nomatch z) fun tk => ⟨.bl b, H, I.tok tk, rfl, q⟩
end
end DK
set_option Elab.async false
set_option linter.all false
set_option maxRecDepth 100000
/-! the order of the drawers says nothing -/
namespace DK
open PySem PySem.Spec PyProof.Rows L2
/-- alike but for the order -/
structure Alk (s s' : DS) : Prop where
  l : s.l.Perm s'.l
  g : s.g = s'.g
  t : s.t = s'.t
theorem Alk.refl (s : DS) : Alk s s := ⟨.refl _, rfl, rfl⟩
theorem lss_perm {l m : Dk} (p : l.Perm m) (w : Int) : lss l w = lss m w := by
  obtain ⟨a1, a2, a3⟩ := lss_spec l w
  obtain ⟨b1, b2, b3⟩ := lss_spec m w
  have h1 : lss l w ≤ lss m w := by
    rcases b3 with h | ⟨q, hq, h⟩
    · rw [h]; exact a1
    · rw [h]; exact a2 q (p.mem_iff.mpr hq)
  have h2 : lss m w ≤ lss l w := by
    rcases a3 with h | ⟨q, hq, h⟩
    · rw [h]; exact b1
    · rw [h]; exact b2 q (p.mem_iff.mp hq)
  omega
theorem put_perm {l m : Dk} (nd : (keys l).Nodup) (p : l.Perm m) (n : Str) (z : Int) : (put l n z).Perm (put m n z) :=
  perm_of_lk2 (nodup_put nd n z) (nodup_put ((keys_perm p).nodup_iff.mp nd) n z) fun k => by rw [lk_put, lk_put, lk_perm nd p k]
theorem Alk.come {k : Nat} {s s' : DS} (a : Alk s s') (nd : (keys s.l).Nodup) (n : Str) (w : Int) : Alk (comeM k s n w) (comeM k s' n w) := by
  obtain ⟨p, eg, et⟩ := a
  unfold comeM
  rw [← lk_perm nd p n]
  cases e : lk s.l n with
  | some z => exact ⟨put_perm nd p n (z + w), eg, by show s.t + w = s'.t + w; rw [et]⟩
  | none =>
    dsimp only
    rw [← p.length_eq]
    by_cases c : s.l.length < k
    · rw [if_pos c, if_pos c]
      exact ⟨p.append_right _, eg, by show s.t + w = s'.t + w; rw [et]⟩
    · rw [if_neg c, if_neg c, ← lss_perm p w]
      refine ⟨?_, by show s.g + _ = s'.g + _; rw [eg], by show s.t + w = s'.t + w; rw [et]⟩
      show (if _ then _ else _ : Dk).Perm (if _ then _ else _)
      by_cases c2 : lss s.l w < w
      · rw [if_pos c2, if_pos c2]
        exact (low_perm p _).append_right _
      · rw [if_neg c2, if_neg c2]
        exact low_perm p _
/-- what a law's own pouring leaves -/
def pourL (k : Nat) (s s' : DS) : DS := cutM k (sumD s.l s'.l) (s.g + s'.g) (s.t + s'.t)
theorem pour_alk {k i j : Nat} {s s' : DS} (o : Ok i s.l) (o' : Ok j s'.l) : Alk (pourM k s s') (pourL k s s') := by
  have p := sumD_perm (srt_ok o).nd (srt_ok o').nd (srt_ok o).pos (srt_ok o').pos (srt_perm s.l) (srt_perm s'.l)
  have := cut_perm (k := k) p (s.g + s'.g) (s.t + s'.t)
  exact ⟨this.1, this.2, by unfold pourM pourL; rw [cut_t, cut_t]⟩
theorem cut_alk {k i : Nat} {s : DS} (o : Ok i s.l) : Alk (cutM k (srt s.l) s.g s.t) (cutM k s.l s.g s.t) := by
  have := cut_perm (k := k) (srt_perm s.l) s.g s.t
  exact ⟨this.1, this.2, by rw [cut_t, cut_t]⟩
end DK
set_option Elab.async false
set_option linter.all false
set_option maxRecDepth 100000
set_option maxHeartbeats 4000000
/-! calls of methods and classes inside a try; a list made along two lists -/
namespace DK
open PySem PySem.Spec PyProof.Rows L2
section
variable {X : Cx} {CX : CXT} {k : Nat} {f C : Addr} {fd : FuncData} {ps : List Str} {sp : Sp} {W : L2.St → XK} {x m : Str} {p pos apos : Pos} {e o : Expr} {es : List Expr} {ta : TE} {t : TA}
def tMethS (C : Addr) (m : Str) (sp : Sp) (W : L2.St → XK) (ta : TE) (t : TA) : TE := fun σ H Q => ta σ H fun x H1 => ∃ a dx fs, x = .ref a ∧ H1 a = some (.ins C dx fs) ∧ fs.lookup m = none ∧ t σ H1 fun vs H2 => sp (x :: vs) H2 Q (W σ)
theorem pe_methS5 {pl : Sem Bool} (he : PE X o ta) (c : Cls X.K C) (hm : Meth X.K C m f) (F : FnOk X.prog X.w X.K X.mg X.base CX k f fd ps sp) (hr : Room k X.A) (hb : Binds X.K fd ps []) (hx : ∀ σ, PassesAt CX X σ (W σ)) (ha : PA X (e :: es) t)
    (hst : starEach (e :: es) X.env = (false, eval e X.env) :: starEach es X.env := by rfl) (hpl : (backTo pos (starEach es X.env)).any (·.1) = false := by rfl)
    (hev : eval (.Call (.Attribute o m apos) (e :: es) [] pos) X.env = (do
      let ov ← eval o X.env
      standAt apos.atName
      let (g, first) ← holding [ov] (getMethod ov m pl)
      callWith pos g first (backTo pos (starEach (e :: es) X.env)) (backToKw pos (keywordEach [] X.env))) := by rfl) :
    PE X (.Call (.Attribute o m apos) (e :: es) [] pos) (tMethS C m sp W ta t) := by
  refine ⟨fun pins s σ H Q I rd => ?_⟩
  refine PySem.W.methodCall_KW (pl := pl) (thn (he.run pins s σ H _ I rd) fun u s1 ⟨y, H1, I1, ry, a, dx, fs, ey, ea, l, q⟩ => ?_) hev
  subst ey
  obtain rfl : u = Value.ref a := ry
  refine getmeth_ok I1 ea c hm l (PySem.W.callWith_K (first := [.ref a]) (h₀ := X.base) I.ok.mod.kin hm.kp (thn (ha.run pos pins s1 σ H1 _ I1 q) fun us s2 ⟨vs, H2, I2, r, q2⟩ => ⟨I2.kIn, ?_⟩) hst hpl)
  exact run_fnS (us := .ref a :: us) (vs := .ref a :: vs) F hr hb (hx σ) I2 (.cons rfl r) q2
def tMakeS (C : Addr) (sp : Sp) (W : L2.St → XK) (t : TA) : TE := fun σ H Q => t σ H fun vs H1 => ∀ x dx, H1 x = none → H1 dx = none → dx ≠ x →
  sp (.ref x :: vs) (upd (upd H1 dx (.own x)) x (.ins C dx [])) (fun v H2 => v = .non ∧ Q (.ref x) H2) (W σ)
theorem run_makeS {pins : List (Addr × Obj)} {σ : L2.St} {H : Hp} {s : Shared} {Q : VK} {us : List Value} {vs : List V} (M : Mk X.K C f) (F : FnOk X.prog X.w X.K X.mg X.base CX k f fd ps sp) (hr : Room (k + 1) X.A) (hb : Binds X.K fd ps [])
    (hx : PassesAt CX X σ (W σ)) (I : Inv X pins σ H s) (r : Vals vs us)
    (rd : ∀ x dx, H x = none → H dx = none → dx ≠ x → sp (.ref x :: vs) (upd (upd H dx (.own x)) x (.ins C dx [])) (fun v H2 => v = .non ∧ Q (.ref x) H2) (W σ)) :
    wpAny (model X.prog X.w) X.A (call (.ref C) us) (EP X pins σ Q) X.xe s := by
  have rq := rd (s.heap.objs.size + 1) s.heap.objs.size (I.hok.fresh (Nat.le_succ _)) (I.hok.fresh (Nat.le_refl _)) (Nat.ne_of_lt (Nat.lt_succ_self _))
  have I2 := Inv.made (C := C) I
  have r2 : Vals (V.ref (s.heap.objs.size + 1) :: vs) (Value.ref (s.heap.objs.size + 1) :: us) := .cons rfl r
  have hl : (Value.ref (s.heap.objs.size + 1) :: us).length = ps.length := by
    have ee := r2.length
    rw [F.len _ _ _ _ rq] at ee
    exact ee.symm
  have bd := hb _ (Value.ref (s.heap.objs.size + 1) :: us) I2.kIn (by rw [List.append_nil]; exact hl)
  rw [List.append_nil] at bd
  refine wpAny_call (make_map (f := f) I.kIn M.makes M.init (beq_iff_eq.mp M.fn) (codeAny_mono (F.run _ X.stack _ _ ⟨Value.ref (s.heap.objs.size + 1) :: us, []⟩ (Value.ref (s.heap.objs.size + 1) :: us) _ _ (W σ) (hr.make C us [])
    (I2.env0.make C us []) bd r2 rq) fun r s' z => ?_))
  cases r with
  | error e => exact hx pins _ _ e s' I2 z
  | ok fl =>
    cases fl with
    | ret u =>
      obtain ⟨v, H', I3, rv, ev, q3⟩ := I2.after z
      subst ev
      exact ⟨rv, ⟨V.ref (s.heap.objs.size + 1), H', I3, rfl, q3⟩⟩
    | next => exact False.elim z
    | brk => exact False.elim z
    | cont => exact False.elim z
theorem pe_makeS (M : Mk X.K C f) (F : FnOk X.prog X.w X.K X.mg X.base CX k f fd ps sp) (hr : Room (k + 1) X.A) (hg : Gl X x) (hm : X.mg x = some (.ref C)) (hb : Binds X.K fd ps []) (hx : ∀ σ, PassesAt CX X σ (W σ))
    (ha : PA X (e :: es) t) (hdb : (x == ("__debug__" : Str)) = false := by decide) (he : starEach (e :: es) X.env = (false, eval e X.env) :: starEach es X.env := by rfl) (hpl : (backTo pos (starEach es X.env)).any (·.1) = false := by rfl) :
    PE X (.Call (.Name x p) (e :: es) [] pos) (tMakeS C sp W t) := by
  refine ⟨fun pins s σ H Q I rd => ?_⟩
  refine wpAny_Call_Name_kw (ld_glob I hg hm (PySem.W.callWith_K (h₀ := X.base) I.ok.mod.kin M.kp (thn (ha.run pos pins s σ H _ I rd) fun us s1 ⟨vs, H1, I1, r, q⟩ => ⟨I1.kIn, ?_⟩) he hpl) hdb)
  exact run_makeS M F hr hb (hx σ) I1 r q
end
/-- a list made along two lists of one length -/
theorem lc_zipL {K : PySem.W.Frag} {a b : Addr} {xs ys : List V} {g : TG} {tt : TT} {te : TE} {vs : List Nat} {σ : L2.St} {H1 : Hp} {D : Addr} {Qd : Hp → Prop} (hl : xs.length = ys.length) (Pv : Nat → Hp → Prop) (h0 : Pv 0 (upd H1 D (.lst []))) (hq : ∀ i H, Pv i H → SqL K H a xs ∧ SqL K H b ys)
    (hs : ∀ (i : Nat) (x y : V) (T : Addr) (H : Hp), xs[i]? = some x → ys[i]? = some y → Pv i H → H T = none → g (.ref T) (wipe σ vs) (upd H T (.tup [x, y])) fun σ2 H2 => wipe σ2 vs = wipe σ vs ∧ tt σ2 H2 fun b H3 =>
      if b = true then te σ2 H3 fun z H4 => ∃ acc, H4 D = some (.lst acc) ∧ acc.length < sizeLine ∧ Pv (i + 1) (upd H4 D (.lst (acc ++ [z]))) else Pv (i + 1) H3) (hd : ∀ H, Pv xs.length H → Qd H) :
    ∃ W : Nat → Nat → Hp → Prop, (∃ m, W 0 m (upd H1 D (.lst []))) ∧ ∀ i m H, W i m H →
      ((Itz K a b).stop i H ∧ Qd H) ∨ ((Itz K a b).go i H ∧ ∃ Nx : Hp → Prop, (∀ H', Nx H' → ∃ m', m' < m ∧ W (i + 1) m' H') ∧ ∀ x H', (Itz K a b).yld i H x H' → g x (wipe σ vs) H' fun σ2 H2 => wipe σ2 vs = wipe σ vs ∧ tt σ2 H2 fun b H3 =>
        if b = true then te σ2 H3 fun z H4 => ∃ acc, H4 D = some (.lst acc) ∧ acc.length < sizeLine ∧ Nx (upd H4 D (.lst (acc ++ [z]))) else Nx H3) := by
  refine ⟨fun i m H => m = xs.length - i ∧ i ≤ xs.length ∧ Pv i H, ⟨xs.length, by simp, Nat.zero_le _, h0⟩, ?_⟩
  rintro i m H ⟨rfl, hi, pv⟩
  obtain ⟨qx, qy⟩ := hq i H pv
  by_cases hlt : i < xs.length
  · have hx : xs[i]? = some xs[i] := List.getElem?_eq_getElem hlt
    have hlt2 : i < ys.length := by omega
    have hy : ys[i]? = some ys[i] := List.getElem?_eq_getElem hlt2
    refine .inr ⟨⟨xs, ys, _, _, qx, qy, hx, hy⟩, Pv (i + 1), fun H' p' => ⟨xs.length - (i + 1), by omega, rfl, hlt, p'⟩, fun v H' y => ?_⟩
    obtain ⟨T, x', y', rfl, hT, rfl, f1, f2⟩ := y
    exact hs i x' y' T H (f1 xs qx) (f2 ys qy) pv hT
  · have e : i = xs.length := by omega
    subst e
    exact .inl ⟨⟨xs, ys, qx, qy, Or.inl (Nat.le_refl _)⟩, hd H pv⟩
end DK
set_option Elab.async false
set_option linter.all false
set_option maxRecDepth 100000
namespace DK
open PySem L2 PyProof.Rows
/-! ### what each name weighs in some comings -/
def wt (l : Dk) (n : Str) : Int := ((l.filter fun p => decide (p.1 = n)).map (·.2)).sum
def cnt (ks : List Str) (l : Dk) : Dk := ks.map fun n => (n, wt l n)
def GoodP (l : Dk) : Prop := ∀ p ∈ l, nmOk p.1 = true ∧ 1 ≤ p.2 ∧ p.2 ≤ 10 ^ 60
theorem wt_nil (n : Str) : wt [] n = 0 := rfl
theorem wt_append (l m : Dk) (n : Str) : wt (l ++ m) n = wt l n + wt m n := by
  unfold wt
  rw [List.filter_append, List.map_append, List.sum_append]
theorem wt_snoc (l : Dk) (p : Str × Int) (n : Str) : wt (l ++ [p]) n = wt l n + if p.1 = n then p.2 else 0 := by
  rw [wt_append]
  congr 1
  unfold wt
  by_cases e : p.1 = n
  · rw [if_pos e, List.filter_cons_of_pos (by simp [e])]
    simp
  · rw [if_neg e, List.filter_cons_of_neg (by simp [e])]
    rfl
theorem cnt_keys (ks : List Str) (l : Dk) : keys (cnt ks l) = ks := by
  unfold keys cnt
  rw [List.map_map]
  exact List.map_id ks
theorem cnt_len (ks : List Str) (l : Dk) : (cnt ks l).length = ks.length := List.length_map _
theorem lk_cnt (l : Dk) (n : Str) : ∀ ks : List Str, lk (cnt ks l) n = if n ∈ ks then some (wt l n) else none
  | [] => rfl
  | k :: ks => by
    have ih := lk_cnt l n ks
    show lk ((k, wt l k) :: cnt ks l) n = _
    by_cases e : k = n
    · simp [lk, e]
    · have e' : ¬ n = k := fun z => e z.symm
      simp only [lk, if_neg e, ih, List.mem_cons, e', false_or]
theorem cnt_put {ks : List Str} {l : Dk} {n : Str} {w : Int} (h : n ∈ ks) : put (cnt ks l) n (wt l n + w) = cnt ks (l ++ [(n, w)]) := by
  unfold put
  rw [lk_cnt, if_pos h, Option.isSome_some, if_pos rfl]
  unfold cnt
  rw [List.map_map]
  refine List.map_congr_left fun m _ => ?_
  rw [wt_snoc]
  by_cases e : m = n
  · subst e
    simp
  · have e' : ¬ n = m := fun z => e z.symm
    simp [e, e']
theorem cnt_same {ks : List Str} {l : Dk} {n : Str} {w : Int} (h : n ∉ ks) : cnt ks (l ++ [(n, w)]) = cnt ks l := by
  unfold cnt
  refine List.map_congr_left fun m hm => ?_
  have e : ¬ n = m := fun z => h (z ▸ hm)
  rw [wt_snoc]
  simp [e]
theorem cnt_take {ks : List Str} {i : Nat} {n : Str} (h : ks[i]? = some n) (l : Dk) : cnt (ks.take (i + 1)) l = cnt (ks.take i) l ++ [(n, wt l n)] := by
  rw [take_snoc h]
  unfold cnt
  rw [List.map_append]
  rfl
/-! ### a list of pairs by place -/
theorem paired_at {α β : Type} {R : α → β → Prop} : ∀ {as : List α} {bs : List β}, Paired R as bs → ∀ {i : Nat} {a : α}, as[i]? = some a → ∃ b, bs[i]? = some b ∧ R a b
  | _, _, .nil, i, a, h => by simp at h
  | _, _, .cons r t, 0, a, h => ⟨_, rfl, by have e : _ = a := Option.some.inj h; subst e; exact r⟩
  | _, _, .cons r t, i + 1, a, h => paired_at t (i := i) h
theorem paired_len {α β : Type} {R : α → β → Prop} : ∀ {as : List α} {bs : List β}, Paired R as bs → as.length = bs.length
  | _, _, .nil => rfl
  | _, _, .cons r t => by rw [List.length_cons, List.length_cons, paired_len t]
theorem paired_append {α β : Type} {R : α → β → Prop} : ∀ {as : List α} {bs : List β} {cs : List α} {ds : List β}, Paired R as bs → Paired R cs ds → Paired R (as ++ cs) (bs ++ ds)
  | _, _, _, _, .nil, q => q
  | _, _, _, _, .cons r t, q => .cons r (paired_append t q)
theorem paired_drop {α β : Type} {R : α → β → Prop} : ∀ (n : Nat) {as : List α} {bs : List β}, Paired R as bs → Paired R (as.drop n) (bs.drop n)
  | 0, _, _, h => h
  | n + 1, _, _, .nil => .nil
  | n + 1, _, _, .cons r t => paired_drop n t
theorem paired_take {α β : Type} {R : α → β → Prop} : ∀ (n : Nat) {as : List α} {bs : List β}, Paired R as bs → Paired R (as.take n) (bs.take n)
  | 0, _, _, h => .nil
  | n + 1, _, _, .nil => .nil
  | n + 1, _, _, .cons r t => .cons r (paired_take n t)
/-! ### name = {..} on one line, the name a local -/
theorem sw_trueD {kx vx : Expr} {gs : List Comprehension} {scope : Scope} {pos py : Pos} {y : Str} {l : Nat} {env : Env} (hk : env.scope.kind = .function) (hy : env.scope.names.lookup y = some .local) (hl : (py.line == pos.line) = true)
    (ha : (scope.names.any fun (n, k) => n == y && (k == .local || k == .cell)) = false) : swapsWith (.DictComp kx vx gs scope pos) (some (.Name y py)) l env = pure true := by
  have ky : env.kindOf y = some .local := hy
  have hb : env.blockKind = .function := by unfold Env.blockKind; rw [hk]; rfl
  unfold swapsWith
  simp only [hb, ky, ha, Expr.pos, hl]
  rfl
theorem ps_setDc {X : Cx} {i : Nat} {y : Str} {py : Pos} {kx vx tg iter : Expr} {ifs : List Expr} {scope : Scope} {own : List (Str × Nat)} {pos spos : Pos} {wi : TI} {g : TG} {tt : TT} {tk tv : TE} (hc : X.calm = true) (hN : X.N.Nodup) (hy : X.N[i]? = some y) (hyl : X.env.scope.names.lookup y = some .local)
    (hsw : swapsWith (.DictComp kx vx [⟨tg, iter, ifs, 0⟩] scope pos) (some (.Name y py)) spos.line X.env = pure true) (hi : PI X tg iter wi) (ok : BlkOk X.N X.env.scope scope own)
    (hg : ∀ (s : Shared) (H : Hp) (C : Addr) (cl : List (Str × Addr)) (fp : List Addr), PG (X.blk s H scope (compEnvC scope cl C X.env) fp) tg g) (ht : ∀ (s : Shared) (H : Hp) (C : Addr) (cl : List (Str × Addr)) (fp : List Addr), PTs (X.blk s H scope (compEnvC scope cl C X.env) fp) ifs tt)
    (hk : ∀ (s : Shared) (H : Hp) (C : Addr) (cl : List (Str × Addr)) (fp : List Addr), PE (X.blk s H scope (compEnvC scope cl C X.env) fp) kx tk)
    (he : ∀ (s : Shared) (H : Hp) (C : Addr) (cl : List (Str × Addr)) (fp : List Addr), PE (X.blk s H scope (compEnvC scope cl C X.env) fp) vx tv) (hs : ∀ x, foldedSetIterable iter X.env x = pure x := by intro _; rfl) :
    PS X (.Assign [.Name y py] (.DictComp kx vx [⟨tg, iter, ifs, 0⟩] scope pos) spos) (tAsg (tDc wi g tt tk tv (own.map (·.2))) (gName i)) := by
  refine ⟨fun pins s σ H D I h => ?_⟩
  rw [exec_Assign_Name_used _ _ _ _ hsw]
  refine wpAny_bind (wpAny_standAt (wpAny_bind ?_))
  show wpAny _ X.A (do let _ ← comprehension (.DictComp kx vx [⟨tg, iter, ifs, 0⟩] scope pos) scope X.env (firstIterPos [⟨tg, iter, ifs, 0⟩] pos) newDict false (eval iter X.env) (some (assign (.Name y py) X.env))) _ _ s
  have h : tDc wi g tt tk tv (own.map (·.2)) σ H (fun x H1 => gName i x σ H1 D.nx) := h
  refine wpAny_bind (thn (dc_core (Qf := fun _ s' => SP X pins D .next s') hc hN I hi ok hg ht hk he hs h fun L C s' m H' I' q hn f => ?_) fun _ s' hq => wpAny_pure (wpAny_pure hq))
  show wpAny _ _ (assign (.Name y py) X.env (.ref L)) _ _ _
  refine wpAny_assign_Name (store_ok2 (v := V.ref L) I' hN hy (.inl hyl) rfl (fun s2 I2 ⟨a, sb, ha⟩ => ?_) (.inr hyl))
  obtain ⟨f0, f1, f2, f3, f4, f5⟩ := f
  have haC : C ≠ a := by
    rcases ha with z | z
    · rw [z]; exact f1
    · exact fun e => f4 y a z e.symm
  refine ⟨m, hn.sameBut sb haC, fun h3 sb3 => ?_⟩
  exact ⟨_, H', I2.turned (t' := s2.toks) (fun b o hb e => (sb3.2 b hb).trans e) f0 f1 f3 f4 f5, q⟩
/-! ### for k in d of a new dict: locked from here on -/
def iKeysF (td : TE) : TI := fun σ H R => td σ H fun x H1 => ∃ d kvs, x = .ref d ∧ H1 d = some (.dK kvs) ∧ ∀ od, R (Itk d od kvs) (upd H1 d (.frz od (.dK kvs)))
theorem pi_keysF {X : Cx} {tg e : Expr} {td : TE} (he : PE X e td) : PI X tg e (iKeysF td) := by
  refine ⟨fun pins s σ H R I h => ?_⟩
  refine thn (he.run pins s σ H _ I h) fun u s1 ⟨x, H1, I1, rx, d, kvs, ex, hd, q⟩ => ?_
  subst ex
  obtain rfl : u = Value.ref d := rx
  obtain ⟨od, I2⟩ := I1.lock hd trivial
  obtain ⟨hs, hgd, hx, es, ep, vs, hdt, hsz, kv, hm⟩ := I2.frzK upd_same
  refine iter_keys hs hgd hx hdt (pi_one (tk := s1.toks) I2 _ (turn_keys _ hdt) ⟨_, Heap.get?_push_size _ rfl, rfl, ?_⟩ (q od))
  rw [hsz] <;> rfl
/-! ### the desk and the true numbers of some comings -/
def stM (k : Nat) (l : Dk) : DS := l.foldl (fun s p => comeM k s p.1 p.2) ⟨[], 0, 0⟩
def trM (l : Dk) : Dk := l.foldl (fun d p => put d p.1 ((lk d p.1).getD 0 + p.2)) []
theorem stM_snoc (k : Nat) (l : Dk) (p : Str × Int) : stM k (l ++ [p]) = comeM k (stM k l) p.1 p.2 := by
  unfold stM
  rw [List.foldl_append]
  rfl
theorem trM_snoc (l : Dk) (p : Str × Int) : trM (l ++ [p]) = put (trM l) p.1 ((lk (trM l) p.1).getD 0 + p.2) := by
  unfold trM
  rw [List.foldl_append]
  rfl
theorem snoc_ind {α : Type} {P : List α → Prop} (h0 : P []) (hs : ∀ l x, P l → P (l ++ [x])) (l : List α) : P l := by
  have : ∀ (r l : List α), P l → P (l ++ r) := by
    intro r
    induction r with
    | nil => intro l h; rw [List.append_nil]; exact h
    | cons x r ih =>
      intro l h
      have := ih (l ++ [x]) (hs l x h)
      rwa [List.append_assoc] at this
  exact this l [] h0
theorem bd_of {k : Nat} (hk : 0 < k) : ∀ l : Dk, GoodP l → Bd k (stM k l) (trM l) :=
  snoc_ind (fun _ => Bd.nil k) fun l p ih hg => by
    have g1 : GoodP l := fun q hq => hg q (List.mem_append_left _ hq)
    obtain ⟨_, w1, _⟩ := hg p (List.mem_append_right _ (List.mem_singleton.mpr rfl))
    rw [stM_snoc, trM_snoc]
    exact (ih g1).come (by omega) hk
theorem stM_ns (k : Nat) : ∀ l : Dk, GoodP l → ∀ n ∈ keys (stM k l).l, nmOk n = true :=
  snoc_ind (fun _ n h => by simp [stM, keys] at h) fun l p ih hg n hn => by
    have g1 : GoodP l := fun q hq => hg q (List.mem_append_left _ hq)
    obtain ⟨h1, _, _⟩ := hg p (List.mem_append_right _ (List.mem_singleton.mpr rfl))
    rw [stM_snoc] at hn
    rcases comeM_keys hn with h | h
    · exact ih g1 n h
    · rw [h]; exact h1
theorem stM_t (k : Nat) : ∀ l : Dk, (stM k l).t = tot l :=
  snoc_ind rfl fun l p ih => by
    rw [stM_snoc, tot_append, ← ih]
    have e : ∀ (s : DS) (n : Str) (w : Int), (comeM k s n w).t = s.t + w := fun s n w => by
      unfold comeM
      split
      · rfl
      · split <;> rfl
    rw [e, tot_cons, tot_nil]
    omega
theorem trM_wt (n : Str) : ∀ l : Dk, (lk (trM l) n).getD 0 = wt l n :=
  snoc_ind rfl fun l p ih => by
    rw [trM_snoc, lk_put', wt_snoc]
    by_cases e : n = p.1
    · rw [if_pos e, if_pos e.symm, ← ih, e]
    · rw [if_neg e, if_neg (fun z => e z.symm), ih]
      omega
theorem trM_keys {n : Str} : ∀ l : Dk, n ∈ keys (trM l) → n ∈ keys l :=
  snoc_ind (fun h => h) fun l p ih h => by
    rw [trM_snoc, keys_put] at h
    unfold keys at *
    rw [List.map_append]
    split at h
    · exact List.mem_append_left _ (ih h)
    · rcases List.mem_append.mp h with h | h
      · exact List.mem_append_left _ (ih h)
      · exact List.mem_append_right _ (by simpa using h)
theorem trM_len : ∀ l : Dk, (trM l).length ≤ l.length :=
  snoc_ind (Nat.le_refl _) fun l p ih => by
    rw [trM_snoc, List.length_append]
    exact Nat.le_trans (put_len_le _ _ _) (by show (trM l).length + 1 ≤ l.length + 1; omega)
def heavyM (k : Nat) (l : Dk) : List Str := (keys (srt (stM k l).l)).filter fun n => decide (tot l < wt l n * ((k : Int) + 1))
def dueM (k : Nat) (l : Dk) : List Str := (keys (srt (trM l))).filter fun n => decide (tot l < wt l n * ((k : Int) + 1))
theorem mem_heavy {k : Nat} (hk : 0 < k) {l : Dk} (hg : GoodP l) {n : Str} : n ∈ heavyM k l ↔ tot l < wt l n * ((k : Int) + 1) := by
  unfold heavyM
  rw [List.mem_filter, decide_eq_true_iff]
  refine ⟨fun h => h.2, fun h => ⟨?_, h⟩⟩
  have b := bd_of hk l hg
  have hm : n ∈ maybeM k (stM k l) := b.heavy (by rw [stM_t, trM_wt]; exact h)
  exact (keys_perm (srt_perm _)).mem_iff.mpr (maybeM_sub hm)
theorem tot_nn : ∀ {l : Dk}, GoodP l → 0 ≤ tot l
  | [], _ => Int.le_refl _
  | p :: l, h => by
    rw [tot_cons]
    have h1 := tot_nn (l := l) fun q hq => h q (List.mem_cons_of_mem _ hq)
    obtain ⟨_, w1, _⟩ := h p List.mem_cons_self
    omega
theorem mem_due {k : Nat} {l : Dk} (hg : GoodP l) {n : Str} : n ∈ dueM k l ↔ tot l < wt l n * ((k : Int) + 1) := by
  unfold dueM
  rw [List.mem_filter, decide_eq_true_iff]
  refine ⟨fun h => h.2, fun h => ⟨?_, h⟩⟩
  refine (keys_perm (srt_perm _)).mem_iff.mpr ?_
  by_cases hm : n ∈ keys (trM l)
  · exact hm
  · have e := trM_wt n l
    rw [lk_none.mpr hm] at e
    have e : (0 : Int) = wt l n := e
    rw [← e, Int.zero_mul] at h
    have := tot_nn hg
    omega
theorem heavy_nd {k : Nat} (hk : 0 < k) {l : Dk} (hg : GoodP l) : (heavyM k l).Nodup := List.Pairwise.filter _ ((keys_perm (srt_perm _)).nodup_iff.mpr (bd_of hk l hg).O.nd)
theorem heavy_pw (k : Nat) (l : Dk) : (heavyM k l).Pairwise fun a b => kle a b = true := List.Pairwise.filter _ (srt_keys_pw _)
theorem heavy_is {k : Nat} (hk : 0 < k) {l : Dk} (hg : GoodP l) {xs : List Str} (nd : xs.Nodup) (pw : xs.Pairwise fun a b => kle a b = true) (h : ∀ n, n ∈ xs ↔ tot l < wt l n * ((k : Int) + 1)) : heavyM k l = xs :=
  pw_perm_eq (heavy_pw k l) pw ((List.perm_ext_iff_of_nodup (heavy_nd hk hg) nd).mpr fun n => by rw [mem_heavy hk hg, h])
theorem heavy_due {k : Nat} (hk : 0 < k) {l : Dk} (hg : GoodP l) : heavyM k l = dueM k l :=
  heavy_is hk hg (List.Pairwise.filter _ ((keys_perm (srt_perm _)).nodup_iff.mpr (bd_of hk l hg).nd)) (List.Pairwise.filter _ (srt_keys_pw _)) fun _ => mem_due hg
theorem heavy_len (k : Nat) (l : Dk) : (heavyM k l).length ≤ (stM k l).l.length := by
  unfold heavyM
  refine Nat.le_trans (List.length_filter_le _ _) ?_
  unfold keys
  rw [List.length_map, (srt_perm _).length_eq]
  exact Nat.le_refl _
/-- a list made along enumerate of a list -/
theorem lc_enum {K : PySem.W.Frag} {a : Addr} {xs : List V} {g : TG} {tt : TT} {te : TE} {vs : List Nat} {σ : L2.St} {H1 : Hp} {D : Addr} {Qd : Hp → Prop} (Pv : Nat → Hp → Prop) (h0 : Pv 0 (upd H1 D (.lst []))) (hq : ∀ i H, Pv i H → SqL K H a xs)
    (hs : ∀ (i : Nat) (x : V) (T : Addr) (H : Hp), xs[i]? = some x → Pv i H → H T = none → g (.ref T) (wipe σ vs) (upd H T (.tup [.int (i : Nat), x])) fun σ2 H2 => wipe σ2 vs = wipe σ vs ∧ tt σ2 H2 fun b H3 =>
      if b = true then te σ2 H3 fun z H4 => ∃ acc, H4 D = some (.lst acc) ∧ acc.length < sizeLine ∧ Pv (i + 1) (upd H4 D (.lst (acc ++ [z]))) else Pv (i + 1) H3) (hd : ∀ H, Pv xs.length H → Qd H) :
    ∃ W : Nat → Nat → Hp → Prop, (∃ m, W 0 m (upd H1 D (.lst []))) ∧ ∀ i m H, W i m H →
      ((Ite K a).stop i H ∧ Qd H) ∨ ((Ite K a).go i H ∧ ∃ Nx : Hp → Prop, (∀ H', Nx H' → ∃ m', m' < m ∧ W (i + 1) m' H') ∧ ∀ x H', (Ite K a).yld i H x H' → g x (wipe σ vs) H' fun σ2 H2 => wipe σ2 vs = wipe σ vs ∧ tt σ2 H2 fun b H3 =>
        if b = true then te σ2 H3 fun z H4 => ∃ acc, H4 D = some (.lst acc) ∧ acc.length < sizeLine ∧ Nx (upd H4 D (.lst (acc ++ [z]))) else Nx H3) := by
  refine ⟨fun i m H => m = xs.length - i ∧ i ≤ xs.length ∧ Pv i H, ⟨xs.length, by simp, Nat.zero_le _, h0⟩, ?_⟩
  rintro i m H ⟨rfl, hi, pv⟩
  have qx := hq i H pv
  by_cases hlt : i < xs.length
  · have hx : xs[i]? = some xs[i] := List.getElem?_eq_getElem hlt
    refine .inr ⟨⟨xs, _, qx, hx⟩, Pv (i + 1), fun H' p' => ⟨xs.length - (i + 1), by omega, rfl, hlt, p'⟩, fun v H' y => ?_⟩
    obtain ⟨T, x', rfl, hT, rfl, f1⟩ := y
    exact hs i x' T H (f1 xs qx) pv hT
  · have e : i = xs.length := by omega
    subst e
    exact .inl ⟨⟨xs, qx, Nat.le_refl _⟩, hd H pv⟩
theorem wt_const {W : Int} {n : Str} : ∀ {xs : List Str}, xs.Nodup → wt (xs.map fun n => (n, W)) n = if n ∈ xs then W else 0
  | [], _ => rfl
  | x :: xs, nd => by
    have nd' := List.nodup_cons.mp nd
    have ih := wt_const (W := W) (n := n) nd'.2
    have e : wt ((x :: xs).map fun n => (n, W)) n = (if x = n then W else 0) + wt (xs.map fun n => (n, W)) n := by
      rw [List.map_cons, ← List.singleton_append, wt_append]
      congr 1
      have := wt_snoc [] (x, W) n
      rw [List.nil_append, wt_nil] at this
      have this : wt [(x, W)] n = 0 + if x = n then W else 0 := this
      rw [Int.zero_add] at this
      exact this
    rw [e, ih]
    by_cases h : x = n
    · subst h
      rw [if_pos rfl, if_neg nd'.1, if_pos List.mem_cons_self, Int.add_zero]
    · rw [if_neg h]
      have h' : n ≠ x := fun z => h z.symm
      rw [Int.zero_add]
      by_cases h2 : n ∈ xs
      · rw [if_pos h2, if_pos (List.mem_cons_of_mem _ h2)]
      · rw [if_neg h2, if_neg (by simp [h', h2])]
theorem tot_const {W : Int} : ∀ xs : List Str, tot (xs.map fun n => (n, W)) = (xs.length : Int) * W
  | [] => by rw [List.map_nil, tot_nil, List.length_nil]; show (0 : Int) = 0 * W; rw [Int.zero_mul]
  | x :: xs => by
    rw [List.map_cons, tot_cons, tot_const xs, List.length_cons, Int.natCast_add, Int.add_mul]
    rw [show (((1 : Nat) : Int)) * W = W from Int.one_mul W]
    exact Int.add_comm _ _
theorem heavy_even {k : Nat} (hk : 0 < k) {W : Int} (hW : 0 < W) {xs : List Str} (nd : xs.Nodup) (hl : xs.length = k + 1) (hg : GoodP (xs.map fun n => (n, W))) : heavyM k (xs.map fun n => (n, W)) = [] :=
  heavy_is hk hg List.nodup_nil .nil fun n => by
    have e2 : W * ((k : Int) + 1) = ((k : Int) + 1) * W := Int.mul_comm _ _
    have p : 0 < ((k : Int) + 1) * W := Int.mul_pos (by omega) hW
    rw [wt_const nd, tot_const, hl, Int.natCast_add]
    show n ∈ [] ↔ ((k : Int) + 1) * W < _ * ((k : Int) + 1)
    generalize ((k : Int) + 1) * W = P0 at *
    constructor
    · intro h; simp at h
    · intro h
      exfalso
      by_cases c : n ∈ xs
      · rw [if_pos c, e2] at h
        exact Int.lt_irrefl _ h
      · rw [if_neg c, Int.zero_mul] at h
        omega
theorem heavy_even1 {k : Nat} (hk : 0 < k) {W : Int} (hW : 0 < W) {xs : List Str} {x : Str} (nd : xs.Nodup) (hl : xs.length = k + 1) (hx : x ∈ xs) (hg : GoodP ((xs.map fun n => (n, W)) ++ [(x, 1)])) : heavyM k ((xs.map fun n => (n, W)) ++ [(x, 1)]) = [x] :=
  heavy_is hk hg (by simp) (by simp) fun n => by
    have e1 : (W + 1) * ((k : Int) + 1) = ((k : Int) + 1) * W + ((k : Int) + 1) := by rw [Int.add_mul, Int.one_mul, Int.mul_comm]
    have e2 : W * ((k : Int) + 1) = ((k : Int) + 1) * W := Int.mul_comm _ _
    have p : 0 < ((k : Int) + 1) * W := Int.mul_pos (by omega) hW
    rw [wt_snoc, wt_const nd, tot_append, tot_const, hl, Int.natCast_add, tot_cons, tot_nil, List.mem_singleton]
    show n = x ↔ ((k : Int) + 1) * W + (1 + 0) < ((if n ∈ xs then W else 0) + if x = n then 1 else 0) * ((k : Int) + 1)
    by_cases e : n = x
    · subst e
      rw [if_pos hx, if_pos rfl, e1]
      exact ⟨fun _ => by omega, fun _ => rfl⟩
    · have e' : ¬ x = n := fun z => e z.symm
      rw [if_neg e', Int.add_zero (if n ∈ xs then W else 0)]
      refine ⟨fun z => absurd z e, fun h => ?_⟩
      exfalso
      by_cases c : n ∈ xs
      · rw [if_pos c, e2] at h
        omega
      · rw [if_neg c, Int.zero_mul] at h
        omega
theorem heavy_just {k : Nat} (hk : 0 < k) {V0 : Int} (hV : 0 < V0) {x y : Str} (ne : x ≠ y) (hg : GoodP [(x, V0), (y, V0 * (k : Int))]) : heavyM k [(x, V0), (y, V0 * (k : Int))] = [y].take (k - 1) := by
  have w0 : ∀ n, wt [(x, V0), (y, V0 * (k : Int))] n = (if x = n then V0 else 0) + if y = n then V0 * (k : Int) else 0 := fun n => by
    have h1 := wt_snoc [(x, V0)] (y, V0 * (k : Int)) n
    have h2 := wt_snoc [] (x, V0) n
    rw [wt_nil] at h2
    have e1 : wt [(x, V0), (y, V0 * (k : Int))] n = wt [(x, V0)] n + if y = n then V0 * (k : Int) else 0 := h1
    have e2 : wt [(x, V0)] n = 0 + if x = n then V0 else 0 := h2
    rw [e1, e2, Int.zero_add]
  have t0 : tot [(x, V0), (y, V0 * (k : Int))] = V0 * ((k : Int) + 1) := by
    rw [tot_cons, tot_cons, tot_nil, Int.mul_add, Int.mul_one]
    show V0 + (V0 * (k : Int) + 0) = _
    omega
  have e1 : V0 * (k : Int) * ((k : Int) + 1) = (V0 * ((k : Int) + 1)) * (k : Int) := by rw [Int.mul_assoc, Int.mul_comm (k : Int), ← Int.mul_assoc]
  have pp : 0 < V0 * ((k : Int) + 1) := Int.mul_pos hV (by omega)
  have key : ∀ n, (n = y ∧ 1 < k) ↔ tot [(x, V0), (y, V0 * (k : Int))] < wt [(x, V0), (y, V0 * (k : Int))] n * ((k : Int) + 1) := fun n => by
    rw [w0, t0]
    generalize hP : V0 * ((k : Int) + 1) = P0 at *
    by_cases a : x = n
    · have b : ¬ y = n := fun z => ne (a.trans z.symm)
      rw [if_pos a, if_neg b, Int.add_zero, hP]
      exact ⟨fun h => absurd h.1.symm b, fun h => absurd h (Int.lt_irrefl _)⟩
    · rw [if_neg a, Int.zero_add]
      by_cases b : y = n
      · rw [if_pos b, e1]
        refine ⟨fun h => ?_, fun h => ⟨b.symm, ?_⟩⟩
        · have := Int.mul_lt_mul_of_pos_left (show (1 : Int) < (k : Int) by omega) pp
          omega
        · by_cases c : 1 < k
          · exact c
          · have : k = 1 := by omega
            subst this
            have h : P0 < P0 * 1 := h
            omega
      · rw [if_neg b, Int.zero_mul]
        exact ⟨fun h => absurd h.1.symm b, fun h => by omega⟩
  by_cases c : 1 < k
  · have : [y].take (k - 1) = [y] := List.take_of_length_le (by rw [List.length_singleton]; omega)
    rw [this]
    refine heavy_is hk hg (by simp) (by simp) fun n => ?_
    rw [← key, List.mem_singleton]
    exact ⟨fun h => ⟨h, c⟩, fun h => h.1⟩
  · have : k - 1 = 0 := by omega
    rw [this, List.take_zero]
    refine heavy_is hk hg List.nodup_nil .nil fun n => ?_
    rw [← key]
    exact ⟨fun h => (List.not_mem_nil h).elim, fun h => absurd h.2 c⟩
theorem heavy_ns (k : Nat) {l : Dk} (hg : GoodP l) : ∀ n ∈ heavyM k l, nmOk n = true := fun n hn => stM_ns k l hg n ((keys_perm (srt_perm _)).mem_iff.mp (List.mem_filter.mp hn).1)
theorem tr_tot {l : Dk} (hg : GoodP l) : tot (trM l) = tot l := (bd_of (k := 1) (by decide) l hg).all.trans (stM_t 1 l)
end DK
set_option Elab.async false
set_option linter.all false
set_option maxRecDepth 100000
namespace DK
open PySem L2 PyProof.Rows TL
/-! ### numbers in figures -/
def figs (l : List Nat) : Bool := l.all fun c => decide (48 ≤ c) && decide (c ≤ 57)
def dv (l : List Nat) : Int := ((NumText.digitsVal l : Nat) : Int)
def numOk (l : List Nat) : Bool := decide (1 ≤ l.length) && decide (l.length ≤ 71) && (!decide (l.head? = some 48) || decide (l = [48])) && figs l
def numOf (l : List Nat) : Int := if numOk l = true then (if dv l ≤ 10 ^ 70 then dv l else -1) else -1
theorem figs_iff {l : List Nat} : figs l = true ↔ NumText.AllDigits l := by
  unfold figs NumText.AllDigits
  rw [List.all_eq_true]
  refine forall_congr' fun c => forall_congr' fun _ => ?_
  rw [Bool.and_eq_true, decide_eq_true_iff, decide_eq_true_iff]
theorem numL_head {n : Nat} (h : n ≠ 0) : (numL n).head? ≠ some 48 := by
  induction n using Nat.strongRecOn with
  | _ n ih =>
    by_cases c : n < 10
    · rw [numL_lt c]
      intro z
      have := Option.some.inj z
      omega
    · rw [numL_step (by omega)]
      have := ih (n / 10) (by omega) (by omega)
      cases e : numL (n / 10) with
      | nil => exact absurd e (numL_ne _)
      | cons x r => rw [e] at this; exact this
theorem numOk_num {n : Nat} (h : n ≤ 10 ^ 70) : numOk (numL n) = true := by
  unfold numOk
  have l1 : 1 ≤ (numL n).length := by
    cases e : numL n with
    | nil => exact absurd e (numL_ne n)
    | cons x r => rw [List.length_cons]; omega
  have l2 : (numL n).length ≤ 71 := numL_len (by decide) (Nat.lt_of_le_of_lt h (by decide))
  rw [decide_eq_true l1, decide_eq_true l2, figs_iff.mpr (numL_digits n)]
  by_cases c : n = 0
  · subst c
    decide +kernel
  · rw [decide_eq_false (numL_head c)]
    rfl
theorem numOf_num {n : Nat} (h : n ≤ 10 ^ 70) : numOf (numL n) = (n : Int) := by
  unfold numOf dv
  rw [if_pos (numOk_num h), numL_val, if_pos (by omega)]
theorem numOf_lo (l : List Nat) : -1 ≤ numOf l := by
  unfold numOf dv
  split
  · split <;> omega
  · omega
theorem numOf_hi (l : List Nat) : numOf l ≤ 10 ^ 70 := by
  unfold numOf
  split
  · split
    · assumption
    · decide
  · decide
theorem numOf_nil : numOf [] = -1 := by decide +kernel
theorem tl_int {i : Int} (h : 0 ≤ i) : tl (Str.ofString (toString i)) = numL i.toNat := by
  obtain ⟨n, rfl⟩ := Int.eq_ofNat_of_zero_le h
  exact tl_num n
theorem numOf_int {i : Int} (h : 0 ≤ i) (h2 : i ≤ 10 ^ 70) : numOf (tl (Str.ofString (toString i))) = i := by
  rw [tl_int h, numOf_num (by omega)]
  omega
/-! ### the rows of a text -/
abbrev nlS : Str := "\n"
abbrev blS : Str := " "
def rowsOf (x : Str) : List Str := if (Txt.split x nlS).getLast? = some ("" : Str) then (Txt.split x nlS).dropLast else Txt.split x nlS
def rowOf (r : Str) : Str × Int := ((Txt.partition r blS).1, numOf (tl (Txt.partition r blS).2.2))
def headOf (r : Str) : Option (Int × Int × Int) := match Txt.split r blS with
  | [a, b, c, d] => if a = "desk" ∧ isNum (.int (numOf (tl b))) 50 = true ∧ 0 ≤ numOf (tl c) ∧ 0 ≤ numOf (tl d) then some (numOf (tl b), numOf (tl c), numOf (tl d)) else none
  | _ => none
def ahd (rs : List Str) : Nat → Str
  | 0 => ""
  | i + 1 => match rs[i]? with
    | some r => (rowOf r).1
    | none => ""
def rowOk (k : Int) (n : Nat) (ahead r : Str) : Bool := !(decide (k < (n : Int)) || !nmOk (rowOf r).1 || !decide (tl ahead < tl (rowOf r).1) || decide ((rowOf r).2 < 1))
def AllOk (k : Int) (rs : List Str) : Prop := ∀ i r, rs[i]? = some r → rowOk k (i + 1) (ahd rs i) r = true
theorem rowOk_iff {k : Int} {n : Nat} {ahead r : Str} : rowOk k n ahead r = true ↔ (n : Int) ≤ k ∧ nmOk (rowOf r).1 = true ∧ tl ahead < tl (rowOf r).1 ∧ 1 ≤ (rowOf r).2 := by
  unfold rowOk
  rw [Bool.not_eq_true', Bool.or_eq_false_iff, Bool.or_eq_false_iff, Bool.or_eq_false_iff, decide_eq_false_iff_not, decide_eq_false_iff_not, Bool.not_eq_false', Bool.not_eq_false', decide_eq_true_iff]
  constructor
  · rintro ⟨⟨⟨h1, h2⟩, h3⟩, h4⟩
    exact ⟨by omega, h2, h3, by omega⟩
  · rintro ⟨h1, h2, h3, h4⟩
    exact ⟨⟨⟨by omega, h2⟩, h3⟩, by omega⟩
theorem kle_of_lt {a b : Str} (h : tl a < tl b) : kle a b = true := by
  have t := kle_total a b
  cases e : kle a b with
  | true => rfl
  | false =>
    rw [e, Bool.false_or] at t
    have t : decide (tl b ≤ tl a) = true := t
    exact absurd h (List.not_lt.mpr (of_decide_eq_true t))
theorem ne_of_lt {a b : Str} (h : tl a < tl b) : a ≠ b := fun e => by
  rw [e] at h
  exact List.lt_irrefl _ h
/-- the names of the first rows stand behind one another -/
theorem rows_keys {k : Int} {rs : List Str} : ∀ i : Nat, i ≤ rs.length → (∀ j r, j < i → rs[j]? = some r → rowOk k (j + 1) (ahd rs j) r = true) →
    (∀ n ∈ keys ((rs.take i).map rowOf), kle n (ahd rs i) = true) ∧ (keys ((rs.take i).map rowOf)).Nodup ∧ ((rs.take i).map rowOf).Pairwise fun p q => kle p.1 q.1 = true
  | 0, _, _ => ⟨fun _ h => by simp [keys] at h, List.nodup_nil, .nil⟩
  | i + 1, hi, h => by
    obtain ⟨h1, h2, h3⟩ := rows_keys i (by omega) fun j r hj => h j r (by omega)
    have hr : rs[i]? = some rs[i] := List.getElem?_eq_getElem (by omega)
    obtain ⟨_, _, hl, _⟩ := rowOk_iff.mp (h i _ (by omega) hr)
    have ea : ahd rs (i + 1) = (rowOf rs[i]).1 := by
      show (match rs[i]? with | some r => (rowOf r).1 | none => "") = _
      rw [hr]
    have e : (rs.take (i + 1)).map rowOf = (rs.take i).map rowOf ++ [rowOf rs[i]] := by rw [take_snoc hr, List.map_append]; rfl
    have ek : keys ((rs.take (i + 1)).map rowOf) = keys ((rs.take i).map rowOf) ++ [(rowOf rs[i]).1] := by unfold keys; rw [e, List.map_append]; rfl
    have old : ∀ n ∈ keys ((rs.take i).map rowOf), kle n (rowOf rs[i]).1 = true ∧ n ≠ (rowOf rs[i]).1 := fun n hn => by
      have a := h1 n hn
      have b := kle_of_lt hl
      refine ⟨kle_trans _ _ _ a b, fun z => ?_⟩
      rw [z] at a
      have a : decide (tl (rowOf rs[i]).1 ≤ tl (ahd rs i)) = true := a
      exact absurd hl (List.not_lt.mpr (of_decide_eq_true a))
    refine ⟨fun n hn => ?_, ?_, ?_⟩
    · rw [ek] at hn
      rw [ea]
      rcases List.mem_append.mp hn with hn | hn
      · exact (old n hn).1
      · rw [List.mem_singleton.mp hn]
        have := kle_total (rowOf rs[i]).1 (rowOf rs[i]).1
        rwa [Bool.or_self] at this
    · rw [ek, List.nodup_append]
      refine ⟨h2, by simp, fun a ha b hb => ?_⟩
      rw [List.mem_singleton.mp hb]
      exact (old a ha).2
    · rw [e, List.pairwise_append]
      refine ⟨h3, by simp, fun a ha b hb => ?_⟩
      rw [List.mem_singleton.mp hb]
      exact (old a.1 (List.mem_map.mpr ⟨a, ha, rfl⟩)).1
theorem row_fresh {k : Int} {rs : List Str} {i : Nat} {r : Str} (hr : rs[i]? = some r) (h : ∀ j r, j < i → rs[j]? = some r → rowOk k (j + 1) (ahd rs j) r = true) (hl : tl (ahd rs i) < tl (rowOf r).1) : lk ((rs.take i).map rowOf) (rowOf r).1 = none := by
  have hi := (List.getElem?_eq_some_iff.mp hr).1
  obtain ⟨h1, _, _⟩ := rows_keys i (by omega) h
  refine lk_none.mpr fun hm => ?_
  have a : decide (tl (rowOf r).1 ≤ tl (ahd rs i)) = true := h1 _ hm
  exact absurd hl (List.not_lt.mpr (of_decide_eq_true a))
theorem ahd_succ {rs : List Str} {i : Nat} {r : Str} (h : rs[i]? = some r) : ahd rs (i + 1) = (rowOf r).1 := by
  show (match rs[i]? with | some r => (rowOf r).1 | none => "") = _
  rw [h]
/-! ### what a desk is written as -/
abbrev numT (i : Int) : Str := Str.ofString (toString i)
def headT (k g t : Int) : Str := "desk" ++ blS ++ numT k ++ blS ++ numT g ++ blS ++ numT t
def rowT (p : Str × Int) : Str := p.1 ++ blS ++ numT p.2
def textT (k : Nat) (s : DS) : Str := ⟨(((headT k s.g s.t :: (srt s.l).map rowT).map fun r => tl r ++ [10]).flatten).toArray⟩
theorem num_free {i : Int} (h : 0 ≤ i) {c : Nat} (hc : c < 48 ∨ 57 < c) : c ∉ tl (numT i) := by
  unfold numT
  rw [tl_int h]
  exact numL_free hc
theorem num_len {i : Int} (h : 0 ≤ i) (h2 : i ≤ 10 ^ 70) : (numT i).length ≤ 71 := by
  rw [len_tl]
  unfold numT
  rw [tl_int h]
  exact numL_len (by decide) (by omega)
theorem nm_free {n : Str} (h : nmOk n = true) {c : Nat} (hc : c < 97 ∨ 122 < c) : c ∉ tl n := fun hm => by
  have := (okC_iff.mp (show okC n.cps.toList = true from h)).2.2 c hm
  omega
theorem tl_bl : tl blS = [32] := by decide +kernel
theorem tl_nl : tl nlS = [10] := by decide +kernel
theorem rowOf_rowT {n : Str} {z : Int} (hn : nmOk n = true) (h : 0 ≤ z) (h2 : z ≤ 10 ^ 70) : rowOf (rowT (n, z)) = (n, z) := by
  unfold rowOf rowT
  rw [partition_app (S := []) tl_bl (nm_free hn (by decide))]
  show (n, numOf (tl (numT z))) = _
  unfold numT
  rw [numOf_int h h2]
theorem head_parts {k g t : Int} (hk : 0 ≤ k) (hg : 0 ≤ g) (ht : 0 ≤ t) : Txt.split (headT k g t) blS = [("desk" : Str), numT k, numT g, numT t] := by
  have e : headT k g t = Txt.join blS [("desk" : Str), numT k, numT g, numT t] := by
    refine ext_tl ?_
    rw [join_eq, tl_join]
    unfold headT
    show _ = tl ("desk" : Str) ++ (tl blS ++ (tl (numT k) ++ (tl blS ++ (tl (numT g) ++ (tl blS ++ tl (numT t))))))
    simp only [tl_append, List.append_assoc]
  rw [e]
  refine split_join (S := []) tl_bl (by decide +kernel) (by simp) fun p hp => ?_
  simp only [List.mem_cons, List.not_mem_nil, or_false] at hp
  rcases hp with rfl | rfl | rfl | rfl
  · decide +kernel
  · exact num_free hk (by decide)
  · exact num_free hg (by decide)
  · exact num_free ht (by decide)
theorem headOf_headT {k g t : Int} (h1 : 1 ≤ k) (h2 : k ≤ 50) (hg : 0 ≤ g) (hg2 : g ≤ 10 ^ 70) (ht : 0 ≤ t) (ht2 : t ≤ 10 ^ 70) : headOf (headT k g t) = some (k, g, t) := by
  unfold headOf
  rw [head_parts (by omega) hg ht]
  have ek : numOf (tl (numT k)) = k := numOf_int (by omega) (by omega)
  have eg : numOf (tl (numT g)) = g := numOf_int hg hg2
  have et : numOf (tl (numT t)) = t := numOf_int ht ht2
  show (if _ then some (numOf (tl (numT k)), numOf (tl (numT g)), numOf (tl (numT t))) else none) = _
  rw [ek, eg, et, if_pos]
  refine ⟨rfl, ?_, hg, ht⟩
  show (decide (1 ≤ k) && decide (k ≤ 50)) = true
  rw [decide_eq_true h1, decide_eq_true h2]
  rfl
theorem flat_join : ∀ {rs : List (List Nat)}, (rs.map (· ++ [10])).flatten = joinL [10] (rs ++ [[]])
  | [] => rfl
  | [p] => by
    show (p ++ [10]) ++ [] = p ++ ([10] ++ [])
    rw [List.append_nil]; rfl
  | p :: q :: r => by
    show (p ++ [10]) ++ ((q :: r).map (· ++ [10])).flatten = p ++ ([10] ++ joinL [10] ((q :: r) ++ [[]]))
    rw [flat_join (rs := q :: r), List.append_assoc]
theorem flat_strs10 (rs : List Str) : (rs.map fun r => tl r ++ [10]).flatten = joinL [10] (rs.map tl ++ [[]]) := by
  rw [← flat_join, List.map_map]
  rfl
/-- a text of rows, each ended by a line end -/
theorem split_rows {x : Str} {rs : List Str} (e : tl x = (rs.map fun r => tl r ++ [10]).flatten) (h : ∀ r ∈ rs, 10 ∉ tl r) : Txt.split x nlS = rs ++ [("" : Str)] := by
  have e2 : x = Txt.join nlS (rs ++ [("" : Str)]) := by
    refine ext_tl ?_
    rw [join_eq, tl_join, e, flat_strs10, tl_nl, List.map_append]
    rfl
  rw [e2]
  refine split_join (S := []) tl_nl (by decide +kernel) (by simp) fun p hp => ?_
  rcases List.mem_append.mp hp with hp | hp
  · exact h p hp
  · rw [List.mem_singleton.mp hp]
    decide +kernel
theorem rowsOf_rows {x : Str} {rs : List Str} (e : tl x = (rs.map fun r => tl r ++ [10]).flatten) (h : ∀ r ∈ rs, 10 ∉ tl r) : rowsOf x = rs := by
  unfold rowsOf
  rw [split_rows e h, List.getLast?_concat, if_pos rfl, List.dropLast_concat]
theorem headT_free {k g t : Int} (hk : 0 ≤ k) (hg : 0 ≤ g) (ht : 0 ≤ t) : 10 ∉ tl (headT k g t) := by
  unfold headT
  simp only [tl_append, List.mem_append, not_or]
  exact ⟨⟨⟨⟨⟨⟨by decide +kernel, by decide +kernel⟩, num_free hk (by decide)⟩, by decide +kernel⟩, num_free hg (by decide)⟩, by decide +kernel⟩, num_free ht (by decide)⟩
theorem rowT_free {p : Str × Int} (hn : nmOk p.1 = true) (h : 0 ≤ p.2) : 10 ∉ tl (rowT p) := by
  unfold rowT
  simp only [tl_append, List.mem_append, not_or]
  exact ⟨⟨nm_free hn (by decide), by decide +kernel⟩, num_free h (by decide)⟩
theorem endswith_nl {x : Str} {l : List Nat} (h : tl x = l ++ [10]) : Txt.endswith x nlS = true := by
  unfold Txt.endswith
  have hl : x.length = l.length + 1 := by rw [len_tl, h, List.length_append]; rfl
  have h1 : nlS.length = 1 := by decide +kernel
  rw [h1, hl]
  have e : Builtin.Str.subAt x nlS (l.length + 1 - 1) = true := by
    rw [Nat.add_sub_cancel]
    have e1 : (x.cps.extract l.length (l.length + 1)) = nlS.cps := by
      refine Array.toList_inj.mp ?_
      show _ = tl nlS
      rw [tl_nl]
      first
        | (rw [Array.toList_extract, List.extract_eq_drop_take]; show ((tl x).drop l.length).take (l.length + 1 - l.length) = [10]; rw [h, List.drop_left, Nat.add_sub_cancel_left]; rfl)
        | (simp only [Array.toList_extract]; show ((tl x).drop l.length).take _ = [10]; rw [h, List.drop_left]; simp)
    unfold Builtin.Str.subAt
    rw [h1, e1]
    exact beq_self_eq_true _
  rw [e, Bool.and_true]
  exact decide_eq_true (by omega)
/-! ### along the items of a new dict: locked from here on -/
def iItemsF (td : TE) : TI := fun σ H R => td σ H fun x H1 => ∃ d kvs, x = .ref d ∧ H1 d = some (.dK kvs) ∧ ∀ od, R (Iti d od kvs) (upd H1 d (.frz od (.dK kvs)))
theorem pi_itemsF {X : Cx} {td : TE} {e : Expr} {apos cpos : Pos} {elts : List Expr} {kk : Nat} {tpos : Pos} (he : PE X e td) (hbase : attributeBase e "items" X.env (eval e X.env) = eval e X.env := by rfl) (hline : (apos.endLine == cpos.line) = true := by rfl) :
    PI X (.Tuple elts kk tpos) (.Call (.Attribute e "items" apos) [] [] cpos) (iItemsF td) := by
  refine ⟨fun pins s σ H R I h => ?_⟩
  refine wpAny_Call_method (T := "dict") (id := "dict.items") hbase rfl hline F.plainAttrs_dict F.slot_dict_items F.type_dict_items (thn (he.run pins s σ H _ I h) fun u s1 ⟨x, H1, I1, rx, d, kvs, ex, hd, q⟩ => ?_)
  subst ex
  obtain rfl : u = Value.ref d := rx
  obtain ⟨od, I1'⟩ := I1.lock hd trivial
  obtain ⟨hs, hgd, hx, es, ep, vs, hdt, hsz, kv, hm⟩ := I1'.frzK upd_same
  have hl : kvs.length = vs.length := Paired.length kv
  refine ⟨hm.dictOf.typeIs, hm.dictOf.mapOf.noDict, ?_⟩
  have I2 : Inv X pins σ (upd H1 d (.frz od (.dK kvs))) { s1 with heap := s1.heap.push { cls := .type "dict_items", data := .fields #[.ref d] } } := I1'.kept (t' := s1.toks) fun b ob q => Heap.get?_push_of_some _ q
  have fin : wpAny (model X.prog X.w) X.A (pyIter (.ref s1.heap.objs.size)) (PIE X pins σ (.Tuple elts kk tpos) R) X.xe { s1 with heap := s1.heap.push { cls := .type "dict_items", data := .fields #[.ref d] } } := by
    refine wpAny_pyIter_items (d := d) (knd := mixKind X.prog X.w) ⟨_, Heap.get?_push_size _ rfl, rfl, rfl⟩ (hm.push _) (pi_one (tk := s1.toks) I2 _ (turn_items _ hdt) ⟨.none, .none, ?_⟩ (q od))
    rw [hl]
    exact Heap.get?_push_size _ rfl
  show wpAny _ _ (callWith cpos (.builtin "dict.items") [.ref d] [] []) _ X.xe s1
  exact method_meetsIn F.slot_dict_items F.entry_dict_items rfl (PySem.evalArgs_none ⟨rfl, hm.dictOf.typeIs, F.args_dict_items_1 _, _, meets_dict_items (mixKind X.prog X.w) d hs, ⟨vs, hm.dictOf⟩, fin⟩)
/-! ### texts put together -/
theorem app_len (a b : Str) : (a ++ b).length = a.length + b.length := by
  rw [len_tl, len_tl a, len_tl b, tl_append, List.length_append]
theorem joinL_nil : ∀ parts : List (List Nat), joinL [] parts = parts.flatten
  | [] => rfl
  | [p] => by show p = p ++ []; rw [List.append_nil]
  | p :: q :: r => by
    show p ++ ([] ++ joinL [] (q :: r)) = p ++ (q :: r).flatten
    rw [joinL_nil (q :: r), List.nil_append]
theorem joinL_snoc : ∀ {R : List (List Nat)}, R ≠ [] → joinL [10] R ++ [10] = (R.map (· ++ [10])).flatten
  | [], h => absurd rfl h
  | [p], _ => by show p ++ [10] = (p ++ [10]) ++ []; rw [List.append_nil]
  | p :: q :: r, _ => by
    show (p ++ ([10] ++ joinL [10] (q :: r))) ++ [10] = (p ++ [10]) ++ ((q :: r).map (· ++ [10])).flatten
    rw [← joinL_snoc (R := q :: r) (by simp)]
    simp only [List.append_assoc]
theorem headT_join (k g t : Int) : headT k g t = Txt.join blS [("desk" : Str), numT k, numT g, numT t] := by
  refine ext_tl ?_
  rw [join_eq, tl_join]
  unfold headT
  show _ = tl ("desk" : Str) ++ (tl blS ++ (tl (numT k) ++ (tl blS ++ (tl (numT g) ++ (tl blS ++ tl (numT t))))))
  simp only [tl_append, List.append_assoc]
theorem text_join (k : Nat) (s : DS) : Txt.join nlS (headT k s.g s.t :: (srt s.l).map rowT) ++ nlS = textT k s := by
  refine ext_tl ?_
  rw [tl_append, join_eq, tl_join, tl_nl, joinL_snoc (by simp), List.map_map]
  rfl
theorem log_ok {i : Int} (h : 0 ≤ i) (h2 : i ≤ 10 ^ 70) : i.natAbs.log2 < 1920 := by
  by_cases c : i.natAbs = 0
  · rw [c]; decide
  · refine (Nat.log2_lt c).mpr ?_
    have : i.natAbs ≤ 10 ^ 70 := by omega
    exact Nat.lt_of_le_of_lt this (by decide)
theorem mem_tot : ∀ {l : Dk}, (∀ p ∈ l, 0 < p.2) → ∀ q ∈ l, q.2 ≤ tot l
  | [], _, _, h => by simp at h
  | p :: l, hp, q, h => by
    have h1 := hp p List.mem_cons_self
    have ih := mem_tot (l := l) fun x hx => hp x (List.mem_cons_of_mem _ hx)
    have nn : ∀ {l : Dk}, (∀ p ∈ l, 0 < p.2) → 0 ≤ tot l := fun {l} => by
      induction l with
      | nil => intro _; exact Int.le_refl _
      | cons x l ih =>
        intro hx
        have := hx x List.mem_cons_self
        have := ih fun y hy => hx y (List.mem_cons_of_mem _ hy)
        rw [tot_cons]
        omega
    have h2 := nn fun x hx => hp x (List.mem_cons_of_mem _ hx)
    rw [tot_cons]
    rcases List.mem_cons.mp h with rfl | h
    · omega
    · have := ih q h
      omega
/-- what a desk must keep to be written and read -/
structure Wr (k : Nat) (s : DS) : Prop where
  O : Ok k s.l
  ns : ∀ n ∈ keys s.l, nmOk n = true
  k1 : 1 ≤ k
  k2 : k ≤ 50
  g0 : 0 ≤ s.g
  sum : tot s.l + ((k : Int) + 1) * s.g ≤ s.t
  t2 : s.t ≤ 10 ^ 70
theorem Wr.g2 {k : Nat} {s : DS} (h : Wr k s) : s.g ≤ 10 ^ 70 ∧ 0 ≤ s.t ∧ tot s.l ≤ 10 ^ 70 ∧ 0 ≤ tot s.l := by
  have h1 : 0 ≤ tot s.l := by
    have : ∀ {l : Dk}, (∀ p ∈ l, 0 < p.2) → 0 ≤ tot l := fun {l} => by
      induction l with
      | nil => intro _; exact Int.le_refl _
      | cons x l ih =>
        intro hx
        have := hx x List.mem_cons_self
        have := ih fun y hy => hx y (List.mem_cons_of_mem _ hy)
        rw [tot_cons]
        omega
    exact this h.O.pos
  have h2 := h.sum
  have h3 : s.g ≤ ((k : Int) + 1) * s.g := by
    have := Int.mul_le_mul_of_nonneg_right (show (1 : Int) ≤ (k : Int) + 1 by omega) h.g0
    omega
  have h4 := h.g0
  have h5 := h.t2
  exact ⟨by omega, by omega, by omega, h1⟩
theorem Wr.num {k : Nat} {s : DS} (h : Wr k s) {q : Str × Int} (hq : q ∈ s.l) : 1 ≤ q.2 ∧ q.2 ≤ 10 ^ 70 := by
  have := mem_tot h.O.pos q hq
  have := h.O.pos q hq
  have := h.g2.2.2.1
  exact ⟨by omega, by omega⟩
theorem Wr.srt {k : Nat} {s : DS} (h : Wr k s) : Wr k ⟨DK.srt s.l, s.g, s.t⟩ :=
  ⟨⟨(keys_perm (srt_perm s.l)).nodup_iff.mpr h.O.nd, fun p hp => h.O.pos p ((srt_perm s.l).mem_iff.mp hp), by rw [(srt_perm s.l).length_eq]; exact h.O.len⟩,
    fun n hn => h.ns n ((keys_perm (srt_perm s.l)).mem_iff.mp hn), h.k1, h.k2, h.g0, by show tot (DK.srt s.l) + _ ≤ _; rw [tot_perm (srt_perm s.l)]; exact h.sum, h.t2⟩
theorem Wr.perm {k : Nat} {l m : Dk} {g t : Int} (h : Wr k ⟨l, g, t⟩) (p : m.Perm l) : Wr k ⟨m, g, t⟩ :=
  ⟨⟨(keys_perm p).nodup_iff.mpr h.O.nd, fun q hq => h.O.pos q (p.mem_iff.mp hq), by rw [p.length_eq]; exact h.O.len⟩,
    fun n hn => h.ns n ((keys_perm p).mem_iff.mp hn), h.k1, h.k2, h.g0, by show tot m + _ ≤ _; rw [tot_perm p]; exact h.sum, h.t2⟩
theorem srt_srt (l : Dk) (nd : (keys l).Nodup) : srt (srt l) = srt l := srt_of_perm ((keys_perm (srt_perm l)).nodup_iff.mpr nd) (srt_perm l)
theorem textT_srt (k : Nat) (s : DS) (nd : (keys s.l).Nodup) : textT k ⟨srt s.l, s.g, s.t⟩ = textT k s := by
  unfold textT
  dsimp only
  rw [srt_srt _ nd]
theorem textT_perm (k : Nat) {l m : Dk} {g t : Int} (nd : (keys l).Nodup) (p : l.Perm m) : textT k ⟨l, g, t⟩ = textT k ⟨m, g, t⟩ := by
  unfold textT
  dsimp only
  rw [srt_of_perm nd p]
theorem rows_back {l : Dk} (hn : ∀ n ∈ keys l, nmOk n = true) (hq : ∀ q ∈ l, 1 ≤ q.2 ∧ q.2 ≤ 10 ^ 70) : (l.map rowT).map rowOf = l := by
  rw [List.map_map]
  conv => rhs; rw [← List.map_id l]
  refine List.map_congr_left fun q h => ?_
  obtain ⟨h1, h2⟩ := hq q h
  exact rowOf_rowT (hn q.1 (List.mem_map.mpr ⟨q, h, rfl⟩)) (by omega) h2
theorem text_rows {k : Nat} {s : DS} (h : Wr k s) : rowsOf (textT k s) = headT k s.g s.t :: (srt s.l).map rowT := by
  have hs := h.srt
  refine rowsOf_rows rfl fun r hr => ?_
  obtain ⟨g2, t0, _, _⟩ := h.g2
  rcases List.mem_cons.mp hr with rfl | hr
  · exact headT_free (by omega) h.g0 t0
  · obtain ⟨q, hq, rfl⟩ := List.mem_map.mp hr
    have := hs.num hq
    exact rowT_free (hs.ns q.1 (List.mem_map.mpr ⟨q, hq, rfl⟩)) (by omega)
theorem lt_of_kle {a b : Str} (h : kle a b = true) (hne : a ≠ b) : tl a < tl b :=
  Decidable.byContradiction fun c => hne (kle_anti h (decide_eq_true (List.not_lt.mp c)))
theorem nil_lt {n : Str} (h : nmOk n = true) : tl ("" : Str) < tl n := by
  have e : tl ("" : Str) = [] := by decide +kernel
  rw [e]
  obtain ⟨h1, _, _⟩ := okC_iff.mp (show okC n.cps.toList = true from h)
  show [] < n.cps.toList
  cases hn : n.cps.toList with
  | nil => rw [hn] at h1; exact absurd h1 (by decide)
  | cons x r => exact List.nil_lt_cons _ _
theorem text_ok {k : Nat} {l : Dk} (o : Ok k l) (hn : ∀ n ∈ keys l, nmOk n = true) (hq : ∀ q ∈ l, 1 ≤ q.2 ∧ q.2 ≤ 10 ^ 70) (pw : l.Pairwise fun p q => kle p.1 q.1 = true) : AllOk (k : Int) (l.map rowT) := by
  intro i r hr
  rw [List.getElem?_map] at hr
  obtain ⟨q, hi, rfl⟩ := Option.map_eq_some_iff.mp hr
  have hm := List.mem_of_getElem? hi
  obtain ⟨q1, q2⟩ := hq q hm
  have nq := hn q.1 (List.mem_map.mpr ⟨q, hm, rfl⟩)
  have e : rowOf (rowT q) = q := rowOf_rowT nq (by omega) q2
  have il := (List.getElem?_eq_some_iff.mp hi).1
  have := o.len
  refine rowOk_iff.mpr ⟨by omega, by rw [e]; exact nq, ?_, by rw [e]; exact q1⟩
  rw [e]
  match i, hi, il with
  | 0, _, _ => exact nil_lt nq
  | i + 1, hi, il =>
    obtain ⟨b, hp⟩ : ∃ b, l[i]? = some b := ⟨l[i], List.getElem?_eq_getElem (by omega)⟩
    have hpm := List.mem_of_getElem? hp
    obtain ⟨p1, p2⟩ := hq b hpm
    have e2 : rowOf (rowT b) = b := rowOf_rowT (hn b.1 (List.mem_map.mpr ⟨b, hpm, rfl⟩)) (by omega) p2
    rw [ahd_succ (r := rowT b) (by rw [List.getElem?_map, hp]; rfl), e2]
    have hq' : l[i + 1] = q := Option.some.inj ((List.getElem?_eq_getElem il).symm.trans hi)
    have hb' : l[i]'(by omega) = b := Option.some.inj ((List.getElem?_eq_getElem (by omega)).symm.trans hp)
    have k1 : kle b.1 q.1 = true := by
      rw [← hq', ← hb']
      exact List.pairwise_iff_getElem.mp pw i (i + 1) (by omega) il (Nat.lt_succ_self i)
    refine lt_of_kle k1 fun z => ?_
    have nd := List.pairwise_iff_getElem.mp (List.pairwise_map.mp o.nd) i (i + 1) (by omega) il (Nat.lt_succ_self i)
    rw [hq', hb'] at nd
    exact nd z
theorem text_end (k : Nat) (s : DS) : Txt.endswith (textT k s) nlS = true := by
  rw [← text_join]
  refine endswith_nl (l := tl (Txt.join nlS (headT k s.g s.t :: (srt s.l).map rowT))) ?_
  rw [tl_append, tl_nl]
theorem headT_len {k : Nat} {s : DS} (h : Wr k s) : (headT (k : Int) s.g s.t).length ≤ 300 := by
  obtain ⟨g2, t0, _, _⟩ := h.g2
  have k2 := h.k2
  have lk : (numT (k : Int)).length ≤ 71 := num_len (by omega) (by omega)
  have lg : (numT s.g).length ≤ 71 := num_len h.g0 g2
  have lt : (numT s.t).length ≤ 71 := num_len t0 h.t2
  have c1 : ("desk" : Str).length = 4 := by decide +kernel
  have c2 : blS.length = 1 := by decide +kernel
  unfold headT
  simp only [app_len]
  omega
theorem rowT_len {q : Str × Int} (hn : nmOk q.1 = true) (h1 : 0 ≤ q.2) (h2 : q.2 ≤ 10 ^ 70) : (rowT q).length ≤ 300 := by
  have lz : (numT q.2).length ≤ 71 := num_len h1 h2
  have := nmOk_len hn
  have c2 : blS.length = 1 := by decide +kernel
  unfold rowT
  simp only [app_len]
  omega
theorem rows_len300 {k : Nat} {s : DS} (h : Wr k s) : ∀ r ∈ headT (k : Int) s.g s.t :: (srt s.l).map rowT, r.length ≤ 300 := fun r hr => by
  rcases List.mem_cons.mp hr with rfl | hr
  · exact headT_len h
  · obtain ⟨q, hq, rfl⟩ := List.mem_map.mp hr
    have hs := h.srt
    have := hs.num hq
    exact rowT_len (hs.ns q.1 (List.mem_map.mpr ⟨q, hq, rfl⟩)) (by omega) this.2
theorem flat_len : ∀ (R : List Str), (∀ r ∈ R, r.length ≤ 300) → ((R.map fun r => tl r ++ [10]).flatten).length ≤ 301 * R.length
  | [], _ => Nat.le_refl _
  | r :: R, h => by
    have h1 := h r List.mem_cons_self
    have ih := flat_len R fun x hx => h x (List.mem_cons_of_mem _ hx)
    have e : (r :: R).length = R.length + 1 := rfl
    rw [e, List.map_cons, List.flatten_cons, List.length_append, List.length_append, ← len_tl]
    show r.length + 1 + _ ≤ _
    omega
theorem textT_len {k : Nat} {s : DS} (h : Wr k s) : (textT k s).length ≤ 16000 := by
  have e := flat_len _ (rows_len300 h)
  rw [len_tl]
  have : (srt s.l).length ≤ 50 := by rw [(srt_perm s.l).length_eq]; exact Nat.le_trans h.O.len h.k2
  rw [List.length_cons, List.length_map] at e
  show ((List.map (fun r => tl r ++ [10]) (headT (k : Int) s.g s.t :: (srt s.l).map rowT)).flatten).length ≤ 16000
  omega
theorem sum_len : ∀ (l : List Str), (∀ z ∈ l, z.length ≤ 300) → (l.map (·.length)).sum ≤ 300 * l.length
  | [], _ => Nat.le_refl _
  | x :: l, h => by
    have h1 := h x List.mem_cons_self
    have h2 := sum_len l fun z hz => h z (List.mem_cons_of_mem _ hz)
    rw [List.map_cons, List.sum_cons, List.length_cons]
    omega
theorem text_lens {k : Nat} {s : DS} (h : Wr k s) : ∀ hd rs, rowsOf (textT k s) = hd :: rs → ∀ r ∈ rs, r.length ≤ 1000 := fun hd rs e r hr => by
  rw [text_rows h] at e
  have := rows_len300 h r (by rw [e]; exact List.mem_cons_of_mem _ hr)
  omega
theorem num_small {i : Int} (h : 0 ≤ i) : ∀ c ∈ tl (numT i), c ≤ 122 := fun c hc => by
  by_cases z : c ≤ 122
  · exact z
  · exact absurd hc (num_free h (by omega))
theorem text_small {k : Nat} {s : DS} (h : Wr k s) : ∀ c ∈ tl (textT k s), c ≤ 122 := fun c hc => by
  have hc : c ∈ ((headT (k : Int) s.g s.t :: (srt s.l).map rowT).map fun r => tl r ++ [10]).flatten := hc
  obtain ⟨x, hx, hc⟩ := List.mem_flatten.mp hc
  obtain ⟨r, hr, rfl⟩ := List.mem_map.mp hx
  obtain ⟨g2, t0, _, _⟩ := h.g2
  have hb : ∀ c ∈ tl blS, c ≤ 122 := by decide +kernel
  have hd : ∀ c ∈ tl ("desk" : Str), c ≤ 122 := by decide +kernel
  rcases List.mem_append.mp hc with hc | hc
  · rcases List.mem_cons.mp hr with rfl | hr
    · unfold headT at hc
      simp only [tl_append, List.mem_append] at hc
      rcases hc with ((((((hc | hc) | hc) | hc) | hc) | hc) | hc)
      · exact hd c hc
      · exact hb c hc
      · exact num_small (by omega) c hc
      · exact hb c hc
      · exact num_small h.g0 c hc
      · exact hb c hc
      · exact num_small t0 c hc
    · obtain ⟨q, hq, rfl⟩ := List.mem_map.mp hr
      have hs := h.srt
      have hn := hs.ns q.1 (List.mem_map.mpr ⟨q, hq, rfl⟩)
      have := hs.num hq
      unfold rowT at hc
      simp only [tl_append, List.mem_append] at hc
      rcases hc with (hc | hc) | hc
      · exact ((okC_iff.mp (show okC q.1.cps.toList = true from hn)).2.2 c hc).2
      · exact hb c hc
      · exact num_small (by omega) c hc
  · rw [List.mem_singleton.mp hc]
    decide
theorem text_strOk {k : Nat} {s : DS} (h : Wr k s) : PyData.strOk (textT k s) = true := by
  unfold PyData.strOk
  rw [← Array.all_toList, List.all_eq_true]
  intro c hc
  have := text_small h c hc
  exact decide_eq_true (by omega)
/-! ### all that a desk tells -/
def tdD (k : Nat) (s : DS) : PyData := .list [.list ((srt s.l).map encP), .int s.g, .int s.t, .int (k : Int), .list ((maybeM k s).map PyData.str), .list ((surelyM k s).map PyData.str), .str (textT k s)]
def TdAt (H : Hp) (e : Addr) (k : Nat) (s : DS) : Prop := ∃ (li a b : Addr) (ts : List Addr), H e = some (.lst [.ref li, .int s.g, .int s.t, .int (k : Int), .ref a, .ref b, .str (textT k s)]) ∧ H li = some (.lst (ts.map V.ref)) ∧ pairs H ts (srt s.l) ∧
  H a = some (.lst ((maybeM k s).map V.str)) ∧ H b = some (.lst ((surelyM k s).map V.str))
theorem TdAt.same {H H' : Hp} {e : Addr} {k : Nat} {s : DS} (h : TdAt H e k s) (q : Same H H') : TdAt H' e k s := by
  obtain ⟨li, a, b, ts, h1, h2, h3, h4, h5⟩ := h
  exact ⟨li, a, b, ts, q _ _ h1, q _ _ h2, pairs_same q h3, q _ _ h4, q _ _ h5⟩
theorem TdAt.dp {K : PySem.W.Frag} {H : Hp} {e : Addr} {k : Nat} {s : DS} (h : TdAt H e k s) : Dp K H (.ref e) (tdD k s) := by
  obtain ⟨li, a, b, ts, h1, h2, h3, h4, h5⟩ := h
  exact .lst (SqL.of h1) (.cons (dp_ps h2 h3) (.cons (.int _) (.cons (.int _) (.cons (.int _) (.cons (dp_strs (SqL.of h4)) (.cons (dp_strs (SqL.of h5)) (.cons (.str _) .nil)))))))
theorem shaped_td {k : Nat} {s : DS} (h : Wr k s) : SeqAt.shaped (tdD k s) = true := by
  have n1 : Ns (keys (srt s.l)) := h.srt.ns
  have n2 : Ns (maybeM k s) := fun n hn => h.ns n (maybeM_sub hn)
  have n3 : Ns (surelyM k s) := fun n hn => h.ns n (surelyM_sub hn)
  have e2 : PyData.canLay0 (tdD k s) = true := by
    unfold tdD
    simp [PyData.canLay0, PyData.canLayAll0, lay_ps _ n1, lay_strs _ n2, lay_strs _ n3, text_strOk h]
  have e3 : PyData.depth (tdD k s) ≤ 64 := by
    have := dep_ps (srt s.l)
    unfold tdD
    simp [PyData.depth, PyData.depthAll, dep_strs]
    omega
  unfold SeqAt.shaped
  rw [e2, decide_eq_true e3]
  rfl
theorem ne_td {K : PySem.W.Frag} {H : Hp} {Q : VK} {a b : Addr} {k j : Nat} {s s' : DS} (h : Wr k s) (h1 : TdAt H a k s) (h2 : TdAt H b j s') (e : tdD j s' = tdD k s) (q : Q (.bl false) H) : rNeD K (.ref a) (.ref b) H Q :=
  ⟨_, _, h1.dp, e ▸ h2.dp, shaped_td h, shaped_td h, by rw [SeqAt.eqv_refl _ (SeqAt.canLay_of_shaped (shaped_td h))]; exact q⟩
theorem eq_td {K : PySem.W.Frag} {H : Hp} {Q : VK} {a b : Addr} {k j : Nat} {s s' : DS} (h : Wr k s) (h1 : TdAt H a k s) (h2 : TdAt H b j s') (e : tdD j s' = tdD k s) (q : Q (.bl true) H) : rEqD K (.ref a) (.ref b) H Q :=
  ⟨_, _, h1.dp, e ▸ h2.dp, shaped_td h, shaped_td h, by rw [SeqAt.eqv_refl _ (SeqAt.canLay_of_shaped (shaped_td h))]; exact q⟩
theorem Alk.td {k : Nat} {s s' : DS} (a : Alk s s') (nd : (keys s.l).Nodup) : tdD k s = tdD k s' := by
  obtain ⟨l, g, t⟩ := s
  obtain ⟨l', g', t'⟩ := s'
  obtain ⟨p, eg, et⟩ := a
  dsimp only at p eg et nd
  subst eg et
  have e1 : srt l = srt l' := srt_of_perm nd p
  have e2 : ∀ n, leastM ⟨l, g, t⟩ n = leastM ⟨l', g, t⟩ n := fun n => by
    unfold leastM
    dsimp only
    rw [lk_perm nd p n]
  have e3 : maybeM k ⟨l, g, t⟩ = maybeM k ⟨l', g, t⟩ := by
    unfold maybeM
    dsimp only
    rw [e1]
    congr 1
    funext n
    rw [e2 n]
  have e4 : surelyM k ⟨l, g, t⟩ = surelyM k ⟨l', g, t⟩ := by
    unfold surelyM
    dsimp only
    rw [e1]
    congr 1
    funext n
    rw [e2 n]
  have e5 : textT k ⟨l, g, t⟩ = textT k ⟨l', g, t⟩ := textT_perm k nd p
  unfold tdD
  dsimp only
  rw [e1, e3, e4, e5]
theorem Wr.alk {k : Nat} {s s' : DS} (h : Wr k s') (a : Alk s s') : Wr k s := by
  obtain ⟨l, g, t⟩ := s
  obtain ⟨l', g', t'⟩ := s'
  obtain ⟨p, eg, et⟩ := a
  dsimp only at p eg et
  subst eg et
  exact h.perm p
end DK
set_option Elab.async false
set_option linter.all false
set_option maxRecDepth 100000
/-! a row of desks: mathematics -/
namespace DK
open PySem PySem.Spec PyProof.Rows L2
def rLenK (K : PySem.W.Frag) : List V → Hp → VK → Prop := fun xs H Q => ∃ p ys, xs = [.ref p] ∧ (SqL K H p ys ∨ SqT K H p ys) ∧ Q (.int ys.length) H
/-- the last so many -/
def lastN {α : Type} (n : Nat) (l : List α) : List α := l.drop (l.length - n)
theorem lastN_len {α : Type} {n : Nat} {l : List α} : (lastN n l).length ≤ n := by
  unfold lastN
  rw [List.length_drop]
  omega
theorem lastN_map {α β : Type} (f : α → β) (n : Nat) (l : List α) : (lastN n l).map f = lastN n (l.map f) := by
  unfold lastN
  rw [List.map_drop, List.length_map]
theorem lastN_mem {α : Type} {n : Nat} {l : List α} {x : α} (h : x ∈ lastN n l) : x ∈ l := List.mem_of_mem_drop h
def latF (k mx : Nat) (fs : List DS) (s : DS) : List DS := if mx < fs.length + 1 then (fs ++ [s]).tail else fs ++ [s]
theorem latF_is {k mx : Nat} {fs : List DS} {s : DS} (h : fs.length ≤ mx) : latF k mx fs s = lastN mx (fs ++ [s]) := by
  unfold latF lastN
  rw [List.length_append, List.length_singleton]
  by_cases c : mx < fs.length + 1
  · rw [if_pos c, show fs.length + 1 - mx = 1 by omega, List.drop_one]
  · rw [if_neg c, show fs.length + 1 - mx = 0 by omega, List.drop_zero]
def toldM (k : Nat) (l : List DS) : DS := l.foldl (pourM k) ⟨[], 0, 0⟩
def dueL (k : Nat) (l : List DS) : DS := l.foldl (pourL k) ⟨[], 0, 0⟩
theorem toldM_snoc (k : Nat) (l : List DS) (s : DS) : toldM k (l ++ [s]) = pourM k (toldM k l) s := by
  unfold toldM
  rw [List.foldl_append]
  rfl
theorem dueL_snoc (k : Nat) (l : List DS) (s : DS) : dueL k (l ++ [s]) = pourL k (dueL k l) s := by
  unfold dueL
  rw [List.foldl_append]
  rfl
theorem toldM_ok {k : Nat} : ∀ l : List DS, (∀ s ∈ l, Ok k s.l) → Ok k (toldM k l).l :=
  snoc_ind (fun _ => ok_nil k) fun l s ih h => by
    rw [toldM_snoc]
    exact pour_ok (ih fun x hx => h x (List.mem_append_left _ hx)) (h s (List.mem_append_right _ (List.mem_singleton.mpr rfl)))
theorem dueL_ok {k : Nat} : ∀ l : List DS, (∀ s ∈ l, Ok k s.l) → Ok k (dueL k l).l :=
  snoc_ind (fun _ => ok_nil k) fun l s ih h => by
    rw [dueL_snoc]
    have o := ih fun x hx => h x (List.mem_append_left _ hx)
    have o' := h s (List.mem_append_right _ (List.mem_singleton.mpr rfl))
    exact cut_ok (sumD_nd o.nd) (sumD_pos o.pos o'.pos)
theorem told_due {k : Nat} : ∀ l : List DS, (∀ s ∈ l, Ok k s.l) → Alk (toldM k l) (dueL k l) :=
  snoc_ind (fun _ => Alk.refl _) fun l s ih h => by
    have hl : ∀ x ∈ l, Ok k x.l := fun x hx => h x (List.mem_append_left _ hx)
    have os := h s (List.mem_append_right _ (List.mem_singleton.mpr rfl))
    have ot := toldM_ok l hl
    have od := dueL_ok l hl
    obtain ⟨pl, pg, pt⟩ := ih hl
    rw [toldM_snoc, dueL_snoc]
    have p := sumD_perm (srt_ok ot).nd (srt_ok os).nd (srt_ok ot).pos (srt_ok os).pos ((srt_perm _).trans pl) (srt_perm s.l)
    have := cut_perm (k := k) p ((toldM k l).g + s.g) ((toldM k l).t + s.t)
    unfold pourM pourL
    rw [← pg, ← pt]
    exact ⟨this.1, this.2, by rw [cut_t, cut_t]⟩
theorem toldM_ns {k : Nat} : ∀ l : List DS, (∀ s ∈ l, ∀ n ∈ keys s.l, nmOk n = true) → ∀ n ∈ keys (toldM k l).l, nmOk n = true :=
  snoc_ind (fun _ n h => by simp [toldM, keys] at h) fun l s ih h n hn => by
    rw [toldM_snoc] at hn
    rcases pour_keys hn with h1 | h1
    · exact ih (fun x hx => h x (List.mem_append_left _ hx)) n h1
    · exact h s (List.mem_append_right _ (List.mem_singleton.mpr rfl)) n h1
theorem toldM_nil (k : Nat) : toldM k ([] ++ [(⟨[], 0, 0⟩ : DS)]) = ⟨[], 0, 0⟩ := by
  have e : srt [] = [] := (srt_perm []).eq_nil
  show pourM k ⟨[], 0, 0⟩ ⟨[], 0, 0⟩ = _
  unfold pourM
  show cutM k (sumD (srt []) (srt [])) (0 + 0) (0 + 0) = _
  rw [e, sumD_nil, cut_same (Nat.zero_le _)]
  rfl
/-- a coming to a row -/
def lcF (k pc mx : Nat) (fs : List DS) (s : DS) (j : Nat) (n : Str) (w : Int) : List DS := if j + 1 = pc then latF k mx fs (comeM k s n w) else fs
def lcS (k pc : Nat) (s : DS) (j : Nat) (n : Str) (w : Int) : DS := if j + 1 = pc then ⟨[], 0, 0⟩ else comeM k s n w
def lcJ (pc j : Nat) : Nat := if j + 1 = pc then 0 else j + 1
/-- .. and to the pieces -/
def pgG (pc mx : Nat) (gs : List Dk) (cur : Dk) : List Dk := if cur.length = pc then lastN mx (gs ++ [cur]) else gs
def pgC (pc : Nat) (cur : Dk) : Dk := if cur.length = pc then [] else cur
structure Rw (k pc mx : Nat) (gs : List Dk) (cur : Dk) : Prop where
  le : gs.length ≤ mx
  full : ∀ g ∈ gs, g.length = pc
  lt : cur.length < pc
  good : ∀ g ∈ gs, GoodP g
  goodc : GoodP cur
theorem Rw.nil {k pc mx : Nat} (h : 1 ≤ pc) : Rw k pc mx [] [] := ⟨Nat.zero_le _, fun g h => by simp at h, h, fun g h => by simp at h, fun p h => by simp at h⟩
theorem good_snoc {cur : Dk} {n : Str} {w : Int} (h : GoodP cur) (hn : nmOk n = true) (w1 : 1 ≤ w) (w2 : w ≤ 10 ^ 60) : GoodP (cur ++ [(n, w)]) := fun p hp => by
  rcases List.mem_append.mp hp with h1 | h1
  · exact h p h1
  · rw [List.mem_singleton.mp h1]
    exact ⟨hn, w1, w2⟩
theorem Rw.come {k pc mx : Nat} {gs : List Dk} {cur : Dk} {n : Str} {w : Int} (r : Rw k pc mx gs cur) (hp : 1 ≤ pc) (hn : nmOk n = true) (w1 : 1 ≤ w) (w2 : w ≤ 10 ^ 60) :
    Rw k pc mx (pgG pc mx gs (cur ++ [(n, w)])) (pgC pc (cur ++ [(n, w)])) ∧ lcF k pc mx (gs.map (stM k)) (stM k cur) cur.length n w = (pgG pc mx gs (cur ++ [(n, w)])).map (stM k) ∧
    lcS k pc (stM k cur) cur.length n w = stM k (pgC pc (cur ++ [(n, w)])) ∧ lcJ pc cur.length = (pgC pc (cur ++ [(n, w)])).length := by
  have e : stM k (cur ++ [(n, w)]) = comeM k (stM k cur) n w := stM_snoc k cur (n, w)
  have el : (cur ++ [(n, w)]).length = cur.length + 1 := by rw [List.length_append, List.length_singleton]
  have gc := good_snoc r.goodc hn w1 w2
  unfold lcF lcS lcJ pgG pgC
  rw [el]
  by_cases c : cur.length + 1 = pc
  · rw [if_pos c, if_pos c, if_pos c, if_pos c, if_pos c]
    refine ⟨⟨lastN_len, fun g hg => ?_, hp, fun g hg => ?_, fun p h => by simp at h⟩, ?_, rfl, rfl⟩
    · rcases List.mem_append.mp (lastN_mem hg) with h | h
      · exact r.full g h
      · rw [List.mem_singleton.mp h, el]; exact c
    · rcases List.mem_append.mp (lastN_mem hg) with h | h
      · exact r.good g h
      · rw [List.mem_singleton.mp h]; exact gc
    · rw [latF_is (by rw [List.length_map]; exact r.le), lastN_map, List.map_append, ← e]
      rfl
  · rw [if_neg c, if_neg c, if_neg c, if_neg c, if_neg c]
    exact ⟨⟨r.le, r.full, by rw [el]; have := r.lt; omega, r.good, gc⟩, rfl, e.symm, el.symm⟩
theorem stM_ok {k : Nat} (hk : 0 < k) {l : Dk} (h : GoodP l) : Ok k (stM k l).l := (bd_of hk l h).O
theorem Rw.ok {k pc mx : Nat} {gs : List Dk} {cur : Dk} (r : Rw k pc mx gs cur) (hk : 0 < k) : ∀ s ∈ (gs ++ [cur]).map (stM k), Ok k s.l := fun s hs => by
  obtain ⟨g, hg, rfl⟩ := List.mem_map.mp hs
  rcases List.mem_append.mp hg with h | h
  · exact stM_ok hk (r.good g h)
  · rw [List.mem_singleton.mp h]; exact stM_ok hk r.goodc
theorem Rw.ns {k pc mx : Nat} {gs : List Dk} {cur : Dk} (r : Rw k pc mx gs cur) : ∀ s ∈ (gs ++ [cur]).map (stM k), ∀ n ∈ keys s.l, nmOk n = true := fun s hs => by
  obtain ⟨g, hg, rfl⟩ := List.mem_map.mp hs
  rcases List.mem_append.mp hg with h | h
  · exact stM_ns k g (r.good g h)
  · rw [List.mem_singleton.mp h]; exact stM_ns k cur r.goodc
theorem sum_same {pc : Nat} : ∀ {gs : List Dk}, (∀ g ∈ gs, g.length = pc) → (gs.map fun g => ((g.length : Nat) : Int)).sum = ((gs.length * pc : Nat) : Int)
  | [], _ => by simp
  | g :: gs, h => by
    rw [List.map_cons, List.sum_cons, sum_same fun x hx => h x (List.mem_cons_of_mem _ hx), h g List.mem_cons_self, List.length_cons, Nat.succ_mul]
    omega
theorem Rw.reach {k pc mx : Nat} {gs : List Dk} {cur : Dk} (r : Rw k pc mx gs cur) : ((gs ++ [cur]).map fun g => ((g.length : Nat) : Int)).sum = ((gs.length * pc + cur.length : Nat) : Int) := by
  rw [List.map_append, List.sum_append, sum_same r.full]
  simp
/-! ### the last comings -/
theorem hd_of {k : Nat} (hk : 0 < k) : ∀ l : Dk, GoodP l → Hd k (stM k l) (trM l) :=
  snoc_ind (fun _ => Hd.nil k) fun l p ih hg => by
    have g1 : GoodP l := fun q hq => hg q (List.mem_append_left _ hq)
    obtain ⟨_, w1, _⟩ := hg p (List.mem_append_right _ (List.mem_singleton.mpr rfl))
    rw [stM_snoc, trM_snoc]
    exact (ih g1).come (by omega) hk
theorem told_hd {k : Nat} (hk : 0 < k) : ∀ L : List Dk, (∀ g ∈ L, GoodP g) → ∃ tr, Hd k (toldM k (L.map (stM k))) tr ∧ ∀ n, (lk tr n).getD 0 = wt L.flatten n :=
  snoc_ind (fun _ => ⟨[], Hd.nil k, fun _ => rfl⟩) fun L g ih h => by
    obtain ⟨tr, a, e⟩ := ih fun x hx => h x (List.mem_append_left _ hx)
    have b := hd_of hk g (h g (List.mem_append_right _ (List.mem_singleton.mpr rfl)))
    refine ⟨sumD tr (trM g), ?_, fun n => ?_⟩
    · rw [List.map_append]
      show Hd k (toldM k (L.map (stM k) ++ [stM k g])) _
      rw [toldM_snoc]
      exact a.pour b
    · rw [sumD_lk n b.nd, e, trM_wt, List.flatten_append, wt_append]
      simp
theorem told_t {k : Nat} : ∀ L : List Dk, (toldM k (L.map (stM k))).t = tot L.flatten :=
  snoc_ind rfl fun L g ih => by
    rw [List.map_append]
    show (toldM k (L.map (stM k) ++ [stM k g])).t = _
    rw [toldM_snoc, List.flatten_append, tot_append, ← ih]
    unfold pourM
    rw [cut_t, stM_t]
    simp
/-- of all that came the last stand in the pieces -/
structure Kp (mx : Nat) (l : Dk) (gs : List Dk) (cur : Dk) : Prop where
  ex : ∃ dr, l = dr ++ (gs ++ [cur]).flatten ∧ (dr = [] ∨ gs.length = mx)
theorem Kp.nil (mx : Nat) : Kp mx [] [] [] := ⟨[], rfl, .inl rfl⟩
theorem Kp.come {k pc mx : Nat} {l : Dk} {gs : List Dk} {cur : Dk} {n : Str} {w : Int} (K0 : Kp mx l gs cur) (r : Rw k pc mx gs cur) (hm : 1 ≤ mx) : Kp mx (l ++ [(n, w)]) (pgG pc mx gs (cur ++ [(n, w)])) (pgC pc (cur ++ [(n, w)])) := by
  obtain ⟨dr, e, hd⟩ := K0.ex
  have e2 : l ++ [(n, w)] = dr ++ (gs ++ [cur ++ [(n, w)]]).flatten := by rw [e]; simp
  unfold pgG pgC
  by_cases c : (cur ++ [(n, w)]).length = pc
  · rw [if_pos c, if_pos c, e2]
    have e3 : (lastN mx (gs ++ [cur ++ [(n, w)]]) ++ [[]]).flatten = (lastN mx (gs ++ [cur ++ [(n, w)]])).flatten := by simp
    have e4 : (gs ++ [cur ++ [(n, w)]]).flatten = ((gs ++ [cur ++ [(n, w)]]).take ((gs ++ [cur ++ [(n, w)]]).length - mx)).flatten ++ (lastN mx (gs ++ [cur ++ [(n, w)]])).flatten := by
      unfold lastN
      rw [← List.flatten_append, List.take_append_drop]
    refine ⟨dr ++ ((gs ++ [cur ++ [(n, w)]]).take ((gs ++ [cur ++ [(n, w)]]).length - mx)).flatten, by rw [e3, e4, List.append_assoc], ?_⟩
    have el : (gs ++ [cur ++ [(n, w)]]).length = gs.length + 1 := by rw [List.length_append, List.length_singleton]
    have le := r.le
    by_cases c2 : gs.length = mx
    · refine .inr ?_
      unfold lastN
      rw [List.length_drop, el]
      omega
    · refine .inl ?_
      rcases hd with rfl | h
      · rw [el, show gs.length + 1 - mx = 0 by omega, List.take_zero]
        rfl
      · exact absurd h c2
  · rw [if_neg c, if_neg c]
    exact ⟨dr, e2, hd⟩
theorem flat_plen {pc : Nat} : ∀ {gs : List Dk}, (∀ g ∈ gs, g.length = pc) → gs.flatten.length = gs.length * pc
  | [], _ => by simp
  | g :: gs, h => by
    rw [List.flatten_cons, List.length_append, flat_plen fun x hx => h x (List.mem_cons_of_mem _ hx), h g List.mem_cons_self, List.length_cons, Nat.succ_mul]
    omega
theorem Rw.len {k pc mx : Nat} {gs : List Dk} {cur : Dk} (r : Rw k pc mx gs cur) : (gs ++ [cur]).flatten.length = gs.length * pc + cur.length := by
  rw [List.flatten_append, List.length_append, flat_plen r.full]
  simp
theorem Kp.last {k pc mx : Nat} {l : Dk} {gs : List Dk} {cur : Dk} (K0 : Kp mx l gs cur) (r : Rw k pc mx gs cur) :
    gs.length * pc + cur.length ≤ l.length ∧ l.drop (l.length - (gs.length * pc + cur.length)) = (gs ++ [cur]).flatten ∧ gs.length * pc + cur.length < pc * (mx + 1) ∧ (gs.length * pc + cur.length ≠ l.length → pc * mx ≤ gs.length * pc + cur.length) := by
  obtain ⟨dr, e, hd⟩ := K0.ex
  have el : l.length = dr.length + (gs.length * pc + cur.length) := by rw [e, List.length_append, r.len]
  refine ⟨by omega, ?_, ?_, fun h => ?_⟩
  · rw [el, Nat.add_sub_cancel, e, List.drop_left]
  · have h1 := Nat.mul_le_mul_right pc r.le
    have h2 := r.lt
    rw [Nat.mul_add, Nat.mul_comm pc mx]
    omega
  · rcases hd with rfl | h2
    · exfalso
      apply h
      rw [el]
      simp
    · rw [h2, Nat.mul_comm pc mx]
      omega
end DK
set_option Elab.async false
set_option linter.all false
set_option maxRecDepth 100000
set_option maxHeartbeats 4000000
/-! a kept error that has a dict of its own -/
namespace DK
open PySem PySem.Spec PyProof.Rows L2
theorem inst_ofD {P : Program} {w : World} {H : Hp} {h : Heap} {a d D : Addr} {fs : List (Str × V)} (o : ObjOk P w H h a (ExK (.ref D) (some d) a)) (od : ObjOk P w H h d (.xd fs)) :
    ∃ (oe u : Obj) (mA : Str → Option Value), PySem.W.InstAt h a oe D (some u) ∧ (∀ f, PySem.W.lookIn f u = some (mA f)) ∧ ∀ f, RelO (fs.lookup f) (mA f) := by
  obtain ⟨⟨oe, vs, e, z, f⟩, _, _⟩ := o
  obtain ⟨mA, hns, hr⟩ := od
  obtain ⟨u, hu, hl⟩ := lookIn_ns hns
  refine ⟨oe, u, mA, ⟨e, z.1, ?_, ?_⟩, hl, hr⟩
  · unfold PySem.W.notCls
    rw [f]
  · rw [z.2]
    exact hu
def rIsKD (K : PySem.W.Frag) : List V → Hp → VK → Prop := fun xs H Q => ∃ (a d D C : Addr) (fs : List (Str × V)) (b : Bool), xs = [.ref a, .ref C] ∧ H a = some (ExK (.ref D) (some d) a) ∧ H d = some (.xd fs) ∧ ExcC K D ∧ PySem.W.kitOne K (.ref D) (.ref C) = some b ∧ Q (.bl b) H
def rIsKTD (K : PySem.W.Frag) : List V → Hp → VK → Prop := fun xs H Q => ∃ (a d D tp : Addr) (fs : List (Str × V)) (cs : List V) (us : List Value) (b : Bool), xs = [.ref a, .ref tp] ∧ H tp = some (.tup cs) ∧ Paired ClsV cs us ∧ H a = some (ExK (.ref D) (some d) a) ∧ H d = some (.xd fs) ∧ ExcC K D ∧ PySem.W.kitAny K (.ref D) us = some b ∧ Q (.bl b) H
section
variable {X : Cx}
theorem cls_is {K : PySem.W.Frag} {D : Addr} (h : PySem.W.hasDictIn K D = true) : (PySem.W.clsIn K D).isSome = true := by
  obtain ⟨cd, hc, _⟩ := PySem.W.any_some h
  rw [hc]
  rfl
theorem call_isKD : CallR X (.builtin "isinstance") (rIsKD X.K) := by
  intro pins s σ H xs us Q I r h
  obtain ⟨a, d, D, C, fs, b, rfl, ha, hd, hC, e, q⟩ := h
  obtain ⟨u1, u2, rfl, r1, r2⟩ := vals2 r
  cases (show u1 = Value.ref a from r1)
  cases (show u2 = Value.ref C from r2)
  obtain ⟨oe, u, mA, J, _, _⟩ := inst_ofD (show ObjOk X.prog X.w H s.heap a (ExK (.ref D) (some d) a) from I.hok a _ ha) (I.hok d _ hd)
  exact PySem.W.kia_one (PySem.W.kitx_exc (cls_is hC.hd) hC.hg hC.hk hC.hs hC.ha hC.hn hC.ht hC.hm) I.kIn J e (fun z => nomatch z) fun tk => ⟨.bl b, H, I.tok tk, rfl, q⟩
theorem call_isKTD : CallR X (.builtin "isinstance") (rIsKTD X.K) := by
  intro pins s σ H xs us Q I r h
  obtain ⟨a, d, D, tp, fs, cs, ws, b, rfl, hT, k, ha, hd, hC, e, q⟩ := h
  obtain ⟨u1, u2, rfl, r1, r2⟩ := vals2 r
  cases (show u1 = Value.ref a from r1)
  cases (show u2 = Value.ref tp from r2)
  obtain ⟨oe, u, mA, J, _, _⟩ := inst_ofD (show ObjOk X.prog X.w H s.heap a (ExK (.ref D) (some d) a) from I.hok a _ ha) (I.hok d _ hd)
  obtain ⟨_, its, rv, o, h1, h2, n, h3⟩ := (show ObjOk X.prog X.w H s.heap tp (.tup cs) from I.hok tp _ hT)
  have e3 := ClsV.all k rv
  subst e3
  obtain ⟨oc, od, dt, sl⟩ := o
  simp only at h2 h3
  subst h2 h3
  exact PySem.W.kia_tup (PySem.W.kitx_exc (cls_is hC.hd) hC.hg hC.hk hC.hs hC.ha hC.hn hC.ht hC.hm) I.kIn J h1 e (fun z => nomatch z) fun tk => ⟨.bl b, H, I.tok tk, rfl, q⟩
/-- a field of it -/
def tXk (C : Addr) (f : Str) (te : TE) : TE := fun σ H Q => te σ H fun x H1 => ∃ (a d : Addr) (fs : List (Str × V)) (v : V), x = .ref a ∧ H1 a = some (ExK (.ref C) (some d) a) ∧ H1 d = some (.xd fs) ∧ fs.lookup f = some v ∧ Q v H1
theorem pe_xk {C : Addr} {e : Expr} {te : TE} {pos : Pos} {n : Str} (T : XfC X.K C) (hno : PySem.W.findIn X.K (.ref C) n = some none) (he : PE X e te) (hb : attributeBase e n X.env (eval e X.env) = eval e X.env := by rfl) : PE X (.Attribute e n pos) (tXk C n te) := by
  refine ⟨fun pins s σ H Q I h => ?_⟩
  refine attr_of hb (thn (he.run pins s σ H _ I h) fun u s1 hh => ?_)
  obtain ⟨x, H1, I1, rx, a, d, fs, v, ex, ha, hd, l, q⟩ := hh
  subst ex
  obtain rfl : u = Value.ref a := rx
  obtain ⟨oe, u, mA, J, hl, hr⟩ := inst_ofD (show ObjOk X.prog X.w H1 s1.heap a (ExK (.ref C) (some d) a) from I1.hok a _ ha) (I1.hok d _ hd)
  obtain ⟨z, hz, rz⟩ := RelO.some_of (v := v) (o := mA n) (by rw [← l]; exact hr n)
  exact HandSPX.exc_get I1.kIn J T.ga T.gg T.exC (PySem.W.findObj_own T.hdC hno rfl (by rw [hl, hz])) (handed_of rz) ⟨v, H1, I1.tok _, rz, q⟩
end
end DK
set_option Elab.async false
set_option linter.all false
set_option maxRecDepth 100000
set_option maxHeartbeats 4000000
/-! the first place of a sign replaced; statements behind which a token is out -/
namespace DK
open PySem PySem.Spec PyProof.Rows L2 TL
open Builtin Builtin.Str in
theorem gives_repl1 (x y z : Str) (t u v w : Tok) (hc : ((occurrences x y 0 x.length 1).isEmpty || (y.length == 0 && z.length == 0)) = false) (h0 : (u == 0 || v == 0) = false) (huv : (u == v) = false) (hyz : (y == z) = false) (hl : tooLong (x.length + (occurrences x y 0 x.length 1).length * z.length) = false) :
    Gives («str.replace» ⟨[.str x t, .str y u, .str z v, .int 1 w], []⟩) (.str (glued z (partsBetween x (occurrences x y 0 x.length 1) y.length))) := by
  have e : «str.replace» ⟨[.str x t, .str y u, .str z v, .int 1 w], []⟩ = (if ((occurrences x y 0 x.length 1).isEmpty || (y.length == 0 && z.length == 0)) = true then (do rule "str.replace.nothing"; ret (.str x t)) else (do
      let same ← isSame (.str y u) (.str z v)
      if same = true then (do rule "str.replace.old-is-new"; ret (.str x t)) else
        if tooLong (x.length + (occurrences x y 0 x.length 1).length * z.length) = true then unsupported "str.replace:memory" else retStr (glued z (partsBetween x (occurrences x y 0 x.length 1) y.length)))) := by
    show (do let limit ← countLimit "str.replace" (some (.int 1 w)) (x.length + 1); _) = _
    rw [countLimit_int "str.replace" 1 w (x.length + 1) (by decide)]
    rfl
  rw [e, hc, if_neg Bool.false_ne_true, isSame_str_other y z u v h0 huv hyz, hl]
  exact .of_eq rfl
open Builtin Builtin.Str in
theorem repl1_is {a b y z : Str} {c : Nat} (ey : tl y = [c]) (h : c ∉ tl a) : ((occurrences (a ++ y ++ b) y 0 (a ++ y ++ b).length 1).isEmpty || (y.length == 0 && z.length == 0)) = false ∧ (occurrences (a ++ y ++ b) y 0 (a ++ y ++ b).length 1).length ≤ 1 ∧
    glued z (partsBetween (a ++ y ++ b) (occurrences (a ++ y ++ b) y 0 (a ++ y ++ b).length 1) y.length) = a ++ z ++ b := by
  have l1 := StrLaws.occ_length_le (a ++ y ++ b) y 0 (a ++ y ++ b).length 1
  have ly : y.length = 1 := by rw [len_tl, ey]; rfl
  have hp := partition_app (S := []) ey (b := b) h
  generalize a ++ y ++ b = x at *
  unfold Txt.partition at hp
  cases e : occurrences x y 0 x.length 1 with
  | nil =>
    rw [e] at hp
    have := congrArg (fun q => q.2.1) hp
    have this : Str.empty = y := this
    rw [← this] at ly
    exact absurd ly (by decide)
  | cons i r =>
    rw [e] at hp l1
    obtain rfl : r = [] := by
      cases r with
      | nil => rfl
      | cons _ _ => simp at l1
    have h1 : strSub x 0 i = a := congrArg (fun q => q.1) hp
    have h2 : strSub x (i + y.length) x.length = b := congrArg (fun q => q.2.2) hp
    refine ⟨by rw [ly]; rfl, Nat.le_refl _, ?_⟩
    show glued z [strSub x 0 i, strSub x (i + y.length) x.length] = _
    rw [h1, h2]
    exact ext_tl (by rw [tl_append, tl_append]; show (a.cps ++ z.cps ++ b.cps).toList = _; simp [tl])
theorem op_mulB {X : Cx} : OpR X (binaryOp .Mult) (fun x y H Q => ∃ z k, x = .str z ∧ y = .int k ∧ z.length ≤ 8 ∧ 0 ≤ k ∧ k ≤ 5000 ∧ Q (.str (PySem.Txt.mul z k)) H) := by
  intro pins s σ H x y v u Q I rx ry h
  obtain ⟨z, k, rfl, rfl, hz, h0, h1, q⟩ := h
  obtain ⟨t, rfl⟩ := rx
  obtain ⟨t2, rfl⟩ := ry
  exact PySem.SB.mul (PyProof.Rows.mulOk_of 8 5000 hz (by omega) (by omega) (by omega) (by omega)) fun t' k' => ⟨.str (PySem.Txt.mul z k), H, I.tok k', ⟨t', rfl⟩, q⟩
/-- the reading: the first c of a text -/
def tRepl1 (to : TE) (c : Nat) (y z : Str) : TE := fun σ H Q => to σ H fun v H1 => ∃ a b : Str, v = .str (a ++ y ++ b) ∧ c ∉ tl a ∧ (a ++ y ++ b).length ≤ 1000 ∧ z.length ≤ 10 ∧ Q (.str (a ++ z ++ b)) H1
section
variable {X : Cx} {o e f : Expr} {te tf : TE} {to : TE} {y z : Str} {j k l : Nat} {c0 c1 c2 apos pos p p' : Pos}
theorem pet_repl1 {c : Nat} (ey : tl y = [c]) (ho : PE X o to) (hyz : (y == z) = false := by decide)
    (hst : starEach [.Constant (.str y) j c0, .Constant (.str z) k c1, .Constant (.int 1) l c2] X.env = [(false, eval (.Constant (.str y) j c0) X.env), (false, eval (.Constant (.str z) k c1) X.env), (false, eval (.Constant (.int 1) l c2) X.env)] := by rfl)
    (hbase : attributeBase o "replace" X.env (eval o X.env) = eval o X.env := by rfl) (hline : (apos.endLine == pos.line) = true := by rfl) :
    PET X (.Call (.Attribute o "replace" apos) [.Constant (.str y) j c0, .Constant (.str z) k c1, .Constant (.int 1) l c2] [] pos) (tRepl1 to c y z) := by
  intro pins s σ H Q h0 I h
  refine wpAny_Call_method_lateS hbase (by rw [hst]; rfl) hline ?_
  rw [hst]
  refine wpAny_mono (PySem.wpAny_toks (ho.run pins s σ H _ I h)) (fun v s1 q => ?_) fun _ _ z => z.2
  obtain ⟨hk, v', H1, I1, r1, a, b, e1, hc, hb, hz, q⟩ := q
  subst e1
  obtain ⟨tx, e2⟩ := r1
  subst e2
  obtain ⟨g1, g2, g3⟩ := repl1_is (z := z) (b := b) ey hc
  refine ⟨"str", _, PySem.F.plainAttrs_str, PySem.F.slot_str_replace, PySem.F.type_str_replace, typeIs_str _ _ _, (fun _ e => nomatch e), Calls.callWith_builtin rfl (Calls.evalArgs_plain (Calls.spliced_cons ?_))⟩
  show wpAny _ _ (eval (.Constant (.str y) j c0) X.env) _ _ _
  refine Calls.Constant_str (Calls.spliced_cons ?_)
  show wpAny _ _ (eval (.Constant (.str z) k c1) X.env) _ _ _
  refine Calls.Constant_str (Calls.spliced_cons ?_)
  show wpAny _ _ (eval (.Constant (.int 1) l c2) X.env) _ _ _
  refine wpAny_Constant_int (Calls.spliced_nil ?_)
  have tk0 : (s1.toks == 0 || s1.toks + 1 == 0) = false := Bool.or_eq_false_iff.mpr ⟨beq_eq_false_iff_ne.mpr (by omega), beq_eq_false_iff_ne.mpr (by omega)⟩
  have tk1 : (s1.toks == s1.toks + 1) = false := beq_eq_false_iff_ne.mpr (by omega)
  have hl : Builtin.Str.tooLong ((a ++ y ++ b).length + (Builtin.Str.occurrences (a ++ y ++ b) y 0 (a ++ y ++ b).length 1).length * z.length) = false := by
    have h2 : (Builtin.Str.occurrences (a ++ y ++ b) y 0 (a ++ y ++ b).length 1).length * z.length ≤ 1 * z.length := Nat.mul_le_mul_right _ g2
    unfold Builtin.Str.tooLong
    refine decide_eq_false ?_
    rw [sizeLine_eq]
    omega
  refine call_gives PySem.F.slot_str_replace (typeIs_str _ _ _) PySem.F.entry_str_replace (PySem.F.args_str_replace_4 _ _ _ _)
    (gives_repl1 (a ++ y ++ b) y z tx s1.toks (s1.toks + 1) (s1.toks + 1 + 1) g1 tk0 tk1 hyz hl) ?_
  rw [g3]
  refine ⟨?_, .str (a ++ z ++ b), H1, I1.tok _, ⟨_, rfl⟩, q⟩
  have e3 : (a ++ y ++ b).length = a.length + y.length + b.length := by rw [app_len, app_len]
  rw [app_len, app_len, sizeLine_eq]
  omega
theorem pet_ix {r : R2} (hr : IxR X r) (ha : PET X e te) (hb : PE X f tf) (hs : PlainIx f) : PET X (.Subscript e f pos) (tOp r te tf) := by
  intro pins s σ H Q h0 I h
  refine Subscript_ (thn (ha pins s σ H _ h0 I h) fun v s1 ⟨x, H1, I1, rx, q1⟩ => thn (hb.run pins s1 σ H1 _ I1 q1) fun u s2 ⟨y, H2, I2, ry, q2⟩ => ?_)
  exact hr e f pins s2 σ H2 x y v u Q I2 rx ry q2 (hs _ _)
theorem pst_set {i : Nat} {x : Str} {pos' : Pos} (hN : X.N.Nodup) (hi : X.N[i]? = some x) (hx : Loc X.env.scope x) (he : PET X e te) (hs : swapsWith e (some (.Name x pos')) pos.line X.env = pure false := by rfl) (hf : X.fn x = true ∨ X.env.scope.names.lookup x = some .local := by first | exact .inl rfl | exact .inr rfl | assumption) :
    PST X (.Assign [.Name x pos'] e pos) (tAsg te (gName i)) := by
  intro pins s σ H D h0 I h
  refine wpAny_Assign_Name (thn (he pins s σ H _ h0 I h) fun v s1 ⟨y, H1, I1, r1, q1⟩ => ?_) hs
  exact store_ok I1 hN hi hx r1 (fun s2 I2 => ⟨_, H1, I2, q1⟩) hf
theorem psst_cut {st : Stmt} {rest : List Stmt} {t u : TS} (h1 : PST X st t) (h2 : PSsT X rest u) : PSsT X (st :: rest) (Evl.tCut t u) := by
  intro pins s σ H D h0 I h
  obtain ⟨Mid, hm, hu⟩ := h
  refine wpAny_execs_cons (wpAny_mono (PySem.wpAny_toks (h1 pins s σ H { D with nx := Mid } h0 I hm)) (fun f s1 q => ?_) fun _ _ x => x.2)
  obtain ⟨hk, q⟩ := q
  cases f with
  | next =>
    obtain ⟨σ', H', I', q⟩ := q
    exact h2 pins s1 σ' H' D (Nat.le_trans h0 hk) I' (hu σ' H' q)
  | ret v => exact q
  | brk => exact q
  | cont => exact q
/-- behind the test a token is out -/
def PT1 (X : Cx) (c : Expr) (tc : TT) : Prop :=
  ∀ (pins : List (Addr × Obj)) (s : Shared) (σ : L2.St) (H : Hp) (Q : Bool → Hp → Prop), Inv X pins σ H s → tc σ H Q → wpAny (model X.prog X.w) X.A (isTrue c X.env (eval c X.env)) (fun d s1 => 1 ≤ s1.toks ∧ ∃ H1, Inv X pins σ H1 s1 ∧ Q d H1) X.xe s
theorem pt1_int {op : CmpOp} {r : R2} {i : Int} (ho : OpR X (compareOp op) r) (ha : PE X e te) (hm : behindInMarks op (.Constant (.int i) k c0) = false := by rfl) : PT1 X (.Compare e [op] [.Constant (.int i) k c0] pos) (tTest (tOp r te (tC (.int i)))) := by
  intro pins s σ H Q I h
  refine wpAny_isTrue_Compare1 (thn (ha.run pins s σ H _ I h) fun v s1 ⟨x, H1, I1, r1, q1⟩ => wpAny_Constant_int ?_) hm
  refine wpAny_mono (PySem.wpAny_toks (ho pins { s1 with toks := s1.toks + 1 } σ H1 x (.int i) v (.int i s1.toks) _ (I1.tok _) r1 ⟨_, rfl⟩ q1)) (fun c s3 q => ?_) fun _ _ z => z.2
  obtain ⟨hk, z, H3, I3, r3, b, e3, q3⟩ := q
  subst e3
  cases r3
  exact wpAny_truthy_bool ⟨Nat.le_trans (Nat.le_add_left 1 _) hk, H3, I3, q3⟩
theorem pss_ifTok {c : Expr} {a b rest : List Stmt} {tc : TT} {t u v : TS} (hc : PT1 X c tc) (ha : PSsT X a t) (hb : PSsT X b u) (hr : PSsT X rest v) : PSs X (.If c a b pos :: rest) (tSeq (tIfS tc t u) v) := by
  refine ⟨fun pins s σ H D I h => ?_⟩
  refine wpAny_execs_cons (wpAny_If (thn (hc pins s σ H _ I h) fun d s1 ⟨h1, H1, I1, q1⟩ => ?_))
  cases d with
  | true =>
    refine wpAny_mono (PySem.wpAny_toks (ha pins s1 σ H1 { D with nx := v D } h1 I1 q1)) (fun f s2 q => ?_) fun _ _ x => x.2
    obtain ⟨hk, q⟩ := q
    cases f with
    | next =>
      obtain ⟨σ', H', I', q⟩ := q
      exact hr pins s2 σ' H' D (Nat.le_trans h1 hk) I' q
    | ret v => exact q
    | brk => exact q
    | cont => exact q
  | false =>
    refine wpAny_mono (PySem.wpAny_toks (hb pins s1 σ H1 { D with nx := v D } h1 I1 q1)) (fun f s2 q => ?_) fun _ _ x => x.2
    obtain ⟨hk, q⟩ := q
    cases f with
    | next =>
      obtain ⟨σ', H', I', q⟩ := q
      exact hr pins s2 σ' H' D (Nat.le_trans h1 hk) I' q
    | ret v => exact q
    | brk => exact q
    | cont => exact q
end
end DK
set_option Elab.async false
set_option linter.all false
set_option maxRecDepth 100000
/-! rows that are at fault -/
namespace DK
open PySem PySem.Spec PyProof.Rows L2 TL
/-! ### numbers that are none -/
theorem numOf_bad {l : List Nat} (h : numOk l = false) : numOf l = -1 := by
  unfold numOf
  rw [h]
  rfl
theorem num_sign {l : List Nat} {c : Nat} (hc : c ∈ l) (h : c < 48 ∨ 57 < c) : numOf l = -1 := by
  refine numOf_bad ?_
  have : figs l = false := by
    unfold figs
    rw [List.all_eq_false]
    refine ⟨c, hc, ?_⟩
    rw [Bool.and_eq_true, decide_eq_true_iff, decide_eq_true_iff]
    omega
  unfold numOk
  rw [this, Bool.and_false]
theorem num_zero {l : List Nat} (h : l ≠ []) : numOf (48 :: l) = -1 := by
  refine numOf_bad ?_
  unfold numOk
  have e : ¬ (48 :: l) = [48] := fun e => h (List.cons.inj e).2
  rw [decide_eq_true (show (48 :: l).head? = some 48 from rfl), decide_eq_false e]
  simp
theorem num_long {l : List Nat} (h : 71 < l.length) : numOf l = -1 := by
  refine numOf_bad ?_
  unfold numOk
  rw [decide_eq_false (show ¬ l.length ≤ 71 by omega)]
  simp
theorem num_none {z : Int} (h : z < 1) : isNum (.int z) 50 = false := by
  show (decide (1 ≤ z) && decide (z ≤ 50)) = false
  rw [decide_eq_false (by omega)]
  rfl
/-! ### rows -/
def RowBad (c : Str) : Prop := ∀ (k : Int) (n : Nat) (a : Str), rowOk k n a c = false
theorem bad_num {c : Str} (h : (rowOf c).2 < 1) : RowBad c := fun k n a => by
  unfold rowOk
  rw [decide_eq_true h]
  simp
theorem bad_nm {c : Str} (h : nmOk (rowOf c).1 = false) : RowBad c := fun k n a => by
  unfold rowOk
  rw [h]
  simp
theorem row_app {n r : Str} (h : 32 ∉ tl n) : rowOf (n ++ blS ++ r) = (n, numOf (tl r)) := by
  unfold rowOf
  rw [partition_app (S := []) tl_bl h]
theorem bad_app {n r : Str} (h : 32 ∉ tl n) (hr : numOf (tl r) < 1) : RowBad (n ++ blS ++ r) := bad_num (by rw [row_app h]; exact hr)
theorem bad_one {c : Str} (h : 32 ∉ tl c) : RowBad c := bad_num (by
  unfold rowOf
  rw [partition_none (S := []) tl_bl h]
  show numOf (tl Str.empty) < 1
  decide +kernel)
/-! ### first rows -/
theorem split_of {c : Str} {ps : List Str} (h : tl c = joinL [32] (ps.map tl)) (hne : ps ≠ []) (hf : ∀ p ∈ ps, 32 ∉ tl p) : Txt.split c blS = ps := by
  have e : c = Txt.join blS ps := ext_tl (by rw [h, join_eq, tl_join, tl_bl])
  rw [e]
  exact split_join (S := []) tl_bl (by decide +kernel) hne hf
theorem head_parts_ne {c : Str} {ps : List Str} (h : tl c = joinL [32] (ps.map tl)) (hne : ps ≠ []) (hf : ∀ p ∈ ps, 32 ∉ tl p) (h4 : ps.length ≠ 4) : headOf c = none := by
  unfold headOf
  rw [split_of h hne hf]
  split
  · exact absurd rfl h4
  · rfl
theorem head_four {c a b d e : Str} (h : tl c = joinL [32] [tl a, tl b, tl d, tl e]) (ha : 32 ∉ tl a) (hb : 32 ∉ tl b) (hd : 32 ∉ tl d) (he : 32 ∉ tl e) (n : a ≠ "desk" ∨ numOf (tl b) < 1 ∨ 50 < numOf (tl b) ∨ numOf (tl d) < 0 ∨ numOf (tl e) < 0) : headOf c = none := by
  unfold headOf
  rw [split_of (ps := [a, b, d, e]) h (by simp) (fun p hp => by
    simp only [List.mem_cons, List.not_mem_nil, or_false] at hp
    rcases hp with rfl | rfl | rfl | rfl <;> assumption)]
  show (if _ then _ else none) = none
  rw [if_neg]
  rintro ⟨h1, h2, h3, h4⟩
  have h2 : (decide (1 ≤ numOf (tl b)) && decide (numOf (tl b) ≤ 50)) = true := h2
  simp only [Bool.and_eq_true, decide_eq_true_eq] at h2
  rcases n with n | n | n | n | n
  · exact n h1
  · omega
  · omega
  · omega
  · omega
/-! ### the words of a row -/
def restT (k g t : Int) : Str := numT k ++ blS ++ numT g ++ blS ++ numT t
theorem headT_eq (k g t : Int) : headT k g t = "desk" ++ blS ++ restT k g t := by
  refine ext_tl ?_
  unfold headT restT
  simp only [tl_append, List.append_assoc]
theorem tl_desk : tl ("desk" : Str) = [100, 101, 115, 107] := by decide +kernel
theorem desk_free : 32 ∉ tl ("desk" : Str) := by rw [tl_desk]; decide
theorem tl_head (k g t : Int) : tl (headT k g t) = tl ("desk" : Str) ++ ([32] ++ (tl (numT k) ++ ([32] ++ (tl (numT g) ++ ([32] ++ tl (numT t)))))) := by
  unfold headT
  simp only [tl_append, tl_bl, List.append_assoc]
theorem tl_row (q : Str × Int) : tl (rowT q) = tl q.1 ++ ([32] ++ tl (numT q.2)) := by
  unfold rowT
  simp only [tl_append, tl_bl, List.append_assoc]
theorem num_ne {i : Int} (h : 0 ≤ i) : tl (numT i) ≠ [] := by
  unfold numT
  rw [tl_int h]
  exact numL_ne _
structure HdN (k g t : Int) : Prop where
  k1 : 1 ≤ k
  k2 : k ≤ 50
  g0 : 0 ≤ g
  t0 : 0 ≤ t
  g2 : g ≤ 10 ^ 70
  t2 : t ≤ 10 ^ 70
section
variable {k g t : Int} (h : HdN k g t)
include h
theorem HdN.fk : 32 ∉ tl (numT k) := num_free (by have := h.k1; omega) (by decide)
theorem HdN.fg : 32 ∉ tl (numT g) := num_free h.g0 (by decide)
theorem HdN.ft : 32 ∉ tl (numT t) := num_free h.t0 (by decide)
theorem HdN.five {c : Str} {a b d e f : Str} (hc : tl c = joinL [32] [tl a, tl b, tl d, tl e, tl f]) (fa : 32 ∉ tl a) (fb : 32 ∉ tl b) (fd : 32 ∉ tl d) (fe : 32 ∉ tl e) (ff : 32 ∉ tl f) : headOf c = none :=
  head_parts_ne (ps := [a, b, d, e, f]) hc (by simp) (fun p hp => by
    simp only [List.mem_cons, List.not_mem_nil, or_false] at hp
    rcases hp with rfl | rfl | rfl | rfl | rfl <;> assumption) (by simp)
theorem HdN.w3 : headOf (headT k g t ++ " ") = none :=
  h.five (a := "desk") (b := numT k) (d := numT g) (e := numT t) (f := "") (by rw [tl_append, tl_head]; simp [joinL, show tl (" " : Str) = [32] from tl_bl, show tl ("" : Str) = [] by decide +kernel]) desk_free h.fk h.fg h.ft (by decide +kernel)
theorem HdN.w4 : headOf (" " ++ headT k g t) = none :=
  h.five (a := "") (b := "desk") (d := numT k) (e := numT g) (f := numT t) (by rw [tl_append, tl_head]; simp [joinL, show tl (" " : Str) = [32] from tl_bl, show tl ("" : Str) = [] by decide +kernel]) (by decide +kernel) desk_free h.fk h.fg h.ft
theorem HdN.w5 : headOf ("desk" ++ "  " ++ restT k g t) = none :=
  h.five (a := "desk") (b := "") (d := numT k) (e := numT g) (f := numT t) (by unfold restT; simp [joinL, tl_append, tl_bl, show tl ("  " : Str) = [32, 32] by decide +kernel, show tl ("" : Str) = [] by decide +kernel]) desk_free (by decide +kernel) h.fk h.fg h.ft
theorem HdN.w6 : headOf (headT k g t ++ "0 1") = none := by
  refine h.five (a := "desk") (b := numT k) (d := numT g) (e := numT t ++ "0") (f := "1") ?_ desk_free h.fk h.fg ?_ (by decide +kernel)
  · rw [tl_append, tl_head]
    simp [joinL, tl_append, show tl ("0 1" : Str) = [48, 32, 49] by decide +kernel, show tl ("0" : Str) = [48] by decide +kernel, show tl ("1" : Str) = [49] by decide +kernel]
  · rw [tl_append, List.mem_append, not_or]
    exact ⟨h.ft, by decide +kernel⟩
theorem HdN.w7 : headOf ("desk" ++ " 0" ++ restT k g t) = none := by
  have e : tl ("0" ++ numT k) = 48 :: tl (numT k) := by rw [tl_append, show tl ("0" : Str) = [48] by decide +kernel]; rfl
  refine head_four (a := "desk") (b := "0" ++ numT k) (d := numT g) (e := numT t) ?_ desk_free ?_ h.fg h.ft (.inr (.inl ?_))
  · unfold restT
    simp [joinL, tl_append, tl_bl, show tl (" 0" : Str) = [32, 48] by decide +kernel, show tl ("0" : Str) = [48] by decide +kernel]
  · rw [e, List.mem_cons, not_or]
    exact ⟨by decide, h.fk⟩
  · rw [e, num_zero (num_ne (by have := h.k1; omega))]
    decide
theorem HdN.w8 : headOf ("desk" ++ "\t" ++ restT k g t) = none := by
  refine head_parts_ne (ps := ["desk" ++ "\t" ++ numT k, numT g, numT t]) ?_ (by simp) (fun p hp => ?_) (by simp)
  · unfold restT
    simp [joinL, tl_append, tl_bl]
  · simp only [List.mem_cons, List.not_mem_nil, or_false] at hp
    rcases hp with rfl | rfl | rfl
    · simp only [tl_append, List.mem_append, not_or]
      exact ⟨⟨desk_free, by decide +kernel⟩, h.fk⟩
    · exact h.fg
    · exact h.ft
theorem HdN.asc : ∀ c ∈ tl (headT k g t), c < 128 := fun c hc => by
  have num : ∀ {i : Int}, 0 ≤ i → c ∈ tl (numT i) → c < 128 := fun {i} hi hm => by
    by_cases z : c < 48 ∨ 57 < c
    · exact absurd hm (num_free hi z)
    · omega
  rw [tl_head, tl_desk] at hc
  simp only [List.mem_append, List.mem_cons, List.not_mem_nil, or_false] at hc
  have := h.k1
  have := h.g0
  have := h.t0
  rcases hc with (h1 | h1 | h1 | h1) | h1 | h1 | h1 | h1 | h1 | h1
  all_goals first
    | omega
    | exact num (by omega) h1
theorem HdN.w10 : headOf (headT k g t ++ ".") = none := by
  have e : tl ("." : Str) = [46] := by decide +kernel
  refine head_four (a := "desk") (b := numT k) (d := numT g) (e := numT t ++ ".") ?_ desk_free h.fk h.fg ?_ (.inr (.inr (.inr (.inr ?_))))
  · rw [tl_append, tl_head]
    simp [joinL, tl_append]
  · rw [tl_append, List.mem_append, not_or]
    exact ⟨h.ft, by decide +kernel⟩
  · rw [num_sign (c := 46) (by rw [tl_append, e]; simp) (by decide)]
    decide
theorem HdN.wx : headOf (headT k g t ++ "x") = none := by
  have e : tl ("x" : Str) = [120] := by decide +kernel
  refine head_four (a := "desk") (b := numT k) (d := numT g) (e := numT t ++ "x") ?_ desk_free h.fk h.fg ?_ (.inr (.inr (.inr (.inr ?_))))
  · rw [tl_append, tl_head]
    simp [joinL, tl_append]
  · rw [tl_append, List.mem_append, not_or]
    exact ⟨h.ft, by decide +kernel⟩
  · rw [num_sign (c := 120) (by rw [tl_append, e]; simp) (by decide)]
    decide
theorem HdN.w12 : headOf ("desk" ++ " -" ++ restT k g t) = none := by
  have e : tl ("-" ++ numT k) = 45 :: tl (numT k) := by rw [tl_append, show tl ("-" : Str) = [45] by decide +kernel]; rfl
  refine head_four (a := "desk") (b := "-" ++ numT k) (d := numT g) (e := numT t) ?_ desk_free ?_ h.fg h.ft (.inr (.inl ?_))
  · unfold restT
    simp [joinL, tl_append, tl_bl, show tl (" -" : Str) = [32, 45] by decide +kernel, show tl ("-" : Str) = [45] by decide +kernel]
  · rw [e, List.mem_cons, not_or]
    exact ⟨by decide, h.fk⟩
  · rw [e, num_sign (c := 45) (by simp) (by decide)]
    decide
theorem HdN.w13 {X : Str} (hx : 71 < X.length) (fx : 32 ∉ tl X) : headOf (Txt.join blS ["desk", numT k, numT g, X]) = none := by
  refine head_four (a := "desk") (b := numT k) (d := numT g) (e := X) (by rw [join_eq, tl_join, tl_bl]; rfl) desk_free h.fk h.fg fx (.inr (.inr (.inr (.inr ?_))))
  rw [num_long (by rw [← len_tl]; exact hx)]
  decide
theorem HdN.w14 {X : Str} (hx : X ≠ "desk") (fx : 32 ∉ tl X) : headOf (Txt.join blS [X, numT k, numT g, numT t]) = none :=
  head_four (a := X) (b := numT k) (d := numT g) (e := numT t) (by rw [join_eq, tl_join, tl_bl]; rfl) fx h.fk h.fg h.ft (.inl hx)
theorem HdN.w17 {X : Str} (hx : numOf (tl X) < 1 ∨ 50 < numOf (tl X)) (fx : 32 ∉ tl X) : headOf (Txt.join blS ["desk", X, numT g, numT t]) = none :=
  head_four (a := "desk") (b := X) (d := numT g) (e := numT t) (by rw [join_eq, tl_join, tl_bl]; rfl) desk_free fx h.fg h.ft (by rcases hx with hx | hx; exact .inr (.inl hx); exact .inr (.inr (.inl hx)))
theorem HdN.w9 : headOf (Txt.upper (headT k g t)) = none := by
  have e : tl (Txt.upper (headT k g t)) = (tl (headT k g t)).map up1 := by
    rw [upper_ascii (x := headT k g t) h.asc]
    exact Array.toList_map
  have fr : ∀ {l : List Nat}, 32 ∉ l → 32 ∉ l.map up1 := fun {l} hl hm => by
    obtain ⟨c, hc, z⟩ := List.mem_map.mp hm
    unfold up1 at z
    split at z
    · omega
    · exact hl (z ▸ hc)
  refine head_four (a := ⟨((tl ("desk" : Str)).map up1).toArray⟩) (b := ⟨((tl (numT k)).map up1).toArray⟩) (d := ⟨((tl (numT g)).map up1).toArray⟩) (e := ⟨((tl (numT t)).map up1).toArray⟩) ?_ (fr desk_free) (fr h.fk) (fr h.fg) (fr h.ft) (.inl fun z => ?_)
  · rw [e, tl_head]
    simp [joinL, up1]
  · have := congrArg tl z
    rw [tl_desk] at this
    exact absurd this (by decide)
theorem HdN.asRow : RowBad (headT k g t) := by
  rw [headT_eq]
  refine bad_app desk_free ?_
  unfold restT
  rw [num_sign (c := 32) (by simp [tl_append, tl_bl]) (by decide)]
  decide
end
structure RwN (q : Str × Int) : Prop where
  nm : nmOk q.1 = true
  z1 : 1 ≤ q.2
  z2 : q.2 ≤ 10 ^ 70
section
variable {q : Str × Int} (h : RwN q)
include h
theorem RwN.fn : 32 ∉ tl q.1 := nm_free h.nm (by decide)
theorem RwN.fz : 32 ∉ tl (numT q.2) := num_free (by have := h.z1; omega) (by decide)
theorem RwN.w3 : RowBad (rowT q ++ " ") := by
  have e : rowT q ++ " " = q.1 ++ blS ++ (numT q.2 ++ " ") := ext_tl (by unfold rowT; simp only [tl_append, List.append_assoc])
  rw [e]
  refine bad_app h.fn ?_
  rw [num_sign (c := 32) (by rw [tl_append]; exact List.mem_append_right _ (by decide +kernel)) (by decide)]
  decide
theorem RwN.w4 : RowBad (" " ++ rowT q) := by
  have e : " " ++ rowT q = "" ++ blS ++ rowT q := ext_tl (by simp only [tl_append, show tl ("" : Str) = [] by decide +kernel, List.nil_append])
  rw [e]
  refine bad_nm ?_
  rw [row_app (by decide +kernel)]
  show nmOk ("" : Str) = false
  decide +kernel
theorem RwN.w5 : RowBad (q.1 ++ "  " ++ numT q.2) := by
  have e : q.1 ++ "  " ++ numT q.2 = q.1 ++ blS ++ (" " ++ numT q.2) := ext_tl (by simp [tl_append, show tl ("  " : Str) = [32, 32] by decide +kernel, tl_bl])
  rw [e]
  refine bad_app h.fn ?_
  rw [num_sign (c := 32) (by rw [tl_append]; exact List.mem_append_left _ (by decide +kernel)) (by decide)]
  decide
theorem RwN.w6 : RowBad (rowT q ++ "0 1") := by
  have e : rowT q ++ "0 1" = q.1 ++ blS ++ (numT q.2 ++ "0 1") := ext_tl (by unfold rowT; simp only [tl_append, List.append_assoc])
  rw [e]
  refine bad_app h.fn ?_
  rw [num_sign (c := 32) (by rw [tl_append]; exact List.mem_append_right _ (by decide +kernel)) (by decide)]
  decide
theorem RwN.w7 : RowBad (q.1 ++ " 0" ++ numT q.2) := by
  have e : q.1 ++ " 0" ++ numT q.2 = q.1 ++ blS ++ ("0" ++ numT q.2) := ext_tl (by simp [tl_append, show tl (" 0" : Str) = [32, 48] by decide +kernel, show tl ("0" : Str) = [48] by decide +kernel, tl_bl])
  rw [e]
  refine bad_app h.fn ?_
  rw [tl_append, show tl ("0" : Str) = [48] by decide +kernel]
  show numOf (48 :: tl (numT q.2)) < 1
  rw [num_zero (num_ne (by have := h.z1; omega))]
  decide
theorem RwN.w8 : RowBad (q.1 ++ "\t" ++ numT q.2) := by
  refine bad_one ?_
  simp only [tl_append, List.mem_append, not_or]
  exact ⟨⟨h.fn, by decide +kernel⟩, h.fz⟩
theorem RwN.asc : ∀ c ∈ tl (rowT q), c < 128 := fun c hc => by
  rw [tl_row] at hc
  rcases List.mem_append.mp hc with h1 | h1
  · by_cases z : c < 97 ∨ 122 < c
    · exact absurd h1 (nm_free h.nm z)
    · omega
  · rcases List.mem_append.mp h1 with h1 | h1
    · have : c = 32 := by simpa using h1
      omega
    · by_cases z : c < 48 ∨ 57 < c
      · exact absurd h1 (num_free (by have := h.z1; omega) z)
      · omega
theorem RwN.w9 : RowBad (Txt.upper (rowT q)) := by
  have e : tl (Txt.upper (rowT q)) = (tl (rowT q)).map up1 := by
    rw [upper_ascii (x := rowT q) h.asc]
    exact Array.toList_map
  have fr : ∀ {l : List Nat}, 32 ∉ l → 32 ∉ l.map up1 := fun {l} hl hm => by
    obtain ⟨c, hc, z⟩ := List.mem_map.mp hm
    unfold up1 at z
    split at z
    · omega
    · exact hl (z ▸ hc)
  have e2 : Txt.upper (rowT q) = (⟨((tl q.1).map up1).toArray⟩ : Str) ++ blS ++ (⟨((tl (numT q.2)).map up1).toArray⟩ : Str) := by
    refine ext_tl ?_
    rw [e, tl_row, tl_append, tl_append, tl_bl]
    simp [up1, tl]
  rw [e2]
  refine bad_nm ?_
  rw [row_app (fr h.fn)]
  show okC ((tl q.1).map up1) = false
  cases hb : okC ((tl q.1).map up1) with
  | false => rfl
  | true =>
    obtain ⟨l1, _, hr⟩ := okC_iff.mp hb
    obtain ⟨m1, _, _⟩ := okC_iff.mp (show okC (tl q.1) = true from h.nm)
    cases eq : tl q.1 with
    | nil => rw [eq] at m1; exact absurd m1 (by decide)
    | cons c r =>
      rw [eq] at hr
      have h1 := hr (up1 c) (by simp)
      have h2 := (okC_iff.mp (show okC (tl q.1) = true from h.nm)).2.2 c (by rw [eq]; simp)
      unfold up1 at h1
      split at h1 <;> omega
theorem RwN.w10 : RowBad (rowT q ++ ".") := by
  have e : rowT q ++ "." = q.1 ++ blS ++ (numT q.2 ++ ".") := ext_tl (by unfold rowT; simp only [tl_append, List.append_assoc])
  rw [e]
  refine bad_app h.fn ?_
  rw [num_sign (c := 46) (by rw [tl_append]; exact List.mem_append_right _ (by decide +kernel)) (by decide)]
  decide
theorem RwN.wx : RowBad (rowT q ++ "x") := by
  have e : rowT q ++ "x" = q.1 ++ blS ++ (numT q.2 ++ "x") := ext_tl (by unfold rowT; simp only [tl_append, List.append_assoc])
  rw [e]
  refine bad_app h.fn ?_
  rw [num_sign (c := 120) (by rw [tl_append]; exact List.mem_append_right _ (by decide +kernel)) (by decide)]
  decide
theorem RwN.w12 : RowBad (q.1 ++ " -" ++ numT q.2) := by
  have e : q.1 ++ " -" ++ numT q.2 = q.1 ++ blS ++ ("-" ++ numT q.2) := ext_tl (by simp [tl_append, show tl (" -" : Str) = [32, 45] by decide +kernel, show tl ("-" : Str) = [45] by decide +kernel, tl_bl])
  rw [e]
  refine bad_app h.fn ?_
  rw [num_sign (c := 45) (by rw [tl_append]; exact List.mem_append_left _ (by decide +kernel)) (by decide)]
  decide
theorem RwN.w13 {X : Str} (hx : numOf (tl X) < 1) : RowBad (Txt.join blS [q.1, X]) := by
  have e : Txt.join blS [q.1, X] = q.1 ++ blS ++ X := ext_tl (by rw [join_eq, tl_join]; simp [joinL, tl_append])
  rw [e]
  exact bad_app h.fn hx
theorem RwN.w14 {X : Str} (fx : 32 ∉ tl X) (hx : nmOk X = false) : RowBad (Txt.join blS [X, numT q.2]) := by
  have e : Txt.join blS [X, numT q.2] = X ++ blS ++ numT q.2 := ext_tl (by rw [join_eq, tl_join]; simp [joinL, tl_append])
  rw [e]
  exact bad_nm (by rw [row_app fx]; exact hx)
theorem RwN.parts : Txt.split (rowT q) blS = [q.1, numT q.2] :=
  split_of (by rw [tl_row]; simp [joinL]) (by simp) fun p hp => by
    simp only [List.mem_cons, List.not_mem_nil, or_false] at hp
    rcases hp with rfl | rfl
    · exact h.fn
    · exact h.fz
theorem RwN.asHead : headOf (rowT q) = none :=
  head_parts_ne (ps := [q.1, numT q.2]) (by rw [tl_row]; simp [joinL]) (by simp) (fun p hp => by
    simp only [List.mem_cons, List.not_mem_nil, or_false] at hp
    rcases hp with rfl | rfl
    · exact h.fn
    · exact h.fz) (by simp)
end
theorem head_one {c : Str} (h : 32 ∉ tl c) : headOf c = none := head_parts_ne (ps := [c]) rfl (by simp) (fun p hp => by rw [List.mem_singleton.mp hp]; exact h) (by simp)
end DK
set_option Elab.async false
set_option linter.all false
set_option maxRecDepth 100000
/-! what a row may be spoilt to -/
namespace DK
open PySem PySem.Spec PyProof.Rows L2 TL
structure Fine (n : Nat) (c : Str) : Prop where
  nl : 10 ∉ tl c
  len : c.length ≤ n
theorem Fine.app {a b : Nat} {x y : Str} (h : Fine a x) (g : Fine b y) : Fine (a + b) (x ++ y) :=
  ⟨by rw [tl_append, List.mem_append, not_or]; exact ⟨h.nl, g.nl⟩, by rw [app_len]; have := h.len; have := g.len; omega⟩
theorem Fine.le {a b : Nat} {x : Str} (h : Fine a x) (l : a ≤ b) : Fine b x := ⟨h.nl, Nat.le_trans h.len l⟩
theorem fine_bl : Fine 1 blS := ⟨by decide +kernel, by decide +kernel⟩
theorem fine_num {i : Int} (h : 0 ≤ i) (h2 : i ≤ 10 ^ 70) : Fine 71 (numT i) := ⟨num_free h (by decide), num_len h h2⟩
theorem fine_upper {n : Nat} {x : Str} (h : Fine n x) (ha : ∀ c ∈ tl x, c < 128) : Fine n (Txt.upper x) := by
  have e : tl (Txt.upper x) = (tl x).map up1 := by
    rw [upper_ascii (x := x) ha]
    exact Array.toList_map
  refine ⟨fun hm => ?_, by rw [len_tl, e, List.length_map, ← len_tl]; exact h.len⟩
  rw [e] at hm
  obtain ⟨c, hc, z⟩ := List.mem_map.mp hm
  unfold up1 at z
  split at z
  · omega
  · exact h.nl (z ▸ hc)
theorem join_two (a b : Str) : Txt.join blS [a, b] = a ++ (blS ++ b) := ext_tl (by rw [join_eq, tl_join]; simp [joinL, tl_append])
theorem join_four (a b c d : Str) : Txt.join blS [a, b, c, d] = a ++ (blS ++ (b ++ (blS ++ (c ++ (blS ++ d))))) := ext_tl (by rw [join_eq, tl_join]; simp [joinL, tl_append])
def Bad (z : Bool) (c : Str) : Prop := (if z = true then headOf c = none else RowBad c) ∧ Fine 1000 c
theorem Bad.hd {c : Str} (h : headOf c = none) (f : Fine 1000 c) : Bad true c := by
  unfold Bad
  rw [if_pos rfl]
  exact ⟨h, f⟩
theorem Bad.rw {c : Str} (h : RowBad c) (f : Fine 1000 c) : Bad false c := by
  unfold Bad
  rw [if_neg Bool.false_ne_true]
  exact ⟨h, f⟩
theorem fl {x : Str} (h : (decide (10 ∉ tl x) && decide (x.length ≤ 10)) = true) : Fine 10 x := by
  rw [Bool.and_eq_true, decide_eq_true_iff, decide_eq_true_iff] at h
  exact ⟨h.1, h.2⟩
structure RowK (z : Bool) (row first rest : Str) (words : List Str) : Prop where
  eq : row = first ++ blS ++ rest
  ff : 32 ∉ tl first
  fine : Fine 300 row
  split : Txt.split row blS = words
  fst : ∃ r, words = first :: r ∧ r ≠ []
  wf : ∀ x ∈ words, Fine 72 x
  wl : words.length ≤ 4
  b3 : Bad z (row ++ " ")
  b4 : Bad z (" " ++ row)
  b5 : Bad z (first ++ "  " ++ rest)
  b6 : Bad z (row ++ "0 1")
  b7 : Bad z (first ++ " 0" ++ rest)
  b8 : Bad z (first ++ "\t" ++ rest)
  b9 : Bad z (Txt.upper row)
  b10 : Bad z (row ++ ".")
  b11 : Bad z first
  b12 : Bad z (first ++ " -" ++ rest)
  bx : Bad z (row ++ "x")
  b13 : ∀ X, 71 < X.length → 32 ∉ tl X → Fine 100 X → Bad z (Txt.join blS (words.dropLast ++ [X]))
  b14 : Bad z (Txt.join blS ((["abcdefghi"] : List Str) ++ words.drop 1))
  b17 : Bad z (Txt.join blS (words.take 1 ++ (["0"] : List Str) ++ words.drop 2))
theorem rowK_head {k g t : Int} (h : HdN k g t) : RowK true (headT k g t) "desk" (restT k g t) [("desk" : Str), numT k, numT g, numT t] := by
  have fd : Fine 4 ("desk" : Str) := ⟨by decide +kernel, by decide +kernel⟩
  have fk := fine_num (i := k) (by have := h.k1; omega) (by have := h.k2; omega)
  have fg := fine_num h.g0 h.g2
  have ft := fine_num h.t0 h.t2
  have fr : Fine 215 (restT k g t) := (((fk.app fine_bl).app fg).app fine_bl).app ft
  have fh : Fine 220 (headT k g t) := by rw [headT_eq]; exact (fd.app fine_bl).app fr
  have sp : Txt.split (headT k g t) blS = [("desk" : Str), numT k, numT g, numT t] := head_parts (show 0 ≤ k by have := h.k1; omega) h.g0 h.t0
  have lit : ∀ {x : Str}, Fine 10 x → Fine 1000 (headT k g t ++ x) := fun fx => (fh.app fx).le (by decide)
  have mid : ∀ {x : Str}, Fine 10 x → Fine 1000 ("desk" ++ x ++ restT k g t) := fun fx => ((fd.app fx).app fr).le (by decide)
  have f4 : ∀ {a b c d : Str}, Fine 100 a → Fine 100 b → Fine 100 c → Fine 100 d → Fine 1000 (Txt.join blS [a, b, c, d]) := fun ha hb hc hd => by
    rw [join_four]
    exact (ha.app (fine_bl.app (hb.app (fine_bl.app (hc.app (fine_bl.app hd)))))).le (by decide)
  have gd := fd.le (show 4 ≤ 100 by decide)
  have gk := fk.le (show 71 ≤ 100 by decide)
  have gg := fg.le (show 71 ≤ 100 by decide)
  have gt := ft.le (show 71 ≤ 100 by decide)
  have s1 : Fine 10 (" " : Str) := fl (by decide +kernel)
  have s2 : Fine 10 ("  " : Str) := fl (by decide +kernel)
  have s3 : Fine 10 ("0 1" : Str) := fl (by decide +kernel)
  have s4 : Fine 10 (" 0" : Str) := fl (by decide +kernel)
  have s5 : Fine 10 ("\t" : Str) := fl (by decide +kernel)
  have s6 : Fine 10 ("." : Str) := fl (by decide +kernel)
  have s7 : Fine 10 (" -" : Str) := fl (by decide +kernel)
  have s8 : Fine 10 ("x" : Str) := fl (by decide +kernel)
  have s9 : Fine 10 ("abcdefghi" : Str) := fl (by decide +kernel)
  have s0 : Fine 10 ("0" : Str) := fl (by decide +kernel)
  have w14 := h.w14 (X := "abcdefghi") (by decide +kernel) (by decide +kernel)
  have w17 := h.w17 (X := "0") (.inl (by decide +kernel)) (by decide +kernel)
  exact {
    eq := headT_eq k g t
    ff := desk_free
    fine := fh.le (by decide)
    split := sp
    fst := ⟨_, rfl, by simp⟩
    wf := fun x hx => by
      simp only [List.mem_cons, List.not_mem_nil, or_false] at hx
      rcases hx with rfl | rfl | rfl | rfl
      · exact fd.le (by decide)
      · exact fk.le (by decide)
      · exact fg.le (by decide)
      · exact ft.le (by decide)
    wl := Nat.le_refl 4
    b3 := .hd h.w3 (lit s1)
    b4 := .hd h.w4 ((s1.app fh).le (by decide))
    b5 := .hd h.w5 (mid s2)
    b6 := .hd h.w6 (lit s3)
    b7 := .hd h.w7 (mid s4)
    b8 := .hd h.w8 (mid s5)
    b9 := .hd h.w9 ((fine_upper fh h.asc).le (by decide))
    b10 := .hd h.w10 (lit s6)
    b11 := .hd (head_one desk_free) (fd.le (by decide))
    b12 := .hd h.w12 (mid s7)
    bx := .hd h.wx (lit s8)
    b13 := fun X hX fX gX => .hd (h.w13 hX fX) (f4 gd gk gg gX)
    b14 := .hd w14 (f4 (s9.le (by decide)) gk gg gt)
    b17 := .hd w17 (f4 gd (s0.le (by decide)) gg gt) }
theorem rowK_row {q : Str × Int} (h : RwN q) : RowK false (rowT q) q.1 (numT q.2) [q.1, numT q.2] := by
  have fn : Fine 8 q.1 := ⟨nm_free h.nm (by decide), nmOk_len h.nm⟩
  have fz := fine_num (i := q.2) (by have := h.z1; omega) h.z2
  have fr : Fine 80 (rowT q) := (fn.app fine_bl).app fz
  have lit : ∀ {x : Str}, Fine 10 x → Fine 1000 (rowT q ++ x) := fun fx => (fr.app fx).le (by decide)
  have mid : ∀ {x : Str}, Fine 10 x → Fine 1000 (q.1 ++ x ++ numT q.2) := fun fx => ((fn.app fx).app fz).le (by decide)
  have f2 : ∀ {a b : Str}, Fine 100 a → Fine 100 b → Fine 1000 (Txt.join blS [a, b]) := fun ha hb => by
    rw [join_two]
    exact (ha.app (fine_bl.app hb)).le (by decide)
  have gn := fn.le (show 8 ≤ 100 by decide)
  have gz := fz.le (show 71 ≤ 100 by decide)
  have s1 : Fine 10 (" " : Str) := fl (by decide +kernel)
  have s2 : Fine 10 ("  " : Str) := fl (by decide +kernel)
  have s3 : Fine 10 ("0 1" : Str) := fl (by decide +kernel)
  have s4 : Fine 10 (" 0" : Str) := fl (by decide +kernel)
  have s5 : Fine 10 ("\t" : Str) := fl (by decide +kernel)
  have s6 : Fine 10 ("." : Str) := fl (by decide +kernel)
  have s7 : Fine 10 (" -" : Str) := fl (by decide +kernel)
  have s8 : Fine 10 ("x" : Str) := fl (by decide +kernel)
  have s9 : Fine 10 ("abcdefghi" : Str) := fl (by decide +kernel)
  have s0 : Fine 10 ("0" : Str) := fl (by decide +kernel)
  have w14 := h.w14 (X := "abcdefghi") (by decide +kernel) (by decide +kernel)
  have w17 := h.w13 (X := "0") (by decide +kernel)
  exact {
    eq := rfl
    ff := h.fn
    fine := fr.le (by decide)
    split := h.parts
    fst := ⟨_, rfl, by simp⟩
    wf := fun x hx => by
      simp only [List.mem_cons, List.not_mem_nil, or_false] at hx
      rcases hx with rfl | rfl
      · exact fn.le (by decide)
      · exact fz.le (by decide)
    wl := by show 2 ≤ 4; decide
    b3 := .rw h.w3 (lit s1)
    b4 := .rw h.w4 ((s1.app fr).le (by decide))
    b5 := .rw h.w5 (mid s2)
    b6 := .rw h.w6 (lit s3)
    b7 := .rw h.w7 (mid s4)
    b8 := .rw h.w8 (mid s5)
    b9 := .rw h.w9 ((fine_upper fr h.asc).le (by decide))
    b10 := .rw h.w10 (lit s6)
    b11 := .rw (bad_one h.fn) (fn.le (by decide))
    b12 := .rw h.w12 (mid s7)
    bx := .rw h.wx (lit s8)
    b13 := fun X hX fX gX => .rw (h.w13 (by rw [num_long (by rw [← len_tl]; exact hX)]; decide)) (f2 gn gX)
    b14 := .rw w14 (f2 (s9.le (by decide)) gz)
    b17 := .rw w17 (f2 gn (s0.le (by decide))) }
end DK
set_option Elab.async false
set_option linter.all false
set_option maxRecDepth 100000
/-! a text without its last line end, and with more behind it -/
namespace DK
open PySem PySem.Spec PyProof.Rows L2 TL
theorem cutS_init {x y : Str} {c : Nat} (h : tl x = tl y ++ [c]) : cutS x none (some (-1)) = y := by
  have hl : x.length = y.length + 1 := by rw [len_tl, h, List.length_append, ← len_tl]; rfl
  have e : HT.sIx x.length x.length (some (-1)) = y.length := by
    show (if ((-1 : Int)) < 0 then (-1 + (x.length : Int)).toNat else min (-1 : Int).toNat x.length) = _
    rw [if_pos (by decide), hl]
    omega
  unfold cutS
  rw [e, HT.sIx_none, List.drop_zero, Nat.sub_zero]
  refine ext_tl ?_
  show (tl x).take y.length = tl y
  rw [h, len_tl, List.take_left]
theorem split_nl {R : List Str} (hne : R ≠ []) (hf : ∀ r ∈ R, 10 ∉ tl r) : Txt.split (Txt.join nlS R) nlS = R :=
  split_join (S := []) tl_nl (by decide +kernel) hne hf
theorem rowsOf_join {R : List Str} {r : Str} (hf : ∀ q ∈ R ++ [r], 10 ∉ tl q) (hr : r ≠ "") : rowsOf (Txt.join nlS (R ++ [r])) = R ++ [r] := by
  unfold rowsOf
  rw [split_nl (by simp) hf, List.getLast?_concat, if_neg]
  intro z
  exact hr (Option.some.inj z)
theorem joinL_end : ∀ (R : List (List Nat)) (r b : List Nat), joinL [10] (R ++ [r]) ++ b = joinL [10] (R ++ [r ++ b])
  | [], _, _ => rfl
  | [p], r, b => by
    show (p ++ ([10] ++ r)) ++ b = p ++ ([10] ++ (r ++ b))
    simp only [List.append_assoc]
  | p :: q :: R, r, b => by
    show (p ++ ([10] ++ joinL [10] ((q :: R) ++ [r]))) ++ b = p ++ ([10] ++ joinL [10] ((q :: R) ++ [r ++ b]))
    rw [← joinL_end (q :: R) r b]
    simp only [List.append_assoc]
theorem join_end (R : List Str) (r b : Str) : Txt.join nlS (R ++ [r]) ++ b = Txt.join nlS (R ++ [r ++ b]) := by
  refine ext_tl ?_
  rw [tl_append, join_eq, join_eq, tl_join, tl_join, List.map_append, List.map_append, tl_nl]
  show joinL [10] (R.map tl ++ [tl r]) ++ tl b = joinL [10] (R.map tl ++ [tl (r ++ b)])
  rw [joinL_end, tl_append]
theorem endswith_iff {x : Str} (h : Txt.endswith x nlS = true) : ∃ l, tl x = l ++ [10] := by
  unfold Txt.endswith at h
  have h1 : nlS.length = 1 := by decide +kernel
  rw [h1, Bool.and_eq_true] at h
  obtain ⟨hl, hs⟩ := h
  have hl : 0 + 1 ≤ x.length := of_decide_eq_true hl
  unfold Builtin.Str.subAt at hs
  rw [h1] at hs
  have hs := congrArg Array.toList (eq_of_beq hs)
  refine ⟨(tl x).take (x.length - 1), ?_⟩
  have e : (tl x).drop (x.length - 1) = [10] := by
    have e1 : (x.cps.extract (x.length - 1) (x.length - 1 + 1)).toList = ((tl x).drop (x.length - 1)).take 1 := by
      simp [tl, Array.toList_extract, List.extract_eq_drop_take]
    have e2 : ((tl x).drop (x.length - 1)).take 1 = [10] := by
      rw [← e1, hs]
      exact tl_nl
    have e3 : ((tl x).drop (x.length - 1)).length = 1 := by rw [List.length_drop, ← len_tl]; omega
    rw [← e2, List.take_of_length_le (by omega)]
  rw [← e, List.take_append_drop]
theorem endswith_no {x : Str} (h : ∀ l, tl x ≠ l ++ [10]) : Txt.endswith x nlS = false := by
  cases e : Txt.endswith x nlS with
  | false => rfl
  | true =>
    obtain ⟨l, hl⟩ := endswith_iff e
    exact absurd hl (h l)
theorem join_no {R : List Str} {r : Str} (hf : 10 ∉ tl r) (hr : r ≠ "") : Txt.endswith (Txt.join nlS (R ++ [r])) nlS = false := by
  refine endswith_no fun l z => ?_
  have hne : tl r ≠ [] := fun e => hr (ext_tl (by rw [e]; exact (by decide +kernel : ([] : List Nat) = tl ("" : Str))))
  rw [join_eq, tl_join, tl_nl, List.map_append] at z
  have e : joinL [10] (R.map tl ++ [tl r]) = joinL [10] (R.map tl ++ [(tl r).dropLast]) ++ [(tl r).getLast hne] := by
    rw [joinL_end, List.dropLast_concat_getLast hne]
  have z : joinL [10] (R.map tl ++ [tl r]) = l ++ [10] := z
  rw [e] at z
  have := congrArg List.getLast? z
  rw [List.getLast?_concat, List.getLast?_concat] at this
  have := Option.some.inj this
  exact hf (this ▸ List.getLast_mem hne)
/-! ### the last texts -/
theorem tl_ones : tl (Txt.mul "1" 5000) = List.replicate 5000 49 := by decide +kernel
theorem ones_len : (Txt.mul "1" 5000).length = 5000 := by rw [len_tl, tl_ones, List.length_replicate]
theorem ones_free {c : Nat} (h : c ≠ 49) : c ∉ tl (Txt.mul "1" 5000) := by
  rw [tl_ones, List.mem_replicate]
  exact fun z => h z.2
theorem dk_one (X : Str) : ("desk 1 0 " : Str) ++ X = Txt.join blS ["desk", numT 1, numT 0, X] := by
  rw [join_four]
  refine ext_tl ?_
  simp only [tl_append]
  have e : tl ("desk 1 0 " : Str) = tl ("desk" : Str) ++ (tl blS ++ (tl (numT 1) ++ (tl blS ++ (tl (numT 0) ++ tl blS)))) := by decide +kernel
  rw [e]
  simp only [List.append_assoc]
theorem long_free : 10 ∉ tl (("desk 1 0 " : Str) ++ Txt.mul "1" 5000) := by
  rw [tl_append, List.mem_append, not_or]
  exact ⟨by decide +kernel, ones_free (by decide)⟩
theorem long_len : (("desk 1 0 " : Str) ++ Txt.mul "1" 5000).length ≤ 5020 := by
  rw [app_len, ones_len]
  have : ("desk 1 0 " : Str).length ≤ 20 := by decide +kernel
  omega
theorem long_none : headOf (("desk 1 0 " : Str) ++ Txt.mul "1" 5000) = none := by
  rw [dk_one]
  exact (show HdN 1 0 0 from ⟨by decide, by decide, by decide, by decide, by decide, by decide⟩).w13 (by rw [ones_len]; decide) (ones_free (by decide))
def great0 : Str := ("desk 1 0 " : Str) ++ ("1" ++ Txt.mul "0" 69) ++ "0"
def great1 : Str := ("desk 1 0 " : Str) ++ ("1" ++ Txt.mul "0" 69) ++ "1"
theorem great0_head : headOf great0 = some (1, 0, 10 ^ 70) := by decide +kernel
theorem great1_head : headOf great1 = none := by decide +kernel
theorem great0_free : 10 ∉ tl great0 := by decide +kernel
theorem great1_free : 10 ∉ tl great1 := by decide +kernel
theorem great0_tl : tl (("desk 1 0 " : Str) ++ ("1" ++ Txt.mul "0" 69) ++ "0\n") = tl great0 ++ [10] := by decide +kernel
theorem great1_tl : tl (("desk 1 0 " : Str) ++ ("1" ++ Txt.mul "0" 69) ++ "1\n") = tl great1 ++ [10] := by decide +kernel
theorem great0_len : (("desk 1 0 " : Str) ++ ("1" ++ Txt.mul "0" 69) ++ "0\n").length ≤ 1000 := by decide +kernel
theorem great1_len : (("desk 1 0 " : Str) ++ ("1" ++ Txt.mul "0" 69) ++ "1\n").length ≤ 1000 := by decide +kernel
theorem zero_head : headOf ("desk 1 0 0" : Str) = some (1, 0, 0) := by decide +kernel
end DK
set_option Elab.async false
set_option linter.all false
set_option maxRecDepth 100000
set_option maxHeartbeats 4000000
namespace DK
open PySem PySem.Spec PyProof.Rows L2
/-! ### the text by places -/
def top (i : Nat) : Stmt := PySem.Challenge.pw_drawerdesk_k13_read_refused.main.body.getD i (.Pass ⟨0, 0, 0, 0⟩)
abbrev s_n_init : Stmt := inClass (top 8) 0
abbrev N_n_init : List Str := ["self", "row"]
abbrev P_n_init : List Str := ["self", "row"]
theorem sc_n_init : FnScope N_n_init P_n_init (defScope s_n_init) := ⟨rfl, rfl, rfl, by decide +kernel, rfl, by decide +kernel, by decide +kernel⟩
abbrev s_is_name : Stmt := top 11
abbrev N_is_name : List Str := ["thing", "letter"]
abbrev P_is_name : List Str := ["thing"]
theorem sc_is_name : FnScope N_is_name P_is_name (defScope s_is_name) := ⟨rfl, rfl, rfl, by decide +kernel, rfl, by decide +kernel, by decide +kernel⟩
abbrev s_is_number : Stmt := top 12
abbrev N_is_number : List Str := ["thing", "most"]
abbrev P_is_number : List Str := ["thing", "most"]
theorem sc_is_number : FnScope N_is_number P_is_number (defScope s_is_number) := ⟨rfl, rfl, rfl, by decide +kernel, rfl, by decide +kernel, by decide +kernel⟩
abbrev s_check_name : Stmt := top 13
abbrev N_check_name : List Str := ["name"]
abbrev P_check_name : List Str := ["name"]
theorem sc_check_name : FnScope N_check_name P_check_name (defScope s_check_name) := ⟨rfl, rfl, rfl, by decide +kernel, rfl, by decide +kernel, by decide +kernel⟩
abbrev s_check_weight : Stmt := top 14
abbrev N_check_weight : List Str := ["weight"]
abbrev P_check_weight : List Str := ["weight"]
theorem sc_check_weight : FnScope N_check_weight P_check_weight (defScope s_check_weight) := ⟨rfl, rfl, rfl, by decide +kernel, rfl, by decide +kernel, by decide +kernel⟩
abbrev s_check_drawers : Stmt := top 15
abbrev N_check_drawers : List Str := ["drawers"]
abbrev P_check_drawers : List Str := ["drawers"]
theorem sc_check_drawers : FnScope N_check_drawers P_check_drawers (defScope s_check_drawers) := ⟨rfl, rfl, rfl, by decide +kernel, rfl, by decide +kernel, by decide +kernel⟩
abbrev s_lowered : Stmt := top 16
abbrev N_lowered : List Str := ["shown", "less", "name"]
abbrev P_lowered : List Str := ["shown", "less"]
theorem sc_lowered : FnScope N_lowered P_lowered (defScope s_lowered) := ⟨rfl, rfl, rfl, by decide +kernel, rfl, by decide +kernel, by decide +kernel⟩
abbrev s_d_init : Stmt := inClass (top 17) 0
abbrev N_d_init : List Str := ["self", "drawers"]
abbrev P_d_init : List Str := ["self", "drawers"]
theorem sc_d_init : FnScope N_d_init P_d_init (defScope s_d_init) := ⟨rfl, rfl, rfl, by decide +kernel, rfl, by decide +kernel, by decide +kernel⟩
abbrev s_d_come : Stmt := inClass (top 17) 1
abbrev N_d_come : List Str := ["self", "name", "weight"]
abbrev P_d_come : List Str := ["self", "name", "weight"]
theorem sc_d_come : FnScope N_d_come P_d_come (defScope s_d_come) := ⟨rfl, rfl, rfl, by decide +kernel, rfl, by decide +kernel, by decide +kernel⟩
abbrev s_d_come_to_full : Stmt := inClass (top 17) 2
abbrev N_d_come_to_full : List Str := ["self", "name", "weight", "less"]
abbrev P_d_come_to_full : List Str := ["self", "name", "weight"]
theorem sc_d_come_to_full : FnScope N_d_come_to_full P_d_come_to_full (defScope s_d_come_to_full) := ⟨rfl, rfl, rfl, by decide +kernel, rfl, by decide +kernel, by decide +kernel⟩
abbrev s_d_shown : Stmt := inClass (top 17) 3
abbrev N_d_shown : List Str := ["self", "name"]
abbrev P_d_shown : List Str := ["self"]
theorem sc_d_shown : FnScope N_d_shown P_d_shown (defScope s_d_shown) := ⟨rfl, rfl, rfl, by decide +kernel, rfl, by decide +kernel, by decide +kernel⟩
abbrev s_d_lost : Stmt := inClass (top 17) 4
abbrev N_d_lost : List Str := ["self"]
abbrev P_d_lost : List Str := ["self"]
theorem sc_d_lost : FnScope N_d_lost P_d_lost (defScope s_d_lost) := ⟨rfl, rfl, rfl, by decide +kernel, rfl, by decide +kernel, by decide +kernel⟩
abbrev s_d_weight : Stmt := inClass (top 17) 5
abbrev N_d_weight : List Str := ["self"]
abbrev P_d_weight : List Str := ["self"]
theorem sc_d_weight : FnScope N_d_weight P_d_weight (defScope s_d_weight) := ⟨rfl, rfl, rfl, by decide +kernel, rfl, by decide +kernel, by decide +kernel⟩
abbrev s_d_drawers : Stmt := inClass (top 17) 6
abbrev N_d_drawers : List Str := ["self"]
abbrev P_d_drawers : List Str := ["self"]
theorem sc_d_drawers : FnScope N_d_drawers P_d_drawers (defScope s_d_drawers) := ⟨rfl, rfl, rfl, by decide +kernel, rfl, by decide +kernel, by decide +kernel⟩
abbrev s_d_least : Stmt := inClass (top 17) 7
abbrev N_d_least : List Str := ["self", "name"]
abbrev P_d_least : List Str := ["self", "name"]
theorem sc_d_least : FnScope N_d_least P_d_least (defScope s_d_least) := ⟨rfl, rfl, rfl, by decide +kernel, rfl, by decide +kernel, by decide +kernel⟩
abbrev s_d_most : Stmt := inClass (top 17) 8
abbrev N_d_most : List Str := ["self", "name"]
abbrev P_d_most : List Str := ["self", "name"]
theorem sc_d_most : FnScope N_d_most P_d_most (defScope s_d_most) := ⟨rfl, rfl, rfl, by decide +kernel, rfl, by decide +kernel, by decide +kernel⟩
abbrev s_desk_with : Stmt := top 18
abbrev N_desk_with : List Str := ["drawers", "shown", "lost", "weight", "desk"]
abbrev P_desk_with : List Str := ["drawers", "shown", "lost", "weight"]
theorem sc_desk_with : FnScope N_desk_with P_desk_with (defScope s_desk_with) := ⟨rfl, rfl, rfl, by decide +kernel, rfl, by decide +kernel, by decide +kernel⟩
abbrev s_written : Stmt := top 21
abbrev N_written : List Str := ["desk", "shown", "rows", "name"]
abbrev P_written : List Str := ["desk"]
theorem sc_written : FnScope N_written P_written (defScope s_written) := ⟨rfl, rfl, rfl, by decide +kernel, rfl, by decide +kernel, by decide +kernel⟩
abbrev s_read : Stmt := top 22
abbrev N_read : List Str := ["text", "rows", "drawers", "lost", "weight", "shown", "together"]
abbrev P_read : List Str := ["text"]
theorem sc_read : FnScope N_read P_read (defScope s_read) := ⟨rfl, rfl, rfl, by decide +kernel, rfl, by decide +kernel, by decide +kernel⟩
abbrev s_rows_of : Stmt := top 23
abbrev N_rows_of : List Str := ["text", "rows"]
abbrev P_rows_of : List Str := ["text"]
theorem sc_rows_of : FnScope N_rows_of P_rows_of (defScope s_rows_of) := ⟨rfl, rfl, rfl, by decide +kernel, rfl, by decide +kernel, by decide +kernel⟩
abbrev s_head_in : Stmt := top 24
abbrev N_head_in : List Str := ["row", "parts", "drawers", "lost", "weight"]
abbrev P_head_in : List Str := ["row"]
theorem sc_head_in : FnScope N_head_in P_head_in (defScope s_head_in) := ⟨rfl, rfl, rfl, by decide +kernel, rfl, by decide +kernel, by decide +kernel⟩
abbrev s_shown_in : Stmt := top 25
abbrev N_shown_in : List Str := ["rows", "drawers", "shown", "ahead", "at", "name", "_", "word", "number"]
abbrev P_shown_in : List Str := ["rows", "drawers"]
theorem sc_shown_in : FnScope N_shown_in P_shown_in (defScope s_shown_in) := ⟨rfl, rfl, rfl, by decide +kernel, rfl, by decide +kernel, by decide +kernel⟩
abbrev s_number_in : Stmt := top 26
abbrev N_number_in : List Str := ["word", "figure", "number"]
abbrev P_number_in : List Str := ["word"]
theorem sc_number_in : FnScope N_number_in P_number_in (defScope s_number_in) := ⟨rfl, rfl, rfl, by decide +kernel, rfl, by decide +kernel, by decide +kernel⟩
abbrev s_mixed : Stmt := top 28
abbrev N_mixed : List Str := ["_law_cell", "_law_k", "_law_mark"]
abbrev P_mixed : List Str := ["_law_cell", "_law_k"]
theorem sc_mixed : FnScope N_mixed P_mixed (defScope s_mixed) := ⟨rfl, rfl, rfl, by decide +kernel, rfl, by decide +kernel, by decide +kernel⟩
abbrev s_names : Stmt := top 29
abbrev N_names : List Str := ["_law_script", "_law_letters", "_law_cell", "_law_base", "_law_at", "_law_names_here", "_law_k", "_law_letter", "_law_word"]
abbrev P_names : List Str := ["_law_script"]
theorem sc_names : FnScope N_names P_names (defScope s_names) := ⟨rfl, rfl, rfl, by decide +kernel, rfl, by decide +kernel, by decide +kernel⟩
abbrev s_coming : Stmt := top 30
abbrev N_coming : List Str := ["_law_names_here", "_law_cell", "_law_k", "_law_mark", "_law_name", "_law_sort", "_law_weight"]
abbrev P_coming : List Str := ["_law_names_here", "_law_cell", "_law_k"]
theorem sc_coming : FnScope N_coming P_coming (defScope s_coming) := ⟨rfl, rfl, rfl, by decide +kernel, rfl, by decide +kernel, by decide +kernel⟩
abbrev s_drawers : Stmt := top 31
abbrev N_drawers : List Str := ["_law_script", "_law_mark"]
abbrev P_drawers : List Str := ["_law_script"]
theorem sc_drawers : FnScope N_drawers P_drawers (defScope s_drawers) := ⟨rfl, rfl, rfl, by decide +kernel, rfl, by decide +kernel, by decide +kernel⟩
abbrev s_told : Stmt := top 32
abbrev N_told : List Str := ["_law_text", "_law_found", "_law_told_here", "error"]
abbrev P_told : List Str := ["_law_text"]
theorem sc_told : FnScope N_told P_told (defScope s_told) := ⟨rfl, rfl, rfl, by decide +kernel, rfl, by decide +kernel, by decide +kernel⟩
abbrev s_spoilt : Stmt := top 33
abbrev N_spoilt : List Str := ["_law_rows", "_law_at", "_law_way", "_law_long", "_law_row", "_law_changed", "_law_due", "_law_words", "_law_some"]
abbrev P_spoilt : List Str := ["_law_rows", "_law_at", "_law_way", "_law_long"]
theorem sc_spoilt : FnScope N_spoilt P_spoilt (defScope s_spoilt) := ⟨rfl, rfl, rfl, by decide +kernel, rfl, by decide +kernel, by decide +kernel⟩
abbrev s_law : Stmt := top 34
abbrev N_law : List Str := ["_law_script", "_law_names_here", "_law_drawers_here", "_law_desk", "_law_k", "_law_cell", "_law_great", "_law_name", "_law_weight", "_law_text", "_law_rows", "_law_mark", "_law_some", "_law_due", "_law_more", "_law_high"]
abbrev P_law : List Str := ["_law_script"]
theorem sc_law : FnScope N_law P_law (defScope s_law) := ⟨rfl, rfl, rfl, by decide +kernel, rfl, by decide +kernel, by decide +kernel⟩

/-! ### what the top has made -/
/-- a def as the top has made it -/
structure Def (K : PySem.W.Frag) (x qual : Str) (st : Stmt) (ps : List Str) where
  a : Addr
  fd : FuncData
  F : Fun K x qual st a fd
  b : Binds K fd ps []
/-- .. with one default -/
structure DefD (K : PySem.W.Frag) (x qual : Str) (st : Stmt) (ps : List Str) (dv : V) where
  a : Addr
  fd : FuncData
  F : FunD K x qual (defArgs st) (defBody st) (defScope st) [dv] [] a fd
  b : Binds K fd ps []

structure EnvD (K : PySem.W.Frag) (mg : Str → Option Value) where
  D_n_init : Def K "__init__" "NoText.__init__" s_n_init P_n_init
  D_is_name : Def K "is_name" "is_name" s_is_name P_is_name
  m_is_name : mg "is_name" = some (.ref D_is_name.a)
  D_is_number : Def K "is_number" "is_number" s_is_number P_is_number
  m_is_number : mg "is_number" = some (.ref D_is_number.a)
  D_check_name : Def K "check_name" "check_name" s_check_name P_check_name
  m_check_name : mg "check_name" = some (.ref D_check_name.a)
  D_check_weight : Def K "check_weight" "check_weight" s_check_weight P_check_weight
  m_check_weight : mg "check_weight" = some (.ref D_check_weight.a)
  D_check_drawers : Def K "check_drawers" "check_drawers" s_check_drawers P_check_drawers
  m_check_drawers : mg "check_drawers" = some (.ref D_check_drawers.a)
  D_lowered : Def K "lowered" "lowered" s_lowered P_lowered
  m_lowered : mg "lowered" = some (.ref D_lowered.a)
  D_d_init : Def K "__init__" "Desk.__init__" s_d_init P_d_init
  D_d_come : DefD K "come" "Desk.come" s_d_come P_d_come (.int 1)
  D_d_come_to_full : Def K "_come_to_full" "Desk._come_to_full" s_d_come_to_full P_d_come_to_full
  D_d_shown : Def K "shown" "Desk.shown" s_d_shown P_d_shown
  D_d_lost : Def K "lost" "Desk.lost" s_d_lost P_d_lost
  D_d_weight : Def K "weight" "Desk.weight" s_d_weight P_d_weight
  D_d_drawers : Def K "drawers" "Desk.drawers" s_d_drawers P_d_drawers
  D_d_least : Def K "least" "Desk.least" s_d_least P_d_least
  D_d_most : Def K "most" "Desk.most" s_d_most P_d_most
  D_desk_with : Def K "desk_with" "desk_with" s_desk_with P_desk_with
  m_desk_with : mg "desk_with" = some (.ref D_desk_with.a)
  D_written : Def K "written" "written" s_written P_written
  m_written : mg "written" = some (.ref D_written.a)
  D_read : Def K "read" "read" s_read P_read
  m_read : mg "read" = some (.ref D_read.a)
  D_rows_of : Def K "rows_of" "rows_of" s_rows_of P_rows_of
  m_rows_of : mg "rows_of" = some (.ref D_rows_of.a)
  D_head_in : Def K "head_in" "head_in" s_head_in P_head_in
  m_head_in : mg "head_in" = some (.ref D_head_in.a)
  D_shown_in : Def K "shown_in" "shown_in" s_shown_in P_shown_in
  m_shown_in : mg "shown_in" = some (.ref D_shown_in.a)
  D_number_in : Def K "number_in" "number_in" s_number_in P_number_in
  m_number_in : mg "number_in" = some (.ref D_number_in.a)
  D_mixed : Def K "_law_mixed" "_law_mixed" s_mixed P_mixed
  m_mixed : mg "_law_mixed" = some (.ref D_mixed.a)
  D_names : Def K "_law_names" "_law_names" s_names P_names
  m_names : mg "_law_names" = some (.ref D_names.a)
  D_coming : Def K "_law_coming" "_law_coming" s_coming P_coming
  m_coming : mg "_law_coming" = some (.ref D_coming.a)
  D_drawers : Def K "_law_drawers" "_law_drawers" s_drawers P_drawers
  m_drawers : mg "_law_drawers" = some (.ref D_drawers.a)
  D_told : Def K "_law_told" "_law_told" s_told P_told
  m_told : mg "_law_told" = some (.ref D_told.a)
  D_spoilt : Def K "_law_spoilt" "_law_spoilt" s_spoilt P_spoilt
  m_spoilt : mg "_law_spoilt" = some (.ref D_spoilt.a)
  D_law : Def K "law" "law" s_law P_law
  m_law : mg "law" = some (.ref D_law.a)
  C : Addr
  cl : Cls K C
  mkD : Mk K C D_d_init.a
  g_Desk : mg "Desk" = some (.ref C)
  a_drawers : NoAttr K C "_drawers"
  a_shown : NoAttr K C "_shown"
  a_lost : NoAttr K C "_lost"
  a_weight : NoAttr K C "_weight"
  me_d_come : Meth K C "come" D_d_come.a
  me_d_come_to_full : Meth K C "_come_to_full" D_d_come_to_full.a
  me_d_shown : Meth K C "shown" D_d_shown.a
  me_d_lost : Meth K C "lost" D_d_lost.a
  me_d_weight : Meth K C "weight" D_d_weight.a
  me_d_drawers : Meth K C "drawers" D_d_drawers.a
  me_d_least : Meth K C "least" D_d_least.a
  me_d_most : Meth K C "most" D_d_most.a
  ft : Tok
  g_FIGURES : mg "FIGURES" = some (.str "0123456789" ft)
  lt : Tok
  g_LETTERS : mg "LETTERS" = some (.str "abcdefghijklmnopqrstuvwxyz" lt)
  n_bool : mg "bool" = none
  n_dict : mg "dict" = none
  n_enumerate : mg "enumerate" = none
  n_int : mg "int" = none
  n_isinstance : mg "isinstance" = none
  n_len : mg "len" = none
  n_min : mg "min" = none
  n_range : mg "range" = none
  n_sorted : mg "sorted" = none
  n_str : mg "str" = none
  n_sum : mg "sum" = none
  n_type : mg "type" = none
  C_NoName : Addr
  g_NoName : mg "NoName" = some (.ref C_NoName)
  k_NoName : PySem.W.keepIn K (.ref C_NoName) = true
  b_NoName : PySem.W.subIn K (.ref C_NoName) (.type "BaseException") = some true
  t_NoName : PySem.W.typeIn K (.ref C_NoName) = some (.type "type")
  x_NoName : PySem.W.excIn K C_NoName [.type "ValueError", .type "Exception", .type "BaseException", .type "object"] "ValueError.__new__" = true
  C_NoWeight : Addr
  g_NoWeight : mg "NoWeight" = some (.ref C_NoWeight)
  k_NoWeight : PySem.W.keepIn K (.ref C_NoWeight) = true
  b_NoWeight : PySem.W.subIn K (.ref C_NoWeight) (.type "BaseException") = some true
  t_NoWeight : PySem.W.typeIn K (.ref C_NoWeight) = some (.type "type")
  x_NoWeight : PySem.W.excIn K C_NoWeight [.type "ValueError", .type "Exception", .type "BaseException", .type "object"] "ValueError.__new__" = true
  C_NoDesk : Addr
  g_NoDesk : mg "NoDesk" = some (.ref C_NoDesk)
  k_NoDesk : PySem.W.keepIn K (.ref C_NoDesk) = true
  b_NoDesk : PySem.W.subIn K (.ref C_NoDesk) (.type "BaseException") = some true
  t_NoDesk : PySem.W.typeIn K (.ref C_NoDesk) = some (.type "type")
  x_NoDesk : PySem.W.excIn K C_NoDesk [.type "ValueError", .type "Exception", .type "BaseException", .type "object"] "ValueError.__new__" = true
  C_NoMatch : Addr
  g_NoMatch : mg "NoMatch" = some (.ref C_NoMatch)
  k_NoMatch : PySem.W.keepIn K (.ref C_NoMatch) = true
  b_NoMatch : PySem.W.subIn K (.ref C_NoMatch) (.type "BaseException") = some true
  t_NoMatch : PySem.W.typeIn K (.ref C_NoMatch) = some (.type "type")
  x_NoMatch : PySem.W.excIn K C_NoMatch [.type "ValueError", .type "Exception", .type "BaseException", .type "object"] "ValueError.__new__" = true
  C_NoPiece : Addr
  g_NoPiece : mg "NoPiece" = some (.ref C_NoPiece)
  k_NoPiece : PySem.W.keepIn K (.ref C_NoPiece) = true
  b_NoPiece : PySem.W.subIn K (.ref C_NoPiece) (.type "BaseException") = some true
  t_NoPiece : PySem.W.typeIn K (.ref C_NoPiece) = some (.type "type")
  x_NoPiece : PySem.W.excIn K C_NoPiece [.type "ValueError", .type "Exception", .type "BaseException", .type "object"] "ValueError.__new__" = true
  C_NoText : Addr
  g_NoText : mg "NoText" = some (.ref C_NoText)
  k_NoText : PySem.W.keepIn K (.ref C_NoText) = true
  b_NoText : PySem.W.subIn K (.ref C_NoText) (.type "BaseException") = some true
  t_NoText : PySem.W.typeIn K (.ref C_NoText) = some (.type "type")
  C_DrawerError : Addr
  g_DrawerError : mg "DrawerError" = some (.ref C_DrawerError)
  k_DrawerError : PySem.W.keepIn K (.ref C_DrawerError) = true
  b_DrawerError : PySem.W.subIn K (.ref C_DrawerError) (.type "BaseException") = some true
  t_DrawerError : PySem.W.typeIn K (.ref C_DrawerError) = some (.type "type")
  oex : OexC K C_NoText
  oexI : PySem.W.findIn K (.ref C_NoText) "__init__" = some (some (.ref D_n_init.a))
  oexT : PySem.W.typeIn K (.ref D_n_init.a) = some (.type "function")
  oexR : PySem.W.findIn K (.ref C_NoText) "row" = some none
  xc_NoName : ExcC K C_NoName
  exm_NoName : PySem.W.exmOne K (.ref C_NoName) (.ref C_DrawerError) = some true
  kt_NoName_NoName : PySem.W.kitOne K (.ref C_NoName) (.ref C_NoName) = some true
  kt_NoName_NoWeight : PySem.W.kitOne K (.ref C_NoName) (.ref C_NoWeight) = some false
  kt_NoName_NoDesk : PySem.W.kitOne K (.ref C_NoName) (.ref C_NoDesk) = some false
  kt_NoName_NoMatch : PySem.W.kitOne K (.ref C_NoName) (.ref C_NoMatch) = some false
  kt_NoName_NoPiece : PySem.W.kitOne K (.ref C_NoName) (.ref C_NoPiece) = some false
  kt_NoName_NoText : PySem.W.kitOne K (.ref C_NoName) (.ref C_NoText) = some false
  xc_NoWeight : ExcC K C_NoWeight
  exm_NoWeight : PySem.W.exmOne K (.ref C_NoWeight) (.ref C_DrawerError) = some true
  kt_NoWeight_NoName : PySem.W.kitOne K (.ref C_NoWeight) (.ref C_NoName) = some false
  kt_NoWeight_NoWeight : PySem.W.kitOne K (.ref C_NoWeight) (.ref C_NoWeight) = some true
  kt_NoWeight_NoDesk : PySem.W.kitOne K (.ref C_NoWeight) (.ref C_NoDesk) = some false
  kt_NoWeight_NoMatch : PySem.W.kitOne K (.ref C_NoWeight) (.ref C_NoMatch) = some false
  kt_NoWeight_NoPiece : PySem.W.kitOne K (.ref C_NoWeight) (.ref C_NoPiece) = some false
  kt_NoWeight_NoText : PySem.W.kitOne K (.ref C_NoWeight) (.ref C_NoText) = some false
  xc_NoDesk : ExcC K C_NoDesk
  exm_NoDesk : PySem.W.exmOne K (.ref C_NoDesk) (.ref C_DrawerError) = some true
  kt_NoDesk_NoName : PySem.W.kitOne K (.ref C_NoDesk) (.ref C_NoName) = some false
  kt_NoDesk_NoWeight : PySem.W.kitOne K (.ref C_NoDesk) (.ref C_NoWeight) = some false
  kt_NoDesk_NoDesk : PySem.W.kitOne K (.ref C_NoDesk) (.ref C_NoDesk) = some true
  kt_NoDesk_NoMatch : PySem.W.kitOne K (.ref C_NoDesk) (.ref C_NoMatch) = some false
  kt_NoDesk_NoPiece : PySem.W.kitOne K (.ref C_NoDesk) (.ref C_NoPiece) = some false
  kt_NoDesk_NoText : PySem.W.kitOne K (.ref C_NoDesk) (.ref C_NoText) = some false
  xc_NoMatch : ExcC K C_NoMatch
  exm_NoMatch : PySem.W.exmOne K (.ref C_NoMatch) (.ref C_DrawerError) = some true
  kt_NoMatch_NoName : PySem.W.kitOne K (.ref C_NoMatch) (.ref C_NoName) = some false
  kt_NoMatch_NoWeight : PySem.W.kitOne K (.ref C_NoMatch) (.ref C_NoWeight) = some false
  kt_NoMatch_NoDesk : PySem.W.kitOne K (.ref C_NoMatch) (.ref C_NoDesk) = some false
  kt_NoMatch_NoMatch : PySem.W.kitOne K (.ref C_NoMatch) (.ref C_NoMatch) = some true
  kt_NoMatch_NoPiece : PySem.W.kitOne K (.ref C_NoMatch) (.ref C_NoPiece) = some false
  kt_NoMatch_NoText : PySem.W.kitOne K (.ref C_NoMatch) (.ref C_NoText) = some false
  xc_NoText : ExcC K C_NoText
  exm_NoText : PySem.W.exmOne K (.ref C_NoText) (.ref C_DrawerError) = some true
  kt_NoText_NoName : PySem.W.kitOne K (.ref C_NoText) (.ref C_NoName) = some false
  kt_NoText_NoWeight : PySem.W.kitOne K (.ref C_NoText) (.ref C_NoWeight) = some false
  kt_NoText_NoDesk : PySem.W.kitOne K (.ref C_NoText) (.ref C_NoDesk) = some false
  kt_NoText_NoMatch : PySem.W.kitOne K (.ref C_NoText) (.ref C_NoMatch) = some false
  kt_NoText_NoPiece : PySem.W.kitOne K (.ref C_NoText) (.ref C_NoPiece) = some false
  kt_NoText_NoText : PySem.W.kitOne K (.ref C_NoText) (.ref C_NoText) = some true
  xfT : XfC K C_NoText
  kt_i_b : PySem.W.kitOne K (.type "int") (.type "bool") = some false
  kn_NoName : PySem.W.kitOne K (.type "NoneType") (.ref C_NoName) = some false
  kn_NoWeight : PySem.W.kitOne K (.type "NoneType") (.ref C_NoWeight) = some false
  kn_NoDesk : PySem.W.kitOne K (.type "NoneType") (.ref C_NoDesk) = some false
  kn_NoMatch : PySem.W.kitOne K (.type "NoneType") (.ref C_NoMatch) = some false
  kn_NoPiece : PySem.W.kitOne K (.type "NoneType") (.ref C_NoPiece) = some false
  kn_NoText : PySem.W.kitOne K (.type "NoneType") (.ref C_NoText) = some false

/-! ### a desk on the heap -/
def dfl (k : Int) (d : Addr) (g t : Int) : List (Str × V) := [("_drawers", .int k), ("_shown", .ref d), ("_lost", .int g), ("_weight", .int t)]
theorem dfl_drawers (k : Int) (d : Addr) (g t : Int) : (dfl k d g t).lookup ("_drawers" : Str) = some (.int k) := rfl
theorem dfl_shown (k : Int) (d : Addr) (g t : Int) : (dfl k d g t).lookup ("_shown" : Str) = some (.ref d) := rfl
theorem dfl_lost (k : Int) (d : Addr) (g t : Int) : (dfl k d g t).lookup ("_lost" : Str) = some (.int g) := rfl
theorem dfl_weight (k : Int) (d : Addr) (g t : Int) : (dfl k d g t).lookup ("_weight" : Str) = some (.int t) := rfl
theorem dfl_putS (k : Int) (d e : Addr) (g t : Int) : putF "_shown" (.ref e) (dfl k d g t) = dfl k e g t := rfl
theorem dfl_putL (k : Int) (d : Addr) (g t y : Int) : putF "_lost" (.int y) (dfl k d g t) = dfl k d y t := rfl
theorem dfl_putW (k : Int) (d : Addr) (g t y : Int) : putF "_weight" (.int y) (dfl k d g t) = dfl k d g y := rfl
/-- a desk stands at p, its dict at d -/
def DeskAt (C : Addr) (H : Hp) (p d : Addr) (k : Nat) (s : DS) : Prop :=
  (∃ dx, H p = some (.ins C dx (dfl (k : Int) d s.g s.t))) ∧ H d = some (.dK (enc s.l))
theorem DeskAt.same {C : Addr} {H H' : Hp} {p d : Addr} {k : Nat} {s : DS} (h : DeskAt C H p d k s) (e : Same H H') : DeskAt C H' p d k s := by
  obtain ⟨⟨dx, h1⟩, h2⟩ := h
  exact ⟨⟨dx, e _ _ h1⟩, e _ _ h2⟩
theorem DeskAt.ne {C : Addr} {H : Hp} {p d : Addr} {k : Nat} {s : DS} (h : DeskAt C H p d k s) : p ≠ d := by
  obtain ⟨⟨dx, h1⟩, h2⟩ := h
  exact ne_of h1 h2 (by intro z; cases z)
theorem Same.new {H : Hp} {p : Addr} {o : HO} (h : H p = none) : Same H (upd H p o) := fun b u e => by rw [upd_ne (ne_of_none e h)]; exact e
theorem Same.mut {H H' : Hp} {p : Addr} {o : HO} (e : Same H H') (h : H p = none) : Same H (upd H' p o) := fun b u q => by rw [upd_ne (ne_of_none q h)]; exact e b u q
theorem Same.sqt {K : PySem.W.Frag} {H H' : Hp} {a : Addr} {xs : List V} (e : Same H H') (h : SqT K H a xs) : SqT K H' a xs := Evl.ex_t e h
/-- a divisor above 0 -/
theorem mp {j : Int} (h : 0 < j) : 0 < j := h
theorem tyes {σ : L2.St} {H : Hp} {Q : Bool → Hp → Prop} (h : Q true H) : tYes σ H Q := h
theorem sz50 {n : Nat} (h : n ≤ 1000) : n < sizeLine := small1000 h
section
variable {P : Program} {w : World} {K : PySem.W.Frag} {mg : Str → Option Value} {base : Heap}
/-! ### the law's own small defs -/
def sp_mixed : Sp := fun vs H Q _ => ∃ c k : Int, vs = [.int c, .int k] ∧ ∀ m : Int, 0 ≤ m → m < 2147483647 → Q (.int m) H
theorem ok_mixed (E : EnvD K mg) : FnOk P w K mg base CX0 1 E.D_mixed.a E.D_mixed.fd P_mixed sp_mixed := by
  refine E.D_mixed.F.ok sc_mixed (fun vs H Q Ex h => ?_) (fun cdv A outer s H vs Q Ex hr h => ?_)
  · obtain ⟨c, k, rfl, _⟩ := h
    rfl
  · obtain ⟨c, k, rfl, q⟩ := h
    refine ⟨_, (pss_cons (ps_set (i := 2) sc_mixed.nd rfl (by first | exact Or.inl rfl | exact Or.inr rfl) (pe_op op_mod (pe_op op_mul (pe_op op_add (pe_op op_mod (pv 0) pe_int) (pe_op op_mul pe_int (pe_op op_add (pv 1) pe_int))) pe_int) pe_int))
  (pss_one (ps_ret (pe_op op_mod (pe_op op_mul (pe_op op_mod (pe_op op_mul (pv 2) (pv 2)) pe_int) pe_int) pe_int)))), ?_⟩
    refine ⟨_, rfl, _, _, rfl, rfl, mp (by decide), _, rfl, _, _, rfl, rfl, _, _, rfl, rfl, .inl (by decide), _, _, rfl, rfl, _, _, rfl, rfl, .inr (by decide), _, _, rfl, rfl, mp (by decide), ?_⟩
    have b1 : ∀ z : Int, 0 ≤ z % 2147483647 ∧ z % 2147483647 < 2147483647 := fun z => ⟨Int.emod_nonneg _ (by decide), Int.emod_lt_of_pos _ (by decide)⟩
    obtain ⟨b2, b3⟩ := b1 ((c % 2147483629 + 104729 * (k + 1)) * 16807)
    refine ⟨_, rfl, _, rfl, _, _, rfl, rfl, .inl ⟨?_, ?_⟩, _, _, rfl, rfl, mp (by decide), _, _, rfl, rfl, .inr (by decide), _, _, rfl, rfl, mp (by decide), ?_⟩
    · show -(2 ^ 64) < (c % 2147483629 + 104729 * (k + 1)) * 16807 % 2147483647
      omega
    · show (c % 2147483629 + 104729 * (k + 1)) * 16807 % 2147483647 < 2 ^ 64
      omega
    · exact q _ (b1 _).1 (b1 _).2
/-! ### what is a name, a number -/
def sp_is_name : Sp := fun vs H Q _ => ∃ v, vs = [v] ∧ (∃ T, TyB K H v T) ∧ (∀ z, v = .str z → z.length ≤ 1000) ∧ Q (.bl (isNm v)) H
theorem ok_is_name (E : EnvD K mg) : FnOk P w K mg base CX0 1 E.D_is_name.a E.D_is_name.fd P_is_name (sp_is_name (K := K)) := by
  refine E.D_is_name.F.ok sc_is_name (fun vs H Q Ex h => ?_) (fun cdv A outer s H vs Q Ex hr h => ?_)
  · obtain ⟨v, rfl, _⟩ := h
    rfl
  · obtain ⟨v, rfl, ⟨T, ty⟩, hz, q⟩ := h
    refine ⟨_, (pss_cons (ps_if (PW.pt (pw_or (pt_cmpR op_notTyB (pe_callTy call_type1 rfl E.n_type (by decide +kernel) (pa_cons (pv 0) pa_nil)) (pe_bltn (v := .ty "str") (u := .type "str") rfl E.n_str (by decide +kernel) rfl) (nomark _)) (pw_or1 (pt_not (pt_chain op_le op_le pe_int (pe_callB call_len_str rfl E.n_len (by decide +kernel) (pa_cons (pv 0) pa_nil)) pe_int)))))
  (pss_one (ps_ret pe_bl))
  pss_nil)
  (pss_cons (ps_for PassesOwn.never rfl (pi_str (pv 0)) (pg_name (i := 1) sc_is_name.nd rfl (by first | exact Or.inl rfl | exact Or.inr rfl))
  (pss_one (ps_if (pt_cmpR op_notIn_sign (pv 1) (pe_glob (v := .str "abcdefghijklmnopqrstuvwxyz") rfl E.g_LETTERS ⟨_, rfl⟩) rfl)
  (pss_one (ps_ret pe_bl))
  pss_nil)))
  (pss_one (ps_ret pe_bl)))), ?_⟩
    refine ⟨_, rfl, v, T, rfl, ty, T, _, rfl, rfl, _, rfl, ?_⟩
    by_cases hT : T = "str"
    · obtain ⟨z, rfl⟩ := (ty_str ty).mp hT
      subst hT
      refine iteF ?_
      have hl := hz z rfl
      have es : z.length = z.cps.toList.length := len_cps z
      refine ⟨_, rfl, _, rfl, Nat.le_of_lt (sz50 hl), _, _, rfl, rfl, _, rfl, ?_⟩
      have fin : (decide ((1 : Int) ≤ (z.length : Int)) && decide ((z.length : Int) ≤ 8)) = false → isNm (V.str z) = false := by
        intro h
        show okC z.cps.toList = false
        unfold okC
        have e1 : decide (1 ≤ z.cps.toList.length) = decide ((1 : Int) ≤ (z.length : Int)) := by
          rw [es]
          exact decide_eq_decide.mpr (by omega)
        have e2 : decide (z.cps.toList.length ≤ 8) = decide ((z.length : Int) ≤ 8) := by
          rw [es]
          exact decide_eq_decide.mpr (by omega)
        rw [e1, e2, h, Bool.false_and]
      by_cases h1 : (1 : Int) ≤ (z.length : Int)
      · rw [decide_eq_true h1]
        refine iteT ?_
        refine ⟨_, _, rfl, rfl, _, rfl, ?_⟩
        by_cases h2 : (z.length : Int) ≤ 8
        · rw [decide_eq_true h2]
          refine iteF ?_
          refine ⟨_, rfl, z, rfl, for_str (fun i σ H' => (∃ o, σ = [some (.str z), o]) ∧ H' = H ∧ (z.cps.toList.take i).all (fun c => decide (97 ≤ c) && decide (c ≤ 122)) = true) ⟨⟨none, rfl⟩, rfl, rfl⟩ ?_ ?_⟩
          · rintro i c σ H' hc ⟨⟨o, rfl⟩, rfl, ha⟩
            refine ⟨_, rfl, c, _, rfl, rfl, _, rfl, ?_⟩
            have hm : decide (c ∈ ("abcdefghijklmnopqrstuvwxyz" : Str).cps.toList) = (decide (97 ≤ c) && decide (c ≤ 122)) := abc_mem c
            rw [hm]
            cases hb : (decide (97 ≤ c) && decide (c ≤ 122)) with
            | true =>
              refine iteF ?_
              refine ⟨⟨_, rfl⟩, rfl, ?_⟩
              have hlt := (List.getElem?_eq_some_iff.mp hc).1
              have he := (List.getElem?_eq_some_iff.mp hc).2
              rw [List.take_succ, hc, List.all_append, ha]
              simp only [Option.toList, List.all_cons, List.all_nil, Bool.and_true, Bool.true_and]
              exact hb
            | false =>
              refine iteT ?_
              have : isNm (V.str z) = false := by
                show okC z.cps.toList = false
                unfold okC
                have hall : (z.cps.toList.all fun c => decide (97 ≤ c) && decide (c ≤ 122)) = false := by
                  rw [List.all_eq_false]
                  exact ⟨c, List.mem_of_getElem? hc, by rw [hb]; exact Bool.false_ne_true⟩
                rw [hall, Bool.and_false]
              rw [this] at q
              exact q
          · rintro σ H' ⟨⟨o, rfl⟩, rfl, ha⟩
            have : isNm (V.str z) = true := by
              refine okC_iff.mpr ⟨by omega, by omega, fun c hc => ?_⟩
              rw [List.take_of_length_le (Nat.le_refl _)] at ha
              have := List.all_eq_true.mp ha c hc
              simp only [Bool.and_eq_true, decide_eq_true_eq] at this
              exact this
            rw [this] at q
            exact q
        · rw [decide_eq_false h2]
          refine iteT ?_
          rw [fin (by rw [decide_eq_false h2, Bool.and_false])] at q
          exact q
      · rw [decide_eq_false h1]
        refine iteF ?_
        refine ⟨false, rfl, iteT ?_⟩
        rw [fin (by rw [decide_eq_false h1, Bool.false_and])] at q
        exact q
    · have hd : (!decide (T = "str")) = true := by rw [decide_eq_false hT]; rfl
      rw [hd]
      refine iteT ?_
      have : isNm v = false := by
        cases v with
        | str z => exact absurd ((ty_str ty).mpr ⟨z, rfl⟩) hT
        | _ => rfl
      rw [this] at q
      exact iteT q
def sp_is_number : Sp := fun vs H Q _ => ∃ v m, vs = [v, .int m] ∧ (∃ T, TyB K H v T) ∧ Q (.bl (isNum v m)) H
theorem ok_is_number (E : EnvD K mg) : FnOk P w K mg base CX0 1 E.D_is_number.a E.D_is_number.fd P_is_number (sp_is_number (K := K)) := by
  refine E.D_is_number.F.ok sc_is_number (fun vs H Q Ex h => ?_) (fun cdv A outer s H vs Q Ex hr h => ?_)
  · obtain ⟨v, m, rfl, _⟩ := h
    rfl
  · obtain ⟨v, m, rfl, ⟨T, ty⟩, q⟩ := h
    refine ⟨_, (pss_one (ps_ret (pe_and (pe_cmpR op_isTyB (pe_callTy call_type1 rfl E.n_type (by decide +kernel) (pa_cons (pv 0) pa_nil)) (pe_bltn (v := .ty "int") (u := .type "int") rfl E.n_int (by decide +kernel) rfl) (nomark _)) (pe_one (pe_chain op_le op_le pe_int (pv 0) (pv 1)))))), ?_⟩
    refine ⟨_, rfl, v, T, rfl, ty, T, _, rfl, rfl, _, rfl, ?_⟩
    by_cases hT : T = "int"
    · obtain ⟨i, rfl⟩ := (ty_int ty).mp hT
      subst hT
      refine iteT ?_
      refine ⟨_, rfl, _, _, rfl, rfl, _, rfl, ?_⟩
      have e : isNum (V.int i) m = (decide (1 ≤ i) && decide (i ≤ m)) := rfl
      rw [e] at q
      by_cases h1 : 1 ≤ i
      · rw [decide_eq_true h1] at q ⊢
        refine iteT ?_
        exact ⟨_, rfl, _, _, rfl, rfl, q⟩
      · rw [decide_eq_false h1] at q ⊢
        exact iteF q
    · rw [decide_eq_false hT]
      have : isNum v m = false := by
        cases v with
        | int z => exact absurd ((ty_int ty).mpr ⟨z, rfl⟩) hT
        | _ => rfl
      rw [this] at q
      exact iteF q
def sp_check_name (E : EnvD K mg) : Sp := fun vs H Q Ex => ∃ v, vs = [v] ∧ (∃ T, TyB K H v T) ∧ (∀ z, v = .str z → z.length ≤ 1000) ∧ (isNm v = true → Q .non H) ∧ (isNm v = false → Ex (.ref E.C_NoName) none H)
theorem ok_check_name (E : EnvD K mg) : FnOk P w K mg base (L2.CX P w) 2 E.D_check_name.a E.D_check_name.fd P_check_name (sp_check_name E) := by
  have G_is_name : FnOk P w K mg base CX0 1 E.D_is_name.a E.D_is_name.fd P_is_name (sp_is_name (K := K)) := ok_is_name E
  refine E.D_check_name.F.okX sc_check_name (fun vs H Q Ex h => ?_) (fun cdv A outer s H vs Q Ex hr h => ?_)
  · obtain ⟨v, rfl, _⟩ := h
    rfl
  · obtain ⟨v, rfl, ty, hz, q1, q2⟩ := h
    refine ⟨_, (pss_one (ps_if (pt_not (pt_val (pe_call G_is_name (hr.mono (by decide)) rfl E.m_is_name E.D_is_name.F.kp E.D_is_name.b .nil pass0 (pa_cons (pv 0) pa_nil))))
  (pss_one (ps_raise rfl (takes_of rfl rfl rfl rfl) (pmk_own PySem.F.excBase_ValueError E.x_NoName E.g_NoName E.k_NoName (raises_own E.b_NoName E.t_NoName) rfl)))
  pss_nil)), ?_⟩
    refine ⟨_, rfl, v, rfl, ty, hz, _, rfl, ?_⟩
    cases e : isNm v with
    | true => exact iteF (q1 e)
    | false => exact iteT (q2 e)
def sp_check_weight (E : EnvD K mg) : Sp := fun vs H Q Ex => ∃ v, vs = [v] ∧ (∃ T, TyB K H v T) ∧ (isNum v (10 ^ 60) = true → Q .non H) ∧ (isNum v (10 ^ 60) = false → Ex (.ref E.C_NoWeight) none H)
theorem ok_check_weight (E : EnvD K mg) : FnOk P w K mg base (L2.CX P w) 2 E.D_check_weight.a E.D_check_weight.fd P_check_weight (sp_check_weight E) := by
  have G_is_number : FnOk P w K mg base CX0 1 E.D_is_number.a E.D_is_number.fd P_is_number (sp_is_number (K := K)) := ok_is_number E
  refine E.D_check_weight.F.okX sc_check_weight (fun vs H Q Ex h => ?_) (fun cdv A outer s H vs Q Ex hr h => ?_)
  · obtain ⟨v, rfl, _⟩ := h
    rfl
  · obtain ⟨v, rfl, ty, q1, q2⟩ := h
    refine ⟨_, (pss_one (ps_if (pt_not (pt_val (pe_call G_is_number (hr.mono (by decide)) rfl E.m_is_number E.D_is_number.F.kp E.D_is_number.b .nil pass0 (pa_cons (pv 0) (pa_cons (pe_op op_pow pe_int pe_int) pa_nil)))))
  (pss_one (ps_raise rfl (takes_of rfl rfl rfl rfl) (pmk_own PySem.F.excBase_ValueError E.x_NoWeight E.g_NoWeight E.k_NoWeight (raises_own E.b_NoWeight E.t_NoWeight) rfl)))
  pss_nil)), ?_⟩
    refine ⟨_, rfl, _, _, rfl, rfl, ⟨by decide, by decide, by decide⟩, v, 10 ^ 60, rfl, ty, _, rfl, ?_⟩
    cases e : isNum v (10 ^ 60) with
    | true => exact iteF (q1 e)
    | false => exact iteT (q2 e)
def sp_check_drawers (E : EnvD K mg) : Sp := fun vs H Q Ex => ∃ v, vs = [v] ∧ (∃ T, TyB K H v T) ∧ (isNum v 50 = true → Q .non H) ∧ (isNum v 50 = false → Ex (.ref E.C_NoDesk) none H)
theorem ok_check_drawers (E : EnvD K mg) : FnOk P w K mg base (L2.CX P w) 2 E.D_check_drawers.a E.D_check_drawers.fd P_check_drawers (sp_check_drawers E) := by
  have G_is_number : FnOk P w K mg base CX0 1 E.D_is_number.a E.D_is_number.fd P_is_number (sp_is_number (K := K)) := ok_is_number E
  refine E.D_check_drawers.F.okX sc_check_drawers (fun vs H Q Ex h => ?_) (fun cdv A outer s H vs Q Ex hr h => ?_)
  · obtain ⟨v, rfl, _⟩ := h
    rfl
  · obtain ⟨v, rfl, ty, q1, q2⟩ := h
    refine ⟨_, (pss_one (ps_if (pt_not (pt_val (pe_call G_is_number (hr.mono (by decide)) rfl E.m_is_number E.D_is_number.F.kp E.D_is_number.b .nil pass0 (pa_cons (pv 0) (pa_cons pe_int pa_nil)))))
  (pss_one (ps_raise rfl (takes_of rfl rfl rfl rfl) (pmk_own PySem.F.excBase_ValueError E.x_NoDesk E.g_NoDesk E.k_NoDesk (raises_own E.b_NoDesk E.t_NoDesk) rfl)))
  pss_nil)), ?_⟩
    refine ⟨_, rfl, v, 50, rfl, ty, _, rfl, ?_⟩
    cases e : isNum v 50 with
    | true => exact iteF (q1 e)
    | false => exact iteT (q2 e)
/-! ### the law's names, comings, drawers -/
def sp_names : Sp := fun vs H Q _ => ∃ (a : Addr) (ns : List Int), vs = [.ref a] ∧ SqL K H a (ns.map V.int) ∧
  ∀ (p : Addr) (H' : Hp) (nl : List Str), H p = none → Same H H' → H' p = some (.lst (nl.map V.str)) → nl.length = 14 → (∀ n ∈ nl, nmOk n = true) → Q (.ref p) H'
theorem len_le {n : Str} {m : Nat} (h : n.cps.toList.length ≤ m) (hm : m ≤ 1000) : n.length ≤ sizeLine := by
  rw [len_cps]
  exact Nat.le_of_lt (sz50 (by omega))
theorem ok_names (E : EnvD K mg) : FnOk P w K mg base CX0 2 E.D_names.a E.D_names.fd P_names (sp_names (K := K)) := by
  have G_mixed : FnOk P w K mg base CX0 1 E.D_mixed.a E.D_mixed.fd P_mixed sp_mixed := ok_mixed E
  refine E.D_names.F.ok sc_names (fun vs H Q Ex h => ?_) (fun cdv A outer s H vs Q Ex hr h => ?_)
  · obtain ⟨a, ns, rfl, _⟩ := h
    rfl
  · obtain ⟨a, ns, rfl, hS, q⟩ := h
    refine ⟨_, (pss_cons (ps_set (i := 1) sc_names.nd rfl (by first | exact Or.inl rfl | exact Or.inr rfl) pe_str)
  (Evl.pss_cut (ps_set (i := 2) sc_names.nd rfl (by first | exact Or.inl rfl | exact Or.inr rfl) (pe_call G_mixed (hr.mono (by decide)) rfl E.m_mixed E.D_mixed.F.kp E.D_mixed.b .nil pass0 (pa_cons (pe_ifExp (pt_truth (pv 0) (by intro _; rfl)) (pe_ix ix_list (pv 0) pe_int (fun _ _ => rfl)) pe_int) (pa_cons pe_int pa_nil))))
  (pss_cons (ps_set (i := 3) sc_names.nd rfl (by first | exact Or.inl rfl | exact Or.inr rfl) (pe_op op_mulS (pe_ix ix_str (pv 1) (pe_op op_mod (pv 2) pe_int) (fun _ _ => rfl)) (pe_op op_add pe_int (pe_op op_mod (pe_op op_fdiv (pv 2) pe_int) pe_int))))
  (Evl.pss_cut (ps_set (i := 4) sc_names.nd rfl (by first | exact Or.inl rfl | exact Or.inr rfl) (pe_op op_mod (pe_op op_fdiv (pv 2) pe_int) (pe_callB call_len_str rfl E.n_len (by decide +kernel) (pa_cons (pv 3) pa_nil))))
  (pss_cons (ps_set (i := 5) sc_names.nd rfl (by first | exact Or.inl rfl | exact Or.inr rfl) (pe_lst pa_nil))
  (pss_cons (ps_for PassesOwn.never rfl (pi_range1 rfl E.n_range (pa_cons pe_int pa_nil)) (pg_name (i := 6) sc_names.nd rfl (by first | exact Or.inl rfl | exact Or.inr rfl))
  (pss_cons (ps_set (i := 7) sc_names.nd rfl (by first | exact Or.inl rfl | exact Or.inr rfl) (pe_ix ix_str (pv 1) (pe_op op_mod (pe_op op_add (pe_op op_fdiv (pv 2) pe_int) (pe_op op_mul pe_int (pv 6))) pe_int) (fun _ _ => rfl)))
  (Evl.pss_cut (ps_set (i := 8) sc_names.nd rfl (by first | exact Or.inl rfl | exact Or.inr rfl) (pe_op op_add_str (pe_op op_add_str (pe_slice sl_str (pv 3) po_none (po_some (pv 4))) (pv 7)) (pe_slice sl_str (pv 3) (po_some (pe_op op_add (pv 4) pe_int)) po_none)))
  (Evl.pss_cut (ps_if (pt_cmpR op_eq (pe_op op_mod (pv 6) pe_int) pe_int (nomark _))
  (pss_one (ps_set (i := 8) sc_names.nd rfl (by first | exact Or.inl rfl | exact Or.inr rfl) (pe_slice sl_str (pe_op op_add_str (pv 8) (pv 8)) po_none (po_some (pe_callB (call_min2 rfl) rfl E.n_min (by decide +kernel) (pa_cons pe_int (pa_cons (pe_op op_add (pe_op op_add (pe_callB call_len_str rfl E.n_len (by decide +kernel) (pa_cons (pv 8) pa_nil)) pe_int) (pe_op op_mod (pv 6) pe_int)) pa_nil)))))))
  pss_nil)
  (Evl.pss_cut (ps_if (pt_cmpR op_eq (pe_op op_mod (pv 6) pe_int) pe_int (nomark _))
  (pss_one (ps_set (i := 8) sc_names.nd rfl (by first | exact Or.inl rfl | exact Or.inr rfl) (pe_slice sl_str (pv 8) po_none (po_some (pe_op op_add (pv 4) pe_int)))))
  pss_nil)
  (pss_one (ps_expr (pe_bm PySem.F.plainAttrs_list PySem.F.slot_list_append PySem.F.type_list_append mt_append (pv 5) (pa_cons (pv 8) pa_nil)))))))))
  (pss_one (ps_ret (pv 5))))))))), ?_⟩
    refine ⟨fun σ H' => H' = H ∧ ∃ m : Int, 0 ≤ m ∧ m < 2147483647 ∧ σ = [some (.ref a), some (.str abc), some (.int m), none, none, none, none, none, none], ?_, ?_⟩
    · refine ⟨_, rfl, _, .inl ⟨_, hS, rfl⟩, ?_⟩
      cases ns with
      | nil => exact iteF ⟨_, _, rfl, fun m h0 h1 => ⟨rfl, m, h0, h1, rfl⟩⟩
      | cons z r =>
        have hz : atI ((z :: r).map V.int) 0 = some (V.int z) := atI_nat (j := 0) rfl
        exact iteT ⟨_, rfl, _, _, _, _, rfl, rfl, hS, hz, _, _, rfl, fun m h0 h1 => ⟨rfl, m, h0, h1, rfl⟩⟩
    · rintro σ H' ⟨rfl, m, h0, h1, rfl⟩
      obtain ⟨b0, b1⟩ := emod_bd m (n := 26) (by decide)
      obtain ⟨c, c1, c2, hc⟩ := abc_at b0 b1
      obtain ⟨k0, k1⟩ := emod_bd (m / 26) (n := 8) (by decide)
      refine ⟨_, rfl, _, rfl, _, _, rfl, rfl, mp (by decide), _, _, _, rfl, rfl, Nat.le_of_lt (sz50 (by rw [abc_len]; decide)), hc, _, rfl, _, _, rfl, rfl, ⟨by decide, by decide⟩, _, _, rfl, rfl, mp (by decide), _, _, rfl, rfl, _, _, rfl, rfl, (by show 1 ≤ 8; decide), ?_, ?_, ?_⟩
      · show 0 ≤ 1 + m / 26 % 8
        omega
      · show 1 + m / 26 % 8 ≤ 64
        omega
      have hb : ∃ b : Str, b = PySem.Txt.mul ⟨#[c]⟩ (1 + m / 26 % 8) ∧ okC b.cps.toList = true := ⟨_, rfl, by rw [mul_cps c (by omega)]; exact okC_rep c1 c2 (by omega) (by omega)⟩
      obtain ⟨b, eb, ob⟩ := hb
      rw [← eb]
      obtain ⟨l1, l2, l3⟩ := okC_iff.mp ob
      have el := len_cps b
      obtain ⟨a0, a1⟩ := emod_bd (m / 208) (n := (b.length : Int)) (by omega)
      refine ⟨fun σ H2 => H2 = H' ∧ ∃ j : Nat, j < b.cps.toList.length ∧ σ = [some (.ref a), some (.str abc), some (.int m), some (.str b), some (.int (j : Int)), none, none, none, none], ?_, ?_⟩
      · refine ⟨_, rfl, _, _, rfl, rfl, ⟨by decide, by decide⟩, _, rfl, _, rfl, len_le l2 (by decide), _, _, rfl, rfl, mp (by omega), ?_⟩
        obtain ⟨j, ej⟩ := Int.eq_ofNat_of_zero_le a0
        exact ⟨rfl, j, by omega, by rw [← ej]; rfl⟩
      rintro σ H2 ⟨rfl, j, hj, rfl⟩
      refine ⟨Nat.zero_le _, fun p hp => ?_⟩
      have s0 : Same H2 (upd H2 p (.lst [])) := Same.new hp
      refine ⟨14, rfl, by decide, by decide, for_range (fun i σ H3 => ∃ (nl : List Str) (o6 o7 o8 : Option V), σ = [some (.ref a), some (.str abc), some (.int m), some (.str b), some (.int (j : Int)), some (.ref p), o6, o7, o8] ∧
          Same H2 H3 ∧ H3 p = some (.lst (nl.map V.str)) ∧ nl.length = i ∧ ∀ n ∈ nl, nmOk n = true) ⟨[], none, none, none, rfl, s0, upd_same, rfl, fun _ h => by simp at h⟩ ?_ ?_⟩
      · rintro i σ H2 hi ⟨nl, o6, o7, o8, rfl, s2, hL, hln, hok⟩
        obtain ⟨d0, d1⟩ := emod_bd (m / 1664 + 5 * (0 + (i : Int))) (n := 26) (by decide)
        obtain ⟨e, e1, e2, he⟩ := abc_at d0 d1
        refine ⟨_, rfl, _, rfl, _, _, rfl, rfl, ⟨by decide, by decide⟩, _, rfl, _, _, rfl, rfl, .inl (by decide), _, _, rfl, rfl, _, _, rfl, rfl, mp (by decide), _, _, _, rfl, rfl, Nat.le_of_lt (sz50 (by rw [abc_len]; decide)), he, ?_⟩
        refine ⟨fun σ H3 => H3 = H2 ∧ ∃ x : Str, okC x.cps.toList = true ∧ σ = [some (.ref a), some (.str abc), some (.int m), some (.str b), some (.int (j : Int)), some (.ref p), some (.int (0 + (i : Int))), some (.str ⟨#[e]⟩), some (.str x)], ?_, ?_⟩
        · have w1 : ((cutS b none (some (j : Int))) ++ (⟨#[e]⟩ : Str)).cps.toList = b.cps.toList.take j ++ [e] := by rw [cps_add, cps_to]
          have w2 : (cutS b (some ((j : Int) + 1)) none).cps.toList = b.cps.toList.drop (j + 1) := cps_from b (j + 1)
          have w3 : (((cutS b none (some (j : Int))) ++ (⟨#[e]⟩ : Str)) ++ (cutS b (some ((j : Int) + 1)) none)).cps.toList = b.cps.toList.take j ++ [e] ++ b.cps.toList.drop (j + 1) := by rw [cps_add, w1, w2]
          have o3 := okC_swap ob hj e1 e2
          have l4 := (okC_iff.mp o3).2.1
          refine ⟨_, rfl, _, rfl, _, rfl, _, rfl, len_le l2 (by decide), _, rfl, _, _, rfl, rfl, ?_, _, rfl, _, rfl, _, _, rfl, rfl, _, rfl, _, rfl, len_le l2 (by decide), _, _, rfl, rfl, ?_, ?_⟩
          · show (cutS b none (some (j : Int))).length + (⟨#[e]⟩ : Str).length ≤ sizeLine
            have z1 : (cutS b none (some (j : Int))).length ≤ b.length := cutS_length _ _ _
            have z2 : (⟨#[e]⟩ : Str).length = 1 := rfl
            exact Nat.le_of_lt (sz50 (by omega))
          · have z := congrArg List.length w3
            rw [cps_add, List.length_append, ← len_cps, ← len_cps] at z
            exact Nat.le_of_lt (sz50 (by omega))
          · exact ⟨rfl, _, by rw [w3]; exact o3, rfl⟩
        rintro σ H3 ⟨rfl, x, ox, rfl⟩
        refine ⟨fun σ H4 => H4 = H3 ∧ ∃ x : Str, okC x.cps.toList = true ∧ σ = [some (.ref a), some (.str abc), some (.int m), some (.str b), some (.int (j : Int)), some (.ref p), some (.int (0 + (i : Int))), some (.str ⟨#[e]⟩), some (.str x)], ?_, ?_⟩
        · obtain ⟨x1, x2, x3⟩ := okC_iff.mp ox
          have ex := len_cps x
          refine ⟨_, rfl, _, _, rfl, rfl, mp (by decide), rfl, _, rfl, ?_⟩
          refine ite2 (fun _ => ?_) (fun _ => ⟨rfl, x, ox, rfl⟩)
          obtain ⟨g0, g1⟩ := emod_bd (0 + (i : Int)) (n := 2) (by decide)
          refine ⟨_, rfl, _, rfl, _, _, rfl, rfl, Nat.le_of_lt (sz50 (by omega)), _, rfl, _, rfl, len_le x2 (by decide), _, _, rfl, rfl, _, rfl, _, _, rfl, rfl, mp (by decide), _, _, rfl, rfl, _, _, rfl, _, rfl, _, rfl, ?_, ?_⟩
          · have z := congrArg List.length (cps_add x x)
            rw [List.length_append, ← len_cps] at z
            exact Nat.le_of_lt (sz50 (by omega))
          · obtain ⟨n, en, n1, n2⟩ : ∃ n : Nat, (if ((x.length : Nat) : Int) + 1 + (0 + (i : Int)) % 2 < 8 then ((x.length : Nat) : Int) + 1 + (0 + (i : Int)) % 2 else 8) = (n : Int) ∧ 1 ≤ n ∧ n ≤ 8 := by
              split
              · exact ⟨(((x.length : Nat) : Int) + 1 + (0 + (i : Int)) % 2).toNat, by omega, by omega, by omega⟩
              · exact ⟨8, rfl, by decide, by decide⟩
            refine ⟨rfl, cutS (x ++ x) none (some (n : Int)), ?_, ?_⟩
            · rw [cps_to, cps_add]
              exact okC_take2 ox n1 n2
            · rw [← en]
              rfl
        rintro σ H4 ⟨rfl, x, ox, rfl⟩
        refine ⟨fun σ H5 => H5 = H4 ∧ ∃ x : Str, okC x.cps.toList = true ∧ σ = [some (.ref a), some (.str abc), some (.int m), some (.str b), some (.int (j : Int)), some (.ref p), some (.int (0 + (i : Int))), some (.str ⟨#[e]⟩), some (.str x)], ?_, ?_⟩
        · obtain ⟨x1, x2, x3⟩ := okC_iff.mp ox
          refine ⟨_, rfl, _, _, rfl, rfl, mp (by decide), rfl, _, rfl, ?_⟩
          refine ite2 (fun _ => ?_) (fun _ => ⟨rfl, x, ox, rfl⟩)
          refine ⟨_, rfl, _, rfl, _, _, rfl, rfl, _, rfl, _, rfl, len_le x2 (by decide), ?_⟩
          refine ⟨rfl, cutS x none (some ((j + 1 : Nat) : Int)), ?_, rfl⟩
          rw [cps_to]
          exact okC_take ox (by omega)
        rintro σ H5 ⟨rfl, x, ox, rfl⟩
        refine ⟨_, rfl, .inl ⟨rfl, _, SqL.of hL⟩, _, rfl, p, _, _, rfl, rfl, hL, sz50 (by rw [List.length_map]; omega), ?_⟩
        refine ⟨nl ++ [x], _, _, _, rfl, Same.mut s2 hp, by rw [upd_same, List.map_append]; rfl, by rw [List.length_append, hln]; rfl, fun n hn => ?_⟩
        rcases List.mem_append.mp hn with hn | hn
        · exact hok n hn
        · rw [List.mem_singleton.mp hn]
          exact ox
      · rintro σ H2 ⟨nl, o6, o7, o8, rfl, s2, hL, hln, hok⟩
        exact ⟨_, rfl, q p H2 nl hp s2 hL hln hok⟩
/-- a coming: a name of the list, a weight -/
def sp_coming : Sp := fun vs H Q _ => ∃ (a : Addr) (nl : List Str) (c k : Int), vs = [.ref a, .int c, .int k] ∧ SqL K H a (nl.map V.str) ∧ nl.length = 14 ∧
  ∀ (p : Addr) (H' : Hp) (n : Str) (w : Int), H p = none → Same H H' → H' p = some (.tup [.str n, .int w]) → n ∈ nl → 1 ≤ w → w ≤ 10 ^ 60 → Q (.ref p) H'
theorem ok_coming (E : EnvD K mg) : FnOk P w K mg base CX0 2 E.D_coming.a E.D_coming.fd P_coming (sp_coming (K := K)) := by
  have G_mixed : FnOk P w K mg base CX0 1 E.D_mixed.a E.D_mixed.fd P_mixed sp_mixed := ok_mixed E
  refine E.D_coming.F.ok sc_coming (fun vs H Q Ex h => ?_) (fun cdv A outer s H vs Q Ex hr h => ?_)
  · obtain ⟨a, nl, c, k, rfl, _⟩ := h
    rfl
  · obtain ⟨a, nl, c, k, rfl, hS, hl, q⟩ := h
    refine ⟨_, (pss_cons (ps_set (i := 3) sc_coming.nd rfl (by first | exact Or.inl rfl | exact Or.inr rfl) (pe_call G_mixed (hr.mono (by decide)) rfl E.m_mixed E.D_mixed.F.kp E.D_mixed.b .nil pass0 (pa_cons (pv 1) (pa_cons (pv 2) pa_nil))))
  (Evl.pss_cut (ps_set (i := 4) sc_coming.nd rfl (by first | exact Or.inl rfl | exact Or.inr rfl) (pe_ix ix_list (pv 0) (pe_op op_mod (pe_op op_mod (pv 3) (pe_ix ix_list (pe_lst (pa_cons pe_int (pa_cons pe_int (pa_cons pe_int pa_nil)))) (pe_op op_mod (pe_op op_fdiv (pv 3) pe_int) pe_int) (fun _ _ => rfl))) pe_int) (fun _ _ => rfl)))
  (pss_cons (ps_set (i := 5) sc_coming.nd rfl (by first | exact Or.inl rfl | exact Or.inr rfl) (pe_op op_mod (pe_op op_fdiv (pv 3) pe_int) pe_int))
  (Evl.pss_cut (ps_set (i := 6) sc_coming.nd rfl (by first | exact Or.inl rfl | exact Or.inr rfl) (pe_op op_add pe_int (pe_op op_mod (pe_op op_fdiv (pv 3) pe_int) (pe_ix ix_list (pe_lst (pa_cons pe_int (pa_cons pe_int (pa_cons pe_int pa_nil)))) (pe_op op_mod (pv 5) pe_int) (fun _ _ => rfl)))))
  (Evl.pss_cut (ps_if (pt_cmpR op_gt (pv 5) pe_int (nomark _))
  (pss_one (ps_set (i := 6) sc_coming.nd rfl (by first | exact Or.inl rfl | exact Or.inr rfl) (pe_op op_add pe_int (pe_op op_mod (pe_op op_add (pe_op op_pow (pv 3) pe_int) (pe_op op_mod (pv 1) (pe_op op_pow pe_int pe_int))) (pe_op op_pow pe_int pe_int)))))
  pss_nil)
  (pss_one (ps_ret (pe_tup (pa_cons (pv 4) (pa_cons (pv 6) pa_nil)))))))))), ?_⟩
    refine ⟨_, rfl, _, rfl, _, _, rfl, fun m h0 h1 => ?_⟩
    refine ⟨fun σ H' => Same H H' ∧ ∃ n : Str, n ∈ nl ∧ σ = [some (.ref a), some (.int c), some (.int k), some (.int m), some (.str n), none, none], ?_, ?_⟩
    · obtain ⟨b0, b1⟩ := emod_bd (m / 14) (n := 3) (by decide)
      obtain ⟨v, hv, ev⟩ := at3 (a := 4) (b := 14) (c := 9) b0 b1
      have hv0 : 0 < v := by omega
      refine ⟨_, rfl, _, rfl, ?_⟩
      refine ⟨by show 3 ≤ sizeLine; decide, fun p hp => ?_⟩
      refine ⟨_, rfl, _, _, rfl, rfl, ⟨by decide, by decide⟩, _, _, rfl, rfl, mp (by decide), p, _, _, _, rfl, rfl, SqL.of upd_same, ev, _, _, rfl, rfl, mp hv0, _, _, rfl, rfl, mp (by decide), ?_⟩
      obtain ⟨d0, d1⟩ := emod_bd (m % v) (n := 14) (by decide)
      obtain ⟨j, ej⟩ := Int.eq_ofNat_of_zero_le d0
      have hj : j < nl.length := by omega
      have s1 : Same H (upd H p (.lst [V.int 4, V.int 14, V.int 9])) := Same.new hp
      have hx : nl[j]? = some nl[j] := List.getElem?_eq_getElem hj
      refine ⟨_, _, _, _, rfl, rfl, s1.seq hS, at_of (j := j) (v := V.str nl[j]) ej (by rw [List.getElem?_map, hx]; rfl), s1, nl[j], List.getElem_mem hj, rfl⟩
    rintro σ H1 ⟨s1, n, hn, rfl⟩
    obtain ⟨t0, t1⟩ := emod_bd (m / 42) (n := 12) (by decide)
    refine ⟨_, rfl, _, _, rfl, rfl, ⟨by decide, by decide⟩, _, _, rfl, rfl, mp (by decide), ?_⟩
    refine ⟨fun σ H' => Same H H' ∧ ∃ w : Int, 1 ≤ w ∧ w ≤ 10 ^ 60 ∧ σ = [some (.ref a), some (.int c), some (.int k), some (.int m), some (.str n), some (.int (m / 42 % 12)), some (.int w)], ?_, ?_⟩
    · obtain ⟨b0, b1⟩ := emod_bd (m / 42 % 12) (n := 3) (by decide)
      obtain ⟨v, hv, ev⟩ := at3 (a := 1) (b := 9) (c := 60) b0 b1
      have hv0 : 0 < v := by omega
      obtain ⟨w0, w1⟩ := emod_bd (m / 600) (n := v) hv0
      refine ⟨_, rfl, _, _, rfl, rfl, ⟨by decide, by decide⟩, ?_⟩
      refine ⟨by show 3 ≤ sizeLine; decide, fun p hp => ?_⟩
      refine ⟨_, rfl, _, _, rfl, rfl, mp (by decide), p, _, _, _, rfl, rfl, SqL.of upd_same, ev, _, _, rfl, rfl, mp hv0, _, _, rfl, rfl, ?_⟩
      exact ⟨Same.trans s1 (Same.new hp), _, by omega, by omega, rfl⟩
    rintro σ H2 ⟨s2, w, hw0, hw1, rfl⟩
    refine ⟨fun σ H' => Same H H' ∧ ∃ w : Int, 1 ≤ w ∧ w ≤ 10 ^ 60 ∧ σ = [some (.ref a), some (.int c), some (.int k), some (.int m), some (.str n), some (.int (m / 42 % 12)), some (.int w)], ?_, ?_⟩
    · refine ⟨_, rfl, _, _, rfl, rfl, _, rfl, ?_⟩
      refine ite2 (fun _ => ?_) (fun _ => ⟨s2, w, hw0, hw1, rfl⟩)
      refine ⟨_, rfl, _, _, rfl, rfl, ⟨by decide, by decide, ?_⟩, _, rfl, _, _, rfl, rfl, ⟨by decide, by decide, by decide⟩, _, _, rfl, rfl, mp (by decide), _, _, rfl, rfl, _, _, rfl, rfl, ⟨by decide, by decide, by decide⟩, _, _, rfl, rfl, mp (by decide), _, _, rfl, rfl, ?_⟩
      · show m.natAbs < 2 ^ 64
        omega
      · obtain ⟨z0, z1⟩ := emod_bd (m ^ (7 : Int).toNat + c % 10 ^ (59 : Int).toNat) (n := 10 ^ (60 : Int).toNat) (by decide)
        exact ⟨s2, _, by omega, by
          have e : (10 : Int) ^ (60 : Int).toNat = 10 ^ 60 := rfl
          rw [e] at z1 ⊢
          omega, rfl⟩
    rintro σ H3 ⟨s3, w, hw0, hw1, rfl⟩
    refine ⟨_, rfl, _, rfl, (by show 2 ≤ sizeLine; decide), fun p hp => ?_⟩
    exact q p _ n w (Same.free s3 hp) (Same.mut s3 (Same.free s3 hp)) upd_same hn hw0 hw1
/-- how many drawers -/
def sp_drawers : Sp := fun vs H Q _ => ∃ (a : Addr) (ns : List Int), vs = [.ref a] ∧ SqL K H a (ns.map V.int) ∧ ∀ (k : Nat) (H' : Hp), 1 ≤ k → k ≤ 50 → Same H H' → Q (.int (k : Int)) H'
theorem ok_drawers (E : EnvD K mg) : FnOk P w K mg base CX0 2 E.D_drawers.a E.D_drawers.fd P_drawers (sp_drawers (K := K)) := by
  have G_mixed : FnOk P w K mg base CX0 1 E.D_mixed.a E.D_mixed.fd P_mixed sp_mixed := ok_mixed E
  refine E.D_drawers.F.ok sc_drawers (fun vs H Q Ex h => ?_) (fun cdv A outer s H vs Q Ex hr h => ?_)
  · obtain ⟨a, ns, rfl, _⟩ := h
    rfl
  · obtain ⟨a, ns, rfl, hS, q⟩ := h
    refine ⟨_, (Evl.pss_cut (ps_set (i := 1) sc_drawers.nd rfl (by first | exact Or.inl rfl | exact Or.inr rfl) (pe_call G_mixed (hr.mono (by decide)) rfl E.m_mixed E.D_mixed.F.kp E.D_mixed.b .nil pass0 (pa_cons (pe_ifExp (pt_truth (pv 0) (by intro _; rfl)) (pe_ix ix_list (pv 0) (pe_un un_neg pe_int) (fun _ _ => rfl)) pe_int) (pa_cons pe_int pa_nil))))
  (pss_one (ps_ret (pe_ix ix_list (pe_lst (pa_cons (pe_op op_add pe_int (pe_op op_mod (pe_op op_fdiv (pv 1) pe_int) pe_int)) (pa_cons (pe_op op_add pe_int (pe_op op_mod (pe_op op_fdiv (pv 1) pe_int) pe_int)) (pa_cons pe_int (pa_cons pe_int pa_nil))))) (pe_op op_fdiv (pe_op op_mod (pv 1) pe_int) pe_int) (fun _ _ => rfl))))), ?_⟩
    refine ⟨fun σ H' => H' = H ∧ ∃ m : Int, 0 ≤ m ∧ m < 2147483647 ∧ σ = [some (.ref a), some (.int m)], ?_, ?_⟩
    · refine ⟨_, rfl, _, .inl ⟨_, hS, rfl⟩, ?_⟩
      cases ns with
      | nil => exact iteF ⟨_, _, rfl, fun m h0 h1 => ⟨rfl, m, h0, h1, rfl⟩⟩
      | cons z r =>
        obtain ⟨y, hy⟩ := last_at (ns := z :: r) (by simp)
        exact iteT ⟨_, rfl, _, rfl, _, _, _, _, rfl, rfl, hS, hy, _, _, rfl, fun m h0 h1 => ⟨rfl, m, h0, h1, rfl⟩⟩
    · rintro σ H' ⟨rfl, m, h0, h1, rfl⟩
      obtain ⟨b0, b1⟩ := emod_bd (m / 8) (n := 4) (by decide)
      obtain ⟨c0, c1⟩ := emod_bd (m / 8) (n := 9) (by decide)
      obtain ⟨d0, d1⟩ := emod_bd m (n := 8) (by decide)
      obtain ⟨v, hv, ev⟩ := at4 (a := 1 + m / 8 % 4) (b := 1 + m / 8 % 9) (c := 3) (d := 50) (i := m % 8 / 2) (by omega) (by omega)
      refine ⟨_, rfl, _, _, rfl, rfl, ⟨by decide, by decide⟩, _, _, rfl, rfl, mp (by decide), _, _, rfl, rfl, _, rfl, _, _, rfl, rfl, ⟨by decide, by decide⟩, _, _, rfl, rfl, mp (by decide), _, _, rfl, rfl, ?_⟩
      refine ⟨by show 4 ≤ sizeLine; decide, fun p hp => ?_⟩
      refine ⟨_, rfl, _, _, rfl, rfl, mp (by decide), _, _, rfl, rfl, ⟨by decide, by decide⟩, p, _, _, _, rfl, rfl, SqL.of upd_same, ev, ?_⟩
      obtain ⟨k, ek⟩ := Int.eq_ofNat_of_zero_le (show 0 ≤ v by omega)
      subst ek
      exact q k _ (by omega) (by omega) (Same.new hp)
/-! ### the desk's methods -/
theorem dget_enc {H : Hp} {d : Addr} {l : Dk} {n : Str} {z : Int} (h : Rd H d (.dK (enc l))) (e : lk l n = some z) : DGet H d (.str n) (some (.int z)) :=
  .inl ⟨enc l, Sum.inr n, h, rfl, by rw [enc_val, e]; rfl⟩
theorem dget_encO {H : Hp} {d : Addr} {l : Dk} {n : Str} (h : Rd H d (.dK (enc l))) : DGet H d (.str n) ((lk l n).map V.int) :=
  .inl ⟨enc l, Sum.inr n, h, rfl, (enc_val n l).symm⟩
theorem dput_enc {H : Hp} {d : Addr} {l : Dk} {n : Str} {z : Int} (h : H d = some (.dK (enc l))) (hl : l.length ≤ 1000) : DPut H d (.str n) (.int z) (upd H d (.dK (enc (put l n z)))) := by
  rw [← enc_put]
  exact DPut.k (k := Sum.inr n) h (by rw [enc_len]; exact sz50 hl)
def sp_lowered : Sp := fun vs H Q _ => ∃ (d : Addr) (l : Dk) (z : Int), vs = [.ref d, .int z] ∧ H d = some (.dK (enc l)) ∧ (keys l).Nodup ∧ l.length ≤ 1000 ∧
  ∀ (p : Addr) (H' : Hp), H p = none → Same H H' → H' p = some (.dK (enc (low l z))) → Q (.ref p) H'
theorem ok_lowered (E : EnvD K mg) : FnOk P w K mg base CX0 1 E.D_lowered.a E.D_lowered.fd P_lowered sp_lowered := by
  refine E.D_lowered.F.ok sc_lowered (fun vs H Q Ex h => ?_) (fun cdv A outer s H vs Q Ex hr h => ?_)
  · obtain ⟨d, l, z, rfl, _⟩ := h
    rfl
  · obtain ⟨d, l, z, rfl, hd, nd, hl, q⟩ := h
    refine ⟨_, (pss_one (ps_ret (pe_lock (pe_dc (own := [("name", 2)]) rfl sc_lowered.nd (pi_keys (pv 0)) (blkOk_by (N := N_lowered) (sc := defScope s_lowered) (by decide +kernel)) (fun _ _ _ _ _ => (pg_name (i := 2) sc_lowered.nd rfl (by first | exact Or.inl rfl | exact Or.inr rfl))) (fun _ _ _ _ _ => pts_one (pt_cmpR op_gt (pe_dget (hu_of hr) (pv 0) (pv 2) (fun _ _ => rfl)) (pv 1) (nomark _))) (fun _ _ _ _ _ => (pv 2)) (fun _ _ _ _ _ => (pe_op op_sub (pe_dget (hu_of hr) (pv 0) (pv 2) (fun _ _ => rfl)) (pv 1))))))), ?_⟩
    refine ⟨d, _, hd, trivial, fun od => ?_⟩
    refine ⟨_, rfl, d, od, rfl, .inl ⟨_, upd_same, fun D hD => ?_⟩⟩
    have nDd : D ≠ d := fun e => by
      rw [e, upd_same] at hD
      cases hD
    have hD0 : H D = none := by
      rw [upd_ne nDd] at hD
      exact hD
    refine dc_keys (od := od) (l := l) (fun i H' => H' d = some (.frz od (.dK (enc l))) ∧ (∀ b o, H b = some o → b ≠ d → H' b = some o) ∧ H' D = some (.dK (enc (low (l.take i) z)))) ?_ (fun i H' h => h.1) ?_ ?_
    · exact ⟨by rw [upd_ne nDd.symm, upd_same], fun b o e hb => by rw [upd_ne (ne_of_none e hD0), upd_ne hb]; exact e, upd_same⟩
    · rintro i p H' hp ⟨h1, h2, h3⟩
      have el := lk_at nd hp
      refine ⟨rfl, ?_⟩
      refine ⟨_, rfl, _, rfl, d, _, rfl, dget_enc (.inr ⟨_, h1⟩) el, _, rfl, _, _, rfl, rfl, _, rfl, ?_⟩
      have es := low_snoc (l.take i) p z
      rw [← take_snoc hp] at es
      by_cases c : z < p.2
      · rw [decide_eq_true c]
        rw [if_pos c] at es
        have fr : lk (low (l.take i) z) p.1 = none := lk_none.mpr fun hm => take_fresh nd hp (keys_low_sub hm)
        refine iteT ⟨_, rfl, _, rfl, _, rfl, d, _, rfl, dget_enc (.inr ⟨_, h1⟩) el, _, rfl, _, _, rfl, rfl, _, Sum.inr p.1, rfl, h3, ?_, ?_⟩
        · rw [enc_len]
          exact sz50 (Nat.le_trans (low_len_le _ _) (Nat.le_trans (by rw [List.length_take]; omega) hl))
        · refine ⟨by rw [upd_ne nDd.symm]; exact h1, fun b o e hb => by rw [upd_ne (ne_of_none e hD0)]; exact h2 b o e hb, ?_⟩
          rw [upd_same, es, enc_put, put_new _ fr]
      · rw [decide_eq_false c]
        rw [if_neg c] at es
        exact iteF ⟨h1, h2, by rw [es]; exact h3⟩
    · rintro H' ⟨h1, h2, h3⟩
      refine ⟨h1, q D _ hD0 (fun b o e => ?_) (by rw [upd_ne nDd]; rw [List.take_of_length_le (Nat.le_refl _)] at h3; exact h3)⟩
      by_cases hb : b = d
      · rw [hb, upd_same]
        rw [hb] at e
        exact hd.symm.trans e
      · rw [upd_ne hb]
        exact h2 b o e hb
def sp_d_init (E : EnvD K mg) : Sp := fun vs H Q Ex => ∃ (p dx : Addr) (v : V), vs = [.ref p, v] ∧ H p = some (.ins E.C dx []) ∧ (∃ T, TyB K H v T) ∧
  (∀ k : Nat, v = .int (k : Int) → 1 ≤ k → k ≤ 50 → ∀ (d : Addr) (H' : Hp), H d = none → DeskAt E.C H' p d k ⟨[], 0, 0⟩ → (∀ b o, H b = some o → b ≠ p → H' b = some o) → Q .non H') ∧
  (isNum v 50 = false → Ex (.ref E.C_NoDesk) none H)
theorem ok_d_init (E : EnvD K mg) : FnOk P w K mg base (L2.CX P w) 3 E.D_d_init.a E.D_d_init.fd P_d_init (sp_d_init E) := by
  have G_check_drawers : FnOk P w K mg base (L2.CX P w) 2 E.D_check_drawers.a E.D_check_drawers.fd P_check_drawers (sp_check_drawers E) := ok_check_drawers E
  refine E.D_d_init.F.okX sc_d_init (fun vs H Q Ex h => ?_) (fun cdv A outer s H vs Q Ex hr h => ?_)
  · obtain ⟨p, dx, v, rfl, _⟩ := h
    rfl
  · obtain ⟨p, dx, v, rfl, hp, ty, q1, q2⟩ := h
    refine ⟨_, (pss_cons (ps_expr (pe_call G_check_drawers (hr.mono (by decide)) rfl E.m_check_drawers E.D_check_drawers.F.kp E.D_check_drawers.b .nil (passes_call (takes_of rfl rfl rfl rfl) (fun _ _ _ _ h => h)) (pa_cons (pv 1) pa_nil)))
  (pss_cons (ps_fld (pv 0) (pv 1) rfl)
  (pss_cons (ps_fld (pv 0) pe_dnewK rfl)
  (pss_cons (ps_fld (pv 0) pe_int rfl)
  (pss_one (ps_fld (pv 0) pe_int rfl)))))), ?_⟩
    refine ⟨_, rfl, v, rfl, ty, fun hv => ?_, q2⟩
    obtain ⟨k, rfl, k1, k2⟩ : ∃ k : Nat, v = .int (k : Int) ∧ 1 ≤ k ∧ k ≤ 50 := by
      cases v with
      | int i =>
        have hv : (decide (1 ≤ i) && decide (i ≤ 50)) = true := hv
        simp only [Bool.and_eq_true, decide_eq_true_eq] at hv
        exact ⟨i.toNat, by congr 1; omega, by omega, by omega⟩
      | _ => exact nomatch (show false = true from hv)
    refine ⟨_, rfl, _, rfl, p, E.C, dx, _, rfl, hp, E.cl, E.a_drawers, (by show 0 < 1000; decide), ?_⟩
    intro d hd
    have npd : p ≠ d := fun e => by
      rw [← e, upd_same] at hd
      cases hd
    have hd0 : H d = none := by
      rw [upd_ne npd.symm] at hd
      exact hd
    refine ⟨_, rfl, p, E.C, dx, _, rfl, by rw [upd_ne npd, upd_same], E.cl, E.a_shown, (by show 1 < 1000; decide), ?_⟩
    refine ⟨_, rfl, p, E.C, dx, _, rfl, upd_same, E.cl, E.a_lost, (by show 2 < 1000; decide), ?_⟩
    refine ⟨_, rfl, p, E.C, dx, _, rfl, upd_same, E.cl, E.a_weight, (by show 3 < 1000; decide), ?_⟩
    refine q1 k rfl k1 k2 d _ hd0 ⟨⟨dx, upd_same⟩, by rw [upd_ne npd.symm, upd_ne npd.symm, upd_ne npd.symm, upd_same]; rfl⟩ fun b o e hb => ?_
    rw [upd_ne hb, upd_ne hb, upd_ne hb, upd_ne (ne_of_none e hd0), upd_ne hb]
    exact e
/-- what a method that changes a desk leaves -/
def Left (C : Addr) (H : Hp) (p d : Addr) (k : Nat) (s' : DS) (Q : VK) : Prop :=
  ∀ (d' : Addr) (H' : Hp), DeskAt C H' p d' k s' → (d' = d ∨ H d' = none) → (∀ b o, H b = some o → b ≠ p → b ≠ d → H' b = some o) → Q .non H'
def fullM (s : DS) (n : Str) (w : Int) : DS := ⟨if lss s.l w < w then low s.l (lss s.l w) ++ [(n, w - lss s.l w)] else low s.l (lss s.l w), s.g + lss s.l w, s.t⟩
def sp_d_come_to_full (E : EnvD K mg) : Sp := fun vs H Q _ => ∃ (p d : Addr) (n : Str) (w : Int) (k : Nat) (s : DS), vs = [.ref p, .str n, .int w] ∧ DeskAt E.C H p d k s ∧ (keys s.l).Nodup ∧ lk s.l n = none ∧ s.l ≠ [] ∧ s.l.length ≤ 50 ∧ Left E.C H p d k (fullM s n w) Q
theorem ok_d_come_to_full (E : EnvD K mg) : FnOk P w K mg base CX0 2 E.D_d_come_to_full.a E.D_d_come_to_full.fd P_d_come_to_full (sp_d_come_to_full E) := by
  have G_lowered : FnOk P w K mg base CX0 1 E.D_lowered.a E.D_lowered.fd P_lowered sp_lowered := ok_lowered E
  refine E.D_d_come_to_full.F.ok sc_d_come_to_full (fun vs H Q Ex h => ?_) (fun cdv A outer s0 H vs Q Ex hr h => ?_)
  · obtain ⟨p, d, n, w, k, s, rfl, _⟩ := h
    rfl
  · obtain ⟨p, d, n, w, k, s, rfl, D, nd, hn, hne, hl, q⟩ := h
    obtain ⟨⟨dx, h1⟩, h2⟩ := id D
    have npd := D.ne
    refine ⟨_, (Evl.pss_cut (ps_set (i := 3) sc_d_come_to_full.nd rfl (by first | exact Or.inl rfl | exact Or.inr rfl) (pe_callB (call_min2 rfl) rfl E.n_min (by decide +kernel) (pa_cons (pv 2) (pa_cons (pe_minVals rfl rfl E.n_min (pe_fld (pv 0) rfl)) pa_nil))))
  (pss_cons (ps_fld (pv 0) (pe_call G_lowered (hr.mono (by decide)) rfl E.m_lowered E.D_lowered.F.kp E.D_lowered.b .nil pass0 (pa_cons (pe_fld (pv 0) rfl) (pa_cons (pv 3) pa_nil))) rfl)
  (pss_cons (ps_fldaug (pv 0) (pv 3) in_add)
  (pss_one (ps_if (pt_cmpR op_gt (pv 2) (pv 3) (nomark _))
  (pss_one (ps_dput (hu_of hr) (pe_fld (pv 0) rfl) (pv 1) (pe_op op_sub (pv 2) (pv 3)) rfl))
  pss_nil))))), ?_⟩
    refine ⟨fun σ H' => H' = H ∧ σ = [some (.ref p), some (.str n), some (.int w), some (.int (lss s.l w))], ?_, ?_⟩
    · refine ⟨_, rfl, _, rfl, p, E.C, dx, _, _, rfl, h1, E.cl, E.a_shown, dfl_shown _ _ _ _, d, _, _, rfl, h2, enc_vals _, ?_, fun m hm hle => ⟨_, _, rfl, rfl, ?_⟩⟩
      · intro z
        exact hne (List.map_eq_nil_iff.mp z)
      · have e : lss s.l w = min w m := by
          refine lss_eq (fun p hp => hle p.2 (List.mem_map.mpr ⟨p, hp, rfl⟩)) ?_
          obtain ⟨p, hp, ep⟩ := List.mem_map.mp hm
          exact ⟨p, hp, ep.symm⟩
        have e2 : (if m < w then m else w) = lss s.l w := by
          rw [e]
          split <;> omega
        show _ = [some (V.ref p), some (V.str n), some (V.int w), some (V.int (lss s.l w))]
        rw [← e2]
        rfl
    rintro σ H' ⟨rfl, rfl⟩
    generalize ez : lss s.l w = z
    refine ⟨_, rfl, p, E.C, dx, _, _, rfl, h1, E.cl, E.a_shown, dfl_shown _ _ _ _, _, rfl, d, s.l, z, rfl, h2, nd, by omega, fun e H1 he s1 he1 => ?_⟩
    have npe : p ≠ e := ne_of_none h1 he
    refine ⟨_, rfl, p, E.C, dx, _, rfl, s1 _ _ h1, E.cl, E.a_shown, (by show 4 < 1000; decide), ?_⟩
    refine ⟨_, rfl, p, E.C, dx, _, _, rfl, upd_same, E.cl, E.a_lost, rfl, _, rfl, _, _, rfl, rfl, dx, _, upd_same, (by show 4 < 1000; decide), ?_⟩
    have hE : ∀ o1 o2, (upd (upd H1 p o1) p o2) e = some (.dK (enc (low s.l z))) := fun o1 o2 => by rw [upd_ne npe.symm, upd_ne npe.symm]; exact he1
    have kp : ∀ o1 o2 b o, H' b = some o → b ≠ p → (upd (upd H1 p o1) p o2) b = some o := fun o1 o2 b o q hb => by rw [upd_ne hb, upd_ne hb]; exact s1 b o q
    have fr : lk (low s.l z) n = none := lk_none.mpr fun hm => lk_none.mp hn (keys_low_sub hm)
    have ef : fullM s n w = ⟨if z < w then low s.l z ++ [(n, w - z)] else low s.l z, s.g + z, s.t⟩ := by
      unfold fullM
      rw [ez]
    refine ⟨_, rfl, _, rfl, _, _, rfl, rfl, _, rfl, ?_⟩
    by_cases c : z < w
    · rw [decide_eq_true c]
      rw [if_pos c] at ef
      refine iteT ⟨_, rfl, _, rfl, _, _, rfl, rfl, _, rfl, p, E.C, dx, _, _, rfl, upd_same, E.cl, E.a_shown, rfl, _, rfl, e, _, rfl, dput_enc (hE _ _) (Nat.le_trans (low_len_le _ _) (by omega)), ?_⟩
      refine q e _ ?_ (.inr he) fun b o hb hbp hbd => ?_
      · rw [ef]
        refine ⟨⟨dx, by rw [upd_ne npe, upd_same]; rfl⟩, ?_⟩
        rw [upd_same, put_new _ fr]
      · rw [upd_ne (ne_of_none hb he)]
        exact kp _ _ b o hb hbp
    · rw [decide_eq_false c]
      rw [if_neg c] at ef
      refine iteF (q e _ ?_ (.inr he) fun b o hb hbp hbd => kp _ _ b o hb hbp)
      rw [ef]
      exact ⟨⟨dx, upd_same⟩, hE _ _⟩
def sp_d_come (E : EnvD K mg) : Sp := fun vs H Q Ex => ∃ (p d : Addr) (nv wv : V) (k : Nat) (s : DS), vs = [.ref p, nv, wv] ∧ DeskAt E.C H p d k s ∧ Ok k s.l ∧ 1 ≤ k ∧ k ≤ 50 ∧
  (∃ T, TyB K H nv T) ∧ (∀ z, nv = .str z → z.length ≤ 1000) ∧ (∃ T, TyB K H wv T) ∧ (isNm nv = false → Ex (.ref E.C_NoName) none H) ∧ (isNm nv = true → isNum wv (10 ^ 60) = false → Ex (.ref E.C_NoWeight) none H) ∧
  ∀ (n : Str) (w : Int), nv = .str n → wv = .int w → nmOk n = true → 1 ≤ w → w ≤ 10 ^ 60 → Left E.C H p d k (comeM k s n w) Q
theorem ok_d_come (E : EnvD K mg) : FnOk P w K mg base (L2.CX P w) 3 E.D_d_come.a E.D_d_come.fd P_d_come (sp_d_come E) := by
  have G_check_name : FnOk P w K mg base (L2.CX P w) 2 E.D_check_name.a E.D_check_name.fd P_check_name (sp_check_name E) := ok_check_name E
  have G_check_weight : FnOk P w K mg base (L2.CX P w) 2 E.D_check_weight.a E.D_check_weight.fd P_check_weight (sp_check_weight E) := ok_check_weight E
  have G_d_come_to_full : FnOk P w K mg base CX0 2 E.D_d_come_to_full.a E.D_d_come_to_full.fd P_d_come_to_full (sp_d_come_to_full E) := ok_d_come_to_full E
  refine E.D_d_come.F.ok sc_d_come (fun vs H Q Ex h => ?_) (fun cdv A outer s0 H vs Q Ex hr h => ?_)
  · obtain ⟨p, d, nv, wv, k, s, rfl, _⟩ := h
    rfl
  · obtain ⟨p, d, nv, wv, k, s, rfl, D, O, k1, k2, tyN, hz, tyW, qN, qW, q⟩ := h
    obtain ⟨⟨dx, h1⟩, h2⟩ := id D
    have npd := D.ne
    refine ⟨_, (pss_cons (ps_expr (pe_call G_check_name (hr.mono (by decide)) rfl E.m_check_name E.D_check_name.F.kp E.D_check_name.b .nil (passes_call (takes_of rfl rfl rfl rfl) (fun _ _ _ _ h => h)) (pa_cons (pv 1) pa_nil)))
  (pss_cons (ps_expr (pe_call G_check_weight (hr.mono (by decide)) rfl E.m_check_weight E.D_check_weight.F.kp E.D_check_weight.b .nil (passes_call (takes_of rfl rfl rfl rfl) (fun _ _ _ _ h => h)) (pa_cons (pv 2) pa_nil)))
  (pss_cons (ps_fldaug (pv 0) (pv 2) in_add)
  (pss_one (ps_if (pt_cmp (pc_din (hu_of hr) (pv 1) (pe_fld (pv 0) rfl)))
  (pss_one (ps_daug (hu_of hr) (pe_fld (pv 0) rfl) (pv 1) (pv 2) in_add (fun _ _ _ => rfl)))
  (pss_one (ps_if (pt_cmpR op_lt (pe_callB call_lenD rfl E.n_len (by decide +kernel) (pa_cons (pe_fld (pv 0) rfl) pa_nil)) (pe_fld (pv 0) rfl) (nomark _))
  (pss_one (ps_dput (hu_of hr) (pe_fld (pv 0) rfl) (pv 1) (pv 2) rfl))
  (pss_one (ps_expr (pe_meth (pv 0) E.cl E.me_d_come_to_full G_d_come_to_full (hr.mono (by decide)) E.D_d_come_to_full.b .nil pass0 (pa_cons (pv 1) (pa_cons (pv 2) pa_nil)))))))))))), ?_⟩
    refine ⟨_, rfl, nv, rfl, tyN, hz, fun hN => ?_, qN⟩
    refine ⟨_, rfl, wv, rfl, tyW, fun hW => ?_, qW hN⟩
    obtain ⟨n, rfl⟩ : ∃ n, nv = .str n := by
      cases nv with
      | str n => exact ⟨n, rfl⟩
      | _ => exact nomatch (show false = true from hN)
    obtain ⟨w, rfl⟩ : ∃ w, wv = .int w := by
      cases wv with
      | int w => exact ⟨w, rfl⟩
      | _ => exact nomatch (show false = true from hW)
    have hw : 1 ≤ w ∧ w ≤ 10 ^ 60 := by
      have hW : (decide (1 ≤ w) && decide (w ≤ 10 ^ 60)) = true := hW
      simpa only [Bool.and_eq_true, decide_eq_true_eq] using hW
    have q := q n w rfl rfl hN hw.1 hw.2
    refine ⟨_, rfl, p, E.C, dx, _, _, rfl, h1, E.cl, E.a_weight, dfl_weight _ _ _ _, _, rfl, _, _, rfl, rfl, dx, _, h1, (by show 4 < 1000; decide), ?_⟩
    have g2 : ∀ o, (upd H p o) d = some (.dK (enc s.l)) := fun o => by rw [upd_ne npd.symm]; exact h2
    refine ⟨_, rfl, _, rfl, p, E.C, dx, _, _, rfl, upd_same, E.cl, E.a_shown, rfl, d, _, rfl, dget_encO (.inl (g2 _)), _, rfl, ?_⟩
    cases e : lk s.l n with
    | some z =>
      refine iteT ?_
      refine ⟨_, rfl, p, E.C, dx, _, _, rfl, upd_same, E.cl, E.a_shown, rfl, _, rfl, d, _, rfl, dget_enc (.inl (g2 _)) e, _, rfl, _, _, rfl, rfl, _, dput_enc (g2 _) (by have := O.len; omega), ?_⟩
      refine q d _ ?_ (.inl rfl) fun b o hb hbp hbd => ?_
      · unfold comeM
        rw [e]
        refine ⟨⟨dx, by rw [upd_ne npd, upd_same]; rfl⟩, by rw [upd_same]⟩
      · rw [upd_ne hbd, upd_ne hbp]
        exact hb
    | none =>
      refine iteF ?_
      refine ⟨_, rfl, p, E.C, dx, _, _, rfl, upd_same, E.cl, E.a_shown, rfl, d, _, rfl, g2 _, _, rfl, p, E.C, dx, _, _, rfl, upd_same, E.cl, E.a_drawers, rfl, _, _, rfl, rfl, _, rfl, ?_⟩
      rw [enc_len]
      by_cases c : s.l.length < k
      · rw [decide_eq_true (show ((s.l.length : Nat) : Int) < (k : Int) by omega)]
        refine iteT ?_
        refine ⟨_, rfl, _, rfl, p, E.C, dx, _, _, rfl, upd_same, E.cl, E.a_shown, rfl, _, rfl, d, _, rfl, dput_enc (g2 _) (by have := O.len; omega), ?_⟩
        refine q d _ ?_ (.inl rfl) fun b o hb hbp hbd => ?_
        · unfold comeM
          rw [e]
          dsimp only
          rw [if_pos c]
          refine ⟨⟨dx, by rw [upd_ne npd, upd_same]; rfl⟩, by rw [upd_same, put_new _ e]⟩
        · rw [upd_ne hbd, upd_ne hbp]
          exact hb
      · rw [decide_eq_false (show ¬ ((s.l.length : Nat) : Int) < (k : Int) by omega)]
        refine iteF ?_
        have hlen := O.len
        refine ⟨_, rfl, p, dx, _, rfl, upd_same, rfl, _, rfl, _, rfl, p, d, n, w, k, ⟨s.l, s.g, s.t + w⟩, rfl, ⟨⟨dx, upd_same⟩, g2 _⟩, O.nd, e, ?_, by show s.l.length ≤ 50; omega, ?_⟩
        · intro z
          have z : s.l = [] := z
          rw [z] at c
          exact c k1
        · intro d' H' D' hd' kp
          have ef : fullM ⟨s.l, s.g, s.t + w⟩ n w = comeM k s n w := by
            unfold comeM fullM
            rw [e]
            dsimp only
            rw [if_neg c]
          rw [ef] at D'
          refine q d' H' D' ?_ fun b o hb hbp hbd => kp b o (by rw [upd_ne hbp]; exact hb) hbp hbd
          rcases hd' with rfl | hd'
          · exact .inl rfl
          · refine .inr ?_
            by_cases hdp : d' = p
            · rw [hdp, upd_same] at hd'
              cases hd'
            · rw [upd_ne hdp] at hd'
              exact hd'
theorem keys_len (l : Dk) : (keys l).length = l.length := List.length_map _
theorem srt_len (l : Dk) : (srt l).length = l.length := (srt_perm l).length_eq
theorem srt_nd {l : Dk} (nd : (keys l).Nodup) : (keys (srt l)).Nodup := (keys_perm (srt_perm l)).nodup_iff.mpr nd
theorem keys_get {l : Dk} {i : Nat} {x : V} (h : ((keys l).map V.str)[i]? = some x) : ∃ p, l[i]? = some p ∧ x = .str p.1 := by
  unfold keys at h
  rw [List.getElem?_map, List.getElem?_map] at h
  cases e : l[i]? with
  | none => rw [e] at h; cases h
  | some p => rw [e] at h; exact ⟨p, rfl, (Option.some.inj h).symm⟩
def sp_d_shown (E : EnvD K mg) : Sp := fun vs H Q _ => ∃ (p d : Addr) (k : Nat) (s : DS), vs = [.ref p] ∧ DeskAt E.C H p d k s ∧ (keys s.l).Nodup ∧ s.l.length ≤ 50 ∧
  ∀ (e : Addr) (H' : Hp), H e = none → Same H H' → H' e = some (.dK (enc (srt s.l))) → Q (.ref e) H'
theorem ok_d_shown (E : EnvD K mg) : FnOk P w K mg base CX0 1 E.D_d_shown.a E.D_d_shown.fd P_d_shown (sp_d_shown E) := by
  refine E.D_d_shown.F.ok sc_d_shown (fun vs H Q Ex h => ?_) (fun cdv A outer s0 H vs Q Ex hr h => ?_)
  · obtain ⟨p, d, k, s, rfl, _⟩ := h
    rfl
  · obtain ⟨p, d, k, s, rfl, D, nd, hl, q⟩ := h
    obtain ⟨⟨dx, h1⟩, h2⟩ := id D
    refine ⟨_, (pss_one (ps_ret (pe_dc (tv := tDGet (tFld K (tVar 0) "_shown") (tVar 1)) (own := [("name", 1)]) rfl sc_d_shown.nd (pi_list (pe_callB (call_sortedD rfl) rfl E.n_sorted (by decide +kernel) (pa_cons (pe_fld (pv 0) rfl) pa_nil))) (blkOk_by (N := N_d_shown) (sc := defScope s_d_shown) (by decide +kernel)) (fun _ _ _ _ _ => (pg_name (i := 1) sc_d_shown.nd rfl (by first | exact Or.inl rfl | exact Or.inr rfl))) (fun _ _ _ _ _ => pts_nil) (fun _ _ _ _ _ => (pv 1)) (fun _ _ _ _ _ => (pe_dget (hu_of hr) (pe_fld (pv 0) rfl) (pv 1) (fun _ _ => rfl)))))), ?_⟩
    refine ⟨_, rfl, p, E.C, dx, _, _, rfl, h1, E.cl, E.a_shown, dfl_shown _ _ _ _, d, _, keys s.l, rfl, .inl h2, enc_keys _, by rw [keys_len]; omega, fun ys a hp hs ha => ?_⟩
    obtain rfl := sorted_keys hp hs
    refine ⟨a, rfl, ⟨_, SqL.of upd_same⟩, fun e he => ?_⟩
    have s1 : Same H (upd H a (.lst ((keys (srt s.l)).map V.str))) := Same.new ha
    have he0 : H e = none := s1.free he
    refine dc_list (K := K) (a := a) (xs := (keys (srt s.l)).map V.str) (fun i H' => Same (upd H a (.lst ((keys (srt s.l)).map V.str))) H' ∧ H' e = some (.dK (enc ((srt s.l).take i)))) ⟨Same.new he, upd_same⟩ (fun i H' _ h => SqL.of (h.1 _ _ upd_same)) ?_ ?_
    · rintro i x H' hx ⟨s2, h3⟩
      obtain ⟨b, hb, rfl⟩ := keys_get hx
      have el : lk s.l b.1 = some b.2 := lk_of_mem nd ((srt_perm s.l).mem_iff.mp (List.mem_of_getElem? hb))
      have sH := Same.trans s1 s2
      refine ⟨rfl, tyes ?_⟩
      refine iteT ?_
      refine ⟨_, rfl, _, rfl, p, E.C, dx, _, _, rfl, sH _ _ h1, E.cl, E.a_shown, dfl_shown _ _ _ _, _, rfl, d, _, rfl, dget_enc (.inl (sH _ _ h2)) el, _, Sum.inr b.1, rfl, h3, ?_, Same.mut s2 he, ?_⟩
      · rw [enc_len, List.length_take, srt_len]
        exact sz50 (by omega)
      · rw [upd_same, enc_put, put_new _ (lk_none.mpr (take_fresh (srt_nd nd) hb)), take_snoc hb]
    · rintro H' ⟨s2, h3⟩
      have e1 : ((keys (srt s.l)).map V.str).length = (srt s.l).length := by unfold keys; rw [List.length_map, List.length_map]
      rw [e1, List.take_of_length_le (Nat.le_refl _)] at h3
      exact q e H' he0 (Same.trans s1 s2) h3
def sp_d_lost (E : EnvD K mg) : Sp := fun vs H Q _ => ∃ (p d : Addr) (k : Nat) (s : DS), vs = [.ref p] ∧ DeskAt E.C H p d k s ∧ Q (.int s.g) H
theorem ok_d_lost (E : EnvD K mg) : FnOk P w K mg base CX0 1 E.D_d_lost.a E.D_d_lost.fd P_d_lost (sp_d_lost E) := by
  refine E.D_d_lost.F.ok sc_d_lost (fun vs H Q Ex h => ?_) (fun cdv A outer s0 H vs Q Ex hr h => ?_)
  · obtain ⟨p, d, k, s, rfl, _⟩ := h
    rfl
  · obtain ⟨p, d, k, s, rfl, D, q⟩ := h
    obtain ⟨⟨dx, h1⟩, h2⟩ := id D
    refine ⟨_, (pss_one (ps_ret (pe_fld (pv 0) rfl))), ?_⟩
    exact ⟨_, rfl, p, E.C, dx, _, _, rfl, h1, E.cl, E.a_lost, dfl_lost _ _ _ _, q⟩
def sp_d_weight (E : EnvD K mg) : Sp := fun vs H Q _ => ∃ (p d : Addr) (k : Nat) (s : DS), vs = [.ref p] ∧ DeskAt E.C H p d k s ∧ Q (.int s.t) H
theorem ok_d_weight (E : EnvD K mg) : FnOk P w K mg base CX0 1 E.D_d_weight.a E.D_d_weight.fd P_d_weight (sp_d_weight E) := by
  refine E.D_d_weight.F.ok sc_d_weight (fun vs H Q Ex h => ?_) (fun cdv A outer s0 H vs Q Ex hr h => ?_)
  · obtain ⟨p, d, k, s, rfl, _⟩ := h
    rfl
  · obtain ⟨p, d, k, s, rfl, D, q⟩ := h
    obtain ⟨⟨dx, h1⟩, h2⟩ := id D
    refine ⟨_, (pss_one (ps_ret (pe_fld (pv 0) rfl))), ?_⟩
    exact ⟨_, rfl, p, E.C, dx, _, _, rfl, h1, E.cl, E.a_weight, dfl_weight _ _ _ _, q⟩
def sp_d_drawers (E : EnvD K mg) : Sp := fun vs H Q _ => ∃ (p d : Addr) (k : Nat) (s : DS), vs = [.ref p] ∧ DeskAt E.C H p d k s ∧ Q (.int (k : Int)) H
theorem ok_d_drawers (E : EnvD K mg) : FnOk P w K mg base CX0 1 E.D_d_drawers.a E.D_d_drawers.fd P_d_drawers (sp_d_drawers E) := by
  refine E.D_d_drawers.F.ok sc_d_drawers (fun vs H Q Ex h => ?_) (fun cdv A outer s0 H vs Q Ex hr h => ?_)
  · obtain ⟨p, d, k, s, rfl, _⟩ := h
    rfl
  · obtain ⟨p, d, k, s, rfl, D, q⟩ := h
    obtain ⟨⟨dx, h1⟩, h2⟩ := id D
    refine ⟨_, (pss_one (ps_ret (pe_fld (pv 0) rfl))), ?_⟩
    exact ⟨_, rfl, p, E.C, dx, _, _, rfl, h1, E.cl, E.a_drawers, dfl_drawers _ _ _ _, q⟩
def sp_d_least (E : EnvD K mg) : Sp := fun vs H Q Ex => ∃ (p d : Addr) (k : Nat) (s : DS) (v : V), vs = [.ref p, v] ∧ DeskAt E.C H p d k s ∧ (∃ T, TyB K H v T) ∧ (∀ z, v = .str z → z.length ≤ 1000) ∧
  (∀ n, v = .str n → nmOk n = true → Q (.int (leastM s n)) H) ∧ (isNm v = false → Ex (.ref E.C_NoName) none H)
theorem ok_d_least (E : EnvD K mg) : FnOk P w K mg base (L2.CX P w) 3 E.D_d_least.a E.D_d_least.fd P_d_least (sp_d_least E) := by
  have G_check_name : FnOk P w K mg base (L2.CX P w) 2 E.D_check_name.a E.D_check_name.fd P_check_name (sp_check_name E) := ok_check_name E
  refine E.D_d_least.F.okX sc_d_least (fun vs H Q Ex h => ?_) (fun cdv A outer s0 H vs Q Ex hr h => ?_)
  · obtain ⟨p, d, k, s, v, rfl, _⟩ := h
    rfl
  · obtain ⟨p, d, k, s, v, rfl, D, ty, hz, q, qN⟩ := h
    obtain ⟨⟨dx, h1⟩, h2⟩ := id D
    refine ⟨_, (pss_cons (ps_expr (pe_call G_check_name (hr.mono (by decide)) rfl E.m_check_name E.D_check_name.F.kp E.D_check_name.b .nil (passes_call (takes_of rfl rfl rfl rfl) (fun _ _ _ _ h => h)) (pa_cons (pv 1) pa_nil)))
  (pss_one (ps_ret (pe_dget2 (hu_of hr) (pe_fld (pv 0) rfl) (pv 1) pe_int ⟨rfl, rfl, rfl, rfl⟩)))), ?_⟩
    refine ⟨_, rfl, v, rfl, ty, hz, fun hN => ?_, qN⟩
    obtain ⟨n, rfl⟩ : ∃ n, v = .str n := by
      cases v with
      | str n => exact ⟨n, rfl⟩
      | _ => exact nomatch (show false = true from hN)
    refine ⟨_, rfl, p, E.C, dx, _, _, rfl, h1, E.cl, E.a_shown, dfl_shown _ _ _ _, d, rfl, .inl ⟨_, .inl h2⟩, _, rfl, _, dget_encO (.inl h2), ?_⟩
    have q := q n rfl hN
    unfold leastM at q
    cases e : lk s.l n with
    | none => rw [e] at q; exact q
    | some z => rw [e] at q; exact q
def sp_d_most (E : EnvD K mg) : Sp := fun vs H Q Ex => ∃ (p d : Addr) (k : Nat) (s : DS) (v : V), vs = [.ref p, v] ∧ DeskAt E.C H p d k s ∧ (∃ T, TyB K H v T) ∧ (∀ z, v = .str z → z.length ≤ 1000) ∧
  (∀ n, v = .str n → nmOk n = true → Q (.int (leastM s n + s.g)) H) ∧ (isNm v = false → Ex (.ref E.C_NoName) none H)
theorem ok_d_most (E : EnvD K mg) : FnOk P w K mg base (L2.CX P w) 4 E.D_d_most.a E.D_d_most.fd P_d_most (sp_d_most E) := by
  have G_d_least : FnOk P w K mg base (L2.CX P w) 3 E.D_d_least.a E.D_d_least.fd P_d_least (sp_d_least E) := ok_d_least E
  refine E.D_d_most.F.okX sc_d_most (fun vs H Q Ex h => ?_) (fun cdv A outer s0 H vs Q Ex hr h => ?_)
  · obtain ⟨p, d, k, s, v, rfl, _⟩ := h
    rfl
  · obtain ⟨p, d, k, s, v, rfl, D, ty, hz, q, qN⟩ := h
    obtain ⟨⟨dx, h1⟩, h2⟩ := id D
    refine ⟨_, (pss_one (ps_ret (pe_op op_add (pe_meth (pv 0) E.cl E.me_d_least G_d_least (hr.mono (by decide)) E.D_d_least.b .nil (passes_call (takes_of rfl rfl rfl rfl) (fun _ _ _ _ h => h)) (pa_cons (pv 1) pa_nil)) (pe_fld (pv 0) rfl)))), ?_⟩
    refine ⟨_, rfl, p, dx, _, rfl, h1, rfl, _, rfl, p, d, k, s, v, rfl, D, ty, hz, fun n hn ho => ?_, qN⟩
    exact ⟨_, rfl, p, E.C, dx, _, _, rfl, h1, E.cl, E.a_lost, dfl_lost _ _ _ _, _, _, rfl, rfl, q n hn ho⟩
/-! ### what a law asks of its script -/
def spLaw (K : PySem.W.Frag) : Sp := fun vs H Q _ => ∃ (a : Addr) (ns : List Int), vs = [.ref a] ∧ SqL K H a (ns.map V.int) ∧ ns.length ≤ 63 ∧ ∀ H', Q (.bl true) H'
theorem int_at {ns : List Int} {i : Nat} {x : V} (h : (ns.map V.int)[i]? = some x) : ∃ z, x = .int z := by
  rw [List.getElem?_map] at h
  obtain ⟨z, _, rfl⟩ := Option.map_eq_some_iff.mp h
  exact ⟨z, rfl⟩
theorem num_ok {k : Nat} (h1 : 1 ≤ k) (h2 : k ≤ 50) : isNum (.int (k : Int)) 50 = true := by
  show (decide (1 ≤ (k : Int)) && decide ((k : Int) ≤ 50)) = true
  rw [decide_eq_true (by omega), decide_eq_true (by omega)]
  rfl
theorem wt_ok {w : Int} (h1 : 1 ≤ w) (h2 : w ≤ 10 ^ 60) : isNum (.int w) (10 ^ 60) = true := by
  show (decide (1 ≤ w) && decide (w ≤ 10 ^ 60)) = true
  rw [decide_eq_true h1, decide_eq_true h2]
  rfl
theorem comeM_ns {k : Nat} {s : DS} {n : Str} {w : Int} (h : Ns (keys s.l)) (hn : nmOk n = true) : Ns (keys (comeM k s n w).l) := fun m hm => by
  rcases comeM_keys hm with h1 | h1
  · exact h m h1
  · rw [h1]
    exact hn
/-- the part of come's promise that does not refuse -/
theorem come_at (E : EnvD K mg) {H : Hp} {p d : Addr} {k : Nat} {s : DS} {n : Str} {w : Int} {Q : VK} {Ex : XK} (D : DeskAt E.C H p d k s) (O : Ok k s.l) (k1 : 1 ≤ k) (k2 : k ≤ 50) (hn : nmOk n = true) (w1 : 1 ≤ w) (w2 : w ≤ 10 ^ 60)
    (q : Left E.C H p d k (comeM k s n w) Q) : sp_d_come E [.ref p, .str n, .int w] H Q Ex := by
  refine ⟨p, d, .str n, .int w, k, s, rfl, D, O, k1, k2, ⟨_, .str _⟩, fun z e => ?_, ⟨_, .int _⟩, fun z => ?_, fun _ z => ?_, fun n' w' en ew _ _ _ => ?_⟩
  · rw [← V.str.inj e]
    have := nmOk_len hn
    omega
  · rw [show isNm (V.str n) = nmOk n from rfl, hn] at z
    cases z
  · rw [wt_ok w1 w2] at z
    cases z
  · rw [← V.str.inj en, ← V.int.inj ew]
    exact q
/-! ### helpers of the longer laws -/
theorem put_ns {l : Dk} {n : Str} {z : Int} (h : Ns (keys l)) (hn : nmOk n = true) : Ns (keys (put l n z)) := fun m hm => by
  rw [keys_put] at hm
  split at hm
  · exact h m hm
  · rcases List.mem_append.mp hm with h1 | h1
    · exact h m h1
    · rw [List.mem_singleton.mp h1]
      exact hn
theorem getD_int (o : Option Int) : (o.map V.int).getD (.int 0) = .int (o.getD 0) := by cases o <;> rfl
theorem DeskAt.upd_ne {C : Addr} {H : Hp} {p d c : Addr} {k : Nat} {s : DS} {o : HO} (h : DeskAt C H p d k s) (h1 : c ≠ p) (h2 : c ≠ d) : DeskAt C (upd H c o) p d k s := by
  obtain ⟨⟨dx, a⟩, b⟩ := h
  exact ⟨⟨dx, by rw [L2.upd_ne h1.symm]; exact a⟩, by rw [L2.upd_ne h2.symm]; exact b⟩
theorem ne_eq {x y : V} (h : x = y) : (!decide (x = y)) = false := by rw [decide_eq_true h]; rfl
theorem iteF' {c : Bool} {A B : Prop} (h : c = false) (b : B) : if c = true then A else B := by rw [h]; exact iteF b
theorem iteT' {c : Bool} {A B : Prop} (h : c = true) (a : A) : if c = true then A else B := by rw [h]; exact iteT a
theorem str_at {xs : List Str} {i : Nat} {x : V} (h : (xs.map V.str)[i]? = some x) : ∃ m, m ∈ xs ∧ x = .str m := by
  rw [List.getElem?_map] at h
  obtain ⟨m, hm, rfl⟩ := Option.map_eq_some_iff.mp h
  exact ⟨m, List.mem_of_getElem? hm, rfl⟩
theorem flat_strs (xs : List Str) : (xs.map V.str).all flatV = true := by
  rw [List.all_eq_true]
  intro x hx
  obtain ⟨m, _, rfl⟩ := List.mem_map.mp hx
  rfl
theorem inV_strs (m : Str) (xs : List Str) : inV (.str m) (xs.map V.str) = decide (m ∈ xs) := by
  rw [Bool.eq_iff_iff, decide_eq_true_iff]
  unfold inV
  rw [List.any_eq_true]
  constructor
  · rintro ⟨x, hx, e⟩
    obtain ⟨q, hq, rfl⟩ := List.mem_map.mp hx
    have : q = m := by simpa [eqV] using e
    rwa [← this]
  · intro h
    exact ⟨_, List.mem_map.mpr ⟨m, h, rfl⟩, by simp [eqV]⟩
theorem ne_true {x y : V} (h : x ≠ y) : (!decide (x = y)) = true := by rw [decide_eq_false h]; rfl
/-! ### making a desk -/
theorem make_atV (E : EnvD K mg) {H : Hp} {k : Nat} {Q : VK} {Ex : XK} (k1 : 1 ≤ k) (k2 : k ≤ 50) {p dx : Addr} {v : V} (hv : v = .int (k : Int)) (hp : H p = none) (hdx : H dx = none) (hne : dx ≠ p)
    (q : ∀ (d : Addr) (H3 : Hp), H d = none → Same H H3 → DeskAt E.C H3 p d k ⟨[], 0, 0⟩ → Q .non H3) : sp_d_init E (.ref p :: ([v] ++ [])) (upd (upd H dx (.own p)) p (.ins E.C dx [])) Q Ex := by
  subst hv
  refine ⟨p, dx, _, rfl, upd_same, ⟨_, .int _⟩, fun k' ek _ _ d H3 hd D kp => ?_, fun z => by rw [num_ok k1 k2] at z; cases z⟩
  obtain rfl : k' = k := by have := V.int.inj ek; omega
  refine q d H3 ?_ (Same.made hp hdx kp) D
  have hdp : d ≠ p := fun z => by rw [z, upd_same] at hd; cases hd
  rw [upd_ne hdp] at hd
  by_cases hdx2 : d = dx
  · rw [hdx2]; exact hdx
  · rw [upd_ne hdx2] at hd
    exact hd
/-! ### pouring -/
def sp_desk_with (E : EnvD K mg) : Sp := fun vs H Q _ => ∃ (k : Nat) (e : Addr) (l : Dk) (g t : Int), vs = [.int (k : Int), .ref e, .int g, .int t] ∧ 1 ≤ k ∧ k ≤ 50 ∧ H e = some (.dK (enc l)) ∧
  ∀ (p d : Addr) (H' : Hp), H p = none → H d = none → Same H H' → DeskAt E.C H' p d k ⟨l, g, t⟩ → Q (.ref p) H'
theorem ok_desk_with (E : EnvD K mg) : FnOk P w K mg base CX0 5 E.D_desk_with.a E.D_desk_with.fd P_desk_with (sp_desk_with E) := by
  have G_d_init : FnOk P w K mg base (L2.CX P w) 3 E.D_d_init.a E.D_d_init.fd P_d_init (sp_d_init E) := ok_d_init E
  refine E.D_desk_with.F.ok sc_desk_with (fun vs H Q Ex h => ?_) (fun cdv A outer s0 H vs Q Ex hr h => ?_)
  · obtain ⟨k, e, l, g, t, rfl, _⟩ := h
    rfl
  · obtain ⟨k, e, l, g, t, rfl, k1, k2, he, q⟩ := h
    refine ⟨_, (pss_cons (ps_set (i := 4) sc_desk_with.nd rfl (by first | exact Or.inl rfl | exact Or.inr rfl) (pe_make E.mkD G_d_init (hr.mono (by decide)) rfl E.g_Desk E.D_d_init.b .nil passL (pa_cons (pv 0) pa_nil)))
  (pss_cons (ps_fld (pv 4) (pe_callTy call_dictD rfl E.n_dict (by decide +kernel) (pa_cons (pv 1) pa_nil)) rfl)
  (pss_cons (ps_fld (pv 4) (pv 2) rfl)
  (pss_cons (ps_fld (pv 4) (pv 3) rfl)
  (pss_one (ps_ret (pv 4))))))), ?_⟩
    refine ⟨_, rfl, fun p dx p0 hdx hne => ?_⟩
    refine ⟨p, dx, _, rfl, upd_same, ⟨_, .int _⟩, fun k' ek _ _ d H3 hd D kp => ⟨rfl, ?_⟩, fun z => by rw [num_ok k1 k2] at z; cases z⟩
    obtain rfl : k' = k := by have := V.int.inj ek; omega
    have s3 : Same H H3 := Same.made p0 hdx kp
    have he3 := s3 _ _ he
    obtain ⟨⟨dx3, h3⟩, _⟩ := id D
    refine ⟨_, rfl, e, _, rfl, .inl he3, fun f hf => ?_⟩
    have pf : p ≠ f := ne_of_none h3 hf
    refine ⟨_, rfl, p, E.C, dx3, _, rfl, by rw [upd_ne pf]; exact h3, E.cl, E.a_shown, (by show 4 < 1000; decide), ?_⟩
    refine ⟨_, rfl, _, rfl, p, E.C, dx3, _, rfl, upd_same, E.cl, E.a_lost, (by show 4 < 1000; decide), ?_⟩
    refine ⟨_, rfl, _, rfl, p, E.C, dx3, _, rfl, upd_same, E.cl, E.a_weight, (by show 4 < 1000; decide), ?_⟩
    refine ⟨_, rfl, q p f _ p0 (s3.free hf) (Same.mut (Same.mut (Same.mut (Same.trans s3 (Same.new hf)) p0) p0) p0) ⟨⟨dx3, upd_same⟩, ?_⟩⟩
    rw [upd_ne pf.symm, upd_ne pf.symm, upd_ne pf.symm, upd_same]
theorem atI_last {α : Type} (xs : List α) (x : α) : atI (xs ++ [x]) (-1) = some x := by
  unfold atI ixN
  rw [if_neg (by decide), if_pos (by rw [List.length_append, List.length_singleton]; omega)]
  have e : (((xs ++ [x]).length : Int) + -1).toNat = xs.length := by rw [List.length_append, List.length_singleton]; omega
  first
    | (show (xs ++ [x])[(((xs ++ [x]).length : Int) + -1).toNat]? = some x; rw [e, List.getElem?_append_right (Nat.le_refl _), Nat.sub_self]; rfl)
    | (show (xs ++ [x])[(-1 + ((xs ++ [x]).length : Int)).toNat]? = some x; rw [Int.add_comm, e, List.getElem?_append_right (Nat.le_refl _), Nat.sub_self]; rfl)
/-! ### the error of a text -/
def sp_n_init (E : EnvD K mg) : Sp := fun vs H Q _ => ∃ (a : Addr) (v : V), vs = [.ref a, v] ∧ H a = some (exo a E.C_NoText none) ∧ ∀ dx, H dx = none → dx ≠ a → Q .non (upd (upd H dx (exd dx [("row", v)])) a (exo a E.C_NoText (some dx)))
theorem ok_n_init (E : EnvD K mg) : FnOk P w K mg base CX0 1 E.D_n_init.a E.D_n_init.fd P_n_init (sp_n_init E) := by
  refine E.D_n_init.F.ok sc_n_init (fun vs H Q Ex h => ?_) (fun cdv A outer s0 H vs Q Ex hr h => ?_)
  · obtain ⟨a, v, rfl, _⟩ := h
    rfl
  · obtain ⟨a, v, rfl, ha, q⟩ := h
    refine ⟨_, (pss_one (ps_ost (pv 0) (pv 1))), ?_⟩
    exact ⟨_, rfl, _, rfl, a, E.C_NoText, rfl, E.oex, E.oexR, .inl ⟨ha, fun dx hd hne => q dx hd hne⟩⟩
/-- the raising of it, from H -/
def ExT (E : EnvD K mg) (H : Hp) (Ex : XK) (i : Int) : Prop := ∀ (d : Addr) (H' : Hp), H d = none → Same H H' → H' d = some (.xd [(("row" : Str), V.int i)]) → Ex (.ref E.C_NoText) (some d) H'
theorem raise_at (E : EnvD K mg) {H H1 : Hp} {Ex : XK} {i : Int} (e : Same H H1) (q : ExT E H Ex i) : [V.int i].length ≤ 1000 ∧ ∀ a, H1 a = none → sp_n_init E (.ref a :: ([V.int i] ++ [])) (upd H1 a (exo a E.C_NoText none))
    (fun v H2 => v = .non ∧ ∃ (d : Addr) (fs : List (Str × V)), H2 a = some (exo a E.C_NoText (some d)) ∧ H2 d = some (exd d fs) ∧ H1 d = none ∧ Ex (.ref E.C_NoText) (some d) (upd (del H2 a) d (.xd fs))) (fun _ _ _ => False) := by
  refine ⟨by show 1 ≤ 1000; decide, fun a ha => ⟨a, _, rfl, upd_same, fun dx hd hne => ⟨rfl, dx, [(("row" : Str), V.int i)], upd_same, by rw [upd_ne hne, upd_same], ?_, ?_⟩⟩⟩
  · rw [upd_ne hne] at hd
    exact hd
  · have hd1 : H1 dx = none := by rw [upd_ne hne] at hd; exact hd
    refine q dx _ (e.free hd1) (fun b o hb => ?_) upd_same
    have hb1 := e _ _ hb
    have ba : b ≠ a := ne_of_none hb1 ha
    have bd : b ≠ dx := ne_of_none hb1 hd1
    rw [upd_ne bd, del_ne ba, upd_ne ba, upd_ne bd, upd_ne ba]
    exact hb1
/-! ### numbers in figures -/
theorem fig_mem (c : Nat) : decide (c ∈ ("0123456789" : Str).cps.toList) = (decide (48 ≤ c) && decide (c ≤ 57)) := by
  have e : ("0123456789" : Str).cps.toList = [48, 49, 50, 51, 52, 53, 54, 55, 56, 57] := by decide +kernel
  rw [e, Bool.eq_iff_iff, decide_eq_true_iff, Bool.and_eq_true, decide_eq_true_iff, decide_eq_true_iff]
  simp only [List.mem_cons, List.not_mem_nil, or_false]
  omega
def sp_number_in : Sp := fun vs H Q _ => ∃ z : Str, vs = [.str z] ∧ z.length ≤ sizeLine ∧ Q (.int (numOf (TL.tl z))) H
theorem ok_number_in (E : EnvD K mg) : FnOk P w K mg base CX0 1 E.D_number_in.a E.D_number_in.fd P_number_in sp_number_in := by
  refine E.D_number_in.F.ok sc_number_in (fun vs H Q Ex h => ?_) (fun cdv A outer s0 H vs Q Ex hr h => ?_)
  · obtain ⟨z, rfl, _⟩ := h
    rfl
  · obtain ⟨z, rfl, hz, q⟩ := h
    refine ⟨_, (Evl.pss_cut (ps_if (PW.pt (pw_or (pt_not (pt_chain op_le op_le pe_int (pe_callB call_len_str rfl E.n_len (by decide +kernel) (pa_cons (pv 0) pa_nil)) pe_int)) (pw_or1 (PW.pt (pw_and (pt_cmpR op_eq (pe_ix ix_str (pv 0) pe_int (fun _ _ => rfl)) pe_str (nomark _)) (pw_and1 (pt_cmpR op_ne (pv 0) pe_str (nomark _))))))))
  (pss_one (ps_ret (pe_un un_neg pe_int)))
  pss_nil)
  (pss_cons (ps_for PassesOwn.never rfl (pi_str (pv 0)) (pg_name (i := 1) sc_number_in.nd rfl (by first | exact Or.inl rfl | exact Or.inr rfl))
  (pss_one (ps_if (pt_cmpR op_notIn_sign (pv 1) (pe_glob (v := .str "0123456789") rfl E.g_FIGURES ⟨_, rfl⟩) rfl)
  (pss_one (ps_ret (pe_un un_neg pe_int)))
  pss_nil)))
  (pss_cons (ps_set (i := 2) sc_number_in.nd rfl (by first | exact Or.inl rfl | exact Or.inr rfl) (pe_callTy call_int_str rfl E.n_int (by decide +kernel) (pa_cons (pv 0) pa_nil)))
  (pss_one (ps_ret (pe_ifExp (pt_cmpR op_le (pv 2) (pe_op op_mul (pe_op op_pow pe_int pe_int) (pe_op op_pow pe_int pe_int)) (nomark _)) (pv 2) (pe_un un_neg pe_int))))))), ?_⟩
    have el : z.length = (TL.tl z).length := TL.len_tl z
    have bad : numOk (TL.tl z) = false → Q (.int (-1)) H := fun h => by
      have : numOf (TL.tl z) = -1 := by unfold numOf; rw [h]; rfl
      rw [this] at q
      exact q
    refine ⟨fun σ H' => H' = H ∧ σ = [some (.str z), none, none] ∧ 1 ≤ (TL.tl z).length ∧ (TL.tl z).length ≤ 71 ∧ ((TL.tl z).head? ≠ some 48 ∨ TL.tl z = [48]), ?_, ?_⟩
    · have nd : ∀ {b : Bool}, b = false → numOk (TL.tl z) = (b && (numOk (TL.tl z))) → numOk (TL.tl z) = false := fun h e => by rw [e, h, Bool.false_and]
      refine ⟨_, rfl, _, rfl, hz, _, _, rfl, rfl, _, rfl, ?_⟩
      by_cases h1 : (1 : Int) ≤ (z.length : Int)
      · rw [decide_eq_true h1]
        refine iteT ⟨_, _, rfl, rfl, _, rfl, ?_⟩
        by_cases h2 : (z.length : Int) ≤ 71
        · rw [decide_eq_true h2]
          refine iteF ?_
          have l1 : 1 ≤ (TL.tl z).length := by omega
          have l2 : (TL.tl z).length ≤ 71 := by omega
          obtain ⟨c, r, ec⟩ : ∃ c r, TL.tl z = c :: r := by
            match TL.tl z, l1 with
            | c :: r, _ => exact ⟨c, r, rfl⟩
          have e0 : TL.tl ("0" : Str) = [48] := by decide +kernel
          refine ⟨_, rfl, z, 0, c, rfl, rfl, hz, atI_nat (j := 0) (by show (TL.tl z)[0]? = some c; rw [ec]; rfl), rfl, _, rfl, ?_⟩
          by_cases h3 : c = 48
          · refine iteT' (decide_eq_true (by
              congr 1
              refine TL.ext_tl ?_
              rw [e0, h3])) ?_
            refine ⟨_, rfl, rfl, _, rfl, ?_⟩
            by_cases h4 : TL.tl z = [48]
            · refine iteF' (by rw [decide_eq_true (show V.str z = V.str "0" by congr 1; exact TL.ext_tl (h4.trans e0.symm))]; rfl) ?_
              exact ⟨rfl, rfl, l1, l2, .inr h4⟩
            · refine iteT' (by rw [decide_eq_false (fun e => h4 (by rw [V.str.inj e]; exact e0))]; rfl) ?_
              refine ⟨_, rfl, bad ?_⟩
              unfold numOk
              rw [decide_eq_true (show (TL.tl z).head? = some 48 by rw [ec, h3]; rfl), decide_eq_false h4] <;> simp
          · refine iteF' (decide_eq_false (fun e => h3 (by
              have := congrArg TL.tl (V.str.inj e)
              rw [e0] at this
              exact (List.cons.inj this).1))) ?_
            exact ⟨rfl, rfl, l1, l2, .inl (by rw [ec]; intro e; exact h3 (Option.some.inj e))⟩
        · rw [decide_eq_false h2]
          refine iteT ⟨_, rfl, bad ?_⟩
          unfold numOk
          rw [decide_eq_false (show ¬ (TL.tl z).length ≤ 71 by omega)] <;> simp
      · rw [decide_eq_false h1]
        refine iteF ⟨_, rfl, iteT ⟨_, rfl, bad ?_⟩⟩
        unfold numOk
        rw [decide_eq_false (show ¬ 1 ≤ (TL.tl z).length by omega)] <;> simp
    · rintro σ H0 ⟨rfl, rfl, l1, l2, hh⟩
      refine ⟨_, rfl, z, rfl, for_str (fun i σ H' => (∃ o, σ = [some (.str z), o, none]) ∧ H' = H0 ∧ (z.cps.toList.take i).all (fun c => decide (48 ≤ c) && decide (c ≤ 57)) = true) ⟨⟨none, rfl⟩, rfl, rfl⟩ ?_ ?_⟩
      · rintro i c σ H' hc ⟨⟨o, rfl⟩, rfl, ha⟩
        refine ⟨_, rfl, c, _, rfl, rfl, _, rfl, ?_⟩
        have hm : decide (c ∈ ("0123456789" : Str).cps.toList) = (decide (48 ≤ c) && decide (c ≤ 57)) := fig_mem c
        rw [hm]
        cases hb : (decide (48 ≤ c) && decide (c ≤ 57)) with
        | true =>
          refine iteF ?_
          refine ⟨⟨_, rfl⟩, rfl, ?_⟩
          rw [List.take_succ, hc, List.all_append, ha]
          simp only [Option.toList, List.all_cons, List.all_nil, Bool.and_true, Bool.true_and]
          exact hb
        | false =>
          refine iteT ⟨_, rfl, bad ?_⟩
          have hall : figs (TL.tl z) = false := by
            unfold figs
            rw [List.all_eq_false]
            exact ⟨c, List.mem_of_getElem? hc, by rw [hb]; exact Bool.false_ne_true⟩
          unfold numOk
          rw [hall, Bool.and_false]
      · rintro σ H' ⟨⟨o, rfl⟩, rfl, ha⟩
        rw [List.take_of_length_le (Nat.le_refl _)] at ha
        have hf : figs (TL.tl z) = true := ha
        have hk : numOk (TL.tl z) = true := by
          unfold numOk
          rw [decide_eq_true l1, decide_eq_true l2, hf]
          rcases hh with h | h
          · rw [decide_eq_false h]; rfl
          · rw [decide_eq_true h]; simp
        have hne : TL.tl z ≠ [] := fun e => by rw [e] at l1; exact absurd l1 (by decide)
        have hi : intText? z = some (dv (TL.tl z)) := PySem.intText_digits (figs_iff.mp hf) hne (by omega)
        refine ⟨_, rfl, z, _, rfl, hi, by omega, ?_⟩
        unfold numOf at q
        rw [if_pos hk] at q
        refine ⟨_, rfl, _, _, rfl, rfl, ⟨by decide, by decide, by decide⟩, _, _, rfl, rfl, ⟨by decide, by decide, by decide⟩, _, _, rfl, rfl, .inr ⟨by decide, by decide⟩, _, _, rfl, rfl, _, rfl, ?_⟩
        by_cases c : dv (TL.tl z) ≤ 10 ^ 70
        · rw [if_pos c] at q
          exact iteT' (decide_eq_true c) ⟨_, rfl, q⟩
        · rw [if_neg c] at q
          exact iteF' (decide_eq_false c) ⟨_, rfl, q⟩
def sp_rows_of : Sp := fun vs H Q _ => ∃ x : Str, vs = [.str x] ∧ x.length + 2 ≤ sizeLine ∧ ∀ (p : Addr) (H' : Hp), H p = none → Same H H' → H' p = some (.lst ((rowsOf x).map V.str)) → Q (.ref p) H'
theorem ok_rows_of (E : EnvD K mg) : FnOk P w K mg base CX0 1 E.D_rows_of.a E.D_rows_of.fd P_rows_of sp_rows_of := by
  refine E.D_rows_of.F.ok sc_rows_of (fun vs H Q Ex h => ?_) (fun cdv A outer s0 H vs Q Ex hr h => ?_)
  · obtain ⟨z, rfl, _⟩ := h
    rfl
  · obtain ⟨x, rfl, hx, q⟩ := h
    refine ⟨_, (pss_cons (ps_set (i := 1) sc_rows_of.nd rfl (by first | exact Or.inl rfl | exact Or.inr rfl) (pe_split (pv 0) pe_str))
  (pss_cons (ps_if (pt_cmpR op_eq (pe_ix ix_list (pv 1) (pe_un un_neg pe_int) (fun _ _ => rfl)) pe_str (nomark _))
  (pss_one (ps_expr (pe_bm0 PySem.F.plainAttrs_list PySem.F.slot_list_pop PySem.F.type_list_pop mt_pop (pv 1))))
  pss_nil)
  (pss_one (ps_ret (pv 1))))), ?_⟩
    refine ⟨_, rfl, ⟨_, rfl⟩, x, nlS, rfl, rfl, by decide +kernel, hx, fun p hp => ?_⟩
    have s1 := Same.new (H := H) (o := .lst ((Txt.split x nlS).map V.str)) hp
    have hL : (upd H p (.lst ((Txt.split x nlS).map V.str))) p = some (.lst ((Txt.split x nlS).map V.str)) := upd_same
    obtain ⟨ys, y, ey⟩ : ∃ ys y, Txt.split x nlS = ys ++ [y] := by
      have h1 := PyProof.Rows.split_pos x nlS
      cases e : Txt.split x nlS with
      | nil => rw [e] at h1; exact absurd h1 (by decide)
      | cons a r => exact ⟨_, _, (List.dropLast_concat_getLast (List.cons_ne_nil a r)).symm⟩
    have al : atI ((ys ++ [y]).map V.str) (-1) = some (.str y) := by rw [List.map_append]; exact atI_last _ _
    refine ⟨_, rfl, _, rfl, p, _, _, .str y, rfl, rfl, SqL.of hL, by rw [ey]; exact al, rfl, _, rfl, ?_⟩
    have gl : (Txt.split x nlS).getLast? = some y := by rw [ey, List.getLast?_concat]
    unfold rowsOf at q
    rw [gl] at q
    by_cases c : y = ("" : Str)
    · refine iteT' (decide_eq_true (by rw [c])) ?_
      rw [if_pos (by rw [c])] at q
      refine ⟨_, rfl, .inl ⟨rfl, _, SqL.of hL⟩, p, _, .str y, rfl, rfl, hL, ?_, _, rfl, q p _ hp (Same.mut s1 hp) (by rw [upd_same, List.map_dropLast])⟩
      rw [ey, List.length_map, List.length_append, List.length_singleton, Nat.add_sub_cancel, List.map_append, List.getElem?_append_right (by rw [List.length_map]; exact Nat.le_refl _), List.length_map, Nat.sub_self]
      rfl
    · refine iteF' (decide_eq_false (fun e => c (V.str.inj e))) ?_
      rw [if_neg (fun e => c (Option.some.inj e))] at q
      exact ⟨_, rfl, q p _ hp s1 hL⟩
def sp_head_in (E : EnvD K mg) : Sp := fun vs H Q Ex => ∃ r : Str, vs = [.str r] ∧ r.length + 2 ≤ sizeLine ∧
  (∀ k g t : Int, headOf r = some (k, g, t) → ∀ (p : Addr) (H' : Hp), H p = none → Same H H' → H' p = some (.tup [.int k, .int g, .int t]) → Q (.ref p) H') ∧ (headOf r = none → ExT E H Ex 0)
theorem ok_head_in (E : EnvD K mg) : FnOk P w K mg base (L2.CX P w) 3 E.D_head_in.a E.D_head_in.fd P_head_in (sp_head_in E) := by
  have G_number_in : FnOk P w K mg base CX0 1 E.D_number_in.a E.D_number_in.fd P_number_in sp_number_in := ok_number_in E
  have G_is_number : FnOk P w K mg base CX0 1 E.D_is_number.a E.D_is_number.fd P_is_number (sp_is_number (K := K)) := ok_is_number E
  have G_n_init : FnOk P w K mg base CX0 1 E.D_n_init.a E.D_n_init.fd P_n_init (sp_n_init E) := ok_n_init E
  refine E.D_head_in.F.okX sc_head_in (fun vs H Q Ex h => ?_) (fun cdv A outer s0 H vs Q Ex hr h => ?_)
  · obtain ⟨z, rfl, _⟩ := h
    rfl
  · obtain ⟨r, rfl, hz, q, qE⟩ := h
    refine ⟨_, (pss_cons (ps_set (i := 1) sc_head_in.nd rfl (by first | exact Or.inl rfl | exact Or.inr rfl) (pe_split (pv 0) pe_str))
  (pss_cons (ps_if (PW.pt (pw_or (pt_cmpR op_ne (pe_callB call_len_seq rfl E.n_len (by decide +kernel) (pa_cons (pv 1) pa_nil)) pe_int (nomark _)) (pw_or1 (pt_cmpR op_ne (pe_ix ix_list (pv 1) pe_int (fun _ _ => rfl)) pe_str (nomark _)))))
  (pss_one (ps_raise rfl (takes_of rfl rfl rfl rfl) (pmk_oex E.oex E.oexI E.oexT G_n_init (hr.mono (by decide)) E.D_n_init.b .nil pass0 rfl E.g_NoText (pa_cons pe_int pa_nil))))
  pss_nil)
  (pss_cons (ps_set (i := 2) sc_head_in.nd rfl (by first | exact Or.inl rfl | exact Or.inr rfl) (pe_call G_number_in (hr.mono (by decide)) rfl E.m_number_in E.D_number_in.F.kp E.D_number_in.b .nil pass0 (pa_cons (pe_ix ix_list (pv 1) pe_int (fun _ _ => rfl)) pa_nil)))
  (pss_cons (ps_set (i := 3) sc_head_in.nd rfl (by first | exact Or.inl rfl | exact Or.inr rfl) (pe_call G_number_in (hr.mono (by decide)) rfl E.m_number_in E.D_number_in.F.kp E.D_number_in.b .nil pass0 (pa_cons (pe_ix ix_list (pv 1) pe_int (fun _ _ => rfl)) pa_nil)))
  (pss_cons (ps_set (i := 4) sc_head_in.nd rfl (by first | exact Or.inl rfl | exact Or.inr rfl) (pe_call G_number_in (hr.mono (by decide)) rfl E.m_number_in E.D_number_in.F.kp E.D_number_in.b .nil pass0 (pa_cons (pe_ix ix_list (pv 1) pe_int (fun _ _ => rfl)) pa_nil)))
  (pss_cons (ps_if (PW.pt (pw_or (pt_not (pt_val (pe_call G_is_number (hr.mono (by decide)) rfl E.m_is_number E.D_is_number.F.kp E.D_is_number.b .nil pass0 (pa_cons (pv 2) (pa_cons pe_int pa_nil))))) (pw_or (pt_cmpR op_lt (pv 3) pe_int (nomark _)) (pw_or1 (pt_cmpR op_lt (pv 4) pe_int (nomark _))))))
  (pss_one (ps_raise rfl (takes_of rfl rfl rfl rfl) (pmk_oex E.oex E.oexI E.oexT G_n_init (hr.mono (by decide)) E.D_n_init.b .nil pass0 rfl E.g_NoText (pa_cons pe_int pa_nil))))
  pss_nil)
  (pss_one (ps_ret (pe_tup (pa_cons (pv 2) (pa_cons (pv 3) (pa_cons (pv 4) pa_nil)))))))))))), ?_⟩
    refine ⟨_, rfl, ⟨_, rfl⟩, r, blS, rfl, rfl, by decide +kernel, hz, fun p hp => ?_⟩
    have s1 := Same.new (H := H) (o := .lst ((Txt.split r blS).map V.str)) hp
    have hL : (upd H p (.lst ((Txt.split r blS).map V.str))) p = some (.lst ((Txt.split r blS).map V.str)) := upd_same
    have lens : ∀ y ∈ Txt.split r blS, y.length ≤ sizeLine := fun y hy => by have := PyProof.Rows.part_short hy; omega
    generalize upd H p (.lst ((Txt.split r blS).map V.str)) = H1 at *
    refine ⟨_, rfl, p, _, rfl, .inl (SqL.of hL), rfl, _, rfl, ?_⟩
    by_cases h4 : (Txt.split r blS).length = 4
    · refine iteF' (ne_eq (by rw [List.length_map, h4]; rfl)) ?_
      obtain ⟨a, b, c, d, e⟩ : ∃ a b c d, Txt.split r blS = [a, b, c, d] := by
        match Txt.split r blS, h4 with
        | [a, b, c, d], _ => exact ⟨a, b, c, d, rfl⟩
      unfold headOf at q qE
      rw [e] at q qE hL lens
      dsimp only at q qE
      have lb := lens b (by simp)
      have lc := lens c (by simp)
      have ld := lens d (by simp)
      refine ⟨_, rfl, p, _, _, .str a, rfl, rfl, SqL.of hL, rfl, rfl, _, rfl, ?_⟩
      by_cases ha : a = ("desk" : Str)
      · refine iteF' (ne_eq (by rw [ha])) ?_
        refine ⟨_, rfl, p, _, _, .str b, rfl, rfl, SqL.of hL, rfl, b, rfl, lb, ?_⟩
        refine ⟨_, rfl, p, _, _, .str c, rfl, rfl, SqL.of hL, rfl, c, rfl, lc, ?_⟩
        refine ⟨_, rfl, p, _, _, .str d, rfl, rfl, SqL.of hL, rfl, d, rfl, ld, ?_⟩
        refine ⟨_, rfl, _, 50, rfl, ⟨_, .int _⟩, _, rfl, ?_⟩
        by_cases hb : isNum (.int (numOf (TL.tl b))) 50 = true
        · refine iteF' (by rw [hb]; rfl) ⟨_, rfl, _, _, rfl, rfl, _, rfl, ?_⟩
          by_cases hc : numOf (TL.tl c) < 0
          · refine iteT' (decide_eq_true hc) (raise_at E s1 (qE (if_neg fun h => ?_)))
            have := h.2.2.1
            omega
          · refine iteF' (decide_eq_false hc) ⟨_, rfl, _, _, rfl, rfl, _, rfl, ?_⟩
            by_cases hd : numOf (TL.tl d) < 0
            · refine iteT' (decide_eq_true hd) (raise_at E s1 (qE (if_neg fun h => ?_)))
              have := h.2.2.2
              omega
            · refine iteF' (decide_eq_false hd) ⟨_, rfl, _, rfl, _, rfl, by show 3 ≤ sizeLine; decide, fun tp htp => ?_⟩
              exact q _ _ _ (if_pos ⟨ha, hb, by omega, by omega⟩) tp _ (s1.free htp) (Same.trans s1 (Same.new htp)) upd_same
        · refine iteT' (by rw [Bool.not_eq_true] at hb; rw [hb]; rfl) (raise_at E s1 (qE (if_neg fun h => hb h.2.1)))
      · refine iteT' (ne_true fun e => ha (V.str.inj e)) (raise_at E s1 (qE (if_neg fun h => ha h.1)))
    · refine iteT' (ne_true fun e => h4 (by have := V.int.inj e; rw [List.length_map] at this; omega)) (raise_at E s1 (qE ?_))
      unfold headOf
      split
      · rename_i a b c d e
        exact absurd (by rw [e]; rfl) h4
      · rfl
theorem part_len (x : Str) : (Txt.partition x blS).1.length ≤ x.length ∧ (Txt.partition x blS).2.2.length ≤ x.length := by
  unfold Txt.partition
  split
  · constructor
    · show (Builtin.Str.strSub _ _ _).length ≤ _
      rw [TL.len_tl, TL.len_tl x, TL.tl_strSub, List.length_take, List.length_drop]
      omega
    · show (Builtin.Str.strSub _ _ _).length ≤ _
      rw [TL.len_tl, TL.len_tl x, TL.tl_strSub, List.length_take, List.length_drop]
      omega
  · exact ⟨Nat.le_refl _, Nat.zero_le _⟩
def FirstBad (k : Int) (rs : List Str) (i : Nat) : Prop := ∃ r, rs[i]? = some r ∧ (∀ j r', j < i → rs[j]? = some r' → rowOk k (j + 1) (ahd rs j) r' = true) ∧ rowOk k (i + 1) (ahd rs i) r = false
def sp_shown_in (E : EnvD K mg) : Sp := fun vs H Q Ex => ∃ (a : Addr) (k : Int) (hd : Str) (rs : List Str), vs = [.ref a, .int k] ∧ k ≤ 50 ∧ H a = some (.lst ((hd :: rs).map V.str)) ∧ rs.length < 10 ^ 9 ∧ (∀ r ∈ rs, r.length ≤ 1000) ∧
  ((AllOk k rs ∧ ∀ (e : Addr) (H' : Hp), H e = none → Same H H' → H' e = some (.dK (enc (rs.map rowOf))) → Q (.ref e) H') ∨ ∃ i, FirstBad k rs i ∧ ExT E H Ex ((i : Int) + 1))
theorem ok_shown_in (E : EnvD K mg) : FnOk P w K mg base (L2.CX P w) 3 E.D_shown_in.a E.D_shown_in.fd P_shown_in (sp_shown_in E) := by
  have G_number_in : FnOk P w K mg base CX0 1 E.D_number_in.a E.D_number_in.fd P_number_in sp_number_in := ok_number_in E
  have G_is_name : FnOk P w K mg base CX0 1 E.D_is_name.a E.D_is_name.fd P_is_name (sp_is_name (K := K)) := ok_is_name E
  have G_n_init : FnOk P w K mg base CX0 1 E.D_n_init.a E.D_n_init.fd P_n_init (sp_n_init E) := ok_n_init E
  refine E.D_shown_in.F.okX sc_shown_in (fun vs H Q Ex h => ?_) (fun cdv A outer s0 H vs Q Ex hr h => ?_)
  · obtain ⟨a, k, hd, rs, rfl, _⟩ := h
    rfl
  · obtain ⟨a, k, hd, rs, rfl, k2, ha, hl, lens, q⟩ := h
    refine ⟨_, (pss_cons (ps_set (i := 2) sc_shown_in.nd rfl (by first | exact Or.inl rfl | exact Or.inr rfl) pe_dnewK)
  (pss_cons (ps_set (i := 3) sc_shown_in.nd rfl (by first | exact Or.inl rfl | exact Or.inr rfl) pe_str)
  (pss_cons (ps_for (passes_of rfl) rfl (pi_range2 rfl E.n_range (pa_cons pe_int (pa_cons (pe_callB call_len_seq rfl E.n_len (by decide +kernel) (pa_cons (pv 0) pa_nil)) pa_nil))) (pg_name (i := 4) sc_shown_in.nd rfl (by first | exact Or.inl rfl | exact Or.inr rfl))
  (pss_cons (ps_asg (pe_partition (pe_ix ix_list (pv 0) (pv 4) (fun _ _ => rfl)) pe_str) (pg_tup rfl (pgs_cons (pg_name (i := 5) sc_shown_in.nd rfl (by first | exact Or.inl rfl | exact Or.inr rfl)) (pgs_cons (pg_name (i := 6) sc_shown_in.nd rfl (by first | exact Or.inl rfl | exact Or.inr rfl)) (pgs_cons (pg_name (i := 7) sc_shown_in.nd rfl (by first | exact Or.inl rfl | exact Or.inr rfl)) pgs_nil)))))
  (pss_cons (ps_set (i := 8) sc_shown_in.nd rfl (by first | exact Or.inl rfl | exact Or.inr rfl) (pe_call G_number_in (hr.mono (by decide)) rfl E.m_number_in E.D_number_in.F.kp E.D_number_in.b .nil pass0 (pa_cons (pv 7) pa_nil)))
  (pss_cons (ps_if (PW.pt (pw_or (pt_cmpR op_gt (pv 4) (pv 1) (nomark _)) (pw_or (pt_not (pt_val (pe_call G_is_name (hr.mono (by decide)) rfl E.m_is_name E.D_is_name.F.kp E.D_is_name.b .nil pass0 (pa_cons (pv 5) pa_nil)))) (pw_or (pt_cmpR op_le_str (pv 5) (pv 3) (nomark _)) (pw_or1 (pt_cmpR op_lt (pv 8) pe_int (nomark _)))))))
  (pss_one (ps_raise rfl (takes_of rfl rfl rfl rfl) (pmk_oex E.oex E.oexI E.oexT G_n_init (hr.mono (by decide)) E.D_n_init.b .nil pass0 rfl E.g_NoText (pa_cons (pv 4) pa_nil))))
  pss_nil)
  (pss_cons (ps_dput (hu_of hr) (pv 2) (pv 5) (pv 8) rfl)
  (pss_one (ps_set (i := 3) sc_shown_in.nd rfl (by first | exact Or.inl rfl | exact Or.inr rfl) (pv 5))))))))
  (pss_one (ps_ret (pv 2)))))), ?_⟩
    intro e he
    have s1 := Same.new (H := H) (o := .dK []) he
    have hE1 : (upd H e (.dK [])) e = some (.dK []) := upd_same
    generalize upd H e (.dK []) = H1 at *
    have en : ((((hd :: rs).map V.str).length : Int) - 1).toNat = rs.length := by rw [List.length_map, List.length_cons]; omega
    refine ⟨_, rfl, a, _, rfl, .inl (SqL.of (s1 _ _ ha)), 1, _, rfl, ⟨by decide, by decide, by omega, by rw [List.length_map, List.length_cons]; omega⟩, ?_⟩
    rw [en]
    have okr : ∀ i, i ≤ rs.length → (∀ j r', j < i → rs[j]? = some r' → rowOk k (j + 1) (ahd rs j) r' = true) → (rs.take i).length ≤ 50 := fun i hi h => by
      rw [List.length_take, Nat.min_eq_left hi]
      match i, hi, h with
      | 0, _, _ => omega
      | i + 1, hi, h =>
        obtain ⟨b, _⟩ := rowOk_iff.mp (h i _ (by omega) (List.getElem?_eq_getElem (show i < rs.length by omega)))
        omega
    refine for_range (fun i σ H' => (∃ o4 o5 o6 o7 o8, σ = [some (.ref a), some (.int k), some (.ref e), some (.str (ahd rs i)), o4, o5, o6, o7, o8]) ∧ (i ≤ rs.length ∧ ∀ j r', j < i → rs[j]? = some r' → rowOk k (j + 1) (ahd rs j) r' = true) ∧ Same H H' ∧ H' e = some (.dK (enc ((rs.take i).map rowOf))))
      ⟨⟨_, _, _, _, _, rfl⟩, ⟨Nat.zero_le _, fun j _ h => absurd h (Nat.not_lt_zero j)⟩, s1, hE1⟩ ?_ ?_
    · rintro i σ H' hi ⟨⟨o4, o5, o6, o7, o8, rfl⟩, ⟨_, hok⟩, g1, g2⟩
      have hr : rs[i]? = some rs[i] := List.getElem?_eq_getElem hi
      have at1 : atI ((hd :: rs).map V.str) (1 + (i : Int)) = some (.str rs[i]) := at_of (j := i + 1) (by omega) (by rw [List.map_cons, List.getElem?_cons_succ, List.getElem?_map, hr]; rfl)
      have len := lens _ (List.getElem_mem hi)
      obtain ⟨p1, p2⟩ := part_len rs[i]
      refine ⟨_, rfl, _, rfl, a, _, _, .str rs[i], rfl, rfl, SqL.of (g1 _ _ ha), at1, ⟨_, rfl⟩, rs[i], blS, rfl, rfl, by decide +kernel, Nat.le_of_lt (sz50 len), fun tp htp => ?_⟩
      have s3 := Same.new (H := H') (o := .tup [.str (Txt.partition rs[i] blS).1, .str (Txt.partition rs[i] blS).2.1, .str (Txt.partition rs[i] blS).2.2]) htp
      have hT : (upd H' tp (.tup [.str (Txt.partition rs[i] blS).1, .str (Txt.partition rs[i] blS).2.1, .str (Txt.partition rs[i] blS).2.2])) tp = some (.tup [.str (Txt.partition rs[i] blS).1, .str (Txt.partition rs[i] blS).2.1, .str (Txt.partition rs[i] blS).2.2]) := upd_same
      generalize upd H' tp (.tup [.str (Txt.partition rs[i] blS).1, .str (Txt.partition rs[i] blS).2.1, .str (Txt.partition rs[i] blS).2.2]) = H2 at *
      refine ⟨tp, _, rfl, SqT.of hT, rfl, _, _, rfl, _, _, rfl, _, _, rfl, rfl, ?_⟩
      refine ⟨_, rfl, _, rfl, Nat.le_of_lt (sz50 (by omega)), ?_⟩
      have g12 := Same.trans g1 s3
      have hE2 := s3 _ _ g2
      have ii : (1 + (i : Int)) = (((i + 1 : Nat)) : Int) := by omega
      have bad : rowOk k (i + 1) (ahd rs i) rs[i] = false → ExT E H Ex (1 + (i : Int)) := fun hb => by
        rcases q with ⟨hall, _⟩ | ⟨i', ⟨r', hr', ho', hb'⟩, qE⟩
        · rw [hall i _ hr] at hb
          cases hb
        · have : i' = i := by
            rcases Nat.lt_trichotomy i' i with h | h | h
            · rw [hok i' _ h hr'] at hb'
              cases hb'
            · exact h
            · rw [ho' i _ h hr] at hb
              cases hb
          subst this
          rw [Int.add_comm]
          exact qE
      have rk : ∀ b, rowOk k (i + 1) (ahd rs i) rs[i] = b → (!(decide (k < ((i + 1 : Nat) : Int)) || !nmOk (Txt.partition rs[i] blS).1 || !decide (TL.tl (ahd rs i) < TL.tl (Txt.partition rs[i] blS).1) || decide (numOf (TL.tl (Txt.partition rs[i] blS).2.2) < 1))) = b := fun _ h => h
      refine ⟨_, rfl, _, rfl, _, _, rfl, rfl, _, rfl, ?_⟩
      by_cases c1 : k < 1 + (i : Int)
      · refine iteT' (decide_eq_true c1) ⟨_, rfl, raise_at E g12 (bad ?_)⟩
        show (!(decide (k < ((i + 1 : Nat) : Int)) || _ || _ || _)) = false
        rw [decide_eq_true (by omega)]
        rfl
      refine iteF' (decide_eq_false c1) ⟨_, rfl, _, rfl, ⟨_, .str _⟩, fun z ez => (by rw [← V.str.inj ez]; omega), _, rfl, ?_⟩
      cases c2 : nmOk (Txt.partition rs[i] blS).1 with
      | false =>
        refine iteT' (show (!isNm (.str (Txt.partition rs[i] blS).1)) = true by rw [show isNm (.str (Txt.partition rs[i] blS).1) = nmOk (Txt.partition rs[i] blS).1 from rfl, c2]; rfl) ⟨_, rfl, raise_at E g12 (bad ?_)⟩
        show (!(_ || !nmOk (Txt.partition rs[i] blS).1 || _ || _)) = false
        rw [c2]
        simp
      | true =>
        refine iteF' (show (!isNm (.str (Txt.partition rs[i] blS).1)) = false by rw [show isNm (.str (Txt.partition rs[i] blS).1) = nmOk (Txt.partition rs[i] blS).1 from rfl, c2]; rfl) ⟨_, rfl, _, rfl, _, _, rfl, rfl, _, rfl, ?_⟩
        by_cases c3 : TL.tl (ahd rs i) < TL.tl (Txt.partition rs[i] blS).1
        · refine iteF' (by rw [decide_eq_true c3]; rfl) ⟨_, rfl, _, _, rfl, rfl, _, rfl, ?_⟩
          by_cases c4 : numOf (TL.tl (Txt.partition rs[i] blS).2.2) < 1
          · refine iteT' (decide_eq_true c4) ⟨_, rfl, raise_at E g12 (bad ?_)⟩
            show (!(_ || _ || _ || decide (numOf (TL.tl (Txt.partition rs[i] blS).2.2) < 1))) = false
            rw [decide_eq_true c4]
            simp
          · refine iteF' (decide_eq_false c4) ?_
            have good : rowOk k (i + 1) (ahd rs i) rs[i] = true := rowOk_iff.mpr ⟨by omega, c2, c3, by show 1 ≤ numOf _; omega⟩
            have fr := row_fresh hr hok c3
            have hok' : ∀ j r', j < i + 1 → rs[j]? = some r' → rowOk k (j + 1) (ahd rs j) r' = true := fun j r' hj hr' => by
              rcases Nat.lt_succ_iff_lt_or_eq.mp hj with h | h
              · exact hok j r' h hr'
              · subst h
                rw [hr] at hr'
                rw [← Option.some.inj hr']
                exact good
            have l50 := okr (i + 1) (by omega) hok'
            refine ⟨_, rfl, _, rfl, _, rfl, e, _, rfl, dput_enc hE2 (by rw [List.length_map]; rw [List.length_take] at l50 ⊢; omega), ?_⟩
            refine ⟨_, rfl, ?_⟩
            rw [ahd_succ hr]
            refine ⟨⟨_, _, _, _, _, rfl⟩, ⟨by omega, hok'⟩, Same.mut g12 he, ?_⟩
            rw [upd_same, take_snoc hr, List.map_append]
            have := put_new (numOf (TL.tl (Txt.partition rs[i] blS).2.2)) fr
            show some (HO.dK (enc (put ((rs.take i).map rowOf) (rowOf rs[i]).1 (numOf (TL.tl (Txt.partition rs[i] blS).2.2))))) = _
            rw [this]
            rfl
        · refine iteT' (by rw [decide_eq_false c3]; rfl) ⟨_, rfl, raise_at E g12 (bad ?_)⟩
          show (!(_ || _ || !decide (TL.tl (ahd rs i) < TL.tl (Txt.partition rs[i] blS).1) || _)) = false
          rw [decide_eq_false c3]
          simp
    · rintro σ H' ⟨⟨o4, o5, o6, o7, o8, rfl⟩, ⟨_, hok⟩, g1, g2⟩
      rcases q with ⟨hall, q⟩ | ⟨i', ⟨r', hr', ho', hb'⟩, qE⟩
      · rw [List.take_of_length_le (Nat.le_refl _)] at g2
        exact ⟨_, rfl, q e _ he g1 g2⟩
      · have := (List.getElem?_eq_some_iff.mp hr').1
        rw [hok i' _ this hr'] at hb'
        cases hb'
/-! ### a text read -/
inductive BadAt (x : Str) : Nat → Prop where
  | none (h : rowsOf x = []) : BadAt x 0
  | head {hd : Str} {rs : List Str} (h : rowsOf x = hd :: rs) (h1 : headOf hd = none) : BadAt x 0
  | row {hd : Str} {rs : List Str} {k g t : Int} {i : Nat} (h : rowsOf x = hd :: rs) (h1 : headOf hd = some (k, g, t)) (h2 : FirstBad k rs i) : BadAt x (i + 1)
  | last {hd : Str} {rs : List Str} {k g t : Int} (h : rowsOf x = hd :: rs) (h1 : headOf hd = some (k, g, t)) (h2 : AllOk k rs) (h3 : Txt.endswith x nlS = false ∨ t < tot (rs.map rowOf) + (k + 1) * g) : BadAt x (rs.length + 1)
structure GoodT (x : Str) (k g t : Int) (hd : Str) (rs : List Str) : Prop where
  rows : rowsOf x = hd :: rs
  head : headOf hd = some (k, g, t)
  ok : AllOk k rs
  endl : Txt.endswith x nlS = true
  sum : tot (rs.map rowOf) + (k + 1) * g ≤ t
theorem text_good {k : Nat} {s : DS} (h : Wr k s) : GoodT (textT k s) (k : Int) s.g s.t (headT (k : Int) s.g s.t) ((srt s.l).map rowT) := by
  obtain ⟨g2, t0, _, _⟩ := h.g2
  have k1 := h.k1
  have k2 := h.k2
  have hs := h.srt
  have hn : ∀ n ∈ keys (srt s.l), nmOk n = true := hs.ns
  have hq : ∀ q ∈ srt s.l, 1 ≤ q.2 ∧ q.2 ≤ 10 ^ 70 := fun q hq => hs.num hq
  refine ⟨text_rows h, headOf_headT (by omega) (by omega) h.g0 g2 t0 h.t2, text_ok hs.O hn hq (srt_pw s.l), text_end k s, ?_⟩
  rw [rows_back hn hq]
  exact hs.sum
theorem head_bd {r : Str} {k g t : Int} (h : headOf r = some (k, g, t)) : 1 ≤ k ∧ k ≤ 50 ∧ 0 ≤ g ∧ 0 ≤ t ∧ g ≤ 10 ^ 70 ∧ t ≤ 10 ^ 70 := by
  unfold headOf at h
  split at h
  · split at h
    · rename_i a b c d e h0
      obtain ⟨_, h1, h2, h3⟩ := h0
      have h1 : (decide (1 ≤ numOf (TL.tl b)) && decide (numOf (TL.tl b) ≤ 50)) = true := h1
      simp only [Bool.and_eq_true, decide_eq_true_eq] at h1
      cases h
      exact ⟨h1.1, h1.2, h2, h3, numOf_hi _, numOf_hi _⟩
    · cases h
  · cases h
def sp_read (E : EnvD K mg) : Sp := fun vs H Q Ex => ∃ x : Str, vs = [.str x] ∧ x.length < 10 ^ 6 ∧ (∀ hd rs, rowsOf x = hd :: rs → ∀ r ∈ rs, r.length ≤ 1000) ∧
  ((∃ (k g t : Int) (hd : Str) (rs : List Str), GoodT x k g t hd rs ∧ ∀ (p d : Addr) (H' : Hp), H p = none → H d = none → Same H H' → DeskAt E.C H' p d k.toNat ⟨rs.map rowOf, g, t⟩ → Q (.ref p) H') ∨ ∃ i : Nat, BadAt x i ∧ ExT E H Ex (i : Int))
theorem rows_len {x : Str} : (rowsOf x).length ≤ x.length + 2 := by
  have h := PyProof.Rows.split_le x nlS
  unfold rowsOf
  split
  · rw [List.length_dropLast]
    omega
  · exact h
theorem rows_part {x r : Str} (h : r ∈ rowsOf x) : r.length ≤ x.length := by
  unfold rowsOf at h
  split at h
  · exact PyProof.Rows.part_short (List.dropLast_subset _ h)
  · exact PyProof.Rows.part_short h
/-- a desk's text read is the desk -/
theorem read_at (E : EnvD K mg) {H : Hp} {k : Nat} {s : DS} {Q : VK} {Ex : XK} (h : Wr k s) (q : ∀ (p d : Addr) (H' : Hp), H p = none → H d = none → Same H H' → DeskAt E.C H' p d k ⟨srt s.l, s.g, s.t⟩ → Q (.ref p) H') : sp_read E [.str (textT k s)] H Q Ex := by
  have hs := h.srt
  have e : ((srt s.l).map rowT).map rowOf = srt s.l := rows_back hs.ns fun q hq => hs.num hq
  refine ⟨_, rfl, Nat.lt_of_le_of_lt (textT_len h) (by decide), text_lens h, .inl ⟨_, _, _, _, _, text_good h, fun p d H' hp hd s' D => q p d H' hp hd s' ?_⟩⟩
  rw [e] at D
  exact D
theorem ExT.mono {E : EnvD K mg} {H H1 : Hp} {Ex : XK} {i : Int} (q : ExT E H Ex i) (e : Same H H1) : ExT E H1 Ex i := fun d H' hd s hD => q d H' (e.free hd) (Same.trans e s) hD
theorem ok_read (E : EnvD K mg) : FnOk P w K mg base (L2.CX P w) 6 E.D_read.a E.D_read.fd P_read (sp_read E) := by
  have G_rows_of : FnOk P w K mg base CX0 1 E.D_rows_of.a E.D_rows_of.fd P_rows_of sp_rows_of := ok_rows_of E
  have G_head_in : FnOk P w K mg base (L2.CX P w) 3 E.D_head_in.a E.D_head_in.fd P_head_in (sp_head_in E) := ok_head_in E
  have G_shown_in : FnOk P w K mg base (L2.CX P w) 3 E.D_shown_in.a E.D_shown_in.fd P_shown_in (sp_shown_in E) := ok_shown_in E
  have G_desk_with : FnOk P w K mg base CX0 5 E.D_desk_with.a E.D_desk_with.fd P_desk_with (sp_desk_with E) := ok_desk_with E
  have G_n_init : FnOk P w K mg base CX0 1 E.D_n_init.a E.D_n_init.fd P_n_init (sp_n_init E) := ok_n_init E
  refine E.D_read.F.okX sc_read (fun vs H Q Ex h => ?_) (fun cdv A outer s0 H vs Q Ex hr h => ?_)
  · obtain ⟨x, rfl, _⟩ := h
    rfl
  · obtain ⟨x, rfl, hx, lens, q⟩ := h
    have z6 : (10 : Nat) ^ 6 + 10 ≤ sizeLine := by rw [sizeLine_eq]; decide
    refine ⟨_, (pss_cons (ps_set (i := 1) sc_read.nd rfl (by first | exact Or.inl rfl | exact Or.inr rfl) (pe_call G_rows_of (hr.mono (by decide)) rfl E.m_rows_of E.D_rows_of.F.kp E.D_rows_of.b .nil pass0 (pa_cons (pv 0) pa_nil)))
  (pss_cons (ps_if (pt_cmpR op_eq (pe_callB call_len_seq rfl E.n_len (by decide +kernel) (pa_cons (pv 1) pa_nil)) pe_int (nomark _))
  (pss_one (ps_raise rfl (takes_of rfl rfl rfl rfl) (pmk_oex E.oex E.oexI E.oexT G_n_init (hr.mono (by decide)) E.D_n_init.b .nil pass0 rfl E.g_NoText (pa_cons pe_int pa_nil))))
  pss_nil)
  (pss_cons (ps_asg (pe_call G_head_in (hr.mono (by decide)) rfl E.m_head_in E.D_head_in.F.kp E.D_head_in.b .nil (passes_call (takes_of rfl rfl rfl rfl) (fun _ _ _ _ h => h)) (pa_cons (pe_ix ix_list (pv 1) pe_int (fun _ _ => rfl)) pa_nil)) (pg_tup rfl (pgs_cons (pg_name (i := 2) sc_read.nd rfl (by first | exact Or.inl rfl | exact Or.inr rfl)) (pgs_cons (pg_name (i := 3) sc_read.nd rfl (by first | exact Or.inl rfl | exact Or.inr rfl)) (pgs_cons (pg_name (i := 4) sc_read.nd rfl (by first | exact Or.inl rfl | exact Or.inr rfl)) pgs_nil)))))
  (pss_cons (ps_set (i := 5) sc_read.nd rfl (by first | exact Or.inl rfl | exact Or.inr rfl) (pe_call G_shown_in (hr.mono (by decide)) rfl E.m_shown_in E.D_shown_in.F.kp E.D_shown_in.b .nil (passes_call (takes_of rfl rfl rfl rfl) (fun _ _ _ _ h => h)) (pa_cons (pv 1) (pa_cons (pv 2) pa_nil))))
  (pss_cons (ps_set (i := 6) sc_read.nd rfl (by first | exact Or.inl rfl | exact Or.inr rfl) (pe_op op_add (pe_callB (cr_sumV rfl) rfl E.n_sum (by decide +kernel) (pa_cons (pe_bm0 PySem.F.plainAttrs_dict PySem.F.slot_dict_values PySem.F.type_dict_values mt_values (pv 5)) pa_nil)) (pe_op op_mul (pe_op op_add (pv 2) pe_int) (pv 3))))
  (pss_cons (ps_if (PW.pt (pw_or (pt_not (pt_val (pe_m1 PySem.F.slot_str_endswith PySem.F.type_str_endswith mt_endswith (pv 0) pe_str))) (pw_or1 (pt_cmpR op_gt (pv 6) (pv 4) (nomark _)))))
  (pss_one (ps_raise rfl (takes_of rfl rfl rfl rfl) (pmk_oex E.oex E.oexI E.oexT G_n_init (hr.mono (by decide)) E.D_n_init.b .nil pass0 rfl E.g_NoText (pa_cons (pe_callB call_len_seq rfl E.n_len (by decide +kernel) (pa_cons (pv 1) pa_nil)) pa_nil))))
  pss_nil)
  (pss_one (ps_ret (pe_call G_desk_with (hr.mono (by decide)) rfl E.m_desk_with E.D_desk_with.F.kp E.D_desk_with.b .nil pass0 (pa_cons (pv 2) (pa_cons (pv 5) (pa_cons (pv 3) (pa_cons (pv 4) pa_nil))))))))))))), ?_⟩
    refine ⟨_, rfl, x, rfl, by omega, fun rp H1 hrp s1 hR => ?_⟩
    refine ⟨_, rfl, rp, _, rfl, .inl (SqL.of hR), rfl, _, rfl, ?_⟩
    have rl := @rows_len x
    cases er : rowsOf x with
    | nil =>
      refine iteT' (decide_eq_true rfl) ?_
      have : ExT E H Ex 0 := by
        rcases q with ⟨k, g, t, hd, rs, G, _⟩ | ⟨i, B, qE⟩
        · have := G.rows
          rw [er] at this
          cases this
        · cases B with
          | none h => exact qE
          | head h _ => rw [er] at h; cases h
          | row h _ _ => rw [er] at h; cases h
          | last h _ _ _ => rw [er] at h; cases h
      exact raise_at E s1 this
    | cons hd rs =>
      refine iteF' (decide_eq_false (fun e => by have := V.int.inj e; rw [List.length_map, List.length_cons] at this; omega)) ?_
      rw [er] at hR rl
      have lh : hd.length ≤ x.length := rows_part (by rw [er]; exact List.mem_cons_self)
      have lr := lens hd rs er
      rw [List.length_cons] at rl
      refine ⟨_, rfl, rp, _, _, .str hd, rfl, rfl, SqL.of hR, atI_nat (j := 0) rfl, hd, rfl, by omega, fun k g t eh tp H2 htp s2 hT => ?_, fun eh => ?_⟩
      · obtain ⟨k1, k2, g0, t0, _, _⟩ := head_bd eh
        have s12 := Same.trans s1 s2
        refine ⟨tp, _, rfl, SqT.of hT, rfl, _, _, rfl, _, _, rfl, _, _, rfl, rfl, ?_⟩
        refine ⟨_, rfl, _, rfl, rp, k, hd, rs, rfl, k2, s2 _ _ hR, by omega, lr, ?_⟩
        by_cases hall : AllOk k rs
        · refine .inl ⟨hall, fun e H3 he s3 hE => ?_⟩
          have s13 := Same.trans s12 s3
          refine ⟨_, rfl, .inr (.inr (.inl ⟨rfl, .inl ⟨_, hE⟩⟩)), e, _, rfl, rfl, hE, fun vw hvw => ⟨vw, e, _, _, rfl, upd_same, by rw [upd_ne (ne_of_none hE hvw)]; exact hE, enc_vals _, ?_⟩⟩
          rw [show ((rs.map rowOf).map (·.2)).sum = tot (rs.map rowOf) from rfl]
          have s4 := Same.new (H := H3) (o := vwO "dict_values" vw e) hvw
          generalize upd H3 vw (vwO "dict_values" vw e) = H4 at *
          have s14 := Same.trans s13 s4
          refine ⟨_, rfl, _, _, rfl, rfl, _, rfl, _, _, rfl, rfl, .inl (by omega), _, _, rfl, rfl, ?_⟩
          refine ⟨_, rfl, ⟨_, rfl⟩, x, nlS, rfl, rfl, _, rfl, ?_⟩
          by_cases ce : Txt.endswith x nlS = true
          · refine iteF' (by rw [ce]; rfl) ⟨_, rfl, _, rfl, _, _, rfl, rfl, _, rfl, ?_⟩
            by_cases cs : t < tot (rs.map rowOf) + (k + 1) * g
            · refine iteT' (decide_eq_true cs) ⟨_, rfl, rp, _, rfl, .inl (SqL.of (s4 _ _ (s3 _ _ (s2 _ _ hR)))), ?_⟩
              rw [List.length_map, List.length_cons]
              refine raise_at E s14 ?_
              rcases q with ⟨k', g', t', hd', rs', G, _⟩ | ⟨i, B, qE⟩
              · obtain ⟨rfl, rfl⟩ := List.cons.inj (er.symm.trans G.rows)
                have e2 := Option.some.inj (eh.symm.trans G.head)
                cases e2
                have := G.sum
                omega
              · cases B with
                | none h => rw [er] at h; cases h
                | head h h1 =>
                  obtain ⟨rfl, rfl⟩ := List.cons.inj (er.symm.trans h)
                  rw [eh] at h1; cases h1
                | row h h1 h2 =>
                  obtain ⟨rfl, rfl⟩ := List.cons.inj (er.symm.trans h)
                  have e2 := Option.some.inj (eh.symm.trans h1)
                  cases e2
                  obtain ⟨r', hr', _, hb'⟩ := h2
                  rw [hall _ _ hr'] at hb'
                  cases hb'
                | last h h1 h2 h3 =>
                  obtain ⟨rfl, rfl⟩ := List.cons.inj (er.symm.trans h)
                  exact qE
            · refine iteF' (decide_eq_false cs) ?_
              have hE4 := s4 _ _ hE
              refine ⟨_, rfl, _, rfl, _, rfl, _, rfl, k.toNat, e, _, _, _, by rw [Int.toNat_of_nonneg (by omega)]; rfl, by omega, by omega, hE4, fun p d H5 hp hd5 s5 D5 => ?_⟩
              rcases q with ⟨k', g', t', hd', rs', G, qq⟩ | ⟨i, B, qE⟩
              · obtain ⟨rfl, rfl⟩ := List.cons.inj (er.symm.trans G.rows)
                have e2 := Option.some.inj (eh.symm.trans G.head)
                cases e2
                exact qq p d H5 (s14.free hp) (s14.free hd5) (Same.trans s14 s5) D5
              · exfalso
                cases B with
                | none h => rw [er] at h; cases h
                | head h h1 =>
                  obtain ⟨rfl, rfl⟩ := List.cons.inj (er.symm.trans h)
                  rw [eh] at h1; cases h1
                | row h h1 h2 =>
                  obtain ⟨rfl, rfl⟩ := List.cons.inj (er.symm.trans h)
                  have e2 := Option.some.inj (eh.symm.trans h1)
                  cases e2
                  obtain ⟨r', hr', _, hb'⟩ := h2
                  rw [hall _ _ hr'] at hb'
                  cases hb'
                | last h h1 h2 h3 =>
                  obtain ⟨rfl, rfl⟩ := List.cons.inj (er.symm.trans h)
                  have e2 := Option.some.inj (eh.symm.trans h1)
                  cases e2
                  rcases h3 with h3 | h3
                  · rw [ce] at h3; cases h3
                  · exact cs h3
          · refine iteT' (by rw [Bool.not_eq_true] at ce; rw [ce]; rfl) ⟨_, rfl, rp, _, rfl, .inl (SqL.of (s4 _ _ (s3 _ _ (s2 _ _ hR)))), ?_⟩
            rw [List.length_map, List.length_cons]
            refine raise_at E s14 ?_
            rcases q with ⟨k', g', t', hd', rs', G, _⟩ | ⟨i, B, qE⟩
            · exact absurd G.endl ce
            · cases B with
              | none h => rw [er] at h; cases h
              | head h h1 =>
                obtain ⟨rfl, rfl⟩ := List.cons.inj (er.symm.trans h)
                rw [eh] at h1; cases h1
              | row h h1 h2 =>
                obtain ⟨rfl, rfl⟩ := List.cons.inj (er.symm.trans h)
                have e2 := Option.some.inj (eh.symm.trans h1)
                cases e2
                obtain ⟨r', hr', _, hb'⟩ := h2
                rw [hall _ _ hr'] at hb'
                cases hb'
              | last h h1 h2 h3 =>
                obtain ⟨rfl, rfl⟩ := List.cons.inj (er.symm.trans h)
                exact qE
        · rcases q with ⟨k', g', t', hd', rs', G, _⟩ | ⟨i, B, qE⟩
          · obtain ⟨rfl, rfl⟩ := List.cons.inj (er.symm.trans G.rows)
            have e2 := Option.some.inj (eh.symm.trans G.head)
            cases e2
            exact absurd G.ok hall
          · cases B with
            | none h => rw [er] at h; cases h
            | head h h1 =>
              obtain ⟨rfl, rfl⟩ := List.cons.inj (er.symm.trans h)
              rw [eh] at h1; cases h1
            | @row _ _ _ _ _ i h h1 h2 =>
              obtain ⟨rfl, rfl⟩ := List.cons.inj (er.symm.trans h)
              have e2 := Option.some.inj (eh.symm.trans h1)
              cases e2
              exact .inr ⟨i, h2, ExT.mono qE s12⟩
            | last h h1 h2 h3 =>
              obtain ⟨rfl, rfl⟩ := List.cons.inj (er.symm.trans h)
              have e2 := Option.some.inj (eh.symm.trans h1)
              cases e2
              exact absurd h2 hall
      · rcases q with ⟨k', g', t', hd', rs', G, _⟩ | ⟨i, B, qE⟩
        · obtain ⟨rfl, rfl⟩ := List.cons.inj (er.symm.trans G.rows)
          rw [G.head] at eh
          cases eh
        · cases B with
          | none h => rw [er] at h; cases h
          | head h h1 => exact ExT.mono qE s1
          | row h h1 h2 =>
            obtain ⟨rfl, rfl⟩ := List.cons.inj (er.symm.trans h)
            rw [h1] at eh
            cases eh
          | last h h1 h2 h3 =>
            obtain ⟨rfl, rfl⟩ := List.cons.inj (er.symm.trans h)
            rw [h1] at eh
            cases eh
/-! ### a desk written -/
def sp_written (E : EnvD K mg) : Sp := fun vs H Q _ => ∃ (p d : Addr) (k : Nat) (s : DS), vs = [.ref p] ∧ DeskAt E.C H p d k s ∧ Wr k s ∧ ∀ H', Same H H' → Q (.str (textT k s)) H'
theorem ok_written (E : EnvD K mg) : FnOk P w K mg base CX0 2 E.D_written.a E.D_written.fd P_written (sp_written E) := by
  have G_d_shown : FnOk P w K mg base CX0 1 E.D_d_shown.a E.D_d_shown.fd P_d_shown (sp_d_shown E) := ok_d_shown E
  have G_d_lost : FnOk P w K mg base CX0 1 E.D_d_lost.a E.D_d_lost.fd P_d_lost (sp_d_lost E) := ok_d_lost E
  have G_d_weight : FnOk P w K mg base CX0 1 E.D_d_weight.a E.D_d_weight.fd P_d_weight (sp_d_weight E) := ok_d_weight E
  have G_d_drawers : FnOk P w K mg base CX0 1 E.D_d_drawers.a E.D_d_drawers.fd P_d_drawers (sp_d_drawers E) := ok_d_drawers E
  refine E.D_written.F.ok sc_written (fun vs H Q Ex h => ?_) (fun cdv A outer s0 H vs Q Ex hr h => ?_)
  · obtain ⟨p, d, k, s, rfl, _⟩ := h
    rfl
  · obtain ⟨p, d, k, s, rfl, D, W, q⟩ := h
    obtain ⟨⟨dx, h1⟩, _⟩ := id D
    have l50 : s.l.length ≤ 50 := Nat.le_trans W.O.len W.k2
    obtain ⟨g2, t0, _, _⟩ := W.g2
    have g0 := W.g0
    have t2 := W.t2
    have k1 := W.k1
    have k2 := W.k2
    have z2 : (2000 : Nat) ≤ sizeLine := by rw [sizeLine_eq]; decide
    refine ⟨_, (pss_cons (ps_set (i := 1) sc_written.nd rfl (by first | exact Or.inl rfl | exact Or.inr rfl) (pe_meth0 (pv 0) E.cl E.me_d_shown G_d_shown (hr.mono (by decide)) E.D_d_shown.b .nil pass0))
  (pss_cons (ps_set (i := 2) sc_written.nd rfl (by first | exact Or.inl rfl | exact Or.inr rfl) (pe_lst (pa_cons (pe_joined (PJ.cons pe_str (PJ.cons (pe_fmt (pe_meth0 (pv 0) E.cl E.me_d_drawers G_d_drawers (hr.mono (by decide)) E.D_d_drawers.b .nil pass0)) (PJ.cons pe_str (PJ.cons (pe_fmt (pe_meth0 (pv 0) E.cl E.me_d_lost G_d_lost (hr.mono (by decide)) E.D_d_lost.b .nil pass0)) (PJ.cons pe_str (PJ.cons (pe_fmt (pe_meth0 (pv 0) E.cl E.me_d_weight G_d_weight (hr.mono (by decide)) E.D_d_weight.b .nil pass0)) (PJ.cons pe_str PJ.nil)))))))) pa_nil)))
  (pss_cons (ps_lock (ps_for PassesOwn.never rfl (pi_keys (pv 1)) (pg_name (i := 3) sc_written.nd rfl (by first | exact Or.inl rfl | exact Or.inr rfl))
  (pss_one (ps_expr (pe_bm PySem.F.plainAttrs_list PySem.F.slot_list_append PySem.F.type_list_append mt_append (pv 2) (pa_cons (pe_joined (PJ.cons (pe_fmt (pv 3)) (PJ.cons pe_str (PJ.cons (pe_fmt (pe_dget (hu_of hr) (pv 1) (pv 3) (fun _ _ => rfl))) (PJ.cons pe_str PJ.nil))))) pa_nil))))))
  (pss_one (ps_ret (pe_join pe_str (pv 2))))))), ?_⟩
    refine ⟨_, rfl, p, dx, _, rfl, h1, rfl, p, d, k, s, rfl, D, W.O.nd, l50, fun e H1 he s1 hE => ?_⟩
    have D1 := D.same s1
    have h11 := s1 _ _ h1
    have lk : (numT (k : Int)).length ≤ 71 := num_len (by omega) (by omega)
    have lg : (numT s.g).length ≤ 71 := num_len g0 g2
    have lt : (numT s.t).length ≤ 71 := num_len t0 t2
    have c0 : (Str.empty).length = 0 := rfl
    have c1 : ("desk " : Str).length = 5 := by decide +kernel
    have c2 : (" " : Str).length = 1 := by decide +kernel
    have c3 : ("\n" : Str).length = 1 := by decide +kernel
    refine ⟨"desk ", rfl, by rw [app_len]; omega, ?_⟩
    refine ⟨_, rfl, p, dx, _, rfl, h11, rfl, p, d, k, s, rfl, D1, .inr ⟨_, rfl, log_ok (by omega) (by omega), numT (k : Int), rfl, by simp only [app_len]; omega, ?_⟩⟩
    refine ⟨" ", rfl, by simp only [app_len]; omega, ?_⟩
    refine ⟨_, rfl, p, dx, _, rfl, h11, rfl, p, d, k, s, rfl, D1, .inr ⟨_, rfl, log_ok g0 g2, numT s.g, rfl, by simp only [app_len]; omega, ?_⟩⟩
    refine ⟨" ", rfl, by simp only [app_len]; omega, ?_⟩
    refine ⟨_, rfl, p, dx, _, rfl, h11, rfl, p, d, k, s, rfl, D1, .inr ⟨_, rfl, log_ok t0 t2, numT s.t, rfl, by simp only [app_len]; omega, ?_⟩⟩
    refine ⟨"\n", rfl, by simp only [app_len]; omega, ?_⟩
    obtain ⟨y0, ey0, hy0, ly0⟩ : ∃ y0 : Str, Str.empty ++ "desk " ++ numT (k : Int) ++ " " ++ numT s.g ++ " " ++ numT s.t ++ "\n" = y0 ∧ TL.tl y0 = TL.tl (headT k s.g s.t) ++ [10] ∧ y0.length ≤ 300 := by
      refine ⟨_, rfl, ?_, by simp only [app_len]; omega⟩
      unfold headT
      have e1 : TL.tl Str.empty = [] := by decide +kernel
      have e2 : TL.tl ("desk " : Str) = TL.tl ("desk" : Str) ++ TL.tl blS := by decide +kernel
      have e3 : TL.tl ("\n" : Str) = [10] := by decide +kernel
      simp only [TL.tl_append, e1, e2, e3, List.nil_append, List.append_assoc]
    rw [ey0]
    refine ⟨by show 1 ≤ sizeLine; omega, fun L hL => ?_⟩
    have s2 := Same.new (H := H1) (o := .lst [.str y0]) hL
    have hL2 : (upd H1 L (.lst [.str y0])) L = some (.lst [.str y0]) := upd_same
    generalize upd H1 L (.lst [.str y0]) = H2 at *
    have s12 := Same.trans s1 s2
    have hE2 := s2 _ _ hE
    have Le : L ≠ e := ne_of hL2 hE2 (by intro z; cases z)
    have hL0 : H L = none := s1.free hL
    have lkS : ∀ {i : Nat} {r : Str × Int}, (srt s.l)[i]? = some r → DK.lk (srt s.l) r.1 = some r.2 := fun h => lk_at (srt_ok W.O).nd h
    refine ⟨e, _, hE2, trivial, fun od => ?_⟩
    refine ⟨_, rfl, e, od, rfl, .inl ⟨_, upd_same, for_keys (od := od) (l := srt s.l) (fun i σ H' => (∃ o3, σ = [some (.ref p), some (.ref e), some (.ref L), o3]) ∧ H' e = some (.frz od (.dK (enc (srt s.l)))) ∧ (∀ b o, H b = some o → H' b = some o) ∧
      ∃ ys : List Str, H' L = some (.lst (ys.map V.str)) ∧ ys.map TL.tl = (headT k s.g s.t :: ((srt s.l).take i).map rowT).map (fun r => TL.tl r ++ [10]) ∧ ∀ y ∈ ys, y.length ≤ 300) ?_ (fun i σ H' h => h.2.1) ?_ ?_⟩⟩
    · refine ⟨⟨none, rfl⟩, upd_same, fun b o hb => ?_, [y0], by rw [upd_ne Le]; exact hL2, by rw [List.map_singleton, hy0]; rfl, fun y hy => by rw [List.mem_singleton.mp hy]; exact ly0⟩
      rw [upd_ne (ne_of_none hb he)]
      exact s12 _ _ hb
    · rintro i r σ H' hr' ⟨⟨o3, rfl⟩, g1, g2', ys, g3, g4, g5⟩
      have hm := List.mem_of_getElem? hr'
      have nr := W.srt.ns r.1 (List.mem_map.mpr ⟨r, hm, rfl⟩)
      obtain ⟨r1, r2⟩ := W.srt.num hm
      have lr := nmOk_len nr
      have lz : (numT r.2).length ≤ 71 := num_len (by omega) r2
      have yl : ys.length ≤ 60 := by
        have := congrArg List.length g4
        rw [List.length_map, List.length_map, List.length_cons, List.length_map, List.length_take, srt_len] at this
        omega
      refine ⟨_, rfl, .inl ⟨rfl, _, SqL.of g3⟩, ?_⟩
      refine ⟨_, rfl, .inl ⟨r.1, rfl, by omega, r.1, rfl, by simp only [app_len]; omega, ?_⟩⟩
      refine ⟨" ", rfl, by simp only [app_len]; omega, ?_⟩
      refine ⟨_, rfl, _, rfl, e, _, rfl, dget_enc (.inr ⟨_, g1⟩) (lkS hr'), .inr ⟨_, rfl, log_ok (by omega) r2, numT r.2, rfl, by simp only [app_len]; omega, ?_⟩⟩
      refine ⟨"\n", rfl, by simp only [app_len]; omega, ?_⟩
      obtain ⟨y, ey, hy, ly⟩ : ∃ y : Str, Str.empty ++ r.1 ++ " " ++ numT r.2 ++ "\n" = y ∧ TL.tl y = TL.tl (rowT r) ++ [10] ∧ y.length ≤ 300 := by
        refine ⟨_, rfl, ?_, by simp only [app_len]; omega⟩
        unfold rowT
        have e1 : TL.tl Str.empty = [] := by decide +kernel
        have e3 : TL.tl ("\n" : Str) = [10] := by decide +kernel
        simp only [TL.tl_append, e1, e3, List.nil_append, List.append_assoc]
      rw [ey]
      refine ⟨L, _, _, rfl, rfl, g3, sz50 (by rw [List.length_map]; omega), ?_⟩
      refine ⟨⟨_, rfl⟩, by rw [upd_ne Le.symm]; exact g1, fun b o hb => by rw [upd_ne (ne_of_none hb hL0)]; exact g2' b o hb, ys ++ [y], by rw [upd_same, List.map_append]; rfl, ?_, fun y' hy' => ?_⟩
      · rw [List.map_append, g4, take_snoc hr', List.map_append, ← List.cons_append, List.map_append]
        show _ ++ [TL.tl y] = _ ++ [TL.tl (rowT r) ++ [10]]
        rw [hy]
      · rcases List.mem_append.mp hy' with h | h
        · exact g5 y' h
        · rw [List.mem_singleton.mp h]; exact ly
    · rintro σ H' ⟨⟨o3, rfl⟩, g1, g2', ys, g3, g4, g5⟩
      rw [List.take_of_length_le (Nat.le_refl _)] at g4
      refine ⟨g1, ⟨_, rfl⟩, _, rfl, _, L, ys, rfl, rfl, .inl (SqL.of (by rw [upd_ne Le]; exact g3)), ?_, ?_⟩
      · have yl : ys.length ≤ 60 := by
          have := congrArg List.length g4
          rw [List.length_map, List.length_map, List.length_cons, List.length_map, srt_len] at this
          omega
        have le3 : ∀ (l : List Str), (∀ z ∈ l, z.length ≤ 300) → (l.map (·.length)).sum ≤ 300 * l.length := by
          intro l
          induction l with
          | nil => intro _; exact Nat.le_refl _
          | cons x l ih =>
            intro h
            have h1 := h x (List.mem_cons_self ..)
            have h2 := ih fun z hz => h z (List.mem_cons_of_mem _ hz)
            rw [List.map_cons, List.sum_cons, List.length_cons]
            omega
        have h3 := le3 ys g5
        have e0 : ("" : Str).length = 0 := by decide +kernel
        show _ + _ * ("" : Str).length ≤ 16777216
        rw [e0]
        omega
      · have ez : Txt.join "" ys = textT k s := by
          refine TL.ext_tl ?_
          have e1 : TL.tl ("" : Str) = [] := by decide +kernel
          rw [TL.join_eq, TL.tl_join, e1, joinL_nil, g4]
          rfl
        rw [ez]
        refine q _ fun b o hb => ?_
        rw [upd_ne (ne_of_none hb he)]
        exact g2' b o hb
/-! ### what comes of rows -/
inductive OutR : List Str → Int → Prop where
  | none : OutR [] 0
  | head {hd : Str} {rs : List Str} (h : headOf hd = none) : OutR (hd :: rs) 0
  | row {hd : Str} {rs : List Str} {k g t : Int} {i : Nat} (h : headOf hd = some (k, g, t)) (hb : FirstBad k rs i) : OutR (hd :: rs) ((i : Int) + 1)
  | last {hd : Str} {rs : List Str} {k g t : Int} (h : headOf hd = some (k, g, t)) (ok : AllOk k rs) (s : t < tot (rs.map rowOf) + (k + 1) * g) : OutR (hd :: rs) ((rs.length : Int) + 1)
  | good {hd : Str} {rs : List Str} {k g t : Int} (h : headOf hd = some (k, g, t)) (ok : AllOk k rs) (s : tot (rs.map rowOf) + (k + 1) * g ≤ t) : OutR (hd :: rs) (-1)
def Out (x : Str) (i : Int) : Prop := (i = -1 ∧ ∃ (k g t : Int) (hd : Str) (rs : List Str), GoodT x k g t hd rs) ∨ ∃ n : Nat, i = (n : Int) ∧ BadAt x n
theorem tl_rows {rs : List Str} (h : rs ≠ []) : TL.tl (Txt.join nlS rs ++ nlS) = (rs.map fun r => TL.tl r ++ [10]).flatten := by
  rw [TL.tl_append, TL.join_eq, TL.tl_join, tl_nl, joinL_snoc (by simpa using h), List.map_map]
  rfl
theorem out_join {rs : List Str} {i : Int} (h : OutR rs i) (hf : ∀ r ∈ rs, 10 ∉ TL.tl r) : Out (Txt.join nlS rs ++ nlS) i := by
  have he : Txt.endswith (Txt.join nlS rs ++ nlS) nlS = true := endswith_nl (l := TL.tl (Txt.join nlS rs)) (by rw [TL.tl_append, tl_nl])
  cases h with
  | none =>
    refine .inr ⟨0, rfl, .head (hd := "") (rs := []) (rowsOf_rows ?_ fun r hr => ?_) (head_one (by decide +kernel))⟩
    · decide +kernel
    · rw [List.mem_singleton.mp hr]; decide +kernel
  | head h => exact .inr ⟨0, rfl, .head (rowsOf_rows (tl_rows (by simp)) hf) h⟩
  | row h hb => exact .inr ⟨_, by push_cast; rfl, .row (rowsOf_rows (tl_rows (by simp)) hf) h hb⟩
  | last h ok s => exact .inr ⟨_, by push_cast; rfl, .last (rowsOf_rows (tl_rows (by simp)) hf) h ok (.inr s)⟩
  | good h ok s => exact .inl ⟨rfl, _, _, _, _, _, rowsOf_rows (tl_rows (by simp)) hf, h, ok, he, s⟩
def sp_told (E : EnvD K mg) : Sp := fun vs H Q _ => ∃ (x : Str) (i : Int), vs = [.str x] ∧ x.length < 10 ^ 6 ∧ (∀ hd rs, rowsOf x = hd :: rs → ∀ r ∈ rs, r.length ≤ 1000) ∧ Out x i ∧ ∀ H', Same H H' → Q (.int i) H'
theorem ok_told (E : EnvD K mg) : FnOk P w K mg base CX0 7 E.D_told.a E.D_told.fd P_told (sp_told E) := by
  have G_read : FnOk P w K mg base (L2.CX P w) 6 E.D_read.a E.D_read.fd P_read (sp_read E) := ok_read E
  refine E.D_told.F.ok sc_told (fun vs H Q Ex h => ?_) (fun cdv A outer s0 H vs Q Ex hr h => ?_)
  · obtain ⟨x, i, rfl, _⟩ := h
    rfl
  · obtain ⟨x, i, rfl, hx, lens, ho, q⟩ := h
    refine ⟨_, (pss_cons (ps_set (i := 1) sc_told.nd rfl (by first | exact Or.inl rfl | exact Or.inr rfl) pe_non)
  (pss_cons (ps_set (i := 2) sc_told.nd rfl (by first | exact Or.inl rfl | exact Or.inr rfl) (pe_un un_neg pe_int))
  (pss_cons (ps_try_keep (i := 3) rfl rfl rfl sc_told.nd rfl rfl ⟨rfl, by decide, .inl E.g_DrawerError⟩ takes0
  (fun W pn xe tk _ => (pss_one (ps_expr (pe_callS G_read (hr.mono (by decide)) rfl E.m_read E.D_read.F.kp E.D_read.b (fun σ => passAt tk σ) (pa_cons (pv 0) pa_nil)))))
  (fun a oe cls d pn hz hf => (pss_one (ps_set (i := 1) sc_told.nd rfl (by first | exact Or.inl rfl | exact Or.inr rfl) (pv 3)))))
  (pss_cons (ps_if (pt_val (pe_callB (call_isKD.or call_isi) rfl E.n_isinstance (by decide +kernel) (pa_cons (pv 1) (pa_cons (pe_glob (v := .ref E.C_NoText) rfl E.g_NoText rfl) pa_nil))))
  (pss_one (ps_set (i := 2) sc_told.nd rfl (by first | exact Or.inl rfl | exact Or.inr rfl) (pe_xk E.xfT E.oexR (pv 1))))
  pss_nil)
  (pss_cons (ps_if (PW.pt (pw_or (pt_val (pe_callB (call_isKTD.or call_isiT) rfl E.n_isinstance (by decide +kernel) (pa_cons (pv 1) (pa_cons (pe_tup (pa_cons (pe_glob (v := .ref E.C_NoDesk) rfl E.g_NoDesk rfl) (pa_cons (pe_glob (v := .ref E.C_NoMatch) rfl E.g_NoMatch rfl) (pa_cons (pe_glob (v := .ref E.C_NoName) rfl E.g_NoName rfl) (pa_cons (pe_glob (v := .ref E.C_NoPiece) rfl E.g_NoPiece rfl) (pa_cons (pe_glob (v := .ref E.C_NoWeight) rfl E.g_NoWeight rfl) pa_nil)))))) pa_nil)))) (pw_or1 (pt_val (pe_callB call_isi rfl E.n_isinstance (by decide +kernel) (pa_cons (pv 2) (pa_cons (pe_bltn (v := .ty "bool") (u := .type "bool") rfl E.n_bool (by decide +kernel) rfl) pa_nil)))))))
  (pss_one (ps_set (i := 2) sc_told.nd rfl (by first | exact Or.inl rfl | exact Or.inr rfl) (pe_un un_neg pe_int)))
  pss_nil)
  (pss_one (ps_ret (pv 2)))))))), ?_⟩
    rcases ho with ⟨rfl, k, g, t, hd, rs, G⟩ | ⟨n, rfl, B⟩
    · refine ⟨_, rfl, _, rfl, x, rfl, hx, lens, .inl ⟨k, g, t, hd, rs, G, fun p d H1 _ _ s1 _ => ?_⟩⟩
      refine ⟨_, rfl, .inr ⟨.non, .ref E.C_NoText, _, _, false, rfl, .own _, .base .non, E.kn_NoText, ⟨_, rfl, iteF ?_⟩⟩⟩
      refine ⟨_, rfl, by show 5 ≤ sizeLine; decide, fun tp htp => .inr ⟨.non, tp, _, _, [.ref E.C_NoDesk, .ref E.C_NoMatch, .ref E.C_NoName, .ref E.C_NoPiece, .ref E.C_NoWeight], false, rfl, upd_same, .cons (.own _) (.cons (.own _) (.cons (.own _) (.cons (.own _) (.cons (.own _) .nil)))), .base .non,
        kitAny_cons E.kn_NoDesk (fun _ => kitAny_cons E.kn_NoMatch (fun _ => kitAny_cons E.kn_NoName (fun _ => kitAny_cons E.kn_NoPiece (fun _ => kitAny_cons E.kn_NoWeight (fun _ => rfl) (fun z => by cases z)) (fun z => by cases z)) (fun z => by cases z)) (fun z => by cases z)) (fun z => by cases z), _, rfl, iteF ?_⟩⟩
      refine ⟨_, rfl, .int (-1), .ty "bool", _, _, false, rfl, .ty _, .base (.int _), E.kt_i_b, _, rfl, iteF ?_⟩
      exact ⟨_, rfl, q _ (Same.trans s1 (Same.new htp))⟩
    · refine ⟨_, rfl, _, rfl, x, rfl, hx, lens, .inr ⟨n, B, fun d H1 hd0 s1 hd => ⟨true, E.exm_NoText, fun _ a ha => ⟨_, rfl, fun _ => ?_⟩, fun z => by cases z⟩⟩⟩
      have s2 := Same.trans s1 (Same.new (o := ExK (.ref E.C_NoText) (some d) a) ha)
      have hA : (upd H1 a (ExK (.ref E.C_NoText) (some d) a)) a = some (ExK (.ref E.C_NoText) (some d) a) := upd_same
      have hD : (upd H1 a (ExK (.ref E.C_NoText) (some d) a)) d = some (.xd [(("row" : Str), V.int (n : Int))]) := by rw [upd_ne (ne_of_none hd ha)]; exact hd
      generalize upd H1 a (ExK (.ref E.C_NoText) (some d) a) = H2 at s2 hA hD ⊢
      refine ⟨_, rfl, .inl ⟨a, d, E.C_NoText, E.C_NoText, _, true, rfl, hA, hD, E.xc_NoText, E.kt_NoText_NoText, _, rfl, iteT ⟨_, rfl, a, d, _, .int (n : Int), rfl, hA, hD, rfl, ?_⟩⟩⟩
      refine ⟨_, rfl, by show 5 ≤ sizeLine; decide, fun tp htp => .inl ⟨a, d, E.C_NoText, tp, _, _, [.ref E.C_NoDesk, .ref E.C_NoMatch, .ref E.C_NoName, .ref E.C_NoPiece, .ref E.C_NoWeight], false, rfl, upd_same, .cons (.own _) (.cons (.own _) (.cons (.own _) (.cons (.own _) (.cons (.own _) .nil)))), by rw [upd_ne (ne_of_none hA htp)]; exact hA, by rw [upd_ne (ne_of_none hD htp)]; exact hD, E.xc_NoText,
        kitAny_cons E.kt_NoText_NoDesk (fun _ => kitAny_cons E.kt_NoText_NoMatch (fun _ => kitAny_cons E.kt_NoText_NoName (fun _ => kitAny_cons E.kt_NoText_NoPiece (fun _ => kitAny_cons E.kt_NoText_NoWeight (fun _ => rfl) (fun z => by cases z)) (fun z => by cases z)) (fun z => by cases z)) (fun z => by cases z)) (fun z => by cases z), _, rfl, iteF ?_⟩⟩
      refine ⟨_, rfl, .int (n : Int), .ty "bool", _, _, false, rfl, .ty _, .base (.int _), E.kt_i_b, _, rfl, iteF ?_⟩
      exact ⟨_, rfl, q _ (Same.trans s2 (Same.new htp))⟩
/-! ### rows spoilt at a place -/
theorem ahd_take {T r : List Str} {i j : Nat} (h : i ≤ j) (hj : j ≤ T.length) : ahd (T.take j ++ r) i = ahd T i := by
  cases i with
  | zero => rfl
  | succ i =>
    have e : (T.take j ++ r)[i]? = T[i]? := by
      rw [List.getElem?_append_left (by rw [List.length_take]; omega), List.getElem?_take_of_lt (by omega)]
    show (match (T.take j ++ r)[i]? with | some r => (rowOf r).1 | none => "") = (match T[i]? with | some r => (rowOf r).1 | none => "")
    rw [e]
theorem fb_at {k : Int} {T rest : List Str} {j : Nat} {c : Str} (ok : AllOk k T) (hj : j ≤ T.length) (hc : rowOk k (j + 1) (ahd T j) c = false) : FirstBad k (T.take j ++ c :: rest) j := by
  have lt : (T.take j).length = j := by rw [List.length_take]; omega
  refine ⟨c, ?_, fun i r' hi hr' => ?_, by rw [ahd_take (Nat.le_refl _) hj]; exact hc⟩
  · rw [List.getElem?_append_right (by rw [lt]; exact Nat.le_refl _), lt, Nat.sub_self]
    rfl
  · rw [List.getElem?_append_left (by rw [lt]; exact hi), List.getElem?_take_of_lt hi] at hr'
    rw [ahd_take (by omega) hj]
    exact ok i r' hr'
theorem RwN.back {q : Str × Int} (h : RwN q) : rowOf (rowT q) = q := by
  obtain ⟨n, z⟩ := q
  have z1 : 1 ≤ z := h.z1
  exact rowOf_rowT h.nm (by omega) h.z2
abbrev rowsT (k : Nat) (s : DS) : List Str := headT (k : Int) s.g s.t :: (DK.srt s.l).map rowT
section
variable {k : Nat} {s : DS} (W : Wr k s)
include W
theorem Wr.hdn : HdN (k : Int) s.g s.t := by
  obtain ⟨g2, t0, _, _⟩ := W.g2
  have := W.k1
  have := W.k2
  exact ⟨by omega, by omega, W.g0, t0, g2, W.t2⟩
theorem Wr.rwn {q : Str × Int} (hq : q ∈ DK.srt s.l) : RwN q := by
  have h := W.srt.num hq
  exact ⟨W.srt.ns q.1 (List.mem_map.mpr ⟨q, hq, rfl⟩), h.1, h.2⟩
theorem Wr.hd_is : headOf (headT (k : Int) s.g s.t) = some ((k : Int), s.g, s.t) := by
  have h := W.hdn
  exact headOf_headT h.k1 h.k2 h.g0 h.g2 h.t0 h.t2
theorem Wr.okT : AllOk (k : Int) ((DK.srt s.l).map rowT) := text_ok W.srt.O W.srt.ns (fun q hq => W.srt.num hq) (srt_pw s.l)
theorem Wr.rl : (rowsT k s).length ≤ 51 := by
  have := W.srt.O.len
  have := W.k2
  show ((DK.srt s.l).map rowT).length + 1 ≤ 51
  rw [List.length_map]
  have : (DK.srt s.l).length ≤ k := W.srt.O.len
  omega
theorem Wr.row_at {i : Nat} (hi : i < (rowsT k s).length) : ∃ row first rest words, (rowsT k s)[i]? = some row ∧ RowK (decide (i = 0)) row first rest words := by
  cases i with
  | zero => exact ⟨_, _, _, _, rfl, rowK_head W.hdn⟩
  | succ j =>
    have hj : j < (DK.srt s.l).length := by
      have : j + 1 < ((DK.srt s.l).map rowT).length + 1 := hi
      rw [List.length_map] at this
      omega
    refine ⟨rowT (DK.srt s.l)[j], (DK.srt s.l)[j].1, numT (DK.srt s.l)[j].2, [(DK.srt s.l)[j].1, numT (DK.srt s.l)[j].2], ?_, ?_⟩
    · show ((DK.srt s.l).map rowT)[j]? = _
      rw [List.getElem?_map, List.getElem?_eq_getElem hj]
      rfl
    · rw [decide_eq_false (by omega)]
      exact rowK_row (W.rwn (List.getElem_mem hj))
theorem Wr.fine : ∀ r ∈ rowsT k s, Fine 300 r := fun r hr => by
  obtain ⟨i, hi, rfl⟩ := List.getElem_of_mem hr
  obtain ⟨row, first, rest, words, h1, h2⟩ := W.row_at hi
  rw [List.getElem?_eq_getElem hi] at h1
  rw [Option.some.inj h1]
  exact h2.fine
theorem Wr.bad {i : Nat} {c : Str} {rest : List Str} (hi : i < (rowsT k s).length) (hb : Bad (decide (i = 0)) c) : OutR ((rowsT k s).take i ++ c :: rest) (i : Int) := by
  cases i with
  | zero => exact .head hb.1
  | succ j =>
    have hj : j + 1 < ((DK.srt s.l).map rowT).length + 1 := hi
    rw [decide_eq_false (by omega)] at hb
    have hb : RowBad c := by
      have := hb.1
      rwa [if_neg Bool.false_ne_true] at this
    exact .row W.hd_is (fb_at W.okT (by omega) (hb _ _ _))
end
/-- what is said of rows that were spoilt -/
structure SpOk (rs : List Str) (due : Int) : Prop where
  out : OutR rs due
  len : rs.length ≤ 60
  fine : ∀ r ∈ rs, Fine 1000 r
section
variable {k : Nat} {s : DS} (W : Wr k s)
include W
theorem Wr.sp_chg {i : Nat} {c : Str} (b : Nat) (ib : i ≤ b) (hi : i < (rowsT k s).length) (hb : Bad (decide (i = 0)) c) : SpOk ((rowsT k s).take i ++ c :: (rowsT k s).drop b) (i : Int) := by
  have rl : ((DK.srt s.l).map rowT).length + 1 ≤ 51 := W.rl
  refine ⟨W.bad hi hb, by simp only [List.length_append, List.length_take, List.length_cons, List.length_drop]; omega, fun r hr => ?_⟩
  rcases List.mem_append.mp hr with h | h
  · exact (W.fine r (List.mem_of_mem_take h)).le (by decide)
  · rcases List.mem_cons.mp h with rfl | h
    · exact hb.2
    · exact (W.fine r (List.mem_of_mem_drop h)).le (by decide)
theorem Wr.sp_dup {i : Nat} {row : Str} (hr : (rowsT k s)[i]? = some row) : SpOk ((rowsT k s).take i ++ row :: (rowsT k s).drop i) (if i = 0 then 1 else (i : Int) + 1) := by
  have rl : ((DK.srt s.l).map rowT).length + 1 ≤ 51 := W.rl
  refine ⟨?_, by simp only [List.length_append, List.length_take, List.length_cons, List.length_drop]; omega, fun r hr' => ?_⟩
  · cases i with
    | zero =>
      obtain rfl : headT (k : Int) s.g s.t = row := Option.some.inj hr
      rw [if_pos rfl]
      show OutR (headT (k : Int) s.g s.t :: headT (k : Int) s.g s.t :: (DK.srt s.l).map rowT) 1
      exact .row (i := 0) W.hd_is (fb_at (T := (DK.srt s.l).map rowT) (j := 0) W.okT (Nat.zero_le _) (W.hdn.asRow _ _ _))
    | succ j =>
      have hr : ((DK.srt s.l).map rowT)[j]? = some row := hr
      have hj := (List.getElem?_eq_some_iff.mp hr).1
      rw [if_neg (by omega)]
      have e : (rowsT k s).take (j + 1) ++ row :: (rowsT k s).drop (j + 1) = headT (k : Int) s.g s.t :: (((DK.srt s.l).map rowT).take (j + 1) ++ row :: ((DK.srt s.l).map rowT).drop (j + 1)) := by
        show headT (k : Int) s.g s.t :: ((DK.srt s.l).map rowT).take j ++ row :: ((DK.srt s.l).map rowT).drop j = _
        rw [take_snoc hr, List.append_assoc, List.drop_eq_getElem_cons hj]
        have : ((DK.srt s.l).map rowT)[j] = row := (List.getElem?_eq_some_iff.mp hr).2
        rw [this]
        rfl
      rw [e]
      refine .row (i := j + 1) W.hd_is (fb_at W.okT hj ?_)
      rw [ahd_succ hr]
      unfold rowOk
      rw [decide_eq_false (List.lt_irrefl _ : ¬ TL.tl (rowOf row).1 < TL.tl (rowOf row).1)]
      simp
  · rcases List.mem_append.mp hr' with h | h
    · exact (W.fine r (List.mem_of_mem_take h)).le (by decide)
    · rcases List.mem_cons.mp h with rfl | h
      · exact (W.fine r (List.mem_of_getElem? hr)).le (by decide)
      · exact (W.fine r (List.mem_of_mem_drop h)).le (by decide)
theorem Wr.sp_sub {L : Dk} (hs : L.Sublist (DK.srt s.l)) : SpOk (headT (k : Int) s.g s.t :: L.map rowT) (-1) := by
  have hq : ∀ q ∈ L, 1 ≤ q.2 ∧ q.2 ≤ 10 ^ 70 := fun q hq => W.srt.num (hs.subset hq)
  have hn : ∀ n ∈ keys L, nmOk n = true := fun n hn => by
    obtain ⟨q, h, rfl⟩ := List.mem_map.mp hn
    exact W.srt.ns q.1 (List.mem_map.mpr ⟨q, hs.subset h, rfl⟩)
  have ll := hs.length_le
  have o : Ok k L := ⟨(show (keys L).Sublist (keys (DK.srt s.l)) from hs.map _).nodup W.srt.O.nd, fun p hp => W.srt.O.pos p (hs.subset hp), Nat.le_trans ll W.srt.O.len⟩
  have rl := W.rl
  refine ⟨.good W.hd_is (text_ok o hn hq (List.Pairwise.sublist hs (srt_pw s.l))) ?_, ?_, fun r hr => ?_⟩
  · rw [rows_back hn hq]
    have h1 : tot L ≤ tot (DK.srt s.l) := by
      have : ∀ {a b : Dk}, a.Sublist b → (∀ p ∈ b, 0 < p.2) → tot a ≤ tot b := fun {a b} h => by
        induction h with
        | slnil => intro _; exact Int.le_refl _
        | cons x _ ih =>
          intro hp
          have := hp x List.mem_cons_self
          have := ih fun y hy => hp y (List.mem_cons_of_mem _ hy)
          rw [tot_cons]
          omega
        | cons_cons x _ ih =>
          intro hp
          have := ih fun y hy => hp y (List.mem_cons_of_mem _ hy)
          rw [tot_cons, tot_cons]
          omega
      exact this hs W.srt.O.pos
    have := W.srt.sum
    have this : tot (DK.srt s.l) + ((k : Int) + 1) * s.g ≤ s.t := this
    omega
  · have : ((DK.srt s.l).map rowT).length + 1 ≤ 51 := rl
    rw [List.length_map] at this
    rw [List.length_cons, List.length_map]
    omega
  · rcases List.mem_cons.mp hr with rfl | h
    · exact (W.fine _ List.mem_cons_self).le (by decide)
    · obtain ⟨q, hq, rfl⟩ := List.mem_map.mp h
      exact (W.fine _ (List.mem_cons_of_mem _ (List.mem_map.mpr ⟨q, hs.subset hq, rfl⟩))).le (by decide)
theorem Wr.sp_del {i : Nat} (hi : i < (rowsT k s).length) : SpOk ((rowsT k s).take i ++ (rowsT k s).drop (i + 1)) (if i = 0 then 0 else -1) := by
  cases i with
  | zero =>
    rw [if_pos rfl]
    show SpOk ((DK.srt s.l).map rowT) 0
    have rl := W.rl
    have rl : ((DK.srt s.l).map rowT).length + 1 ≤ 51 := rl
    refine ⟨?_, by omega, fun r hr => (W.fine r (List.mem_cons_of_mem _ hr)).le (by decide)⟩
    cases e : DK.srt s.l with
    | nil => exact .none
    | cons q L => exact .head (W.rwn (by rw [e]; exact List.mem_cons_self)).asHead
  | succ j =>
    rw [if_neg (by omega)]
    have e : (rowsT k s).take (j + 1) ++ (rowsT k s).drop (j + 1 + 1) = headT (k : Int) s.g s.t :: ((DK.srt s.l).take j ++ (DK.srt s.l).drop (j + 1)).map rowT := by
      show headT (k : Int) s.g s.t :: ((DK.srt s.l).map rowT).take j ++ ((DK.srt s.l).map rowT).drop (j + 1) = _
      rw [List.map_append, List.map_take, List.map_drop]
      rfl
    rw [e]
    refine W.sp_sub ?_
    conv => rhs; rw [← List.take_append_drop j (DK.srt s.l)]
    refine List.Sublist.append (List.Sublist.refl _) ?_
    rw [← List.drop_drop]
    exact List.drop_sublist _ _
theorem Wr.sp_swap {i : Nat} (hi : i < (rowsT k s).length) : SpOk ((rowsT k s).take i ++ ((rowsT k s).drop i |>.take 2).reverse ++ (rowsT k s).drop (i + 2)) (if i + 1 = (rowsT k s).length then -1 else if i = 0 then 0 else (i : Int) + 1) := by
  have rl := W.rl
  have hfine : ∀ r ∈ (rowsT k s).take i ++ ((rowsT k s).drop i |>.take 2).reverse ++ (rowsT k s).drop (i + 2), Fine 1000 r := fun r hr => by
    rcases List.mem_append.mp hr with h | h
    · rcases List.mem_append.mp h with h | h
      · exact (W.fine r (List.mem_of_mem_take h)).le (by decide)
      · exact (W.fine r (List.mem_of_mem_drop (List.mem_of_mem_take (List.mem_reverse.mp h)))).le (by decide)
    · exact (W.fine r (List.mem_of_mem_drop h)).le (by decide)
  have hlen : ((rowsT k s).take i ++ ((rowsT k s).drop i |>.take 2).reverse ++ (rowsT k s).drop (i + 2)).length ≤ 60 := by
    have rl : ((DK.srt s.l).map rowT).length + 1 ≤ 51 := W.rl
    simp only [List.length_append, List.length_take, List.length_cons, List.length_drop, List.length_reverse]
    omega
  by_cases c : i + 1 = (rowsT k s).length
  · rw [if_pos c]
    have e : (rowsT k s).take i ++ ((rowsT k s).drop i |>.take 2).reverse ++ (rowsT k s).drop (i + 2) = rowsT k s := by
      have h1 : (rowsT k s).drop i = [(rowsT k s)[i]] := by rw [List.drop_eq_getElem_cons hi, c, List.drop_length]
      have h2 : (rowsT k s).drop (i + 2) = [] := List.drop_eq_nil_of_le (by omega)
      rw [h2, List.append_nil]
      conv => rhs; rw [← List.take_append_drop i (rowsT k s)]
      rw [h1]
      rfl
    rw [e]
    exact W.sp_sub (List.Sublist.refl _)
  · rw [if_neg c]
    refine ⟨?_, hlen, hfine⟩
    cases i with
    | zero =>
      rw [if_pos rfl]
      cases e : DK.srt s.l with
      | nil =>
        exfalso
        apply c
        show 0 + 1 = ((DK.srt s.l).map rowT).length + 1
        rw [e]
        rfl
      | cons q L =>
        have hq : q ∈ DK.srt s.l := by rw [e]; exact List.mem_cons_self
        have hh := (W.rwn hq).asHead
        unfold rowsT
        rw [e]
        exact .head hh
    | succ j =>
      rw [if_neg (by omega)]
      have hi' : j + 1 < ((DK.srt s.l).map rowT).length + 1 := hi
      have c' : ¬ j + 1 + 1 = ((DK.srt s.l).map rowT).length + 1 := c
      rw [List.length_map] at hi' c'
      have h1 : (DK.srt s.l)[j]? = some (DK.srt s.l)[j] := List.getElem?_eq_getElem (by omega)
      have h2 : (DK.srt s.l)[j + 1]? = some (DK.srt s.l)[j + 1] := List.getElem?_eq_getElem (by omega)
      have m1 : ((DK.srt s.l).map rowT)[j]? = some (rowT (DK.srt s.l)[j]) := by rw [List.getElem?_map, h1]; rfl
      have m2 : ((DK.srt s.l).map rowT)[j + 1]? = some (rowT (DK.srt s.l)[j + 1]) := by rw [List.getElem?_map, h2]; rfl
      have n1 := W.rwn (List.getElem_mem (show j < (DK.srt s.l).length by omega))
      have n2 := W.rwn (List.getElem_mem (show j + 1 < (DK.srt s.l).length by omega))
      have o1 : rowOf (rowT (DK.srt s.l)[j]) = (DK.srt s.l)[j] := n1.back
      have o2 : rowOf (rowT (DK.srt s.l)[j + 1]) = (DK.srt s.l)[j + 1] := n2.back
      have q1 := rowOk_iff.mp (W.okT j _ m1)
      have q2 := rowOk_iff.mp (W.okT (j + 1) _ m2)
      rw [ahd_succ m1, o1, o2] at q2
      rw [o1] at q1
      generalize rowT (DK.srt s.l)[j] = r1 at *
      generalize rowT (DK.srt s.l)[j + 1] = r2 at *
      have e : (rowsT k s).take (j + 1) ++ ((rowsT k s).drop (j + 1) |>.take 2).reverse ++ (rowsT k s).drop (j + 1 + 2) = headT (k : Int) s.g s.t :: (((DK.srt s.l).map rowT).take j ++ r2 :: r1 :: ((DK.srt s.l).map rowT).drop (j + 2)) := by
        show headT (k : Int) s.g s.t :: ((DK.srt s.l).map rowT).take j ++ (((DK.srt s.l).map rowT).drop j |>.take 2).reverse ++ ((DK.srt s.l).map rowT).drop (j + 2) = _
        have l1 := List.getElem?_eq_some_iff.mp m1
        have l2 := List.getElem?_eq_some_iff.mp m2
        rw [List.drop_eq_getElem_cons l1.1, List.drop_eq_getElem_cons l2.1, l1.2, l2.2]
        simp
      rw [e]
      refine .row (i := j + 1) W.hd_is ⟨r1, ?_, fun i r' hi3 hr' => ?_, ?_⟩
      · have lt : (((DK.srt s.l).map rowT).take j).length = j := by rw [List.length_take, List.length_map]; omega
        rw [List.getElem?_append_right (by rw [lt]; omega), lt, Nat.add_sub_cancel_left]
        rfl
      · have lt : (((DK.srt s.l).map rowT).take j).length = j := by rw [List.length_take, List.length_map]; omega
        rcases Nat.lt_succ_iff_lt_or_eq.mp hi3 with h | h
        · rw [List.getElem?_append_left (by rw [lt]; exact h), List.getElem?_take_of_lt h] at hr'
          rw [ahd_take (by omega) (by rw [List.length_map]; omega)]
          exact W.okT i r' hr'
        · subst h
          rw [List.getElem?_append_right (by rw [lt]; exact Nat.le_refl _), lt, Nat.sub_self] at hr'
          obtain rfl : r2 = r' := Option.some.inj hr'
          rw [ahd_take (Nat.le_refl _) (by rw [List.length_map]; omega)]
          refine rowOk_iff.mpr ⟨by omega, by rw [o2]; exact q2.2.1, ?_, by rw [o2]; exact q2.2.2.2⟩
          rw [o2]
          exact List.lt_trans q1.2.2.1 q2.2.2.1
      · have ea : ahd (((DK.srt s.l).map rowT).take j ++ r2 :: r1 :: ((DK.srt s.l).map rowT).drop (j + 2)) (j + 1) = (rowOf r2).1 := by
          refine ahd_succ ?_
          have lt : (((DK.srt s.l).map rowT).take j).length = j := by rw [List.length_take, List.length_map]; omega
          rw [List.getElem?_append_right (by rw [lt]; exact Nat.le_refl _), lt, Nat.sub_self]
          rfl
        rw [ea, o2]
        unfold rowOk
        rw [o1, decide_eq_false (fun z => List.lt_irrefl _ (List.lt_trans z q2.2.2.1))]
        simp
end
theorem cutV_from (xs : List V) (n : Nat) : cutV xs (some (n : Int)) none = xs.drop n := by
  unfold cutV
  rw [HT.sIx_none, HT.sIx_nat]
  by_cases h : n ≤ xs.length
  · rw [Nat.min_eq_left h, List.take_of_length_le (by rw [List.length_drop]; omega)]
  · rw [Nat.min_eq_right (by omega), Nat.sub_self, List.take_zero, List.drop_eq_nil_of_le (by omega)]
theorem cutV_to (xs : List V) (n : Nat) : cutV xs none (some (n : Int)) = xs.take n := by
  unfold cutV
  rw [HT.sIx_none, HT.sIx_nat, List.drop_zero, Nat.sub_zero, List.take_eq_take_iff]
  omega
theorem cat3_gen {K' : PySem.W.Frag} {σ : L2.St} {H : Hp} {rp : Addr} {rows : List Str} {i b : Nat} {c : Str} {tv ta tc tb : TE} {Q : VK} (h0 : ∀ (H' : Hp) (Q' : VK), Q' (.ref rp) H' → tv σ H' Q') (h1 : ∀ (H' : Hp) (Q' : VK), Q' (.int (i : Int)) H' → ta σ H' Q') (hR : H rp = some (.lst (rows.map V.str))) (hl : rows.length ≤ 60)
    (hc : ∀ (H' : Hp) (Q' : VK), Same H H' → (∀ H'', Same H' H'' → Q' (.str c) H'') → tc σ H' Q') (hb : ∀ (H' : Hp) (Q' : VK), Q' (.int (b : Int)) H' → tb σ H' Q')
    (q : ∀ (z : Addr) (H' : Hp), Same H H' → H z = none → H' z = some (.lst ((rows.take i ++ c :: rows.drop b).map V.str)) → Q (.ref z) H') :
    tOp rCat (tOp rCat (tSl (rSlL K') tv tNoPart (tPart ta)) (tLst (tCons tc tNil))) (tSl (rSlL K') tv (tPart tb) tNoPart) σ H Q := by
  refine h0 _ _ (h1 _ _ ⟨_, rfl, rp, _, rfl, SqL.of hR, fun u hu => ?_⟩)
  rw [cutV_to, ← List.map_take]
  have s1 := Same.new (H := H) (o := .lst ((rows.take i).map V.str)) hu
  have hU : (upd H u (.lst ((rows.take i).map V.str))) u = some (.lst ((rows.take i).map V.str)) := upd_same
  generalize upd H u (.lst ((rows.take i).map V.str)) = H1 at s1 hU ⊢
  refine hc _ _ s1 fun H2 s2 => ⟨by show 1 ≤ sizeLine; decide, fun v hv => ?_⟩
  have s3 := Same.new (H := H2) (o := .lst [.str c]) hv
  have hV : (upd H2 v (.lst [.str c])) v = some (.lst [.str c]) := upd_same
  generalize upd H2 v (.lst [.str c]) = H3 at s3 hV ⊢
  have z60 : (200 : Nat) ≤ sizeLine := by decide
  refine ⟨u, v, _, _, rfl, rfl, s3 _ _ (s2 _ _ hU), hV, ?_, fun w hw => ?_⟩
  · rw [List.length_map, List.length_take]
    show _ + 1 ≤ _
    omega
  have s4 := Same.new (H := H3) (o := .lst ((rows.take i).map V.str ++ [.str c])) hw
  have hW : (upd H3 w (.lst ((rows.take i).map V.str ++ [.str c]))) w = some (.lst ((rows.take i).map V.str ++ [.str c])) := upd_same
  generalize upd H3 w (.lst ((rows.take i).map V.str ++ [.str c])) = H4 at s4 hW ⊢
  have s14 := Same.trans s1 (Same.trans s2 (Same.trans s3 s4))
  refine h0 _ _ (hb _ _ ⟨_, rfl, rp, _, rfl, SqL.of (s14 _ _ hR), fun x hx => ?_⟩)
  rw [cutV_from, ← List.map_drop]
  have s5 := Same.new (H := H4) (o := .lst ((rows.drop b).map V.str)) hx
  have hX : (upd H4 x (.lst ((rows.drop b).map V.str))) x = some (.lst ((rows.drop b).map V.str)) := upd_same
  generalize upd H4 x (.lst ((rows.drop b).map V.str)) = H5 at s5 hX ⊢
  refine ⟨w, x, _, _, rfl, rfl, s5 _ _ hW, hX, ?_, fun y hy => ?_⟩
  · rw [List.length_append, List.length_map, List.length_take, List.length_map, List.length_drop]
    show _ + 1 + _ ≤ _
    omega
  have s15 := Same.trans s14 s5
  refine q y _ (Same.trans s15 (Same.new hy)) (s15.free hy) ?_
  rw [upd_same]
  simp
theorem cat3_at {K' : PySem.W.Frag} {σ : L2.St} {H : Hp} {rp : Addr} {rows : List Str} {i b : Nat} {c : Str} {tc tb : TE} {Q : VK} (h0 : σ[0]? = some (some (.ref rp))) (h1 : σ[1]? = some (some (.int (i : Int)))) (hR : H rp = some (.lst (rows.map V.str))) (hl : rows.length ≤ 60)
    (hc : ∀ (H' : Hp) (Q' : VK), Same H H' → (∀ H'', Same H' H'' → Q' (.str c) H'') → tc σ H' Q') (hb : ∀ (H' : Hp) (Q' : VK), Q' (.int (b : Int)) H' → tb σ H' Q')
    (q : ∀ (z : Addr) (H' : Hp), Same H H' → H z = none → H' z = some (.lst ((rows.take i ++ c :: rows.drop b).map V.str)) → Q (.ref z) H') :
    tOp rCat (tOp rCat (tSl (rSlL K') (tVar 0) tNoPart (tPart (tVar 1))) (tLst (tCons tc tNil))) (tSl (rSlL K') (tVar 0) (tPart tb) tNoPart) σ H Q :=
  cat3_gen (fun _ _ h => ⟨_, h0, h⟩) (fun _ _ h => ⟨_, h1, h⟩) hR hl hc hb q
theorem join_bd {ys : List Str} (h : ∀ y ∈ ys, y.length ≤ 100) (hl : ys.length ≤ 10) : (ys.map fun x => x.length).sum + ys.length * (" " : Str).length ≤ 16777216 := by
  have : ∀ l : List Str, (∀ z ∈ l, z.length ≤ 100) → (l.map fun x => x.length).sum ≤ 100 * l.length := by
    intro l
    induction l with
    | nil => intro _; exact Nat.le_refl _
    | cons x l ih =>
      intro h
      have h1 := h x (List.mem_cons_self ..)
      have h2 := ih fun z hz => h z (List.mem_cons_of_mem _ hz)
      rw [List.map_cons, List.sum_cons, List.length_cons]
      omega
  have h1 := this ys h
  have h2 : (" " : Str).length = 1 := by decide +kernel
  rw [h2]
  omega
theorem cutV_init (xs : List V) : cutV xs none (some (-1)) = xs.dropLast := by
  unfold cutV
  have e : HT.sIx xs.length xs.length (some (-1)) = xs.length - 1 := by
    show (if ((-1 : Int)) < 0 then (-1 + (xs.length : Int)).toNat else min (-1 : Int).toNat xs.length) = _
    rw [if_pos (by decide)]
    omega
  rw [e, HT.sIx_none, List.drop_zero, Nat.sub_zero, List.dropLast_eq_take]
theorem pick2 (b : Bool) (x y : V) : atI [x, y] (if b = true then 1 else 0) = some (if b = true then y else x) := by cases b <;> rfl
def sp_spoilt : Sp := fun vs H Q _ => ∃ (rp : Addr) (i : Nat) (wy : Int) (k : Nat) (s : DS), vs = [.ref rp, .int (i : Int), .int wy, .str "abcdefghi"] ∧ H rp = some (.lst ((rowsT k s).map V.str)) ∧ Wr k s ∧ i < (rowsT k s).length ∧ 0 ≤ wy ∧ wy < 19 ∧
  ∀ (p z : Addr) (H' : Hp) (rs : List Str) (due : Int), Same H H' → H' p = some (.tup [.ref z, .int due]) → H' z = some (.lst (rs.map V.str)) → SpOk rs due → Q (.ref p) H'
theorem ok_spoilt (E : EnvD K mg) : FnOk P w K mg base CX0 1 E.D_spoilt.a E.D_spoilt.fd P_spoilt (sp_spoilt) := by
  refine E.D_spoilt.F.ok sc_spoilt (fun vs H Q Ex h => ?_) (fun cdv A outer s0 H vs Q Ex hr h => ?_)
  · obtain ⟨rp, i, wy, k, s, rfl, _⟩ := h
    rfl
  · obtain ⟨rp, i, wy, k, s, rfl, hR, W, hi, y0, y1, qq⟩ := h
    obtain ⟨row, first, rest, words, hrow, RK⟩ := W.row_at hi
    have rl : (rowsT k s).length ≤ 60 := Nat.le_trans W.rl (by decide)
    have fin : ∀ {z : Addr} {H1 : Hp} {rs : List Str} {due : Int}, Same H H1 → H1 z = some (.lst (rs.map V.str)) → SpOk rs due → ∀ p, H1 p = none → Q (.ref p) (upd H1 p (.tup [.ref z, .int due])) :=
      fun {z H1 rs due} s1 hz ok p hp => qq p z _ rs due (Same.trans s1 (Same.new hp)) upd_same (by rw [upd_ne (ne_of_none hz hp)]; exact hz) ok
    have sp := fun (c : Str) (b : Nat) (ib : i ≤ b) => W.sp_chg (i := i) (c := c) b ib hi
    have spD := W.sp_dup hrow
    have spL := W.sp_del hi
    have spS := W.sp_swap hi
    have hrV : ((rowsT k s).map V.str)[i]? = some (.str row) := by rw [List.getElem?_map, hrow]; rfl
    have ll : ((rowsT k s).map V.str).length = (rowsT k s).length := List.length_map _
    have x_bad : Bad (decide (i = 0)) "x" := by
      have f : Fine 1000 ("x" : Str) := (fl (by decide +kernel)).le (by decide)
      cases e : decide (i = 0) with
      | true => exact .hd (head_one (by decide +kernel)) f
      | false => exact .rw (bad_one (by decide +kernel)) f
    have e_bad : Bad (decide (i = 0)) "" := by
      have f : Fine 1000 ("" : Str) := (fl (by decide +kernel)).le (by decide)
      cases e : decide (i = 0) with
      | true => exact .hd (head_one (by decide +kernel)) f
      | false => exact .rw (bad_one (by decide +kernel)) f
    have RK0 := rowK_head W.hdn
    have h0V : ((rowsT k s).map V.str)[0]? = some (.str (headT (k : Int) s.g s.t)) := rfl
    have b18 : Bad true (Txt.join blS ([("desk" : Str), "51"] ++ [("desk" : Str), numT (k : Int), numT s.g, numT s.t].drop 2)) := by
      have h := W.hdn
      have fg := (fine_num h.g0 h.g2).le (show 71 ≤ 100 by decide)
      have ft := (fine_num h.t0 h.t2).le (show 71 ≤ 100 by decide)
      refine .hd (h.w17 (X := "51") (.inr (by decide +kernel)) (by decide +kernel)) ?_
      show Fine 1000 (Txt.join blS [("desk" : Str), "51", numT s.g, numT s.t])
      rw [join_four]
      exact ((fl (x := "desk") (by decide +kernel)).app (fine_bl.app ((fl (x := "51") (by decide +kernel)).app (fine_bl.app (fg.app (fine_bl.app ft)))))).le (by decide)
    have sp18 := W.sp_chg (i := 0) (c := Txt.join blS ([("desk" : Str), "51"] ++ [("desk" : Str), numT (k : Int), numT s.g, numT s.t].drop 2)) 1 (by decide) (Nat.lt_of_le_of_lt (Nat.zero_le _) hi) b18
    have l0 : 0 < (rowsT k s).length := Nat.lt_of_le_of_lt (Nat.zero_le _) hi
    generalize rowsT k s = rows at *
    generalize headT (k : Int) s.g s.t = hd0 at *
    generalize [("desk" : Str), numT (k : Int), numT s.g, numT s.t] = wd at *
    generalize decide (i = 0) = z0 at *
    have big : (2000 : Nat) ≤ sizeLine := by decide
    refine ⟨_, (pss_cons (ps_set (i := 4) sc_spoilt.nd rfl (by first | exact Or.inl rfl | exact Or.inr rfl) (pe_ix ix_list (pv 0) (pv 1) (fun _ _ => rfl)))
  (pss_ifTok (pt1_int op_eq (pv 2))
  (psst_cons (PST.of (ps_ret (pe_tup (pa_cons (pe_op op_cat (pe_op op_cat (pe_slice sl_list (pv 0) po_none (po_some (pv 1))) (pe_lst (pa_cons pe_str pa_nil))) (pe_slice sl_list (pv 0) (po_some (pv 1)) po_none)) (pa_cons (pv 1) pa_nil)))))
  CwR.psst_nil)
  CwR.psst_nil
  (psst_cons (PST.of (ps_if (pt_cmpR op_eq (pv 2) pe_int (nomark _))
  (pss_one (ps_ret (pe_tup (pa_cons (pe_op op_cat (pe_op op_cat (pe_slice sl_list (pv 0) po_none (po_some (pv 1))) (pe_lst (pa_cons (pv 4) pa_nil))) (pe_slice sl_list (pv 0) (po_some (pv 1)) po_none)) (pa_cons (pe_ix ix_list (pe_lst (pa_cons (pe_op op_add (pv 1) pe_int) (pa_cons pe_int pa_nil))) (pe_callTy call_int1 rfl E.n_int (by decide +kernel) (pa_cons (pe_cmpR op_eq (pv 1) pe_int (nomark _)) pa_nil)) (fun _ _ => rfl)) pa_nil)))))
  pss_nil))
  (psst_cons (PST.of (ps_if (pt_cmpR op_eq (pv 2) pe_int (nomark _))
  (pss_one (ps_ret (pe_tup (pa_cons (pe_op op_cat (pe_op op_cat (pe_slice sl_list (pv 0) po_none (po_some (pv 1))) (pe_lst (pa_cons pe_str pa_nil))) (pe_slice sl_list (pv 0) (po_some (pv 1)) po_none)) (pa_cons (pv 1) pa_nil)))))
  pss_nil))
  (psst_cons (PST.of (ps_if (pt_cmpR op_eq (pv 2) pe_int (nomark _))
  (pss_one (ps_ret (pe_tup (pa_cons (pe_op op_cat (pe_slice sl_list (pv 0) po_none (po_some (pv 1))) (pe_slice sl_list (pv 0) (po_some (pe_op op_add (pv 1) pe_int)) po_none)) (pa_cons (pe_ix ix_list (pe_lst (pa_cons (pe_un un_neg pe_int) (pa_cons pe_int pa_nil))) (pe_callTy call_int1 rfl E.n_int (by decide +kernel) (pa_cons (pe_cmpR op_eq (pv 1) pe_int (nomark _)) pa_nil)) (fun _ _ => rfl)) pa_nil)))))
  pss_nil))
  (psst_cons (PST.of (ps_if (pt_cmpR op_eq (pv 2) pe_int (nomark _))
  (pss_cons (ps_set (i := 6) sc_spoilt.nd rfl (by first | exact Or.inl rfl | exact Or.inr rfl) (pe_ix ix_list (pe_lst (pa_cons (pe_op op_add (pv 1) pe_int) (pa_cons pe_int pa_nil))) (pe_callTy call_int1 rfl E.n_int (by decide +kernel) (pa_cons (pe_cmpR op_eq (pv 1) pe_int (nomark _)) pa_nil)) (fun _ _ => rfl)))
  (pss_one (ps_ret (pe_tup (pa_cons (pe_op op_cat (pe_op op_cat (pe_slice sl_list (pv 0) po_none (po_some (pv 1))) (pe_revL (pe_slice sl_list (pv 0) (po_some (pv 1)) (po_some (pe_op op_add (pv 1) pe_int))))) (pe_slice sl_list (pv 0) (po_some (pe_op op_add (pv 1) pe_int)) po_none)) (pa_cons (pe_ix ix_list (pe_lst (pa_cons (pv 6) (pa_cons (pe_un un_neg pe_int) pa_nil))) (pe_callTy call_int1 rfl E.n_int (by decide +kernel) (pa_cons (pe_cmpR op_eq (pe_op op_add (pv 1) pe_int) (pe_callB call_len_seq rfl E.n_len (by decide +kernel) (pa_cons (pv 0) pa_nil)) (nomark _)) pa_nil)) (fun _ _ => rfl)) pa_nil))))))
  pss_nil))
  (psst_cons (PST.of (ps_if (pt_cmpR op_eq (pv 2) pe_int (nomark _))
  (pss_cons (ps_set (i := 7) sc_spoilt.nd rfl (by first | exact Or.inl rfl | exact Or.inr rfl) (pe_split (pv 4) pe_str))
  (pss_one (ps_ret (pe_tup (pa_cons (pe_op op_cat (pe_op op_cat (pe_slice sl_list (pv 0) po_none (po_some (pv 1))) (pe_lst (pa_cons (pe_join pe_str (pe_op op_cat (pe_op op_cat (pe_slice sl_list (pv 7) po_none (po_some pe_int)) (pe_lst (pa_cons pe_str pa_nil))) (pe_slice sl_list (pv 7) (po_some pe_int) po_none))) pa_nil))) (pe_slice sl_list (pv 0) (po_some (pe_op op_add (pv 1) pe_int)) po_none)) (pa_cons (pv 1) pa_nil))))))
  pss_nil))
  (psst_cons (PST.of (ps_if (pt_cmpR op_eq (pv 2) pe_int (nomark _))
  (pss_one (ps_ret (pe_tup (pa_cons (pe_op op_cat (pe_lst (pa_cons (pe_join pe_str (pe_op op_cat (pe_lst (pa_cons pe_str (pa_cons pe_str pa_nil))) (pe_slice sl_list (pe_split (pe_ix ix_list (pv 0) pe_int (fun _ _ => rfl)) pe_str) (po_some pe_int) po_none))) pa_nil)) (pe_slice sl_list (pv 0) (po_some pe_int) po_none)) (pa_cons pe_int pa_nil)))))
  pss_nil))
  (psst_cut (pst_set (i := 5) sc_spoilt.nd rfl (by first | exact Or.inl rfl | exact Or.inr rfl) (pet_ix ix_list (pet_lst (pat_cons (CwR.PET.of (pe_op op_add_str (pv 4) pe_str)) (pat_cons (CwR.PET.of (pe_op op_add_str pe_str (pv 4))) (pat_cons (pet_repl1 (c := 32) (by decide +kernel) (pv 4)) (pat_cons (CwR.PET.of (pe_op op_add_str (pv 4) pe_str)) (pat_cons (pet_repl1 (c := 32) (by decide +kernel) (pv 4)) pat_nil)))))) (pe_op op_mod (pe_op op_sub (pv 2) pe_int) pe_int) (fun _ _ => rfl)))
  (psst_cut (CwR.pst_if (pt_cmpR op_gt (pv 2) pe_int (nomark _))
  (psst_cons (pst_set (i := 8) sc_spoilt.nd rfl (by first | exact Or.inl rfl | exact Or.inr rfl) (pet_lst (pat_cons (pet_repl1 (c := 32) (by decide +kernel) (pv 4)) (pat_cons (CwR.PET.of (pe_upper (pv 4))) (pat_cons (CwR.PET.of (pe_op op_add_str (pv 4) pe_str)) (pat_cons (CwR.PET.of (pe_ix ix_list (pe_split (pv 4) pe_str) pe_int (fun _ _ => rfl))) pat_nil))))))
  (psst_cons (pst_set (i := 5) sc_spoilt.nd rfl (by first | exact Or.inl rfl | exact Or.inr rfl) (pet_ix ix_list (CwR.pet_op op_cat (CwR.PET.of (pv 8)) (pet_lst (pat_cons (pet_repl1 (c := 32) (by decide +kernel) (pv 4)) pat_nil))) (pe_op op_mod (pe_op op_sub (pv 2) pe_int) pe_int) (fun _ _ => rfl)))
  CwR.psst_nil))
  CwR.psst_nil)
  (psst_cut (PST.of (ps_if (pt_cmpR op_eq (pv 2) pe_int (nomark _))
  (pss_one (ps_set (i := 5) sc_spoilt.nd rfl (by first | exact Or.inl rfl | exact Or.inr rfl) (pe_join pe_str (pe_op op_cat (pe_slice sl_list (pe_split (pv 4) pe_str) po_none (po_some (pe_un un_neg pe_int))) (pe_lst (pa_cons (pe_op op_add_str (pe_op op_add_str pe_str (pe_op op_mulB pe_str pe_int)) pe_str) pa_nil))))))
  pss_nil))
  (psst_cut (PST.of (ps_if (pt_cmpR op_eq (pv 2) pe_int (nomark _))
  (pss_one (ps_set (i := 5) sc_spoilt.nd rfl (by first | exact Or.inl rfl | exact Or.inr rfl) (pe_join pe_str (pe_op op_cat (pe_lst (pa_cons (pv 3) pa_nil)) (pe_slice sl_list (pe_split (pv 4) pe_str) (po_some pe_int) po_none)))))
  pss_nil))
  (psst_cons (PST.of (ps_ret (pe_tup (pa_cons (pe_op op_cat (pe_op op_cat (pe_slice sl_list (pv 0) po_none (po_some (pv 1))) (pe_lst (pa_cons (pv 5) pa_nil))) (pe_slice sl_list (pv 0) (po_some (pe_op op_add (pv 1) pe_int)) po_none)) (pa_cons (pv 1) pa_nil)))))
  CwR.psst_nil))))))))))))), ?_⟩
    refine ⟨_, rfl, _, rfl, rp, _, _, .str row, rfl, rfl, SqL.of hR, atI_nat hrV, ?_⟩
    refine ⟨_, rfl, rfl, _, rfl, ?_⟩
    by_cases w0 : wy = 0
    · refine iteT' (decide_eq_true (congrArg V.int w0)) (cat3_at (c := "x") (b := i) rfl rfl hR rl (fun _ _ _ h => h _ (fun _ _ h => h)) (fun _ _ h => ⟨_, rfl, h⟩) fun z H1 s1 _ hz => ⟨_, rfl, by show 2 ≤ sizeLine; decide, fun p hp => fin s1 hz (sp _ _ (Nat.le_refl _) x_bad) p hp⟩)
    refine iteF' (decide_eq_false fun e => w0 (V.int.inj e)) ?_
    refine ⟨_, rfl, rfl, _, rfl, ?_⟩
    by_cases w1 : wy = 1
    · refine iteT' (decide_eq_true (congrArg V.int w1)) (cat3_at (c := row) (b := i) rfl rfl hR rl (fun H' _ _ h => ⟨_, rfl, h _ (fun _ _ h => h)⟩) (fun _ _ h => ⟨_, rfl, h⟩) fun z H1 s1 _ hz => ?_)
      refine ⟨_, rfl, _, _, rfl, rfl, by show 2 ≤ sizeLine; decide, fun dl hdl => ⟨_, rfl, rfl, .inr ⟨_, rfl, dl, _, _, _, rfl, rfl, SqL.of upd_same, pick2 _ _ _, ?_⟩⟩⟩
      have s2 := Same.new (H := H1) (o := .lst [.int ((i : Int) + 1), .int 1]) hdl
      have e : (if decide (V.int (i : Int) = V.int 0) = true then V.int 1 else V.int ((i : Int) + 1)) = .int (if i = 0 then 1 else (i : Int) + 1) := by
        by_cases c : i = 0
        · subst c; rfl
        · rw [if_neg c, if_neg]
          intro z
          have := V.int.inj (of_decide_eq_true z)
          omega
      rw [e]
      exact ⟨by show 2 ≤ sizeLine; decide, fun p hp => fin (Same.trans s1 s2) (s2 _ _ hz) spD p hp⟩
    refine iteF' (decide_eq_false fun e => w1 (V.int.inj e)) ?_
    refine ⟨_, rfl, rfl, _, rfl, ?_⟩
    by_cases w2 : wy = 2
    · refine iteT' (decide_eq_true (congrArg V.int w2)) (cat3_at (c := "") (b := i) rfl rfl hR rl (fun _ _ _ h => h _ (fun _ _ h => h)) (fun _ _ h => ⟨_, rfl, h⟩) fun z H1 s1 _ hz => ⟨_, rfl, by show 2 ≤ sizeLine; decide, fun p hp => fin s1 hz (sp _ _ (Nat.le_refl _) e_bad) p hp⟩)
    refine iteF' (decide_eq_false fun e => w2 (V.int.inj e)) ?_
    refine ⟨_, rfl, rfl, _, rfl, ?_⟩
    by_cases w15 : wy = 15
    · refine iteT' (decide_eq_true (congrArg V.int w15)) ⟨_, rfl, _, rfl, _, rfl, rp, _, rfl, SqL.of hR, fun u hu => ?_⟩
      rw [cutV_to, ← List.map_take]
      have s1 := Same.new (H := H) (o := .lst ((rows.take i).map V.str)) hu
      have hU : (upd H u (.lst ((rows.take i).map V.str))) u = some (.lst ((rows.take i).map V.str)) := upd_same
      generalize upd H u (.lst ((rows.take i).map V.str)) = H1 at s1 hU ⊢
      refine ⟨_, rfl, _, rfl, _, _, rfl, rfl, _, rfl, rp, _, rfl, SqL.of (s1 _ _ hR), fun x hx => ?_⟩
      rw [show (i : Int) + 1 = ((i + 1 : Nat) : Int) from rfl, cutV_from, ← List.map_drop]
      have s2 := Same.new (H := H1) (o := .lst ((rows.drop (i + 1)).map V.str)) hx
      have hX : (upd H1 x (.lst ((rows.drop (i + 1)).map V.str))) x = some (.lst ((rows.drop (i + 1)).map V.str)) := upd_same
      generalize upd H1 x (.lst ((rows.drop (i + 1)).map V.str)) = H2 at s2 hX ⊢
      refine ⟨u, x, _, _, rfl, rfl, s2 _ _ hU, hX, ?_, fun y hy => ?_⟩
      · rw [List.length_map, List.length_take, List.length_map, List.length_drop]
        exact Nat.le_trans (by omega : _ ≤ 200) (by decide)
      have s3 := Same.new (H := H2) (o := .lst ((rows.take i).map V.str ++ (rows.drop (i + 1)).map V.str)) hy
      have hY : (upd H2 y (.lst ((rows.take i).map V.str ++ (rows.drop (i + 1)).map V.str))) y = some (.lst ((rows.take i ++ rows.drop (i + 1)).map V.str)) := by rw [upd_same, List.map_append]
      generalize upd H2 y (.lst ((rows.take i).map V.str ++ (rows.drop (i + 1)).map V.str)) = H3 at s3 hY ⊢
      refine ⟨_, rfl, by show 2 ≤ sizeLine; decide, fun dl hdl => ⟨_, rfl, rfl, .inr ⟨_, rfl, dl, _, _, _, rfl, rfl, SqL.of upd_same, pick2 _ _ _, ?_⟩⟩⟩
      have s4 := Same.new (H := H3) (o := .lst [.int (-1), .int 0]) hdl
      have e : (if decide (V.int (i : Int) = V.int 0) = true then V.int 0 else V.int (-1)) = .int (if i = 0 then 0 else -1) := by
        by_cases c : i = 0
        · subst c; rfl
        · rw [if_neg c, if_neg]
          intro z
          have := V.int.inj (of_decide_eq_true z)
          omega
      show tNil _ _ _
      rw [e]
      exact ⟨by show 2 ≤ sizeLine; decide, fun p hp => fin (Same.trans s1 (Same.trans s2 (Same.trans s3 s4))) (s4 _ _ hY) spL p hp⟩
    refine iteF' (decide_eq_false fun e => w15 (V.int.inj e)) ?_
    refine ⟨_, rfl, rfl, _, rfl, ?_⟩
    by_cases w16 : wy = 16
    · refine iteT' (decide_eq_true (congrArg V.int w16)) ⟨_, rfl, _, _, rfl, rfl, by show 2 ≤ sizeLine; decide, fun dl hdl => ⟨_, rfl, rfl, .inr ⟨_, rfl, dl, _, _, _, rfl, rfl, SqL.of upd_same, pick2 _ _ _, ?_⟩⟩⟩
      have s0 := Same.new (H := H) (o := .lst [.int ((i : Int) + 1), .int 0]) hdl
      have e : (if decide (V.int (i : Int) = V.int 0) = true then V.int 0 else V.int ((i : Int) + 1)) = .int (if i = 0 then 0 else (i : Int) + 1) := by
        by_cases c : i = 0
        · subst c; rfl
        · rw [if_neg c, if_neg]
          intro z
          have := V.int.inj (of_decide_eq_true z)
          omega
      rw [e]
      generalize (if i = 0 then (0 : Int) else (i : Int) + 1) = d1 at spS ⊢
      generalize upd H dl (.lst [.int ((i : Int) + 1), .int 0]) = H0 at s0 ⊢
      refine ⟨_, rfl, _, rfl, _, rfl, rp, _, rfl, SqL.of (s0 _ _ hR), fun u hu => ?_⟩
      rw [cutV_to, ← List.map_take]
      have s1 := Same.new (H := H0) (o := .lst ((rows.take i).map V.str)) hu
      have hU : (upd H0 u (.lst ((rows.take i).map V.str))) u = some (.lst ((rows.take i).map V.str)) := upd_same
      generalize upd H0 u (.lst ((rows.take i).map V.str)) = H1 at s1 hU ⊢
      have s01 := Same.trans s0 s1
      refine ⟨_, rfl, _, rfl, _, rfl, _, rfl, _, _, rfl, rfl, _, rfl, rp, _, rfl, SqL.of (s01 _ _ hR), fun v hv => ?_⟩
      have ec : cutV (rows.map V.str) (some (i : Int)) (some ((i : Int) + 2)) = ((rows.drop i).take 2).map V.str := by
        rw [show (i : Int) + 2 = ((i + 2 : Nat) : Int) from rfl]
        unfold cutV
        rw [HT.sIx_nat, HT.sIx_nat, ll, Nat.min_eq_left (by omega : i ≤ rows.length), List.map_take, List.map_drop, List.take_eq_take_iff, List.length_drop, ll]
        omega
      rw [ec]
      refine ⟨v, _, rfl, SqL.of upd_same, fun w hw => ?_⟩
      rw [← List.map_reverse]
      have s2 : Same H1 (upd (upd H1 v (.lst (((rows.drop i).take 2).map V.str))) w (.lst (((rows.drop i).take 2).reverse.map V.str))) := Same.trans (Same.new hv) (Same.new hw)
      have hW : (upd (upd H1 v (.lst (((rows.drop i).take 2).map V.str))) w (.lst (((rows.drop i).take 2).reverse.map V.str))) w = some (.lst (((rows.drop i).take 2).reverse.map V.str)) := upd_same
      generalize upd (upd H1 v (.lst (((rows.drop i).take 2).map V.str))) w (.lst (((rows.drop i).take 2).reverse.map V.str)) = H2 at s2 hW ⊢
      refine ⟨u, w, _, _, rfl, rfl, s2 _ _ hU, hW, ?_, fun x hx => ?_⟩
      · rw [List.length_map, List.length_take, List.length_map, List.length_reverse, List.length_take]
        exact Nat.le_trans (by omega : _ ≤ 200) (by decide)
      have s3 := Same.new (H := H2) (o := .lst ((rows.take i).map V.str ++ ((rows.drop i).take 2).reverse.map V.str)) hx
      have hX : (upd H2 x (.lst ((rows.take i).map V.str ++ ((rows.drop i).take 2).reverse.map V.str))) x = some (.lst ((rows.take i).map V.str ++ ((rows.drop i).take 2).reverse.map V.str)) := upd_same
      generalize upd H2 x (.lst ((rows.take i).map V.str ++ ((rows.drop i).take 2).reverse.map V.str)) = H3 at s3 hX ⊢
      have s03 := Same.trans s01 (Same.trans s2 s3)
      refine ⟨_, rfl, _, rfl, _, _, rfl, rfl, _, rfl, rp, _, rfl, SqL.of (s03 _ _ hR), fun y hy => ?_⟩
      rw [show (i : Int) + 2 = ((i + 2 : Nat) : Int) from rfl, cutV_from, ← List.map_drop]
      have s4 := Same.new (H := H3) (o := .lst ((rows.drop (i + 2)).map V.str)) hy
      have hY : (upd H3 y (.lst ((rows.drop (i + 2)).map V.str))) y = some (.lst ((rows.drop (i + 2)).map V.str)) := upd_same
      generalize upd H3 y (.lst ((rows.drop (i + 2)).map V.str)) = H4 at s4 hY ⊢
      refine ⟨x, y, _, _, rfl, rfl, s4 _ _ hX, hY, ?_, fun z hz => ?_⟩
      · simp only [List.length_append, List.length_map, List.length_take, List.length_reverse, List.length_drop]
        exact Nat.le_trans (by omega : _ ≤ 200) (by decide)
      have s5 := Same.new (H := H4) (o := .lst ((rows.take i).map V.str ++ ((rows.drop i).take 2).reverse.map V.str ++ (rows.drop (i + 2)).map V.str)) hz
      have hZ : (upd H4 z (.lst ((rows.take i).map V.str ++ ((rows.drop i).take 2).reverse.map V.str ++ (rows.drop (i + 2)).map V.str))) z = some (.lst ((rows.take i ++ ((rows.drop i).take 2).reverse ++ rows.drop (i + 2)).map V.str)) := by rw [upd_same, List.map_append, List.map_append]
      generalize upd H4 z (.lst ((rows.take i).map V.str ++ ((rows.drop i).take 2).reverse.map V.str ++ (rows.drop (i + 2)).map V.str)) = H5 at s5 hZ ⊢
      have s05 := Same.trans s03 (Same.trans s4 s5)
      refine ⟨_, rfl, _, rfl, by show 2 ≤ sizeLine; decide, fun d2 hd2 => ⟨_, rfl, _, _, rfl, rfl, _, rfl, rp, _, rfl, .inl (SqL.of ((Same.trans s05 (Same.new hd2)) _ _ hR)), rfl, .inr ⟨_, rfl, d2, _, _, _, rfl, rfl, SqL.of upd_same, pick2 _ _ _, ?_⟩⟩⟩
      have s6 := Same.new (H := H5) (o := .lst [.int d1, .int (-1)]) hd2
      have e2 : (if decide (V.int ((i : Int) + 1) = V.int ((rows.map V.str).length : Int)) = true then V.int (-1) else V.int d1) = .int (if i + 1 = rows.length then -1 else d1) := by
        rw [ll]
        by_cases c : i + 1 = rows.length
        · rw [if_pos c, if_pos (decide_eq_true (congrArg V.int (by omega)))]
        · rw [if_neg c, if_neg]
          intro z
          have := V.int.inj (of_decide_eq_true z)
          omega
      show tNil _ _ _
      rw [e2]
      exact ⟨by show 2 ≤ sizeLine; decide, fun p hp => fin (Same.trans s05 s6) (s6 _ _ hZ) spS p hp⟩
    refine iteF' (decide_eq_false fun e => w16 (V.int.inj e)) ?_
    refine ⟨_, rfl, rfl, _, rfl, ?_⟩
    by_cases w17 : wy = 17
    · have rowl := RK.fine.len
      refine iteT' (decide_eq_true (congrArg V.int w17)) ⟨_, rfl, ⟨_, rfl⟩, row, blS, rfl, rfl, by decide +kernel, by omega, fun wp hwp => ?_⟩
      rw [RK.split]
      have s1 := Same.new (H := H) (o := .lst (words.map V.str)) hwp
      have hW : (upd H wp (.lst (words.map V.str))) wp = some (.lst (words.map V.str)) := upd_same
      show gName 7 _ _ (upd H wp (.lst (words.map V.str))) _
      generalize upd H wp (.lst (words.map V.str)) = H1 at s1 hW ⊢
      refine cat3_at (c := Txt.join blS (words.take 1 ++ (["0"] : List Str) ++ words.drop 2)) (b := i + 1) rfl rfl (s1 _ _ hR) rl (fun H' Q' s' h => ?_) (fun _ _ h => ⟨_, rfl, _, _, rfl, rfl, h⟩) fun z H2 s2 _ hz => ⟨_, rfl, by show 2 ≤ sizeLine; decide, fun p hp => fin (Same.trans s1 s2) hz (sp _ _ (Nat.le_succ _) RK.b17) p hp⟩
      refine ⟨⟨_, rfl⟩, cat3_gen (rp := wp) (rows := words) (i := 1) (b := 2) (c := "0") (fun _ _ h => ⟨_, rfl, h⟩) (fun _ _ h => h) (s' _ _ hW) (Nat.le_trans RK.wl (by decide)) (fun _ _ _ h => h _ fun _ _ h => h) (fun _ _ h => h) fun y H2 s2 _ hy => ?_⟩
      have ey : words.take 1 ++ ("0" : Str) :: words.drop 2 = words.take 1 ++ (["0"] : List Str) ++ words.drop 2 := by rw [List.append_assoc]; rfl
      rw [ey] at hy
      refine ⟨_, y, _, rfl, rfl, .inl (SqL.of hy), join_bd (fun x hx => ?_) ?_, h _ s2⟩
      · rcases List.mem_append.mp hx with hx | hx
        · rcases List.mem_append.mp hx with hx | hx
          · exact Nat.le_trans (RK.wf x (List.mem_of_mem_take hx)).len (by decide)
          · rw [List.mem_singleton.mp hx]; decide +kernel
        · exact Nat.le_trans (RK.wf x (List.mem_of_mem_drop hx)).len (by decide)
      · have := RK.wl
        simp only [List.length_append, List.length_take, List.length_drop, List.length_singleton]
        omega
    refine iteF' (decide_eq_false fun e => w17 (V.int.inj e)) ?_
    refine ⟨_, rfl, rfl, _, rfl, ?_⟩
    by_cases w18 : wy = 18
    · have h0l := RK0.fine.len
      refine iteT' (decide_eq_true (congrArg V.int w18)) ⟨⟨_, rfl⟩, by show 2 ≤ sizeLine; decide, fun u hu => ?_⟩
      have s1 := Same.new (H := H) (o := .lst [.str "desk", .str "51"]) hu
      have hU : (upd H u (.lst [.str "desk", .str "51"])) u = some (.lst [.str "desk", .str "51"]) := upd_same
      generalize upd H u (.lst [.str "desk", .str "51"]) = H1 at s1 hU ⊢
      refine ⟨_, rfl, rp, _, _, .str hd0, rfl, rfl, SqL.of (s1 _ _ hR), atI_nat (j := 0) h0V, ⟨_, rfl⟩, hd0, blS, rfl, rfl, by decide +kernel, by omega, fun v hv => ?_⟩
      rw [RK0.split]
      have s2 := Same.new (H := H1) (o := .lst (wd.map V.str)) hv
      have hV : (upd H1 v (.lst (wd.map V.str))) v = some (.lst (wd.map V.str)) := upd_same
      refine ⟨_, rfl, v, _, rfl, SqL.of hV, fun x hx => ?_⟩
      generalize upd H1 v (.lst (wd.map V.str)) = H2 at s2 hV hx ⊢
      rw [show (2 : Int) = ((2 : Nat) : Int) from rfl, cutV_from, ← List.map_drop]
      have s3 := Same.new (H := H2) (o := .lst ((wd.drop 2).map V.str)) hx
      have hX : (upd H2 x (.lst ((wd.drop 2).map V.str))) x = some (.lst ((wd.drop 2).map V.str)) := upd_same
      generalize upd H2 x (.lst ((wd.drop 2).map V.str)) = H3 at s3 hX ⊢
      have wl := RK0.wl
      refine ⟨u, x, _, _, rfl, rfl, s3 _ _ (s2 _ _ hU), hX, ?_, fun y hy => ?_⟩
      · rw [List.length_map, List.length_drop]
        show 2 + _ ≤ _
        omega
      have s4 := Same.new (H := H3) (o := .lst ([.str "desk", .str "51"] ++ (wd.drop 2).map V.str)) hy
      have hY : (upd H3 y (.lst ([.str "desk", .str "51"] ++ (wd.drop 2).map V.str))) y = some (.lst (([("desk" : Str), "51"] ++ wd.drop 2).map V.str)) := by rw [upd_same, List.map_append]; rfl
      generalize upd H3 y (.lst ([.str "desk", .str "51"] ++ (wd.drop 2).map V.str)) = H4 at s4 hY ⊢
      have s14 := Same.trans s1 (Same.trans s2 (Same.trans s3 s4))
      refine ⟨_, y, _, rfl, rfl, .inl (SqL.of hY), join_bd (fun x hx => ?_) ?_, ?_⟩
      · rcases List.mem_append.mp hx with hx | hx
        · simp only [List.mem_cons, List.not_mem_nil, or_false] at hx
          rcases hx with rfl | rfl <;> decide +kernel
        · exact Nat.le_trans (RK0.wf x (List.mem_of_mem_drop hx)).len (by decide)
      · simp only [List.length_append, List.length_drop, List.length_cons, List.length_nil]
        omega
      show (1 : Nat) ≤ sizeLine ∧ ∀ l, H4 l = none → _
      refine ⟨by decide, fun l hl => ?_⟩
      have s5 := Same.new (H := H4) (o := .lst [.str (Txt.join blS ([("desk" : Str), "51"] ++ wd.drop 2))]) hl
      have hL : (upd H4 l (.lst [.str (Txt.join blS ([("desk" : Str), "51"] ++ wd.drop 2))])) l = some (.lst [.str (Txt.join blS ([("desk" : Str), "51"] ++ wd.drop 2))]) := upd_same
      refine ⟨_, rfl, _, rfl, rp, _, rfl, SqL.of ((Same.trans s14 s5) _ _ hR), fun q2 hq2 => ?_⟩
      generalize upd H4 l (.lst [.str (Txt.join blS ([("desk" : Str), "51"] ++ wd.drop 2))]) = H5 at s5 hL hq2 ⊢
      rw [show (1 : Int) = ((1 : Nat) : Int) from rfl, cutV_from, ← List.map_drop]
      have s6 := Same.new (H := H5) (o := .lst ((rows.drop 1).map V.str)) hq2
      have hQ : (upd H5 q2 (.lst ((rows.drop 1).map V.str))) q2 = some (.lst ((rows.drop 1).map V.str)) := upd_same
      generalize upd H5 q2 (.lst ((rows.drop 1).map V.str)) = H6 at s6 hQ ⊢
      refine ⟨l, q2, _, _, rfl, rfl, s6 _ _ hL, hQ, ?_, fun z hz => ?_⟩
      · rw [List.length_map, List.length_drop]
        show 1 + _ ≤ _
        omega
      have s7 := Same.new (H := H6) (o := .lst ([.str (Txt.join blS ([("desk" : Str), "51"] ++ wd.drop 2))] ++ (rows.drop 1).map V.str)) hz
      refine ⟨by show 2 ≤ sizeLine; decide, fun p hp => fin (rs := rows.take 0 ++ Txt.join blS ([("desk" : Str), "51"] ++ wd.drop 2) :: rows.drop 1) (due := 0) (Same.trans s14 (Same.trans s5 (Same.trans s6 s7))) upd_same sp18 p hp⟩
    refine iteF' (decide_eq_false fun e => w18 (V.int.inj e)) ?_
    have rowl := RK.fine.len
    have ff := RK.b5.2.len
    have eR : V.str row = .str (first ++ " " ++ rest) := congrArg V.str RK.eq
    have lR : (first ++ " " ++ rest).length ≤ 1000 := by rw [show first ++ " " ++ rest = row from RK.eq.symm]; omega
    have l01 : ("0 1" : Str).length ≤ 10 := by decide +kernel
    have lbl : (" " : Str).length ≤ 10 := by decide +kernel
    have lpt : ("." : Str).length ≤ 10 := by decide +kernel
    refine ⟨fun σ H' => Same H H' ∧ ∃ c : Str, σ = [some (.ref rp), some (.int (i : Int)), some (.int wy), some (.str "abcdefghi"), some (.str row), some (.str c), none, none, none] ∧ (wy ≤ 7 → Bad z0 c), ?_, ?_⟩
    · refine ⟨_, rfl, row, " ", rfl, rfl, by omega, _, rfl, " ", row, rfl, rfl, by omega, _, rfl, first, rest, eR, RK.ff, lR, by decide +kernel, _, rfl, row, "0 1", rfl, rfl, by omega, _, rfl, first, rest, eR, RK.ff, lR, by decide +kernel, by show 5 ≤ sizeLine; decide, fun L hL => ?_⟩
      obtain ⟨c, hat, hc⟩ : ∃ c : Str, atI [V.str (row ++ " "), .str (" " ++ row), .str (first ++ "  " ++ rest), .str (row ++ "0 1"), .str (first ++ " 0" ++ rest)] ((wy - 3) % 5) = some (.str c) ∧ (wy ≤ 7 → Bad z0 c) := by
        have h : (wy - 3) % 5 = 0 ∨ (wy - 3) % 5 = 1 ∨ (wy - 3) % 5 = 2 ∨ (wy - 3) % 5 = 3 ∨ (wy - 3) % 5 = 4 := by omega
        rcases h with h | h | h | h | h <;> rw [h]
        · exact ⟨_, rfl, fun _ => RK.b3⟩
        · exact ⟨_, rfl, fun _ => RK.b4⟩
        · exact ⟨_, rfl, fun _ => RK.b5⟩
        · exact ⟨_, rfl, fun _ => RK.b6⟩
        · exact ⟨_, rfl, fun _ => RK.b7⟩
      exact ⟨_, rfl, _, _, rfl, rfl, _, _, rfl, rfl, mp (by decide), L, _, _, .str c, rfl, rfl, SqL.of upd_same, hat, Same.new hL, c, rfl, hc⟩
    rintro σ H1 ⟨s1, c1, rfl, hc1⟩
    refine ⟨fun σ H' => Same H H' ∧ ∃ (c : Str) (o8 : Option V), σ = [some (.ref rp), some (.int (i : Int)), some (.int wy), some (.str "abcdefghi"), some (.str row), some (.str c), none, none, o8] ∧ (wy ≤ 12 → Bad z0 c), ?_, ?_⟩
    · refine ⟨_, rfl, _, _, rfl, rfl, _, rfl, ?_⟩
      by_cases w7 : 7 < wy
      · refine iteT' (decide_eq_true w7) ?_
        have zt : ("\t" : Str).length ≤ 10 := by decide +kernel
        have zm : (" -" : Str).length ≤ 10 := by decide +kernel
        obtain ⟨wr, ew, _⟩ := RK.fst
        refine ⟨_, rfl, first, rest, eR, RK.ff, lR, zt, _, rfl, ⟨_, rfl⟩, row, rfl, rfl, by omega, _, rfl, row, ".", rfl, rfl, by omega, _, rfl, ⟨_, rfl⟩, row, blS, rfl, rfl, by decide +kernel, by omega, fun wp hwp => ?_⟩
        rw [RK.split]
        have s2 := Same.new (H := H1) (o := .lst (words.map V.str)) hwp
        have hW : (upd H1 wp (.lst (words.map V.str))) wp = some (.lst (words.map V.str)) := upd_same
        refine ⟨wp, _, _, .str first, rfl, rfl, SqL.of hW, atI_nat (j := 0) (by rw [ew]; rfl), by show 4 ≤ sizeLine; decide, fun L hL => ?_⟩
        generalize upd H1 wp (.lst (words.map V.str)) = H2 at s2 hW hL ⊢
        have s3 := Same.new (H := H2) (o := .lst [.str (first ++ "\t" ++ rest), .str (Txt.upper row), .str (row ++ "."), .str first]) hL
        have hL2 : (upd H2 L (.lst [.str (first ++ "\t" ++ rest), .str (Txt.upper row), .str (row ++ "."), .str first])) L = some (.lst [.str (first ++ "\t" ++ rest), .str (Txt.upper row), .str (row ++ "."), .str first]) := upd_same
        show gName 8 _ _ (upd H2 L (.lst [.str (first ++ "\t" ++ rest), .str (Txt.upper row), .str (row ++ "."), .str first])) _
        generalize upd H2 L (.lst [.str (first ++ "\t" ++ rest), .str (Txt.upper row), .str (row ++ "."), .str first]) = H3 at s3 hL2 ⊢
        refine ⟨_, rfl, _, rfl, first, rest, eR, RK.ff, lR, zm, by show 1 ≤ sizeLine; decide, fun M hM => ?_⟩
        have s4 := Same.new (H := H3) (o := .lst [.str (first ++ " -" ++ rest)]) hM
        refine ⟨L, M, _, _, rfl, rfl, s4 _ _ hL2, upd_same, by show 4 + 1 ≤ sizeLine; decide, fun N hN => ?_⟩
        obtain ⟨c, hat, hc⟩ : ∃ c : Str, atI ([V.str (first ++ "\t" ++ rest), .str (Txt.upper row), .str (row ++ "."), .str first] ++ [.str (first ++ " -" ++ rest)]) ((wy - 8) % 5) = some (.str c) ∧ (wy ≤ 12 → Bad z0 c) := by
          have h : (wy - 8) % 5 = 0 ∨ (wy - 8) % 5 = 1 ∨ (wy - 8) % 5 = 2 ∨ (wy - 8) % 5 = 3 ∨ (wy - 8) % 5 = 4 := by omega
          rcases h with h | h | h | h | h <;> rw [h]
          · exact ⟨_, rfl, fun _ => RK.b8⟩
          · exact ⟨_, rfl, fun _ => RK.b9⟩
          · exact ⟨_, rfl, fun _ => RK.b10⟩
          · exact ⟨_, rfl, fun _ => RK.b11⟩
          · exact ⟨_, rfl, fun _ => RK.b12⟩
        exact ⟨_, rfl, _, _, rfl, rfl, _, _, rfl, rfl, mp (by decide), N, _, _, .str c, rfl, rfl, SqL.of upd_same, hat, Same.trans s1 (Same.trans s2 (Same.trans s3 (Same.trans s4 (Same.new hN)))), c, _, rfl, hc⟩
      · exact iteF' (decide_eq_false w7) ⟨s1, c1, none, rfl, fun _ => hc1 (by omega)⟩
    rintro σ H2 ⟨s2, c2, o8, rfl, hc2⟩
    refine ⟨fun σ H' => Same H H' ∧ ∃ (c : Str) (o8 : Option V), σ = [some (.ref rp), some (.int (i : Int)), some (.int wy), some (.str "abcdefghi"), some (.str row), some (.str c), none, none, o8] ∧ (wy ≤ 13 → Bad z0 c), ?_, ?_⟩
    · refine ⟨_, rfl, rfl, _, rfl, ?_⟩
      by_cases w13 : wy = 13
      · have x1 : 71 < (("1" : Str) ++ Txt.mul "0" 70 ++ "1").length := by decide +kernel
        have x2 : 32 ∉ TL.tl (("1" : Str) ++ Txt.mul "0" 70 ++ "1") := by decide +kernel
        have x3 : Fine 100 (("1" : Str) ++ Txt.mul "0" 70 ++ "1") := ⟨by decide +kernel, by decide +kernel⟩
        have x4 : (("1" : Str).length + (Txt.mul "0" 70).length) ≤ 1000 := by decide +kernel
        have x5 : ((("1" : Str) ++ Txt.mul "0" 70).length + ("1" : Str).length) ≤ 1000 := by decide +kernel
        refine iteT' (decide_eq_true (congrArg V.int w13)) ⟨⟨_, rfl⟩, _, rfl, ⟨_, rfl⟩, row, blS, rfl, rfl, by decide +kernel, by omega, fun wp hwp => ?_⟩
        rw [RK.split]
        have t1 := Same.new (H := H2) (o := .lst (words.map V.str)) hwp
        refine ⟨_, rfl, _, rfl, wp, _, rfl, SqL.of upd_same, fun u hu => ?_⟩
        rw [show (-1 : Int) = -1 from rfl, cutV_init, ← List.map_dropLast]
        generalize upd H2 wp (.lst (words.map V.str)) = H3 at t1 hu ⊢
        have t2 := Same.new (H := H3) (o := .lst (words.dropLast.map V.str)) hu
        have hU : (upd H3 u (.lst (words.dropLast.map V.str))) u = some (.lst (words.dropLast.map V.str)) := upd_same
        generalize upd H3 u (.lst (words.dropLast.map V.str)) = H4 at t2 hU ⊢
        refine ⟨"0", 70, rfl, rfl, by decide +kernel, by decide, by decide, "1", _, rfl, rfl, Nat.le_trans x4 (by decide), _, "1", rfl, rfl, Nat.le_trans x5 (by decide), by show 1 ≤ sizeLine; decide, fun v hv => ?_⟩
        have b13 := RK.b13 _ x1 x2 x3
        generalize (("1" : Str) ++ Txt.mul "0" 70 ++ "1") = X at x1 x2 x3 b13 hv ⊢
        have t3 := Same.new (H := H4) (o := .lst [.str X]) hv
        have wl := RK.wl
        refine ⟨u, v, _, _, rfl, rfl, t3 _ _ hU, upd_same, ?_, fun y hy => ?_⟩
        · rw [List.length_map, List.length_dropLast]
          show _ + 1 ≤ _
          omega
        generalize upd H4 v (.lst [.str X]) = H5 at t3 hy ⊢
        have t4 := Same.new (H := H5) (o := .lst (words.dropLast.map V.str ++ [.str X])) hy
        have hY : (upd H5 y (.lst (words.dropLast.map V.str ++ [.str X]))) y = some (.lst ((words.dropLast ++ [X]).map V.str)) := by rw [upd_same, List.map_append]; rfl
        refine ⟨_, y, _, rfl, rfl, .inl (SqL.of hY), join_bd (fun x hx => ?_) ?_, Same.trans s2 (Same.trans t1 (Same.trans t2 (Same.trans t3 t4))), _, _, rfl, fun _ => b13⟩
        · rcases List.mem_append.mp hx with hx | hx
          · exact Nat.le_trans (RK.wf x (List.dropLast_subset _ hx)).len (by decide)
          · rw [List.mem_singleton.mp hx]; exact x3.len
        · rw [List.length_append, List.length_dropLast, List.length_singleton]
          omega
      · exact iteF' (decide_eq_false fun e => w13 (V.int.inj e)) ⟨s2, c2, o8, rfl, fun _ => hc2 (by omega)⟩
    rintro σ H3 ⟨s3, c3, o8, rfl, hc3⟩
    refine ⟨fun σ H' => Same H H' ∧ ∃ (c : Str) (o8 : Option V), σ = [some (.ref rp), some (.int (i : Int)), some (.int wy), some (.str "abcdefghi"), some (.str row), some (.str c), none, none, o8] ∧ Bad z0 c, ?_, ?_⟩
    · refine ⟨_, rfl, rfl, _, rfl, ?_⟩
      by_cases w14 : wy = 14
      · refine iteT' (decide_eq_true (congrArg V.int w14)) ⟨⟨_, rfl⟩, _, rfl, by show 1 ≤ sizeLine; decide, fun u hu => ?_⟩
        have t1 := Same.new (H := H3) (o := .lst [.str "abcdefghi"]) hu
        have hU : (upd H3 u (.lst [.str "abcdefghi"])) u = some (.lst [.str "abcdefghi"]) := upd_same
        generalize upd H3 u (.lst [.str "abcdefghi"]) = H4 at t1 hU ⊢
        refine ⟨_, rfl, ⟨_, rfl⟩, row, blS, rfl, rfl, by decide +kernel, by omega, fun wp hwp => ?_⟩
        rw [RK.split]
        have t2 := Same.new (H := H4) (o := .lst (words.map V.str)) hwp
        refine ⟨_, rfl, wp, _, rfl, SqL.of upd_same, fun x hx => ?_⟩
        rw [show (1 : Int) = ((1 : Nat) : Int) from rfl, cutV_from, ← List.map_drop]
        generalize upd H4 wp (.lst (words.map V.str)) = H5 at t2 hx ⊢
        have t3 := Same.new (H := H5) (o := .lst ((words.drop 1).map V.str)) hx
        have wl := RK.wl
        refine ⟨u, x, _, _, rfl, rfl, t3 _ _ (t2 _ _ hU), upd_same, ?_, fun y hy => ?_⟩
        · rw [List.length_map, List.length_drop]
          show 1 + _ ≤ _
          omega
        generalize upd H5 x (.lst ((words.drop 1).map V.str)) = H6 at t3 hy ⊢
        have t4 := Same.new (H := H6) (o := .lst ([.str "abcdefghi"] ++ (words.drop 1).map V.str)) hy
        have hY : (upd H6 y (.lst ([.str "abcdefghi"] ++ (words.drop 1).map V.str))) y = some (.lst (((["abcdefghi"] : List Str) ++ words.drop 1).map V.str)) := by rw [upd_same, List.map_append]; rfl
        refine ⟨_, y, _, rfl, rfl, .inl (SqL.of hY), join_bd (fun x hx => ?_) ?_, Same.trans s3 (Same.trans t1 (Same.trans t2 (Same.trans t3 t4))), _, _, rfl, RK.b14⟩
        · rcases List.mem_append.mp hx with hx | hx
          · rw [List.mem_singleton.mp hx]; decide +kernel
          · exact Nat.le_trans (RK.wf x (List.mem_of_mem_drop hx)).len (by decide)
        · rw [List.length_append, List.length_drop, List.length_singleton]
          omega
      · exact iteF' (decide_eq_false fun e => w14 (V.int.inj e)) ⟨s3, c3, o8, rfl, hc3 (by omega)⟩
    rintro σ H4 ⟨s4, c4, o8, rfl, hc4⟩
    exact cat3_at (c := c4) (b := i + 1) rfl rfl (s4 _ _ hR) rl (fun H' _ _ h => ⟨_, rfl, h _ (fun _ _ h => h)⟩) (fun _ _ h => ⟨_, rfl, _, _, rfl, rfl, h⟩) fun z H5 s5 _ hz => ⟨_, rfl, by show 2 ≤ sizeLine; decide, fun p hp => fin (Same.trans s4 s5) hz (sp _ _ (Nat.le_succ _) hc4) p hp⟩
/-! ### whole texts, and what is told of them -/
/-- a text that may be read, and what is told then -/
structure Tx (x : Str) (i : Int) : Prop where
  len : x.length < 10 ^ 6
  rows : ∀ hd rs, rowsOf x = hd :: rs → ∀ r ∈ rs, r.length ≤ 1000
  out : Out x i
theorem flat_len1000 : ∀ (R : List Str), (∀ r ∈ R, r.length ≤ 1000) → ((R.map fun r => TL.tl r ++ [10]).flatten).length ≤ 1001 * R.length
  | [], _ => Nat.le_refl _
  | r :: R, h => by
    have h1 := h r List.mem_cons_self
    have h2 := flat_len1000 R fun q hq => h q (List.mem_cons_of_mem _ hq)
    rw [List.map_cons, List.flatten_cons, List.length_append, List.length_append, ← TL.len_tl, List.length_cons (as := R)]
    show r.length + 1 + _ ≤ _
    omega
theorem out_of {rs : List Str} {i : Int} {x : Str} (h : OutR rs i) (e : rowsOf x = rs) (hx : i ≠ -1) : Out x i := by
  cases h with
  | none => exact .inr ⟨0, rfl, .none e⟩
  | head h => exact .inr ⟨0, rfl, .head e h⟩
  | row h hb => exact .inr ⟨_, by push_cast; rfl, .row e h hb⟩
  | last h ok s => exact .inr ⟨_, by push_cast; rfl, .last e h ok (.inr s)⟩
  | good h ok s => exact absurd rfl hx
theorem nl_one : rowsOf nlS = [("" : Str)] := rowsOf_rows (rs := [("" : Str)]) (by decide +kernel) fun r hr => by rw [List.mem_singleton.mp hr]; decide +kernel
theorem tx_join {rs : List Str} {i : Int} (h : SpOk rs i) : Tx (Txt.join nlS rs ++ nlS) i := by
  refine ⟨?_, ?_, out_join h.out fun r hr => (h.fine r hr).nl⟩
  · by_cases c : rs = []
    · subst c
      decide +kernel
    · rw [TL.len_tl, tl_rows c]
      have := flat_len1000 rs fun r hr => (h.fine r hr).len
      have := h.len
      omega
  · intro hd r0 e r hr
    by_cases c : rs = []
    · subst c
      have e1 : rowsOf (Txt.join nlS [] ++ nlS) = [("" : Str)] := by
        have e2 : Txt.join nlS [] ++ nlS = nlS := by decide +kernel
        rw [e2]
        exact nl_one
      rw [e1] at e
      cases e
      exact absurd hr List.not_mem_nil
    · rw [rowsOf_rows (tl_rows c) fun r hr => (h.fine r hr).nl] at e
      exact (h.fine r (by rw [e]; exact List.mem_cons_of_mem _ hr)).len
section
variable {k : Nat} {s : DS} (W : Wr k s)
include W
theorem Wr.rows_snoc : ∃ (R : List Str) (r : Str), rowsT k s = R ++ [r] ∧ r ≠ "" := by
  have hne : rowsT k s ≠ [] := by simp
  refine ⟨(rowsT k s).dropLast, (rowsT k s).getLast hne, (List.dropLast_concat_getLast hne).symm, fun z => ?_⟩
  have hm := List.getLast_mem hne
  rw [z] at hm
  obtain ⟨i, hi, e⟩ := List.getElem_of_mem hm
  obtain ⟨row, first, rest, words, h1, h2⟩ := W.row_at hi
  rw [List.getElem?_eq_getElem hi, e] at h1
  have h3 := h2.eq
  rw [← Option.some.inj h1] at h3
  have h4 := congrArg TL.tl h3
  rw [TL.tl_append, TL.tl_append, tl_bl] at h4
  have h5 : TL.tl ("" : Str) = [] := by decide +kernel
  rw [h5] at h4
  simp at h4
theorem Wr.tx_text : Tx (textT k s) (-1) := ⟨Nat.lt_of_le_of_lt (textT_len W) (by decide), text_lens W, .inl ⟨rfl, _, _, _, _, _, text_good W⟩⟩
theorem text_cut : cutS (textT k s) none (some (-1)) = Txt.join nlS (rowsT k s) := cutS_init (c := 10) (by rw [← text_join, TL.tl_append, tl_nl])
theorem Wr.join_len : (Txt.join nlS (rowsT k s)).length ≤ 16000 := by
  have h := textT_len W
  rw [← text_join k s, app_len] at h
  exact Nat.le_trans (Nat.le_add_right _ _) h
theorem Wr.rowsOf_cut : rowsOf (Txt.join nlS (rowsT k s)) = rowsT k s := by
  obtain ⟨R, r, e, hr⟩ := W.rows_snoc
  have h := W.fine
  rw [e] at h ⊢
  exact rowsOf_join (fun q hq => (h q hq).nl) hr
theorem Wr.tx_cut : Tx (Txt.join nlS (rowsT k s)) ((rowsT k s).length : Int) := by
  have e0 := W.rowsOf_cut
  refine ⟨Nat.lt_of_le_of_lt W.join_len (by decide), fun hd rs e r hr => ?_, .inr ⟨_, rfl, .last (hd := headT (k : Int) s.g s.t) (rs := (DK.srt s.l).map rowT) e0 W.hd_is W.okT (.inl ?_)⟩⟩
  · rw [e0] at e
    exact Nat.le_trans (W.fine r (by rw [e]; exact List.mem_cons_of_mem _ hr)).len (by decide)
  · obtain ⟨R, r, e, hr⟩ := W.rows_snoc
    have h := W.fine
    rw [e] at h ⊢
    exact join_no (h r (List.mem_append_right _ (List.mem_singleton.mpr rfl))).nl hr
theorem Wr.tx_x : Tx (Txt.join nlS (rowsT k s) ++ "x") (((rowsT k s).length : Int) - 1) := by
  obtain ⟨R, r, e, hr⟩ := W.rows_snoc
  have hi : R.length < (rowsT k s).length := by rw [e, List.length_append, List.length_singleton]; omega
  obtain ⟨row, first, rest, words, h1, h2⟩ := W.row_at hi
  have er : row = r := by
    rw [e, List.getElem?_append_right (Nat.le_refl _), Nat.sub_self] at h1
    exact (Option.some.inj h1).symm
  subst er
  have hb := h2.bx
  have ho : OutR ((rowsT k s).take R.length ++ [row ++ "x"]) (R.length : Int) := W.bad hi hb
  have hf := W.fine
  have hl := W.join_len
  have el : (((rowsT k s).length : Int) - 1) = (R.length : Int) := by rw [e, List.length_append, List.length_singleton]; omega
  rw [el]
  rw [e] at hf hl ⊢
  rw [e, List.take_left] at ho
  rw [join_end]
  have hf2 : ∀ q ∈ R ++ [row ++ "x"], Fine 1000 q := fun q hq => by
    rcases List.mem_append.mp hq with hq | hq
    · exact (hf q (List.mem_append_left _ hq)).le (by decide)
    · rw [List.mem_singleton.mp hq]; exact hb.2
  have e0 : rowsOf (Txt.join nlS (R ++ [row ++ "x"])) = R ++ [row ++ "x"] := by
    refine rowsOf_join (fun q hq => (hf2 q hq).nl) fun z => ?_
    have := congrArg Str.length z
    rw [app_len] at this
    have h1 : ("x" : Str).length = 1 := by decide +kernel
    have h0 : ("" : Str).length = 0 := by decide +kernel
    omega
  refine ⟨?_, fun hd rs e r hr => ?_, out_of ho e0 (by omega)⟩
  · rw [← join_end, app_len]
    have h1 : ("x" : Str).length = 1 := by decide +kernel
    omega
  · rw [e0] at e
    exact (hf2 r (by rw [e]; exact List.mem_cons_of_mem _ hr)).len
theorem Wr.tx_more (hk : (rowsT k s).length = k + 1) : Tx (textT k s ++ "zzzzzzzz 1\n") ((rowsT k s).length : Int) := by
  have e0 : rowsOf (textT k s ++ "zzzzzzzz 1\n") = rowsT k s ++ [("zzzzzzzz 1" : Str)] := by
    refine rowsOf_rows ?_ fun r hr => ?_
    · rw [TL.tl_append, List.map_append, List.flatten_append]
      have e1 : TL.tl (textT k s) = ((rowsT k s).map fun r => TL.tl r ++ [10]).flatten := rfl
      rw [e1]
      congr 1
    · rcases List.mem_append.mp hr with hr | hr
      · exact (W.fine r hr).nl
      · rw [List.mem_singleton.mp hr]; decide +kernel
  have hk' : ((DK.srt s.l).map rowT).length + 1 = k + 1 := hk
  refine ⟨?_, fun hd rs e r hr => ?_, out_of (rs := rowsT k s ++ [("zzzzzzzz 1" : Str)]) ?_ e0 (by omega)⟩
  · have := textT_len W
    rw [app_len]
    have h1 : ("zzzzzzzz 1\n" : Str).length ≤ 20 := by decide +kernel
    omega
  · rw [e0] at e
    have hr : r ∈ rowsT k s ++ [("zzzzzzzz 1" : Str)] := by rw [e]; exact List.mem_cons_of_mem _ hr
    rcases List.mem_append.mp hr with hr | hr
    · exact Nat.le_trans (W.fine r hr).len (by decide)
    · rw [List.mem_singleton.mp hr]; decide +kernel
  · have h := OutR.row W.hd_is (fb_at (rest := []) (c := ("zzzzzzzz 1" : Str)) W.okT (Nat.le_refl _) (by
      unfold rowOk
      rw [decide_eq_true (by omega : (k : Int) < ((((DK.srt s.l).map rowT).length + 1 : Nat) : Int))]
      rfl))
    rw [List.take_length] at h
    exact h
theorem Wr.sp_high (e : tot s.l + ((k : Int) + 1) * s.g = s.t) (t1 : 1 ≤ s.t) : SpOk (headT (k : Int) s.g (s.t - 1) :: (DK.srt s.l).map rowT) ((rowsT k s).length : Int) := by
  have h := W.hdn
  have t2 := h.t2
  have h1 : HdN (k : Int) s.g (s.t - 1) := ⟨h.k1, h.k2, h.g0, by omega, h.g2, by omega⟩
  have rl := W.rl
  have rl : ((DK.srt s.l).map rowT).length + 1 ≤ 51 := rl
  refine ⟨.last (headOf_headT h1.k1 h1.k2 h1.g0 h1.g2 h1.t0 h1.t2) W.okT ?_, by rw [List.length_cons]; omega, fun r hr => ?_⟩
  · rw [rows_back W.srt.ns fun q hq => W.srt.num hq, tot_perm (srt_perm s.l)]
    omega
  · rcases List.mem_cons.mp hr with rfl | hr
    · exact (rowK_head h1).fine.le (by decide)
    · exact (W.fine r (List.mem_cons_of_mem _ hr)).le (by decide)
end
/-! ### the last texts -/
theorem tx_one {x hd : Str} {i : Int} (e : rowsOf x = [hd]) (l : x.length < 10 ^ 6) (o : Out x i) : Tx x i := ⟨l, fun h rs e' r hr => by
  rw [e] at e'
  cases e'
  exact absurd hr List.not_mem_nil, o⟩
theorem one_row {x hd : Str} (e : TL.tl x = TL.tl hd ++ [10]) (hf : 10 ∉ TL.tl hd) : rowsOf x = [hd] := rowsOf_rows (rs := [hd]) (by rw [e]; simp) fun r hr => by rw [List.mem_singleton.mp hr]; exact hf
theorem tx_one_bad {x hd : Str} (e : TL.tl x = TL.tl hd ++ [10]) (hf : 10 ∉ TL.tl hd) (l : x.length < 10 ^ 6) (h : headOf hd = none) : Tx x 0 :=
  tx_one (one_row e hf) l (.inr ⟨0, rfl, .head (one_row e hf) h⟩)
theorem tx_one_good {x hd : Str} {t : Int} (e : TL.tl x = TL.tl hd ++ [10]) (hf : 10 ∉ TL.tl hd) (l : x.length < 10 ^ 6) (h : headOf hd = some (1, 0, t)) (t0 : 0 ≤ t) : Tx x (-1) :=
  tx_one (one_row e hf) l (.inl ⟨rfl, 1, 0, t, hd, [], one_row e hf, h, fun i r hr => (by cases hr), endswith_nl e, by
    show tot [] + (1 + 1) * 0 ≤ t
    rw [tot_nil]
    omega⟩)
theorem tx_empty : Tx "" 0 := by
  have e : rowsOf ("" : Str) = [] := rowsOf_rows (rs := []) (by decide +kernel) fun r hr => absurd hr List.not_mem_nil
  exact ⟨by decide +kernel, fun hd rs e' => (by rw [e] at e'; cases e'), .inr ⟨0, rfl, .none e⟩⟩
theorem tx_nl : Tx "\n" 0 := tx_one_bad (hd := "") (by decide +kernel) (by decide +kernel) (by decide +kernel) (head_one (by decide +kernel))
theorem tx_zero : Tx "desk 1 0 0\n" (-1) := tx_one_good (hd := "desk 1 0 0") (t := 0) (by decide +kernel) (by decide +kernel) (by decide +kernel) zero_head (by decide)
theorem tx_long : Tx ("desk 1 0 " ++ Txt.mul "1" 5000 ++ "\n") 0 :=
  tx_one_bad (hd := "desk 1 0 " ++ Txt.mul "1" 5000) (by rw [TL.tl_append]; exact congrArg _ tl_nl) long_free (by
    have := long_len
    have h1 : ("\n" : Str).length = 1 := by decide +kernel
    rw [app_len, h1]
    omega) long_none
theorem tx_great0 : Tx ("desk 1 0 " ++ ("1" ++ Txt.mul "0" 69) ++ "0\n") (-1) :=
  tx_one_good (hd := great0) (t := 10 ^ 70) great0_tl great0_free (Nat.lt_of_le_of_lt great0_len (by decide)) great0_head (by decide)
theorem tx_great1 : Tx ("desk 1 0 " ++ ("1" ++ Txt.mul "0" 69) ++ "1\n") 0 :=
  tx_one_bad (hd := great1) great1_tl great1_free (Nat.lt_of_le_of_lt great1_len (by decide)) great1_head
/-! ### the law -/
theorem comeM_t (k : Nat) (s : DS) (n : Str) (w : Int) : (comeM k s n w).t = s.t + w := by
  unfold comeM
  split
  · rfl
  · split <;> rfl
structure K13 (E : EnvD K mg) (H0 : Hp) (nlp p d : Addr) (nl : List Str) (k : Nat) (s : DS) (i : Nat) (H' : Hp) : Prop where
  same : Same H0 H'
  p0 : H0 p = none
  d0 : H0 d = none
  nm : H' nlp = some (.lst (nl.map V.str))
  D : DeskAt E.C H' p d k s
  B : ∃ tr, Bd k s tr
  ns : Ns (keys s.l)
  t : s.t ≤ (i : Int) * 10 ^ 60
theorem K13.mono {E : EnvD K mg} {H0 H1 H2 : Hp} {nlp p d : Addr} {nl : List Str} {k i : Nat} {s : DS} (j : K13 E H0 nlp p d nl k s i H1) (e : Same H1 H2) : K13 E H0 nlp p d nl k s i H2 :=
  ⟨Same.trans j.same e, j.p0, j.d0, e _ _ j.nm, j.D.same e, j.B, j.ns, j.t⟩
theorem told_at (E : EnvD K mg) {x : Str} {i : Int} {H : Hp} {Q : VK} {Ex : XK} (T : Tx x i) (q : ∀ H', Same H H' → Q (.int i) H') : sp_told E [.str x] H Q Ex := ⟨x, i, rfl, T.len, T.rows, T.out, q⟩
theorem wr_bd {k : Nat} {s : DS} {tr : Dk} (B : Bd k s tr) (ns : Ns (keys s.l)) (k1 : 1 ≤ k) (k2 : k ≤ 50) (ht : s.t ≤ 10 ^ 70) : Wr k s := ⟨B.O, ns, k1, k2, B.g0, by have := B.sum; omega, ht⟩
theorem sum_len1000 : ∀ (l : List Str), (∀ z ∈ l, z.length ≤ 1000) → (l.map fun x => x.length).sum ≤ 1000 * l.length
  | [], _ => Nat.le_refl _
  | x :: l, h => by
    have h1 := h x (List.mem_cons_self ..)
    have h2 := sum_len1000 l fun z hz => h z (List.mem_cons_of_mem _ hz)
    rw [List.map_cons, List.sum_cons, List.length_cons]
    omega
theorem rows_bd {ys : List Str} (h : ∀ y ∈ ys, Fine 1000 y) (hl : ys.length ≤ 60) : (ys.map fun x => x.length).sum + ys.length * (nlS : Str).length ≤ 16777216 := by
  have h1 := sum_len1000 ys fun y hy => (h y hy).len
  have h2 : nlS.length = 1 := by decide +kernel
  rw [h2]
  omega
theorem Tx.fits {a b : Str} {i : Int} (T : Tx (a ++ b) i) : a.length + b.length ≤ sizeLine := by
  have := T.len
  rw [app_len] at this
  have z : (10 : Nat) ^ 6 ≤ sizeLine := by rw [sizeLine_eq]; decide
  omega
theorem ok_law (E : EnvD K mg) : FnOk P w K mg base CX0 8 E.D_law.a E.D_law.fd P_law (spLaw K) := by
  have G_names : FnOk P w K mg base CX0 2 E.D_names.a E.D_names.fd P_names (sp_names (K := K)) := ok_names E
  have G_drawers : FnOk P w K mg base CX0 2 E.D_drawers.a E.D_drawers.fd P_drawers (sp_drawers (K := K)) := ok_drawers E
  have G_coming : FnOk P w K mg base CX0 2 E.D_coming.a E.D_coming.fd P_coming (sp_coming (K := K)) := ok_coming E
  have G_mixed : FnOk P w K mg base CX0 1 E.D_mixed.a E.D_mixed.fd P_mixed sp_mixed := ok_mixed E
  have G_told : FnOk P w K mg base CX0 7 E.D_told.a E.D_told.fd P_told (sp_told E) := ok_told E
  have G_spoilt : FnOk P w K mg base CX0 1 E.D_spoilt.a E.D_spoilt.fd P_spoilt sp_spoilt := ok_spoilt E
  have G_written : FnOk P w K mg base CX0 2 E.D_written.a E.D_written.fd P_written (sp_written E) := ok_written E
  have G_d_init : FnOk P w K mg base (L2.CX P w) 3 E.D_d_init.a E.D_d_init.fd P_d_init (sp_d_init E) := ok_d_init E
  have G_d_come : FnOk P w K mg base (L2.CX P w) 3 E.D_d_come.a E.D_d_come.fd P_d_come (sp_d_come E) := ok_d_come E
  have G_d_weight : FnOk P w K mg base CX0 1 E.D_d_weight.a E.D_d_weight.fd P_d_weight (sp_d_weight E) := ok_d_weight E
  refine E.D_law.F.ok sc_law (fun vs H Q Ex h => ?_) (fun cdv A outer s0 H vs Q Ex hr h => ?_)
  · obtain ⟨a, ns, rfl, _⟩ := h
    rfl
  · obtain ⟨a, ns, rfl, hS, hlen, q⟩ := h
    refine ⟨_, (pss_cons (ps_set (i := 1) sc_law.nd rfl (by first | exact Or.inl rfl | exact Or.inr rfl) (pe_call G_names (hr.mono (by decide)) rfl E.m_names E.D_names.F.kp E.D_names.b .nil pass0 (pa_cons (pv 0) pa_nil)))
  (pss_cons (ps_set (i := 2) sc_law.nd rfl (by first | exact Or.inl rfl | exact Or.inr rfl) (pe_call G_drawers (hr.mono (by decide)) rfl E.m_drawers E.D_drawers.F.kp E.D_drawers.b .nil pass0 (pa_cons (pv 0) pa_nil)))
  (pss_cons (ps_set (i := 3) sc_law.nd rfl (by first | exact Or.inl rfl | exact Or.inr rfl) (pe_make E.mkD G_d_init (hr.mono (by decide)) rfl E.g_Desk E.D_d_init.b .nil passL (pa_cons (pv 2) pa_nil)))
  (pss_cons (ps_for PassesOwn.never rfl (pi_enum (by rfl) E.n_enumerate (pa_cons (pv 0) pa_nil)) (pg_tup rfl (pgs_cons (pg_name (i := 4) sc_law.nd rfl (by first | exact Or.inl rfl | exact Or.inr rfl)) (pgs_cons (pg_name (i := 5) sc_law.nd rfl (by first | exact Or.inl rfl | exact Or.inr rfl)) pgs_nil)))
  (pss_cons (ps_asg (pe_call G_coming (hr.mono (by decide)) rfl E.m_coming E.D_coming.F.kp E.D_coming.b .nil pass0 (pa_cons (pv 1) (pa_cons (pv 5) (pa_cons (pv 4) pa_nil)))) (pg_tup rfl (pgs_cons (pg_name (i := 7) sc_law.nd rfl (by first | exact Or.inl rfl | exact Or.inr rfl)) (pgs_cons (pg_name (i := 8) sc_law.nd rfl (by first | exact Or.inl rfl | exact Or.inr rfl)) pgs_nil))))
  (pss_cons (ps_expr (pe_meth (pv 3) E.cl E.me_d_come G_d_come (hr.mono (by decide)) E.D_d_come.b .nil passL (pa_cons (pv 7) (pa_cons (pv 8) pa_nil))))
  (pss_cons (ps_set (i := 9) sc_law.nd rfl (by first | exact Or.inl rfl | exact Or.inr rfl) (pe_call G_written (hr.mono (by decide)) rfl E.m_written E.D_written.F.kp E.D_written.b .nil pass0 (pa_cons (pv 3) pa_nil)))
  (pss_cons (ps_set (i := 10) sc_law.nd rfl (by first | exact Or.inl rfl | exact Or.inr rfl) (pe_slice sl_list (pe_split (pv 9) pe_str) po_none (po_some (pe_un un_neg pe_int))))
  (pss_cons (ps_set (i := 11) sc_law.nd rfl (by first | exact Or.inl rfl | exact Or.inr rfl) (pe_call G_mixed (hr.mono (by decide)) rfl E.m_mixed E.D_mixed.F.kp E.D_mixed.b .nil pass0 (pa_cons (pv 5) (pa_cons (pe_op op_add (pv 4) pe_int) pa_nil))))
  (Evl.pss_cut (ps_if (pt_cmpR op_eq (pe_op op_mod (pv 4) pe_int) pe_int (nomark _))
  (pss_cons (ps_asg (pe_call G_spoilt (hr.mono (by decide)) rfl E.m_spoilt E.D_spoilt.F.kp E.D_spoilt.b .nil pass0 (pa_cons (pv 10) (pa_cons (pe_op op_mod (pe_op op_fdiv (pv 11) pe_int) (pe_callB call_len_seq rfl E.n_len (by decide +kernel) (pa_cons (pv 10) pa_nil))) (pa_cons (pe_op op_mod (pv 11) pe_int) (pa_cons pe_str pa_nil))))) (pg_tup rfl (pgs_cons (pg_name (i := 12) sc_law.nd rfl (by first | exact Or.inl rfl | exact Or.inr rfl)) (pgs_cons (pg_name (i := 13) sc_law.nd rfl (by first | exact Or.inl rfl | exact Or.inr rfl)) pgs_nil))))
  (pss_one (ps_if (pt_cmpR op_ne (pe_call G_told (hr.mono (by decide)) rfl E.m_told E.D_told.F.kp E.D_told.b .nil pass0 (pa_cons (pe_op op_add_str (pe_join pe_str (pv 12)) pe_str) pa_nil)) (pv 13) (nomark _))
  (pss_one (ps_ret pe_bl))
  pss_nil)))
  pss_nil)
  (Evl.pss_cut (ps_if (pt_cmpR op_eq (pe_op op_mod (pv 4) pe_int) pe_int (nomark _))
  (pss_cons (ps_set (i := 14) sc_law.nd rfl (by first | exact Or.inl rfl | exact Or.inr rfl) (pe_split (pe_ix ix_list (pv 10) pe_int (fun _ _ => rfl)) pe_str))
  (pss_cons (ps_set (i := 15) sc_law.nd rfl (by first | exact Or.inl rfl | exact Or.inr rfl) (pe_join pe_str (pe_op op_cat (pe_slice sl_list (pv 14) po_none (po_some pe_int)) (pe_lst (pa_cons (pe_callTy call_str_int rfl E.n_str (by decide +kernel) (pa_cons (pe_op op_sub (pe_meth0 (pv 3) E.cl E.me_d_weight G_d_weight (hr.mono (by decide)) E.D_d_weight.b .nil pass0) pe_int) pa_nil)) pa_nil)))))
  (pss_cons (ps_if (pt_cmpR op_ne (pe_call G_told (hr.mono (by decide)) rfl E.m_told E.D_told.F.kp E.D_told.b .nil pass0 (pa_cons (pe_op op_add_str (pe_join pe_str (pe_op op_cat (pe_lst (pa_cons (pv 15) pa_nil)) (pe_slice sl_list (pv 10) (po_some pe_int) po_none))) pe_str) pa_nil)) (pe_callB call_len_seq rfl E.n_len (by decide +kernel) (pa_cons (pv 10) pa_nil)) (nomark _))
  (pss_one (ps_ret pe_bl))
  pss_nil)
  (pss_cons (ps_if (PW.pt (pw_or (pt_cmpR op_ne (pe_call G_told (hr.mono (by decide)) rfl E.m_told E.D_told.F.kp E.D_told.b .nil pass0 (pa_cons (pe_slice sl_str (pv 9) po_none (po_some (pe_un un_neg pe_int))) pa_nil)) (pe_callB call_len_seq rfl E.n_len (by decide +kernel) (pa_cons (pv 10) pa_nil)) (nomark _)) (pw_or1 (pt_cmpR op_ne (pe_call G_told (hr.mono (by decide)) rfl E.m_told E.D_told.F.kp E.D_told.b .nil pass0 (pa_cons (pv 9) pa_nil)) (pe_un un_neg pe_int) (nomark _)))))
  (pss_one (ps_ret pe_bl))
  pss_nil)
  (pss_one (ps_if (pt_cmpR op_ne (pe_call G_told (hr.mono (by decide)) rfl E.m_told E.D_told.F.kp E.D_told.b .nil pass0 (pa_cons (pe_op op_add_str (pe_slice sl_str (pv 9) po_none (po_some (pe_un un_neg pe_int))) pe_str) pa_nil)) (pe_op op_sub (pe_callB call_len_seq rfl E.n_len (by decide +kernel) (pa_cons (pv 10) pa_nil)) pe_int) (nomark _))
  (pss_one (ps_ret pe_bl))
  pss_nil))))))
  pss_nil)
  (pss_one (ps_if (PW.pt (pw_and (pt_cmpR op_eq (pe_callB call_len_seq rfl E.n_len (by decide +kernel) (pa_cons (pv 10) pa_nil)) (pe_op op_add (pv 2) pe_int) (nomark _)) (pw_and1 (pt_cmpR op_ne (pe_slice sl_str (pe_ix ix_list (pv 10) (pe_un un_neg pe_int) (fun _ _ => rfl)) po_none (po_some pe_int)) pe_str (nomark _)))))
  (pss_one (ps_if (pt_cmpR op_ne (pe_call G_told (hr.mono (by decide)) rfl E.m_told E.D_told.F.kp E.D_told.b .nil pass0 (pa_cons (pe_op op_add_str (pv 9) pe_str) pa_nil)) (pe_callB call_len_seq rfl E.n_len (by decide +kernel) (pa_cons (pv 10) pa_nil)) (nomark _))
  (pss_one (ps_ret pe_bl))
  pss_nil))
  pss_nil))))))))))
  (pss_cons (ps_set (i := 6) sc_law.nd rfl (by first | exact Or.inl rfl | exact Or.inr rfl) (pe_op op_add_str pe_str (pe_op op_mulB pe_str pe_int)))
  (pss_cons (ps_if (pt_cmpR op_ne (pe_call G_told (hr.mono (by decide)) rfl E.m_told E.D_told.F.kp E.D_told.b .nil pass0 (pa_cons (pe_op op_add_str (pe_op op_add_str pe_str (pe_op op_mulB pe_str pe_int)) pe_str) pa_nil)) pe_int (nomark _))
  (pss_one (ps_ret pe_bl))
  pss_nil)
  (pss_cons (ps_if (PW.pt (pw_or (pt_cmpR op_ne (pe_call G_told (hr.mono (by decide)) rfl E.m_told E.D_told.F.kp E.D_told.b .nil pass0 (pa_cons (pe_op op_add_str (pe_op op_add_str pe_str (pv 6)) pe_str) pa_nil)) (pe_un un_neg pe_int) (nomark _)) (pw_or1 (pt_cmpR op_ne (pe_call G_told (hr.mono (by decide)) rfl E.m_told E.D_told.F.kp E.D_told.b .nil pass0 (pa_cons (pe_op op_add_str (pe_op op_add_str pe_str (pv 6)) pe_str) pa_nil)) pe_int (nomark _)))))
  (pss_one (ps_ret pe_bl))
  pss_nil)
  (pss_one (ps_ret (pe_and (pe_cmpR op_eq (pe_call G_told (hr.mono (by decide)) rfl E.m_told E.D_told.F.kp E.D_told.b .nil pass0 (pa_cons pe_str pa_nil)) pe_int (nomark _)) (pe_and (pe_cmpR op_eq (pe_call G_told (hr.mono (by decide)) rfl E.m_told E.D_told.F.kp E.D_told.b .nil pass0 (pa_cons pe_str pa_nil)) pe_int (nomark _)) (pe_one (pe_cmpR op_eq (pe_call G_told (hr.mono (by decide)) rfl E.m_told E.D_told.F.kp E.D_told.b .nil pass0 (pa_cons pe_str pa_nil)) (pe_un un_neg pe_int) (nomark _)))))))))))))), ?_⟩
    refine ⟨_, rfl, a, ns, rfl, hS, fun nlp H1 nl hnl s1 hL hl14 hok => ?_⟩
    refine ⟨_, rfl, a, ns, rfl, s1.seq hS, fun k H2 k1 k2 s2 => ?_⟩
    refine ⟨_, rfl, fun p dx hp hdx hne => make_atV E k1 k2 rfl hp hdx hne fun d H3 hd s3 D => ⟨rfl, ?_⟩⟩
    have S2 := Same.trans s1 s2
    have J0 : K13 E H nlp p d nl k ⟨[], 0, 0⟩ 0 H3 := ⟨Same.trans S2 s3, S2.free hp, S2.free hd, s3 _ _ (s2 _ _ hL), D, ⟨[], Bd.nil k⟩, fun _ h => by simp [keys] at h, by decide⟩
    refine ⟨_, rfl, a, _, rfl, J0.same.seq hS, for_enum (K := K) (a := a) (xs := ns.map V.int) (fun i σ H' => ∃ (d : Addr) (s : DS) (o4 o5 o7 o8 o9 o10 o11 o12 o13 o14 o15 : Option V),
      σ = [some (.ref a), some (.ref nlp), some (.int (k : Int)), some (.ref p), o4, o5, none, o7, o8, o9, o10, o11, o12, o13, o14, o15] ∧ K13 E H nlp p d nl k s i H')
      ⟨d, _, none, none, none, none, none, none, none, none, none, none, none, rfl, J0⟩ (fun i σ H' ⟨_, _, _, _, _, _, _, _, _, _, _, _, _, _, J⟩ => J.same.seq hS) ?_ ?_⟩
    · clear J0 D s3 hd
      rintro i x T σ H8 hx ⟨d, s, o4, o5, o7, o8, o9, o10, o11, o12, o13, o14, o15, rfl, J⟩ hT
      obtain ⟨z, rfl⟩ := int_at hx
      have hi : i < ns.length := by
        have := (List.getElem?_eq_some_iff.mp hx).1
        rwa [List.length_map] at this
      refine ⟨T, _, rfl, SqT.of upd_same, rfl, _, _, rfl, _, _, rfl, rfl, ?_⟩
      have J := J.mono (Same.new (o := .tup [.int (i : Int), .int z]) hT)
      generalize upd H8 T (.tup [.int (i : Int), .int z]) = H9 at J
      refine ⟨_, rfl, _, rfl, _, rfl, nlp, nl, z, (i : Int), rfl, SqL.of J.nm, hl14, fun u H10 n wt0 hu s10 hU hn w1 w2 => ?_⟩
      have J := J.mono s10
      have hno := hok n hn
      refine ⟨u, _, rfl, SqT.of hU, rfl, _, _, rfl, _, _, rfl, rfl, ?_⟩
      obtain ⟨⟨dx10, h10⟩, hd10⟩ := id J.D
      obtain ⟨tr, B⟩ := J.B
      refine ⟨_, rfl, p, dx10, _, rfl, h10, rfl, _, rfl, _, rfl, come_at E J.D B.O k1 k2 hno w1 w2 fun d' H11 D' hd' kp => ?_⟩
      have d0' : H d' = none := by
        rcases hd' with rfl | hd'
        · exact J.d0
        · exact J.same.free hd'
      have s11 : Same H H11 := fun b o hb => kp b o (J.same _ _ hb) (ne_of_none hb J.p0) (ne_of_none hb J.d0)
      have J' : K13 E H nlp p d' nl k (comeM k s n wt0) (i + 1) H11 := ⟨s11, J.p0, d0', kp _ _ J.nm (ne_of J.nm h10 (by intro z; cases z)) (ne_of J.nm hd10 (by intro z; cases z)), D', ⟨_, B.come (by omega) (by omega)⟩, comeM_ns J.ns hno, by
        have := J.t
        rw [comeM_t]
        omega⟩
      have t1 : 1 ≤ (comeM k s n wt0).t := by
        rw [comeM_t]
        have : 0 ≤ s.t := by
          rw [← B.all]
          have : ∀ {l : Dk}, (∀ p ∈ l, 0 < p.2) → 0 ≤ tot l := fun {l} => by
            induction l with
            | nil => intro _; exact Int.le_refl _
            | cons x l ih =>
              intro hx
              have := hx x List.mem_cons_self
              have := ih fun y hy => hx y (List.mem_cons_of_mem _ hy)
              rw [tot_cons]
              omega
          exact this B.pos
        omega
      generalize comeM k s n wt0 = s' at *
      obtain ⟨tr', B'⟩ := J'.B
      have W : Wr k s' := wr_bd B' J'.ns k1 k2 (by have := J'.t; omega)
      clear J B hd' kp d0' s11 D' h10 hd10
      refine ⟨_, rfl, p, d', k, s', rfl, J'.D, W, fun H12 s12 => ?_⟩
      have J := J'.mono s12
      clear J'
      have z2 : (20000 : Nat) ≤ sizeLine := by rw [sizeLine_eq]; decide
      have tl16 := textT_len W
      refine ⟨_, rfl, ⟨_, rfl⟩, textT k s', nlS, rfl, rfl, by decide +kernel, by omega, fun wp hwp => ?_⟩
      rw [split_rows (x := textT k s') (rs := rowsT k s') rfl fun r hr => (W.fine r hr).nl]
      refine ⟨_, rfl, _, rfl, wp, _, rfl, SqL.of upd_same, fun u hu => ?_⟩
      rw [cutV_init, ← List.map_dropLast, List.dropLast_concat]
      have J := J.mono (Same.trans (Same.new (o := .lst ((rowsT k s' ++ [("" : Str)]).map V.str)) hwp) (Same.new (o := .lst ((rowsT k s').map V.str)) hu))
      have hR : (upd (upd H12 wp (.lst ((rowsT k s' ++ [("" : Str)]).map V.str))) u (.lst ((rowsT k s').map V.str))) u = some (.lst ((rowsT k s').map V.str)) := upd_same
      generalize upd (upd H12 wp (.lst ((rowsT k s' ++ [("" : Str)]).map V.str))) u (.lst ((rowsT k s').map V.str)) = H13 at J hR
      clear hu hwp s12
      refine ⟨_, rfl, _, rfl, _, _, rfl, rfl, _, _, rfl, fun m m0 m1 => ?_⟩
      have rl51 := W.rl
      have l0 : 0 < (rowsT k s').length := Nat.lt_of_lt_of_le (Nat.zero_lt_succ _) (Nat.le_refl _)
      have ll : ((rowsT k s').map V.str).length = (rowsT k s').length := List.length_map _
      have c1 : nlS.length = 1 := by decide +kernel
      have rlen : (((rowsT k s').map V.str).length : Int) = ((rowsT k s').length : Int) := by rw [ll]
      have fin := fun (H' : Hp) (x1 x2 x3 x4 x5 x6 x7 x8 x9 : Option V) (sH : Same H13 H') => (⟨d', s', some (.int (i : Int)), some (.int z), x1, x2, x3, x4, x5, x6, x7, x8, x9, rfl, J.mono sH⟩ : ∃ (d : Addr) (s : DS) (o4 o5 o7 o8 o9 o10 o11 o12 o13 o14 o15 : Option V),
        [some (V.ref a), some (.ref nlp), some (.int (k : Int)), some (.ref p), some (.int (i : Int)), some (.int z), none, x1, x2, x3, x4, x5, x6, x7, x8, x9] = [some (.ref a), some (.ref nlp), some (.int (k : Int)), some (.ref p), o4, o5, none, o7, o8, o9, o10, o11, o12, o13, o14, o15] ∧ K13 E H nlp p d nl k s (i + 1) H')
      refine ⟨fun σ H' => ∃ (o12 o13 : Option V), σ = [some (.ref a), some (.ref nlp), some (.int (k : Int)), some (.ref p), some (.int (i : Int)), some (.int z), none, some (.str n), some (.int wt0), some (.str (textT k s')), some (.ref u), some (.int m), o12, o13, o14, o15] ∧ Same H13 H', ?_, ?_⟩
      · refine ⟨_, rfl, _, _, rfl, rfl, mp (by decide), rfl, _, rfl, ?_⟩
        refine ite2 (fun _ => ?_) (fun _ => ⟨o12, o13, rfl, fun _ _ h => h⟩)
        have lp : (0 : Int) < ((rowsT k s').length : Int) := by omega
        have r0 := Int.emod_nonneg (m / 19) (Int.ne_of_gt lp)
        have r1 := Int.emod_lt_of_pos (m / 19) lp
        obtain ⟨j, ej⟩ := Int.eq_ofNat_of_zero_le r0
        have w0 := Int.emod_nonneg m (show (19 : Int) ≠ 0 by decide)
        have w1 := Int.emod_lt_of_pos m (show (0 : Int) < 19 by decide)
        refine ⟨_, rfl, _, rfl, _, _, rfl, rfl, ⟨by decide, by decide⟩, _, rfl, u, _, rfl, .inl (SqL.of hR), _, _, rfl, rfl, mp (by rw [ll]; exact lp), _, rfl, _, _, rfl, rfl, mp (by decide), ?_⟩
        refine ⟨u, j, m % 19, k, s', congrArg (fun q => [V.ref u, V.int q, V.int (m % 19), V.str "abcdefghi"]) (show m / 19 % (((rowsT k s').map V.str).length : Int) = (j : Int) by rw [rlen]; exact ej), hR, W, by omega, w0, w1, fun tp rp H14 rs due s14 htp hrp ok => ?_⟩
        refine ⟨tp, _, rfl, SqT.of htp, rfl, _, _, rfl, _, _, rfl, rfl, ?_⟩
        have T := tx_join ok
        refine ⟨⟨_, rfl⟩, _, rfl, _, rp, rs, rfl, rfl, .inl (SqL.of hrp), rows_bd ok.fine ok.len, _, _, rfl, rfl, T.fits, ?_⟩
        exact ⟨_, _, rfl, T.len, T.rows, T.out, fun H15 s15 => ⟨_, rfl, rfl, _, rfl, iteF' (ne_eq rfl) ⟨_, _, rfl, Same.trans s14 s15⟩⟩⟩
      rintro σ H14 ⟨p12, p13, rfl, s14⟩
      have J := J.mono s14
      have fin := fun (H' : Hp) (x1 x2 x3 x4 x5 x6 x7 x8 x9 : Option V) (sH : Same H14 H') => fin H' x1 x2 x3 x4 x5 x6 x7 x8 x9 (Same.trans s14 sH)
      have hR := s14 _ _ hR
      clear s14
      refine ⟨fun σ H' => ∃ (o14 o15 : Option V), σ = [some (.ref a), some (.ref nlp), some (.int (k : Int)), some (.ref p), some (.int (i : Int)), some (.int z), none, some (.str n), some (.int wt0), some (.str (textT k s')), some (.ref u), some (.int m), p12, p13, o14, o15] ∧ Same H14 H', ?_, ?_⟩
      · refine ⟨_, rfl, _, _, rfl, rfl, mp (by decide), rfl, _, rfl, ?_⟩
        refine ite2 (fun _ => ?_) (fun _ => ⟨o14, o15, rfl, fun _ _ h => h⟩)
        have RK := rowK_head W.hdn
        have h0l := RK.fine.len
        refine ⟨_, rfl, u, _, _, .str (headT (k : Int) s'.g s'.t), rfl, rfl, SqL.of hR, atI_nat (j := 0) rfl, ⟨_, rfl⟩, headT (k : Int) s'.g s'.t, blS, rfl, rfl, by decide +kernel, by omega, fun v hv => ?_⟩
        rw [RK.split]
        have s15 := Same.new (H := H14) (o := .lst ([("desk" : Str), numT (k : Int), numT s'.g, numT s'.t].map V.str)) hv
        have hV : (upd H14 v (.lst ([("desk" : Str), numT (k : Int), numT s'.g, numT s'.t].map V.str))) v = some (.lst ([("desk" : Str), numT (k : Int), numT s'.g, numT s'.t].map V.str)) := upd_same
        refine ⟨⟨_, rfl⟩, _, rfl, _, rfl, v, _, rfl, SqL.of hV, fun x hx => ?_⟩
        generalize upd H14 v (.lst ([("desk" : Str), numT (k : Int), numT s'.g, numT s'.t].map V.str)) = H15 at s15 hV hx ⊢
        have e3 : cutV ([("desk" : Str), numT (k : Int), numT s'.g, numT s'.t].map V.str) none (some 3) = [("desk" : Str), numT (k : Int), numT s'.g].map V.str := by
          rw [show (3 : Int) = ((3 : Nat) : Int) from rfl, cutV_to]
          rfl
        rw [e3]
        have s16 := Same.new (H := H15) (o := .lst ([("desk" : Str), numT (k : Int), numT s'.g].map V.str)) hx
        have hX : (upd H15 x (.lst ([("desk" : Str), numT (k : Int), numT s'.g].map V.str))) x = some (.lst ([("desk" : Str), numT (k : Int), numT s'.g].map V.str)) := upd_same
        generalize upd H15 x (.lst ([("desk" : Str), numT (k : Int), numT s'.g].map V.str)) = H16 at s16 hX ⊢
        have S16 := Same.trans s15 s16
        have D16 := J.D.same S16
        obtain ⟨⟨dx16, h16⟩, _⟩ := id D16
        have t2 := W.t2
        obtain ⟨g2, t0, _, _⟩ := W.g2
        have g0 := W.g0
        have lk : (numT (k : Int)).length ≤ 71 := num_len (by omega) (by omega)
        have lg : (numT s'.g).length ≤ 71 := num_len g0 g2
        have lt : (numT (s'.t - 1)).length ≤ 71 := num_len (by omega) (by omega)
        refine ⟨_, rfl, p, dx16, _, rfl, h16, rfl, p, d', k, s', rfl, D16, _, _, rfl, rfl, _, rfl, log_ok (by omega) (by omega), by show 1 ≤ sizeLine; decide, fun l hl => ?_⟩
        have s17 := Same.new (H := H16) (o := .lst [.str (numT (s'.t - 1))]) hl
        refine ⟨x, l, _, _, rfl, rfl, s17 _ _ hX, upd_same, by show 3 + 1 ≤ sizeLine; decide, fun y hy => ?_⟩
        generalize upd H16 l (.lst [.str (numT (s'.t - 1))]) = H17 at s17 hy ⊢
        have s18 := Same.new (H := H17) (o := .lst ([("desk" : Str), numT (k : Int), numT s'.g].map V.str ++ [.str (numT (s'.t - 1))])) hy
        have hY : (upd H17 y (.lst ([("desk" : Str), numT (k : Int), numT s'.g].map V.str ++ [.str (numT (s'.t - 1))]))) y = some (.lst ([("desk" : Str), numT (k : Int), numT s'.g, numT (s'.t - 1)].map V.str)) := upd_same
        generalize upd H17 y (.lst ([("desk" : Str), numT (k : Int), numT s'.g].map V.str ++ [.str (numT (s'.t - 1))])) = H18 at s18 hY ⊢
        have c4 : ("desk" : Str).length = 4 := by decide +kernel
        have cb : blS.length = 1 := by decide +kernel
        refine ⟨_, y, [("desk" : Str), numT (k : Int), numT s'.g, numT (s'.t - 1)], rfl, rfl, .inl (SqL.of hY), ?_, ?_⟩
        · show ("desk" : Str).length + ((numT (k : Int)).length + ((numT s'.g).length + ((numT (s'.t - 1)).length + 0))) + 4 * blS.length ≤ 16777216
          omega
        rw [← headT_join]
        have S18 := Same.trans S16 (Same.trans s17 s18)
        have sp := W.sp_high B'.sum t1
        have T1 := tx_join sp
        refine ⟨⟨_, rfl⟩, _, rfl, by show 1 ≤ sizeLine; decide, fun l2 hl2 => ⟨_, rfl, _, rfl, u, _, rfl, SqL.of ((Same.trans S18 (Same.new hl2)) _ _ hR), fun q2 hq2 => ?_⟩⟩
        have hd1 : Same H18 (upd H18 l2 (.lst [.str (headT (k : Int) s'.g (s'.t - 1))])) := Same.new hl2
        have hL2 : (upd H18 l2 (.lst [.str (headT (k : Int) s'.g (s'.t - 1))])) l2 = some (.lst [.str (headT (k : Int) s'.g (s'.t - 1))]) := upd_same
        generalize upd H18 l2 (.lst [.str (headT (k : Int) s'.g (s'.t - 1))]) = H19 at hd1 hL2 hq2 ⊢
        have e4 : cutV ((rowsT k s').map V.str) (some 1) none = ((DK.srt s'.l).map rowT).map V.str := by
          rw [show (1 : Int) = ((1 : Nat) : Int) from rfl, cutV_from]
          rfl
        rw [e4]
        have s20 := Same.new (H := H19) (o := .lst (((DK.srt s'.l).map rowT).map V.str)) hq2
        have hQ : (upd H19 q2 (.lst (((DK.srt s'.l).map rowT).map V.str))) q2 = some (.lst (((DK.srt s'.l).map rowT).map V.str)) := upd_same
        generalize upd H19 q2 (.lst (((DK.srt s'.l).map rowT).map V.str)) = H20 at s20 hQ ⊢
        have rlm : ((DK.srt s'.l).map rowT).length + 1 ≤ 51 := rl51
        refine ⟨l2, q2, _, _, rfl, rfl, s20 _ _ hL2, hQ, ?_, fun y2 hy2 => ?_⟩
        · rw [List.length_map]
          show 1 + ((DK.srt s'.l).map rowT).length ≤ _
          omega
        have s21 := Same.new (H := H20) (o := .lst ([.str (headT (k : Int) s'.g (s'.t - 1))] ++ ((DK.srt s'.l).map rowT).map V.str)) hy2
        have hY2 : (upd H20 y2 (.lst ([.str (headT (k : Int) s'.g (s'.t - 1))] ++ ((DK.srt s'.l).map rowT).map V.str))) y2 = some (.lst ((headT (k : Int) s'.g (s'.t - 1) :: (DK.srt s'.l).map rowT).map V.str)) := upd_same
        generalize upd H20 y2 (.lst ([.str (headT (k : Int) s'.g (s'.t - 1))] ++ ((DK.srt s'.l).map rowT).map V.str)) = H21 at s21 hY2 ⊢
        refine ⟨_, y2, headT (k : Int) s'.g (s'.t - 1) :: (DK.srt s'.l).map rowT, rfl, rfl, .inl (SqL.of hY2), rows_bd sp.fine sp.len, _, _, rfl, rfl, T1.fits, ?_⟩
        refine ⟨_, _, rfl, T1.len, T1.rows, T1.out, fun H22 s22 => ?_⟩
        have S22 := Same.trans S18 (Same.trans hd1 (Same.trans s20 (Same.trans s21 s22)))
        refine ⟨_, rfl, u, _, rfl, .inl (SqL.of (S22 _ _ hR)), rfl, _, rfl, iteF' (ne_eq (congrArg V.int rlen.symm)) ?_⟩
        clear s15 s16 s17 s18 hd1 s20 s21 s22 hY2 hQ hL2 hY hX S16 S18 D16 h16
        have T2 := W.tx_cut
        have T3 := W.tx_text
        have T4 := W.tx_x
        refine ⟨_, rfl, _, rfl, _, rfl, textT k s', rfl, by omega, ?_⟩
        rw [text_cut W]
        refine ⟨_, _, rfl, T2.len, T2.rows, T2.out, fun H23 s23 => ?_⟩
        have S23 := Same.trans S22 s23
        refine ⟨_, rfl, u, _, rfl, .inl (SqL.of (S23 _ _ hR)), rfl, _, rfl, iteF' (ne_eq (congrArg V.int rlen.symm)) ?_⟩
        refine ⟨_, rfl, _, _, rfl, T3.len, T3.rows, T3.out, fun H24 s24 => ⟨_, rfl, rfl, _, rfl, iteF' (ne_eq rfl) ?_⟩⟩
        have S24 := Same.trans S23 s24
        refine ⟨_, rfl, _, rfl, _, rfl, textT k s', rfl, by omega, ?_⟩
        rw [text_cut W]
        refine ⟨_, _, rfl, rfl, T4.fits, ?_⟩
        refine ⟨_, _, rfl, T4.len, T4.rows, T4.out, fun H25 s25 => ?_⟩
        have S25 := Same.trans S24 s25
        refine ⟨_, rfl, u, _, rfl, .inl (SqL.of (S25 _ _ hR)), _, _, rfl, rfl, rfl, _, rfl, iteF' (ne_eq (congrArg (fun q => V.int (q - 1)) rlen.symm)) ?_⟩
        exact ⟨_, _, rfl, S25⟩
      rintro σ H15 ⟨p14, p15, rfl, s15⟩
      have J := J.mono s15
      have fin := fun (H' : Hp) (x1 x2 x3 x4 x5 x6 x7 x8 x9 : Option V) (sH : Same H15 H') => fin H' x1 x2 x3 x4 x5 x6 x7 x8 x9 (Same.trans s15 sH)
      have hR := s15 _ _ hR
      clear s15
      obtain ⟨R, r, eR, _⟩ := W.rows_snoc
      have hrl : r.length ≤ sizeLine := by
        have := (W.fine r (by rw [eR]; exact List.mem_append_right _ (List.mem_singleton.mpr rfl))).len
        omega
      have ea : atI ((rowsT k s').map V.str) (-1) = some (.str r) := by
        rw [eR, List.map_append]
        exact atI_last _ _
      refine ⟨_, rfl, u, _, rfl, .inl (SqL.of hR), _, rfl, _, _, rfl, rfl, rfl, _, rfl, ?_⟩
      refine ite2 (fun hk => ?_) (fun _ => iteF (fin _ _ _ _ _ _ _ _ _ _ (fun _ _ h => h)))
      have hk : (rowsT k s').length = k + 1 := by
        have := V.int.inj (of_decide_eq_true hk)
        rw [ll] at this
        omega
      have T5 := W.tx_more hk
      refine ⟨_, rfl, _, rfl, u, _, _, .str r, rfl, rfl, SqL.of hR, ea, _, rfl, r, rfl, hrl, rfl, _, rfl, ?_⟩
      refine ite2 (fun _ => ?_) (fun _ => fin _ _ _ _ _ _ _ _ _ _ (fun _ _ h => h))
      refine ⟨_, rfl, _, _, rfl, rfl, T5.fits, _, _, rfl, T5.len, T5.rows, T5.out, fun H16 s16 => ?_⟩
      exact ⟨_, rfl, u, _, rfl, .inl (SqL.of (s16 _ _ hR)), rfl, _, rfl, iteF' (ne_eq (congrArg V.int rlen.symm)) (fin _ _ _ _ _ _ _ _ _ _ s16)⟩
    · clear J0 D s3 hd
      rintro σ H7 ⟨d, s, o4, o5, o7, o8, o9, o10, o11, o12, o13, o14, o15, rfl, J⟩
      have T6 := tx_long
      have T7 := tx_great0
      have T8 := tx_great1
      have z2 : (20000 : Nat) ≤ sizeLine := by rw [sizeLine_eq]; decide
      have ld := long_len
      rw [app_len] at ld
      have lg : ("desk 1 0 " : Str).length + (("1" : Str) ++ Txt.mul "0" 69).length ≤ 1000 := by decide +kernel
      have l1 : ("1" : Str).length + (Txt.mul "0" 69).length ≤ 1000 := by decide +kernel
      refine ⟨"0", 69, rfl, rfl, by decide +kernel, by decide, by decide, "1", _, rfl, rfl, by omega, ?_⟩
      refine ⟨"1", 5000, rfl, rfl, by decide +kernel, by decide, by decide, _, _, rfl, rfl, by omega, _, _, rfl, rfl, T6.fits, _, _, rfl, T6.len, T6.rows, T6.out, fun H8 s8 => ⟨rfl, _, rfl, iteF' (ne_eq rfl) ?_⟩⟩
      refine ⟨_, rfl, _, _, rfl, rfl, by omega, _, _, rfl, rfl, T7.fits, _, _, rfl, T7.len, T7.rows, T7.out, fun H9 s9 => ⟨_, rfl, rfl, _, rfl, iteF' (ne_eq rfl) ?_⟩⟩
      refine ⟨_, rfl, _, _, rfl, rfl, by omega, _, _, rfl, rfl, T8.fits, _, _, rfl, T8.len, T8.rows, T8.out, fun H10 s10 => ⟨rfl, _, rfl, iteF' (ne_eq rfl) ?_⟩⟩
      refine ⟨_, _, rfl, tx_empty.len, tx_empty.rows, tx_empty.out, fun H11 s11 => ⟨rfl, _, rfl, iteT' (decide_eq_true rfl) ?_⟩⟩
      refine ⟨_, _, rfl, tx_nl.len, tx_nl.rows, tx_nl.out, fun H12 s12 => ⟨rfl, _, rfl, iteT' (decide_eq_true rfl) ?_⟩⟩
      refine ⟨_, _, rfl, tx_zero.len, tx_zero.rows, tx_zero.out, fun H13 s13 => ⟨_, rfl, rfl, ?_⟩⟩
      have e : (decide (V.int (-1) = V.int (-1))) = true := decide_eq_true rfl
      show Q (.bl (decide (V.int (-1) = V.int (-1)))) H13
      rw [e]
      exact q _
end
theorem env_mk {l : PySem.W.OpenLaw} {w : World} {K : PySem.W.Frag} {h : Heap} {mg : Str → Option Value} {fa : Addr} (X : K.In h) (G : h.Ns mainGlobals mg) (hfa : mg "law" = some (.ref fa))
    {od0 an0 : Option Addr} {sl0 : Array (Option Value)} {oc0 kV0 dc0 pm0 cd0 ct0 : Value} {f0 : Addr}
    {od1 an1 : Option Addr} {sl1 : Array (Option Value)} {oc1 kV1 dc1 pm1 cd1 ct1 : Value} {f1 : Addr}
    {od2 an2 : Option Addr} {sl2 : Array (Option Value)} {oc2 kV2 dc2 pm2 cd2 ct2 : Value} {f2 : Addr}
    {od3 an3 : Option Addr} {sl3 : Array (Option Value)} {oc3 kV3 dc3 pm3 cd3 ct3 : Value} {f3 : Addr}
    {od4 an4 : Option Addr} {sl4 : Array (Option Value)} {oc4 kV4 dc4 pm4 cd4 ct4 : Value} {f4 : Addr}
    {od5 an5 : Option Addr} {sl5 : Array (Option Value)} {oc5 kV5 dc5 pm5 cd5 ct5 : Value} {f5 : Addr}
    {od6 an6 : Option Addr} {sl6 : Array (Option Value)} {oc6 kV6 dc6 pm6 cd6 ct6 : Value} {f6 : Addr}
    {od7 an7 : Option Addr} {sl7 : Array (Option Value)} {oc7 kV7 dc7 pm7 cd7 ct7 : Value} {f7 : Addr}
    {od8 an8 : Option Addr} {sl8 : Array (Option Value)} {oc8 kV8 dc8 pm8 cd8 ct8 : Value} {f8 : Addr} {dV8 : Value}
    {od9 an9 : Option Addr} {sl9 : Array (Option Value)} {oc9 kV9 dc9 pm9 cd9 ct9 : Value} {f9 : Addr}
    {od10 an10 : Option Addr} {sl10 : Array (Option Value)} {oc10 kV10 dc10 pm10 cd10 ct10 : Value} {f10 : Addr}
    {od11 an11 : Option Addr} {sl11 : Array (Option Value)} {oc11 kV11 dc11 pm11 cd11 ct11 : Value} {f11 : Addr}
    {od12 an12 : Option Addr} {sl12 : Array (Option Value)} {oc12 kV12 dc12 pm12 cd12 ct12 : Value} {f12 : Addr}
    {od13 an13 : Option Addr} {sl13 : Array (Option Value)} {oc13 kV13 dc13 pm13 cd13 ct13 : Value} {f13 : Addr}
    {od14 an14 : Option Addr} {sl14 : Array (Option Value)} {oc14 kV14 dc14 pm14 cd14 ct14 : Value} {f14 : Addr}
    {od15 an15 : Option Addr} {sl15 : Array (Option Value)} {oc15 kV15 dc15 pm15 cd15 ct15 : Value} {f15 : Addr}
    {od16 an16 : Option Addr} {sl16 : Array (Option Value)} {oc16 kV16 dc16 pm16 cd16 ct16 : Value} {f16 : Addr}
    {od17 an17 : Option Addr} {sl17 : Array (Option Value)} {oc17 kV17 dc17 pm17 cd17 ct17 : Value} {f17 : Addr}
    {od18 an18 : Option Addr} {sl18 : Array (Option Value)} {oc18 kV18 dc18 pm18 cd18 ct18 : Value} {f18 : Addr}
    {od19 an19 : Option Addr} {sl19 : Array (Option Value)} {oc19 kV19 dc19 pm19 cd19 ct19 : Value} {f19 : Addr}
    {od20 an20 : Option Addr} {sl20 : Array (Option Value)} {oc20 kV20 dc20 pm20 cd20 ct20 : Value} {f20 : Addr}
    {od21 an21 : Option Addr} {sl21 : Array (Option Value)} {oc21 kV21 dc21 pm21 cd21 ct21 : Value} {f21 : Addr}
    {od22 an22 : Option Addr} {sl22 : Array (Option Value)} {oc22 kV22 dc22 pm22 cd22 ct22 : Value} {f22 : Addr}
    {od23 an23 : Option Addr} {sl23 : Array (Option Value)} {oc23 kV23 dc23 pm23 cd23 ct23 : Value} {f23 : Addr}
    {od24 an24 : Option Addr} {sl24 : Array (Option Value)} {oc24 kV24 dc24 pm24 cd24 ct24 : Value} {f24 : Addr}
    {od25 an25 : Option Addr} {sl25 : Array (Option Value)} {oc25 kV25 dc25 pm25 cd25 ct25 : Value} {f25 : Addr}
    {od26 an26 : Option Addr} {sl26 : Array (Option Value)} {oc26 kV26 dc26 pm26 cd26 ct26 : Value} {f26 : Addr}
    {od27 an27 : Option Addr} {sl27 : Array (Option Value)} {oc27 kV27 dc27 pm27 cd27 ct27 : Value} {f27 : Addr}
    {od28 an28 : Option Addr} {sl28 : Array (Option Value)} {oc28 kV28 dc28 pm28 cd28 ct28 : Value} {f28 : Addr}
    {od29 an29 : Option Addr} {sl29 : Array (Option Value)} {oc29 kV29 dc29 pm29 cd29 ct29 : Value} {f29 : Addr}
    {T8 : Addr} {oT8 : Obj} {tT8 : Tok} {nT8 : Nat}
    {C : Addr} {lt : Tok} {ft : Tok} {nmX qX : Str} {NX : Addr} {bsX : List Value} {snX : List Str} {subX : List Value} {abX : Bool} {colX : Option Bool} {ddX : Option Addr} {m0X m1X m2X m3X m5X : Option Value} {C_NoName : Addr} {C_NoWeight : Addr} {C_NoDesk : Addr} {C_NoMatch : Addr} {C_NoPiece : Addr} {C_NoText : Addr} {C_DrawerError : Addr}
    (aC : PySem.W.nsIn K mainGlobals "Desk" = some (some (.ref C)))
    (a0 : PySem.W.findIn K (.ref C_NoText) "__init__" = some (some (.ref f0)))
    (i0 : PySem.W.typeIn K (.ref f0) = some (.type "function"))
    (l0 : K.lookup f0 = some ⟨oc0, od0, .func (PySem.W.fnOf "__init__" "NoText.__init__" (defArgs s_n_init) (defBody s_n_init) (defScope s_n_init) .none kV0 dc0 pm0 an0 cd0 ct0), sl0⟩)
    (c0 : PySem.W.codeIn K cd0 "NoText.__init__" = true)
    (k0 : PySem.W.keepIn K (.ref f0) = true)
    (a1 : PySem.W.nsIn K mainGlobals "is_name" = some (some (.ref f1)))
    (l1 : K.lookup f1 = some ⟨oc1, od1, .func (PySem.W.fnOf "is_name" "is_name" (defArgs s_is_name) (defBody s_is_name) (defScope s_is_name) .none kV1 dc1 pm1 an1 cd1 ct1), sl1⟩)
    (c1 : PySem.W.codeIn K cd1 "is_name" = true)
    (k1 : PySem.W.keepIn K (.ref f1) = true)
    (a2 : PySem.W.nsIn K mainGlobals "is_number" = some (some (.ref f2)))
    (l2 : K.lookup f2 = some ⟨oc2, od2, .func (PySem.W.fnOf "is_number" "is_number" (defArgs s_is_number) (defBody s_is_number) (defScope s_is_number) .none kV2 dc2 pm2 an2 cd2 ct2), sl2⟩)
    (c2 : PySem.W.codeIn K cd2 "is_number" = true)
    (k2 : PySem.W.keepIn K (.ref f2) = true)
    (a3 : PySem.W.nsIn K mainGlobals "check_name" = some (some (.ref f3)))
    (l3 : K.lookup f3 = some ⟨oc3, od3, .func (PySem.W.fnOf "check_name" "check_name" (defArgs s_check_name) (defBody s_check_name) (defScope s_check_name) .none kV3 dc3 pm3 an3 cd3 ct3), sl3⟩)
    (c3 : PySem.W.codeIn K cd3 "check_name" = true)
    (k3 : PySem.W.keepIn K (.ref f3) = true)
    (a4 : PySem.W.nsIn K mainGlobals "check_weight" = some (some (.ref f4)))
    (l4 : K.lookup f4 = some ⟨oc4, od4, .func (PySem.W.fnOf "check_weight" "check_weight" (defArgs s_check_weight) (defBody s_check_weight) (defScope s_check_weight) .none kV4 dc4 pm4 an4 cd4 ct4), sl4⟩)
    (c4 : PySem.W.codeIn K cd4 "check_weight" = true)
    (k4 : PySem.W.keepIn K (.ref f4) = true)
    (a5 : PySem.W.nsIn K mainGlobals "check_drawers" = some (some (.ref f5)))
    (l5 : K.lookup f5 = some ⟨oc5, od5, .func (PySem.W.fnOf "check_drawers" "check_drawers" (defArgs s_check_drawers) (defBody s_check_drawers) (defScope s_check_drawers) .none kV5 dc5 pm5 an5 cd5 ct5), sl5⟩)
    (c5 : PySem.W.codeIn K cd5 "check_drawers" = true)
    (k5 : PySem.W.keepIn K (.ref f5) = true)
    (a6 : PySem.W.nsIn K mainGlobals "lowered" = some (some (.ref f6)))
    (l6 : K.lookup f6 = some ⟨oc6, od6, .func (PySem.W.fnOf "lowered" "lowered" (defArgs s_lowered) (defBody s_lowered) (defScope s_lowered) .none kV6 dc6 pm6 an6 cd6 ct6), sl6⟩)
    (c6 : PySem.W.codeIn K cd6 "lowered" = true)
    (k6 : PySem.W.keepIn K (.ref f6) = true)
    (a7 : PySem.W.findIn K (.ref C) "__init__" = some (some (.ref f7)))
    (i7 : PySem.W.isFn K (.ref f7) = true)
    (l7 : K.lookup f7 = some ⟨oc7, od7, .func (PySem.W.fnOf "__init__" "Desk.__init__" (defArgs s_d_init) (defBody s_d_init) (defScope s_d_init) .none kV7 dc7 pm7 an7 cd7 ct7), sl7⟩)
    (c7 : PySem.W.codeIn K cd7 "Desk.__init__" = true)
    (k7 : PySem.W.keepIn K (.ref f7) = true)
    (a8 : PySem.W.findIn K (.ref C) "come" = some (some (.ref f8)))
    (i8 : PySem.W.isFn K (.ref f8) = true)
    (l8 : K.lookup f8 = some ⟨oc8, od8, .func (PySem.W.fnOf "come" "Desk.come" (defArgs s_d_come) (defBody s_d_come) (defScope s_d_come) dV8 kV8 dc8 pm8 an8 cd8 ct8), sl8⟩)
    (c8 : PySem.W.codeIn K cd8 "Desk.come" = true)
    (k8 : PySem.W.keepIn K (.ref f8) = true)
    (dv8 : dV8 = .ref T8)
    (dl8 : K.lookup T8 = some oT8)
    (dd8 : oT8.data = .seq #[Value.int 1 tT8] nT8)
    (a9 : PySem.W.findIn K (.ref C) "_come_to_full" = some (some (.ref f9)))
    (i9 : PySem.W.isFn K (.ref f9) = true)
    (l9 : K.lookup f9 = some ⟨oc9, od9, .func (PySem.W.fnOf "_come_to_full" "Desk._come_to_full" (defArgs s_d_come_to_full) (defBody s_d_come_to_full) (defScope s_d_come_to_full) .none kV9 dc9 pm9 an9 cd9 ct9), sl9⟩)
    (c9 : PySem.W.codeIn K cd9 "Desk._come_to_full" = true)
    (k9 : PySem.W.keepIn K (.ref f9) = true)
    (a10 : PySem.W.findIn K (.ref C) "shown" = some (some (.ref f10)))
    (i10 : PySem.W.isFn K (.ref f10) = true)
    (l10 : K.lookup f10 = some ⟨oc10, od10, .func (PySem.W.fnOf "shown" "Desk.shown" (defArgs s_d_shown) (defBody s_d_shown) (defScope s_d_shown) .none kV10 dc10 pm10 an10 cd10 ct10), sl10⟩)
    (c10 : PySem.W.codeIn K cd10 "Desk.shown" = true)
    (k10 : PySem.W.keepIn K (.ref f10) = true)
    (a11 : PySem.W.findIn K (.ref C) "lost" = some (some (.ref f11)))
    (i11 : PySem.W.isFn K (.ref f11) = true)
    (l11 : K.lookup f11 = some ⟨oc11, od11, .func (PySem.W.fnOf "lost" "Desk.lost" (defArgs s_d_lost) (defBody s_d_lost) (defScope s_d_lost) .none kV11 dc11 pm11 an11 cd11 ct11), sl11⟩)
    (c11 : PySem.W.codeIn K cd11 "Desk.lost" = true)
    (k11 : PySem.W.keepIn K (.ref f11) = true)
    (a12 : PySem.W.findIn K (.ref C) "weight" = some (some (.ref f12)))
    (i12 : PySem.W.isFn K (.ref f12) = true)
    (l12 : K.lookup f12 = some ⟨oc12, od12, .func (PySem.W.fnOf "weight" "Desk.weight" (defArgs s_d_weight) (defBody s_d_weight) (defScope s_d_weight) .none kV12 dc12 pm12 an12 cd12 ct12), sl12⟩)
    (c12 : PySem.W.codeIn K cd12 "Desk.weight" = true)
    (k12 : PySem.W.keepIn K (.ref f12) = true)
    (a13 : PySem.W.findIn K (.ref C) "drawers" = some (some (.ref f13)))
    (i13 : PySem.W.isFn K (.ref f13) = true)
    (l13 : K.lookup f13 = some ⟨oc13, od13, .func (PySem.W.fnOf "drawers" "Desk.drawers" (defArgs s_d_drawers) (defBody s_d_drawers) (defScope s_d_drawers) .none kV13 dc13 pm13 an13 cd13 ct13), sl13⟩)
    (c13 : PySem.W.codeIn K cd13 "Desk.drawers" = true)
    (k13 : PySem.W.keepIn K (.ref f13) = true)
    (a14 : PySem.W.findIn K (.ref C) "least" = some (some (.ref f14)))
    (i14 : PySem.W.isFn K (.ref f14) = true)
    (l14 : K.lookup f14 = some ⟨oc14, od14, .func (PySem.W.fnOf "least" "Desk.least" (defArgs s_d_least) (defBody s_d_least) (defScope s_d_least) .none kV14 dc14 pm14 an14 cd14 ct14), sl14⟩)
    (c14 : PySem.W.codeIn K cd14 "Desk.least" = true)
    (k14 : PySem.W.keepIn K (.ref f14) = true)
    (a15 : PySem.W.findIn K (.ref C) "most" = some (some (.ref f15)))
    (i15 : PySem.W.isFn K (.ref f15) = true)
    (l15 : K.lookup f15 = some ⟨oc15, od15, .func (PySem.W.fnOf "most" "Desk.most" (defArgs s_d_most) (defBody s_d_most) (defScope s_d_most) .none kV15 dc15 pm15 an15 cd15 ct15), sl15⟩)
    (c15 : PySem.W.codeIn K cd15 "Desk.most" = true)
    (k15 : PySem.W.keepIn K (.ref f15) = true)
    (a16 : PySem.W.nsIn K mainGlobals "desk_with" = some (some (.ref f16)))
    (l16 : K.lookup f16 = some ⟨oc16, od16, .func (PySem.W.fnOf "desk_with" "desk_with" (defArgs s_desk_with) (defBody s_desk_with) (defScope s_desk_with) .none kV16 dc16 pm16 an16 cd16 ct16), sl16⟩)
    (c16 : PySem.W.codeIn K cd16 "desk_with" = true)
    (k16 : PySem.W.keepIn K (.ref f16) = true)
    (a17 : PySem.W.nsIn K mainGlobals "written" = some (some (.ref f17)))
    (l17 : K.lookup f17 = some ⟨oc17, od17, .func (PySem.W.fnOf "written" "written" (defArgs s_written) (defBody s_written) (defScope s_written) .none kV17 dc17 pm17 an17 cd17 ct17), sl17⟩)
    (c17 : PySem.W.codeIn K cd17 "written" = true)
    (k17 : PySem.W.keepIn K (.ref f17) = true)
    (a18 : PySem.W.nsIn K mainGlobals "read" = some (some (.ref f18)))
    (l18 : K.lookup f18 = some ⟨oc18, od18, .func (PySem.W.fnOf "read" "read" (defArgs s_read) (defBody s_read) (defScope s_read) .none kV18 dc18 pm18 an18 cd18 ct18), sl18⟩)
    (c18 : PySem.W.codeIn K cd18 "read" = true)
    (k18 : PySem.W.keepIn K (.ref f18) = true)
    (a19 : PySem.W.nsIn K mainGlobals "rows_of" = some (some (.ref f19)))
    (l19 : K.lookup f19 = some ⟨oc19, od19, .func (PySem.W.fnOf "rows_of" "rows_of" (defArgs s_rows_of) (defBody s_rows_of) (defScope s_rows_of) .none kV19 dc19 pm19 an19 cd19 ct19), sl19⟩)
    (c19 : PySem.W.codeIn K cd19 "rows_of" = true)
    (k19 : PySem.W.keepIn K (.ref f19) = true)
    (a20 : PySem.W.nsIn K mainGlobals "head_in" = some (some (.ref f20)))
    (l20 : K.lookup f20 = some ⟨oc20, od20, .func (PySem.W.fnOf "head_in" "head_in" (defArgs s_head_in) (defBody s_head_in) (defScope s_head_in) .none kV20 dc20 pm20 an20 cd20 ct20), sl20⟩)
    (c20 : PySem.W.codeIn K cd20 "head_in" = true)
    (k20 : PySem.W.keepIn K (.ref f20) = true)
    (a21 : PySem.W.nsIn K mainGlobals "shown_in" = some (some (.ref f21)))
    (l21 : K.lookup f21 = some ⟨oc21, od21, .func (PySem.W.fnOf "shown_in" "shown_in" (defArgs s_shown_in) (defBody s_shown_in) (defScope s_shown_in) .none kV21 dc21 pm21 an21 cd21 ct21), sl21⟩)
    (c21 : PySem.W.codeIn K cd21 "shown_in" = true)
    (k21 : PySem.W.keepIn K (.ref f21) = true)
    (a22 : PySem.W.nsIn K mainGlobals "number_in" = some (some (.ref f22)))
    (l22 : K.lookup f22 = some ⟨oc22, od22, .func (PySem.W.fnOf "number_in" "number_in" (defArgs s_number_in) (defBody s_number_in) (defScope s_number_in) .none kV22 dc22 pm22 an22 cd22 ct22), sl22⟩)
    (c22 : PySem.W.codeIn K cd22 "number_in" = true)
    (k22 : PySem.W.keepIn K (.ref f22) = true)
    (a23 : PySem.W.nsIn K mainGlobals "_law_mixed" = some (some (.ref f23)))
    (l23 : K.lookup f23 = some ⟨oc23, od23, .func (PySem.W.fnOf "_law_mixed" "_law_mixed" (defArgs s_mixed) (defBody s_mixed) (defScope s_mixed) .none kV23 dc23 pm23 an23 cd23 ct23), sl23⟩)
    (c23 : PySem.W.codeIn K cd23 "_law_mixed" = true)
    (k23 : PySem.W.keepIn K (.ref f23) = true)
    (a24 : PySem.W.nsIn K mainGlobals "_law_names" = some (some (.ref f24)))
    (l24 : K.lookup f24 = some ⟨oc24, od24, .func (PySem.W.fnOf "_law_names" "_law_names" (defArgs s_names) (defBody s_names) (defScope s_names) .none kV24 dc24 pm24 an24 cd24 ct24), sl24⟩)
    (c24 : PySem.W.codeIn K cd24 "_law_names" = true)
    (k24 : PySem.W.keepIn K (.ref f24) = true)
    (a25 : PySem.W.nsIn K mainGlobals "_law_coming" = some (some (.ref f25)))
    (l25 : K.lookup f25 = some ⟨oc25, od25, .func (PySem.W.fnOf "_law_coming" "_law_coming" (defArgs s_coming) (defBody s_coming) (defScope s_coming) .none kV25 dc25 pm25 an25 cd25 ct25), sl25⟩)
    (c25 : PySem.W.codeIn K cd25 "_law_coming" = true)
    (k25 : PySem.W.keepIn K (.ref f25) = true)
    (a26 : PySem.W.nsIn K mainGlobals "_law_drawers" = some (some (.ref f26)))
    (l26 : K.lookup f26 = some ⟨oc26, od26, .func (PySem.W.fnOf "_law_drawers" "_law_drawers" (defArgs s_drawers) (defBody s_drawers) (defScope s_drawers) .none kV26 dc26 pm26 an26 cd26 ct26), sl26⟩)
    (c26 : PySem.W.codeIn K cd26 "_law_drawers" = true)
    (k26 : PySem.W.keepIn K (.ref f26) = true)
    (a27 : PySem.W.nsIn K mainGlobals "_law_told" = some (some (.ref f27)))
    (l27 : K.lookup f27 = some ⟨oc27, od27, .func (PySem.W.fnOf "_law_told" "_law_told" (defArgs s_told) (defBody s_told) (defScope s_told) .none kV27 dc27 pm27 an27 cd27 ct27), sl27⟩)
    (c27 : PySem.W.codeIn K cd27 "_law_told" = true)
    (k27 : PySem.W.keepIn K (.ref f27) = true)
    (a28 : PySem.W.nsIn K mainGlobals "_law_spoilt" = some (some (.ref f28)))
    (l28 : K.lookup f28 = some ⟨oc28, od28, .func (PySem.W.fnOf "_law_spoilt" "_law_spoilt" (defArgs s_spoilt) (defBody s_spoilt) (defScope s_spoilt) .none kV28 dc28 pm28 an28 cd28 ct28), sl28⟩)
    (c28 : PySem.W.codeIn K cd28 "_law_spoilt" = true)
    (k28 : PySem.W.keepIn K (.ref f28) = true)
    (a29 : PySem.W.nsIn K mainGlobals "law" = some (some (.ref f29)))
    (l29 : K.lookup f29 = some ⟨oc29, od29, .func (PySem.W.fnOf "law" "law" (defArgs s_law) (defBody s_law) (defScope s_law) .none kV29 dc29 pm29 an29 cd29 ct29), sl29⟩)
    (c29 : PySem.W.codeIn K cd29 "law" = true)
    (k29 : PySem.W.keepIn K (.ref f29) = true)
    (pg : PySem.W.plainGet K C Str.empty = true)
    (hd : PySem.W.hasDictIn K C = true)
    (po : PySem.W.plainOver K C = true)
    (sa : PySem.W.findIn K (.ref C) "__setattr__" = some (some (.builtin "object.__setattr__")))
    (mk : PySem.W.makesIn K C = true)
    (kc : PySem.W.keepIn K (.ref C) = true)
    (n_drawers : PySem.W.findIn K (.ref C) "_drawers" = some none)
    (n_shown : PySem.W.findIn K (.ref C) "_shown" = some none)
    (n_lost : PySem.W.findIn K (.ref C) "_lost" = some none)
    (n_weight : PySem.W.findIn K (.ref C) "_weight" = some none)
    (gF : PySem.W.nsIn K mainGlobals "FIGURES" = some (some (.str "0123456789" ft)))
    (gL : PySem.W.nsIn K mainGlobals "LETTERS" = some (some (.str "abcdefghijklmnopqrstuvwxyz" lt)))
    (z_bool : PySem.W.nsIn K mainGlobals "bool" = some none)
    (z_dict : PySem.W.nsIn K mainGlobals "dict" = some none)
    (z_enumerate : PySem.W.nsIn K mainGlobals "enumerate" = some none)
    (z_int : PySem.W.nsIn K mainGlobals "int" = some none)
    (z_isinstance : PySem.W.nsIn K mainGlobals "isinstance" = some none)
    (z_len : PySem.W.nsIn K mainGlobals "len" = some none)
    (z_min : PySem.W.nsIn K mainGlobals "min" = some none)
    (z_range : PySem.W.nsIn K mainGlobals "range" = some none)
    (z_sorted : PySem.W.nsIn K mainGlobals "sorted" = some none)
    (z_str : PySem.W.nsIn K mainGlobals "str" = some none)
    (z_sum : PySem.W.nsIn K mainGlobals "sum" = some none)
    (z_type : PySem.W.nsIn K mainGlobals "type" = some none)
    (e_NoName : PySem.W.nsIn K mainGlobals "NoName" = some (some (.ref C_NoName)))
    (ek_NoName : PySem.W.keepIn K (.ref C_NoName) = true)
    (eb_NoName : PySem.W.subIn K (.ref C_NoName) (.type "BaseException") = some true)
    (et_NoName : PySem.W.typeIn K (.ref C_NoName) = some (.type "type"))
    (ex_NoName : PySem.W.excIn K C_NoName [.type "ValueError", .type "Exception", .type "BaseException", .type "object"] "ValueError.__new__" = true)
    (e_NoWeight : PySem.W.nsIn K mainGlobals "NoWeight" = some (some (.ref C_NoWeight)))
    (ek_NoWeight : PySem.W.keepIn K (.ref C_NoWeight) = true)
    (eb_NoWeight : PySem.W.subIn K (.ref C_NoWeight) (.type "BaseException") = some true)
    (et_NoWeight : PySem.W.typeIn K (.ref C_NoWeight) = some (.type "type"))
    (ex_NoWeight : PySem.W.excIn K C_NoWeight [.type "ValueError", .type "Exception", .type "BaseException", .type "object"] "ValueError.__new__" = true)
    (e_NoDesk : PySem.W.nsIn K mainGlobals "NoDesk" = some (some (.ref C_NoDesk)))
    (ek_NoDesk : PySem.W.keepIn K (.ref C_NoDesk) = true)
    (eb_NoDesk : PySem.W.subIn K (.ref C_NoDesk) (.type "BaseException") = some true)
    (et_NoDesk : PySem.W.typeIn K (.ref C_NoDesk) = some (.type "type"))
    (ex_NoDesk : PySem.W.excIn K C_NoDesk [.type "ValueError", .type "Exception", .type "BaseException", .type "object"] "ValueError.__new__" = true)
    (e_NoMatch : PySem.W.nsIn K mainGlobals "NoMatch" = some (some (.ref C_NoMatch)))
    (ek_NoMatch : PySem.W.keepIn K (.ref C_NoMatch) = true)
    (eb_NoMatch : PySem.W.subIn K (.ref C_NoMatch) (.type "BaseException") = some true)
    (et_NoMatch : PySem.W.typeIn K (.ref C_NoMatch) = some (.type "type"))
    (ex_NoMatch : PySem.W.excIn K C_NoMatch [.type "ValueError", .type "Exception", .type "BaseException", .type "object"] "ValueError.__new__" = true)
    (e_NoPiece : PySem.W.nsIn K mainGlobals "NoPiece" = some (some (.ref C_NoPiece)))
    (ek_NoPiece : PySem.W.keepIn K (.ref C_NoPiece) = true)
    (eb_NoPiece : PySem.W.subIn K (.ref C_NoPiece) (.type "BaseException") = some true)
    (et_NoPiece : PySem.W.typeIn K (.ref C_NoPiece) = some (.type "type"))
    (ex_NoPiece : PySem.W.excIn K C_NoPiece [.type "ValueError", .type "Exception", .type "BaseException", .type "object"] "ValueError.__new__" = true)
    (e_NoText : PySem.W.nsIn K mainGlobals "NoText" = some (some (.ref C_NoText)))
    (ek_NoText : PySem.W.keepIn K (.ref C_NoText) = true)
    (eb_NoText : PySem.W.subIn K (.ref C_NoText) (.type "BaseException") = some true)
    (et_NoText : PySem.W.typeIn K (.ref C_NoText) = some (.type "type"))
    (e_DrawerError : PySem.W.nsIn K mainGlobals "DrawerError" = some (some (.ref C_DrawerError)))
    (ek_DrawerError : PySem.W.keepIn K (.ref C_DrawerError) = true)
    (eb_DrawerError : PySem.W.subIn K (.ref C_DrawerError) (.type "BaseException") = some true)
    (et_DrawerError : PySem.W.typeIn K (.ref C_DrawerError) = some (.type "type"))
    (xL : K.lookup C_NoText = some (excClassObj nmX qX C_NoText NX bsX [.ref C_DrawerError, .type "ValueError", .type "Exception", .type "BaseException", .type "object"] true snX subX abX colX ddX m0X m1X m2X m3X m5X "ValueError.__new__"))
    (saX : PySem.W.findIn K (.ref C_NoText) "__setattr__" = some (some (.builtin "object.__setattr__")))
    (rwX : PySem.W.findIn K (.ref C_NoText) "row" = some none)
    (hdE : PySem.W.hasDictIn K C_DrawerError = true)
    (hnX : PySem.W.specialIn K (.builtin "object.__class__") "__get__" = some (some (.builtin "getset_descriptor.__get__")))
    (htX : PySem.W.takesIn K (.builtin "object.__class__") = some true)
    (xa_NoName : PySem.W.findIn K (.ref C_NoName) "__getattribute__" = some (some (.builtin "BaseException.__getattribute__")))
    (xb_NoName : PySem.W.findIn K (.ref C_NoName) "__getattr__" = some none)
    (xd_NoName : PySem.W.hasDictIn K C_NoName = true)
    (xe_NoName : PySem.W.findIn K (.ref C_NoName) "__class__" = some (some (.builtin "object.__class__")))
    (xm_NoName : PySem.W.mroIn K C_NoName (.type "object") = some true)
    (xs_NoName : PySem.W.subIn K (.ref C_NoName) (.ref C_DrawerError) = some true)
    (kt_NoName_NoName : PySem.W.kitOne K (.ref C_NoName) (.ref C_NoName) = some true)
    (kt_NoName_NoWeight : PySem.W.kitOne K (.ref C_NoName) (.ref C_NoWeight) = some false)
    (kt_NoName_NoDesk : PySem.W.kitOne K (.ref C_NoName) (.ref C_NoDesk) = some false)
    (kt_NoName_NoMatch : PySem.W.kitOne K (.ref C_NoName) (.ref C_NoMatch) = some false)
    (kt_NoName_NoPiece : PySem.W.kitOne K (.ref C_NoName) (.ref C_NoPiece) = some false)
    (kt_NoName_NoText : PySem.W.kitOne K (.ref C_NoName) (.ref C_NoText) = some false)
    (xa_NoWeight : PySem.W.findIn K (.ref C_NoWeight) "__getattribute__" = some (some (.builtin "BaseException.__getattribute__")))
    (xb_NoWeight : PySem.W.findIn K (.ref C_NoWeight) "__getattr__" = some none)
    (xd_NoWeight : PySem.W.hasDictIn K C_NoWeight = true)
    (xe_NoWeight : PySem.W.findIn K (.ref C_NoWeight) "__class__" = some (some (.builtin "object.__class__")))
    (xm_NoWeight : PySem.W.mroIn K C_NoWeight (.type "object") = some true)
    (xs_NoWeight : PySem.W.subIn K (.ref C_NoWeight) (.ref C_DrawerError) = some true)
    (kt_NoWeight_NoName : PySem.W.kitOne K (.ref C_NoWeight) (.ref C_NoName) = some false)
    (kt_NoWeight_NoWeight : PySem.W.kitOne K (.ref C_NoWeight) (.ref C_NoWeight) = some true)
    (kt_NoWeight_NoDesk : PySem.W.kitOne K (.ref C_NoWeight) (.ref C_NoDesk) = some false)
    (kt_NoWeight_NoMatch : PySem.W.kitOne K (.ref C_NoWeight) (.ref C_NoMatch) = some false)
    (kt_NoWeight_NoPiece : PySem.W.kitOne K (.ref C_NoWeight) (.ref C_NoPiece) = some false)
    (kt_NoWeight_NoText : PySem.W.kitOne K (.ref C_NoWeight) (.ref C_NoText) = some false)
    (xa_NoDesk : PySem.W.findIn K (.ref C_NoDesk) "__getattribute__" = some (some (.builtin "BaseException.__getattribute__")))
    (xb_NoDesk : PySem.W.findIn K (.ref C_NoDesk) "__getattr__" = some none)
    (xd_NoDesk : PySem.W.hasDictIn K C_NoDesk = true)
    (xe_NoDesk : PySem.W.findIn K (.ref C_NoDesk) "__class__" = some (some (.builtin "object.__class__")))
    (xm_NoDesk : PySem.W.mroIn K C_NoDesk (.type "object") = some true)
    (xs_NoDesk : PySem.W.subIn K (.ref C_NoDesk) (.ref C_DrawerError) = some true)
    (kt_NoDesk_NoName : PySem.W.kitOne K (.ref C_NoDesk) (.ref C_NoName) = some false)
    (kt_NoDesk_NoWeight : PySem.W.kitOne K (.ref C_NoDesk) (.ref C_NoWeight) = some false)
    (kt_NoDesk_NoDesk : PySem.W.kitOne K (.ref C_NoDesk) (.ref C_NoDesk) = some true)
    (kt_NoDesk_NoMatch : PySem.W.kitOne K (.ref C_NoDesk) (.ref C_NoMatch) = some false)
    (kt_NoDesk_NoPiece : PySem.W.kitOne K (.ref C_NoDesk) (.ref C_NoPiece) = some false)
    (kt_NoDesk_NoText : PySem.W.kitOne K (.ref C_NoDesk) (.ref C_NoText) = some false)
    (xa_NoMatch : PySem.W.findIn K (.ref C_NoMatch) "__getattribute__" = some (some (.builtin "BaseException.__getattribute__")))
    (xb_NoMatch : PySem.W.findIn K (.ref C_NoMatch) "__getattr__" = some none)
    (xd_NoMatch : PySem.W.hasDictIn K C_NoMatch = true)
    (xe_NoMatch : PySem.W.findIn K (.ref C_NoMatch) "__class__" = some (some (.builtin "object.__class__")))
    (xm_NoMatch : PySem.W.mroIn K C_NoMatch (.type "object") = some true)
    (xs_NoMatch : PySem.W.subIn K (.ref C_NoMatch) (.ref C_DrawerError) = some true)
    (kt_NoMatch_NoName : PySem.W.kitOne K (.ref C_NoMatch) (.ref C_NoName) = some false)
    (kt_NoMatch_NoWeight : PySem.W.kitOne K (.ref C_NoMatch) (.ref C_NoWeight) = some false)
    (kt_NoMatch_NoDesk : PySem.W.kitOne K (.ref C_NoMatch) (.ref C_NoDesk) = some false)
    (kt_NoMatch_NoMatch : PySem.W.kitOne K (.ref C_NoMatch) (.ref C_NoMatch) = some true)
    (kt_NoMatch_NoPiece : PySem.W.kitOne K (.ref C_NoMatch) (.ref C_NoPiece) = some false)
    (kt_NoMatch_NoText : PySem.W.kitOne K (.ref C_NoMatch) (.ref C_NoText) = some false)
    (xa_NoText : PySem.W.findIn K (.ref C_NoText) "__getattribute__" = some (some (.builtin "BaseException.__getattribute__")))
    (xb_NoText : PySem.W.findIn K (.ref C_NoText) "__getattr__" = some none)
    (xd_NoText : PySem.W.hasDictIn K C_NoText = true)
    (xe_NoText : PySem.W.findIn K (.ref C_NoText) "__class__" = some (some (.builtin "object.__class__")))
    (xm_NoText : PySem.W.mroIn K C_NoText (.type "object") = some true)
    (xs_NoText : PySem.W.subIn K (.ref C_NoText) (.ref C_DrawerError) = some true)
    (kt_NoText_NoName : PySem.W.kitOne K (.ref C_NoText) (.ref C_NoName) = some false)
    (kt_NoText_NoWeight : PySem.W.kitOne K (.ref C_NoText) (.ref C_NoWeight) = some false)
    (kt_NoText_NoDesk : PySem.W.kitOne K (.ref C_NoText) (.ref C_NoDesk) = some false)
    (kt_NoText_NoMatch : PySem.W.kitOne K (.ref C_NoText) (.ref C_NoMatch) = some false)
    (kt_NoText_NoPiece : PySem.W.kitOne K (.ref C_NoText) (.ref C_NoPiece) = some false)
    (kt_NoText_NoText : PySem.W.kitOne K (.ref C_NoText) (.ref C_NoText) = some true)
    (kt_i_b : PySem.W.kitOne K (.type "int") (.type "bool") = some false)
    (kt_n_NoName : PySem.W.kitOne K (.type "NoneType") (.ref C_NoName) = some false)
    (kt_n_NoWeight : PySem.W.kitOne K (.type "NoneType") (.ref C_NoWeight) = some false)
    (kt_n_NoDesk : PySem.W.kitOne K (.type "NoneType") (.ref C_NoDesk) = some false)
    (kt_n_NoMatch : PySem.W.kitOne K (.type "NoneType") (.ref C_NoMatch) = some false)
    (kt_n_NoPiece : PySem.W.kitOne K (.type "NoneType") (.ref C_NoPiece) = some false)
    (kt_n_NoText : PySem.W.kitOne K (.type "NoneType") (.ref C_NoText) = some false)
    : ∃ fd : FuncData, (∀ (s : Shared) (v : Value), BindsTo s fd ⟨[v], []⟩ [("_law_script", v)]) ∧ ∀ base : Heap, K.In base → base.Ns mainGlobals mg → FnOk l.prog w K mg base CX0 8 fa fd ["_law_script"] (spLaw K) := by
  have e := hfa.symm.trans (PySem.W.mg_of X G a29)
  cases e
  have F0 := fun_mk (st := s_n_init) l0 c0 k0
  have b0 := F0.binds (ps := P_n_init) fun _ _ _ _ _ _ us hl => match us, hl with | [_, _], _ => rfl
  have F1 := fun_mk (st := s_is_name) l1 c1 k1
  have b1 := F1.binds (ps := P_is_name) fun _ _ _ _ _ _ us hl => match us, hl with | [_], _ => rfl
  have F2 := fun_mk (st := s_is_number) l2 c2 k2
  have b2 := F2.binds (ps := P_is_number) fun _ _ _ _ _ _ us hl => match us, hl with | [_, _], _ => rfl
  have F3 := fun_mk (st := s_check_name) l3 c3 k3
  have b3 := F3.binds (ps := P_check_name) fun _ _ _ _ _ _ us hl => match us, hl with | [_], _ => rfl
  have F4 := fun_mk (st := s_check_weight) l4 c4 k4
  have b4 := F4.binds (ps := P_check_weight) fun _ _ _ _ _ _ us hl => match us, hl with | [_], _ => rfl
  have F5 := fun_mk (st := s_check_drawers) l5 c5 k5
  have b5 := F5.binds (ps := P_check_drawers) fun _ _ _ _ _ _ us hl => match us, hl with | [_], _ => rfl
  have F6 := fun_mk (st := s_lowered) l6 c6 k6
  have b6 := F6.binds (ps := P_lowered) fun _ _ _ _ _ _ us hl => match us, hl with | [_, _], _ => rfl
  have F7 := fun_mk (st := s_d_init) l7 c7 k7
  have b7 := F7.binds (ps := P_d_init) fun _ _ _ _ _ _ us hl => match us, hl with | [_, _], _ => rfl
  subst dv8
  have F8 : FunD K "come" "Desk.come" (defArgs s_d_come) (defBody s_d_come) (defScope s_d_come) [.int 1] [] f8 (PySem.W.fnOf "come" "Desk.come" (defArgs s_d_come) (defBody s_d_come) (defScope s_d_come) (.ref T8) kV8 dc8 pm8 an8 cd8 ct8) := ⟨⟨_, _, _, _, _, _, _, _, _, _, rfl, l8, c8, .inr ⟨by simp, T8, oT8, [Value.int 1 tT8], nT8, rfl, dl8, dd8, .cons ⟨tT8, rfl⟩ .nil⟩, .inl rfl⟩, k8⟩
  have b8 : Binds K (PySem.W.fnOf "come" "Desk.come" (defArgs s_d_come) (defBody s_d_come) (defScope s_d_come) (.ref T8) kV8 dc8 pm8 an8 cd8 ct8) P_d_come [] := by
    obtain ⟨ds, hv, hb⟩ := F8.binds1 (ps := P_d_come) 3 1 (by simp) rfl (fun T kV doc pm an cdv ct us its hl h2 => match us, hl, its, h2 with | [_, _, _], _, [_], _ => ⟨_, rfl, rfl⟩)
    cases hv
    exact hb
  have F9 := fun_mk (st := s_d_come_to_full) l9 c9 k9
  have b9 := F9.binds (ps := P_d_come_to_full) fun _ _ _ _ _ _ us hl => match us, hl with | [_, _, _], _ => rfl
  have F10 := fun_mk (st := s_d_shown) l10 c10 k10
  have b10 := F10.binds (ps := P_d_shown) fun _ _ _ _ _ _ us hl => match us, hl with | [_], _ => rfl
  have F11 := fun_mk (st := s_d_lost) l11 c11 k11
  have b11 := F11.binds (ps := P_d_lost) fun _ _ _ _ _ _ us hl => match us, hl with | [_], _ => rfl
  have F12 := fun_mk (st := s_d_weight) l12 c12 k12
  have b12 := F12.binds (ps := P_d_weight) fun _ _ _ _ _ _ us hl => match us, hl with | [_], _ => rfl
  have F13 := fun_mk (st := s_d_drawers) l13 c13 k13
  have b13 := F13.binds (ps := P_d_drawers) fun _ _ _ _ _ _ us hl => match us, hl with | [_], _ => rfl
  have F14 := fun_mk (st := s_d_least) l14 c14 k14
  have b14 := F14.binds (ps := P_d_least) fun _ _ _ _ _ _ us hl => match us, hl with | [_, _], _ => rfl
  have F15 := fun_mk (st := s_d_most) l15 c15 k15
  have b15 := F15.binds (ps := P_d_most) fun _ _ _ _ _ _ us hl => match us, hl with | [_, _], _ => rfl
  have F16 := fun_mk (st := s_desk_with) l16 c16 k16
  have b16 := F16.binds (ps := P_desk_with) fun _ _ _ _ _ _ us hl => match us, hl with | [_, _, _, _], _ => rfl
  have F17 := fun_mk (st := s_written) l17 c17 k17
  have b17 := F17.binds (ps := P_written) fun _ _ _ _ _ _ us hl => match us, hl with | [_], _ => rfl
  have F18 := fun_mk (st := s_read) l18 c18 k18
  have b18 := F18.binds (ps := P_read) fun _ _ _ _ _ _ us hl => match us, hl with | [_], _ => rfl
  have F19 := fun_mk (st := s_rows_of) l19 c19 k19
  have b19 := F19.binds (ps := P_rows_of) fun _ _ _ _ _ _ us hl => match us, hl with | [_], _ => rfl
  have F20 := fun_mk (st := s_head_in) l20 c20 k20
  have b20 := F20.binds (ps := P_head_in) fun _ _ _ _ _ _ us hl => match us, hl with | [_], _ => rfl
  have F21 := fun_mk (st := s_shown_in) l21 c21 k21
  have b21 := F21.binds (ps := P_shown_in) fun _ _ _ _ _ _ us hl => match us, hl with | [_, _], _ => rfl
  have F22 := fun_mk (st := s_number_in) l22 c22 k22
  have b22 := F22.binds (ps := P_number_in) fun _ _ _ _ _ _ us hl => match us, hl with | [_], _ => rfl
  have F23 := fun_mk (st := s_mixed) l23 c23 k23
  have b23 := F23.binds (ps := P_mixed) fun _ _ _ _ _ _ us hl => match us, hl with | [_, _], _ => rfl
  have F24 := fun_mk (st := s_names) l24 c24 k24
  have b24 := F24.binds (ps := P_names) fun _ _ _ _ _ _ us hl => match us, hl with | [_], _ => rfl
  have F25 := fun_mk (st := s_coming) l25 c25 k25
  have b25 := F25.binds (ps := P_coming) fun _ _ _ _ _ _ us hl => match us, hl with | [_, _, _], _ => rfl
  have F26 := fun_mk (st := s_drawers) l26 c26 k26
  have b26 := F26.binds (ps := P_drawers) fun _ _ _ _ _ _ us hl => match us, hl with | [_], _ => rfl
  have F27 := fun_mk (st := s_told) l27 c27 k27
  have b27 := F27.binds (ps := P_told) fun _ _ _ _ _ _ us hl => match us, hl with | [_], _ => rfl
  have F28 := fun_mk (st := s_spoilt) l28 c28 k28
  have b28 := F28.binds (ps := P_spoilt) fun _ _ _ _ _ _ us hl => match us, hl with | [_, _, _, _], _ => rfl
  have F29 := fun_mk (st := s_law) l29 c29 k29
  have b29 := F29.binds (ps := P_law) fun _ _ _ _ _ _ us hl => match us, hl with | [_], _ => rfl
  let E : EnvD K mg := { D_n_init := ⟨f0, _, F0, b0⟩, D_is_name := ⟨f1, _, F1, b1⟩, m_is_name := PySem.W.mg_of X G a1, D_is_number := ⟨f2, _, F2, b2⟩, m_is_number := PySem.W.mg_of X G a2, D_check_name := ⟨f3, _, F3, b3⟩, m_check_name := PySem.W.mg_of X G a3, D_check_weight := ⟨f4, _, F4, b4⟩, m_check_weight := PySem.W.mg_of X G a4, D_check_drawers := ⟨f5, _, F5, b5⟩, m_check_drawers := PySem.W.mg_of X G a5, D_lowered := ⟨f6, _, F6, b6⟩, m_lowered := PySem.W.mg_of X G a6, D_d_init := ⟨f7, _, F7, b7⟩, D_d_come := ⟨f8, _, F8, b8⟩, D_d_come_to_full := ⟨f9, _, F9, b9⟩, D_d_shown := ⟨f10, _, F10, b10⟩, D_d_lost := ⟨f11, _, F11, b11⟩, D_d_weight := ⟨f12, _, F12, b12⟩, D_d_drawers := ⟨f13, _, F13, b13⟩, D_d_least := ⟨f14, _, F14, b14⟩, D_d_most := ⟨f15, _, F15, b15⟩, D_desk_with := ⟨f16, _, F16, b16⟩, m_desk_with := PySem.W.mg_of X G a16, D_written := ⟨f17, _, F17, b17⟩, m_written := PySem.W.mg_of X G a17, D_read := ⟨f18, _, F18, b18⟩, m_read := PySem.W.mg_of X G a18, D_rows_of := ⟨f19, _, F19, b19⟩, m_rows_of := PySem.W.mg_of X G a19, D_head_in := ⟨f20, _, F20, b20⟩, m_head_in := PySem.W.mg_of X G a20, D_shown_in := ⟨f21, _, F21, b21⟩, m_shown_in := PySem.W.mg_of X G a21, D_number_in := ⟨f22, _, F22, b22⟩, m_number_in := PySem.W.mg_of X G a22, D_mixed := ⟨f23, _, F23, b23⟩, m_mixed := PySem.W.mg_of X G a23, D_names := ⟨f24, _, F24, b24⟩, m_names := PySem.W.mg_of X G a24, D_coming := ⟨f25, _, F25, b25⟩, m_coming := PySem.W.mg_of X G a25, D_drawers := ⟨f26, _, F26, b26⟩, m_drawers := PySem.W.mg_of X G a26, D_told := ⟨f27, _, F27, b27⟩, m_told := PySem.W.mg_of X G a27, D_spoilt := ⟨f28, _, F28, b28⟩, m_spoilt := PySem.W.mg_of X G a28, D_law := ⟨fa, _, F29, b29⟩, m_law := PySem.W.mg_of X G a29, C := C, cl := ⟨pg, hd, po, sa⟩, mkD := ⟨mk, a7, i7, kc⟩, g_Desk := PySem.W.mg_of X G aC, a_drawers := n_drawers, a_shown := n_shown, a_lost := n_lost, a_weight := n_weight, me_d_come := ⟨a8, i8, k8⟩, me_d_come_to_full := ⟨a9, i9, k9⟩, me_d_shown := ⟨a10, i10, k10⟩, me_d_lost := ⟨a11, i11, k11⟩, me_d_weight := ⟨a12, i12, k12⟩, me_d_drawers := ⟨a13, i13, k13⟩, me_d_least := ⟨a14, i14, k14⟩, me_d_most := ⟨a15, i15, k15⟩, oex := ⟨⟨_, _, _, _, _, _, _, _, _, _, _, _, _, _, _, xL, rfl⟩, saX, eb_NoText, et_NoText, ek_NoText⟩, oexI := a0, oexT := i0, oexR := rwX, ft := ft, g_FIGURES := PySem.W.mg_of X G gF, lt := lt, g_LETTERS := PySem.W.mg_of X G gL, n_bool := PySem.W.mg_none_of X G z_bool, n_dict := PySem.W.mg_none_of X G z_dict, n_enumerate := PySem.W.mg_none_of X G z_enumerate, n_int := PySem.W.mg_none_of X G z_int, n_isinstance := PySem.W.mg_none_of X G z_isinstance, n_len := PySem.W.mg_none_of X G z_len, n_min := PySem.W.mg_none_of X G z_min, n_range := PySem.W.mg_none_of X G z_range, n_sorted := PySem.W.mg_none_of X G z_sorted, n_str := PySem.W.mg_none_of X G z_str, n_sum := PySem.W.mg_none_of X G z_sum, n_type := PySem.W.mg_none_of X G z_type, C_NoName := C_NoName, g_NoName := PySem.W.mg_of X G e_NoName, k_NoName := ek_NoName, b_NoName := eb_NoName, t_NoName := et_NoName, x_NoName := ex_NoName, C_NoWeight := C_NoWeight, g_NoWeight := PySem.W.mg_of X G e_NoWeight, k_NoWeight := ek_NoWeight, b_NoWeight := eb_NoWeight, t_NoWeight := et_NoWeight, x_NoWeight := ex_NoWeight, C_NoDesk := C_NoDesk, g_NoDesk := PySem.W.mg_of X G e_NoDesk, k_NoDesk := ek_NoDesk, b_NoDesk := eb_NoDesk, t_NoDesk := et_NoDesk, x_NoDesk := ex_NoDesk, C_NoMatch := C_NoMatch, g_NoMatch := PySem.W.mg_of X G e_NoMatch, k_NoMatch := ek_NoMatch, b_NoMatch := eb_NoMatch, t_NoMatch := et_NoMatch, x_NoMatch := ex_NoMatch, C_NoPiece := C_NoPiece, g_NoPiece := PySem.W.mg_of X G e_NoPiece, k_NoPiece := ek_NoPiece, b_NoPiece := eb_NoPiece, t_NoPiece := et_NoPiece, x_NoPiece := ex_NoPiece, C_NoText := C_NoText, g_NoText := PySem.W.mg_of X G e_NoText, k_NoText := ek_NoText, b_NoText := eb_NoText, t_NoText := et_NoText, C_DrawerError := C_DrawerError, g_DrawerError := PySem.W.mg_of X G e_DrawerError, k_DrawerError := ek_DrawerError, b_DrawerError := eb_DrawerError, t_DrawerError := et_DrawerError, xc_NoName := ⟨xa_NoName, xb_NoName, eb_NoName, xd_NoName, xe_NoName, hnX, htX, xm_NoName⟩, exm_NoName := PySem.W.exm_ref eb_DrawerError hdE et_DrawerError xs_NoName, kt_NoName_NoName := kt_NoName_NoName, kt_NoName_NoWeight := kt_NoName_NoWeight, kt_NoName_NoDesk := kt_NoName_NoDesk, kt_NoName_NoMatch := kt_NoName_NoMatch, kt_NoName_NoPiece := kt_NoName_NoPiece, kt_NoName_NoText := kt_NoName_NoText, xc_NoWeight := ⟨xa_NoWeight, xb_NoWeight, eb_NoWeight, xd_NoWeight, xe_NoWeight, hnX, htX, xm_NoWeight⟩, exm_NoWeight := PySem.W.exm_ref eb_DrawerError hdE et_DrawerError xs_NoWeight, kt_NoWeight_NoName := kt_NoWeight_NoName, kt_NoWeight_NoWeight := kt_NoWeight_NoWeight, kt_NoWeight_NoDesk := kt_NoWeight_NoDesk, kt_NoWeight_NoMatch := kt_NoWeight_NoMatch, kt_NoWeight_NoPiece := kt_NoWeight_NoPiece, kt_NoWeight_NoText := kt_NoWeight_NoText, xc_NoDesk := ⟨xa_NoDesk, xb_NoDesk, eb_NoDesk, xd_NoDesk, xe_NoDesk, hnX, htX, xm_NoDesk⟩, exm_NoDesk := PySem.W.exm_ref eb_DrawerError hdE et_DrawerError xs_NoDesk, kt_NoDesk_NoName := kt_NoDesk_NoName, kt_NoDesk_NoWeight := kt_NoDesk_NoWeight, kt_NoDesk_NoDesk := kt_NoDesk_NoDesk, kt_NoDesk_NoMatch := kt_NoDesk_NoMatch, kt_NoDesk_NoPiece := kt_NoDesk_NoPiece, kt_NoDesk_NoText := kt_NoDesk_NoText, xc_NoMatch := ⟨xa_NoMatch, xb_NoMatch, eb_NoMatch, xd_NoMatch, xe_NoMatch, hnX, htX, xm_NoMatch⟩, exm_NoMatch := PySem.W.exm_ref eb_DrawerError hdE et_DrawerError xs_NoMatch, kt_NoMatch_NoName := kt_NoMatch_NoName, kt_NoMatch_NoWeight := kt_NoMatch_NoWeight, kt_NoMatch_NoDesk := kt_NoMatch_NoDesk, kt_NoMatch_NoMatch := kt_NoMatch_NoMatch, kt_NoMatch_NoPiece := kt_NoMatch_NoPiece, kt_NoMatch_NoText := kt_NoMatch_NoText, xc_NoText := ⟨xa_NoText, xb_NoText, eb_NoText, xd_NoText, xe_NoText, hnX, htX, xm_NoText⟩, exm_NoText := PySem.W.exm_ref eb_DrawerError hdE et_DrawerError xs_NoText, kt_NoText_NoName := kt_NoText_NoName, kt_NoText_NoWeight := kt_NoText_NoWeight, kt_NoText_NoDesk := kt_NoText_NoDesk, kt_NoText_NoMatch := kt_NoText_NoMatch, kt_NoText_NoPiece := kt_NoText_NoPiece, kt_NoText_NoText := kt_NoText_NoText, xfT := ⟨xa_NoText, xb_NoText, eb_NoText, xd_NoText⟩, kt_i_b := kt_i_b, kn_NoName := kt_n_NoName, kn_NoWeight := kt_n_NoWeight, kn_NoDesk := kt_n_NoDesk, kn_NoMatch := kt_n_NoMatch, kn_NoPiece := kt_n_NoPiece, kn_NoText := kt_n_NoText }
  exact ⟨PySem.W.fnOf "law" "law" (defArgs s_law) (defBody s_law) (defScope s_law) .none kV29 dc29 pm29 an29 cd29 ct29, fun s v => .of_eq rfl, fun base _ _ => ok_law E⟩
theorem walk {l : PySem.W.OpenLaw} {q : Program} {loose : List Str} {XP : (Str → Option Value) → Heap → Prop} {YP : World → Heap → Prop} {d : DefRec} {K : Params → PySem.W.Frag} (hn : l.most = some 63) (hdf : d.params.defaults = [])
    (hY : ∀ (w : World) (h : Heap), YP w h → (K w.params).In h)
    (F : ∀ (w : World) (mg : Str → Option Value) (fa : Addr) (h : Heap), (K w.params).In h → h.Ns mainGlobals mg → mg d.name = some (.ref fa) →
      ∃ fd : FuncData, (∀ (s : Shared) (u : Value), BindsTo s fd ⟨[u], []⟩ [("_law_script", u)]) ∧ ∀ base : Heap, (K w.params).In base → base.Ns mainGlobals mg → FnOk l.prog w (K w.params) mg base CX0 8 fa fd ["_law_script"] (spLaw (K w.params))) :
    PySem.W.WalkO q loose XP YP l.row.toRowW d [] (fun f vs => PySem.call f vs) :=
  L2.walk_of (n := 63) (k := 8) (x := "_law_script") (CX := fun _ => CX0) (sp := fun w => spLaw (K w.params)) hn (by decide) hdf ⟨rfl, by decide, by decide⟩ hY F (fun _ _ a ns hl _ hS => ⟨a, ns, rfl, hS, hl, fun _ => rfl⟩) fun _ _ _ _ _ z => z
end DK
open PySem PySem.W PyProof.Rows
set_option maxRecDepth 100000 in
set_option maxHeartbeats 0 in
theorem PySem.Challenge.cw_drawerdesk_k13_read_refused_holds : PySem.Challenge.rw_drawerdesk_k13_read_refused.Holds := by
  w_on; o_law; k_head; (case hw => w_witness2)
  k_fill
  refine DK.walk (l := PySem.Challenge.rw_drawerdesk_k13_read_refused) rfl rfl (fun w h Y => PySem.W.kIn_of Y) ?F
  case F =>
    intro w mg fa h KX G hmg
    refine' DK.env_mk KX G hmg ?aC ?a0 ?i0 ?l0 ?c0 ?k0 ?a1 ?l1 ?c1 ?k1 ?a2 ?l2 ?c2 ?k2 ?a3 ?l3 ?c3 ?k3 ?a4 ?l4 ?c4 ?k4 ?a5 ?l5 ?c5 ?k5 ?a6 ?l6 ?c6 ?k6 ?a7 ?i7 ?l7 ?c7 ?k7 ?a8 ?i8 ?l8 ?c8 ?k8 ?dv8 ?dl8 ?dd8 ?a9 ?i9 ?l9 ?c9 ?k9 ?a10 ?i10 ?l10 ?c10 ?k10 ?a11 ?i11 ?l11 ?c11 ?k11 ?a12 ?i12 ?l12 ?c12 ?k12 ?a13 ?i13 ?l13 ?c13 ?k13 ?a14 ?i14 ?l14 ?c14 ?k14 ?a15 ?i15 ?l15 ?c15 ?k15 ?a16 ?l16 ?c16 ?k16 ?a17 ?l17 ?c17 ?k17 ?a18 ?l18 ?c18 ?k18 ?a19 ?l19 ?c19 ?k19 ?a20 ?l20 ?c20 ?k20 ?a21 ?l21 ?c21 ?k21 ?a22 ?l22 ?c22 ?k22 ?a23 ?l23 ?c23 ?k23 ?a24 ?l24 ?c24 ?k24 ?a25 ?l25 ?c25 ?k25 ?a26 ?l26 ?c26 ?k26 ?a27 ?l27 ?c27 ?k27 ?a28 ?l28 ?c28 ?k28 ?a29 ?l29 ?c29 ?k29 ?pg ?hd ?po ?sa ?mk ?kc ?n_drawers ?n_shown ?n_lost ?n_weight ?gF ?gL ?z_bool ?z_dict ?z_enumerate ?z_int ?z_isinstance ?z_len ?z_min ?z_range ?z_sorted ?z_str ?z_sum ?z_type ?e_NoName ?ek_NoName ?eb_NoName ?et_NoName ?ex_NoName ?e_NoWeight ?ek_NoWeight ?eb_NoWeight ?et_NoWeight ?ex_NoWeight ?e_NoDesk ?ek_NoDesk ?eb_NoDesk ?et_NoDesk ?ex_NoDesk ?e_NoMatch ?ek_NoMatch ?eb_NoMatch ?et_NoMatch ?ex_NoMatch ?e_NoPiece ?ek_NoPiece ?eb_NoPiece ?et_NoPiece ?ex_NoPiece ?e_NoText ?ek_NoText ?eb_NoText ?et_NoText ?e_DrawerError ?ek_DrawerError ?eb_DrawerError ?et_DrawerError ?xL ?saX ?rwX ?hdE ?hnX ?htX ?xa_NoName ?xb_NoName ?xd_NoName ?xe_NoName ?xm_NoName ?xs_NoName ?kt_NoName_NoName ?kt_NoName_NoWeight ?kt_NoName_NoDesk ?kt_NoName_NoMatch ?kt_NoName_NoPiece ?kt_NoName_NoText ?xa_NoWeight ?xb_NoWeight ?xd_NoWeight ?xe_NoWeight ?xm_NoWeight ?xs_NoWeight ?kt_NoWeight_NoName ?kt_NoWeight_NoWeight ?kt_NoWeight_NoDesk ?kt_NoWeight_NoMatch ?kt_NoWeight_NoPiece ?kt_NoWeight_NoText ?xa_NoDesk ?xb_NoDesk ?xd_NoDesk ?xe_NoDesk ?xm_NoDesk ?xs_NoDesk ?kt_NoDesk_NoName ?kt_NoDesk_NoWeight ?kt_NoDesk_NoDesk ?kt_NoDesk_NoMatch ?kt_NoDesk_NoPiece ?kt_NoDesk_NoText ?xa_NoMatch ?xb_NoMatch ?xd_NoMatch ?xe_NoMatch ?xm_NoMatch ?xs_NoMatch ?kt_NoMatch_NoName ?kt_NoMatch_NoWeight ?kt_NoMatch_NoDesk ?kt_NoMatch_NoMatch ?kt_NoMatch_NoPiece ?kt_NoMatch_NoText ?xa_NoText ?xb_NoText ?xd_NoText ?xe_NoText ?xm_NoText ?xs_NoText ?kt_NoText_NoName ?kt_NoText_NoWeight ?kt_NoText_NoDesk ?kt_NoText_NoMatch ?kt_NoText_NoPiece ?kt_NoText_NoText ?kt_i_b ?kt_n_NoName ?kt_n_NoWeight ?kt_n_NoDesk ?kt_n_NoMatch ?kt_n_NoPiece ?kt_n_NoText
    (case aC => k_is)
    (case e_NoName => k_is)
    (case e_NoWeight => k_is)
    (case e_NoDesk => k_is)
    (case e_NoMatch => k_is)
    (case e_NoPiece => k_is)
    (case e_NoText => k_is)
    (case e_DrawerError => k_is)
    (case a0 => k_is)
    (case i0 => k_is)
    (case l0 => k_is)
    (case c0 => k_is)
    (case k0 => k_is)
    (case a1 => k_is)
    (case l1 => k_is)
    (case c1 => k_is)
    (case k1 => k_is)
    (case a2 => k_is)
    (case l2 => k_is)
    (case c2 => k_is)
    (case k2 => k_is)
    (case a3 => k_is)
    (case l3 => k_is)
    (case c3 => k_is)
    (case k3 => k_is)
    (case a4 => k_is)
    (case l4 => k_is)
    (case c4 => k_is)
    (case k4 => k_is)
    (case a5 => k_is)
    (case l5 => k_is)
    (case c5 => k_is)
    (case k5 => k_is)
    (case a6 => k_is)
    (case l6 => k_is)
    (case c6 => k_is)
    (case k6 => k_is)
    (case a7 => k_is)
    (case i7 => k_is)
    (case l7 => k_is)
    (case c7 => k_is)
    (case k7 => k_is)
    (case a8 => k_is)
    (case i8 => k_is)
    (case l8 => k_is)
    (case c8 => k_is)
    (case k8 => k_is)
    (case dv8 => first | rfl | k_is)
    (case dl8 => k_is)
    (case dd8 => first | rfl | k_is)
    (case a9 => k_is)
    (case i9 => k_is)
    (case l9 => k_is)
    (case c9 => k_is)
    (case k9 => k_is)
    (case a10 => k_is)
    (case i10 => k_is)
    (case l10 => k_is)
    (case c10 => k_is)
    (case k10 => k_is)
    (case a11 => k_is)
    (case i11 => k_is)
    (case l11 => k_is)
    (case c11 => k_is)
    (case k11 => k_is)
    (case a12 => k_is)
    (case i12 => k_is)
    (case l12 => k_is)
    (case c12 => k_is)
    (case k12 => k_is)
    (case a13 => k_is)
    (case i13 => k_is)
    (case l13 => k_is)
    (case c13 => k_is)
    (case k13 => k_is)
    (case a14 => k_is)
    (case i14 => k_is)
    (case l14 => k_is)
    (case c14 => k_is)
    (case k14 => k_is)
    (case a15 => k_is)
    (case i15 => k_is)
    (case l15 => k_is)
    (case c15 => k_is)
    (case k15 => k_is)
    (case a16 => k_is)
    (case l16 => k_is)
    (case c16 => k_is)
    (case k16 => k_is)
    (case a17 => k_is)
    (case l17 => k_is)
    (case c17 => k_is)
    (case k17 => k_is)
    (case a18 => k_is)
    (case l18 => k_is)
    (case c18 => k_is)
    (case k18 => k_is)
    (case a19 => k_is)
    (case l19 => k_is)
    (case c19 => k_is)
    (case k19 => k_is)
    (case a20 => k_is)
    (case l20 => k_is)
    (case c20 => k_is)
    (case k20 => k_is)
    (case a21 => k_is)
    (case l21 => k_is)
    (case c21 => k_is)
    (case k21 => k_is)
    (case a22 => k_is)
    (case l22 => k_is)
    (case c22 => k_is)
    (case k22 => k_is)
    (case a23 => k_is)
    (case l23 => k_is)
    (case c23 => k_is)
    (case k23 => k_is)
    (case a24 => k_is)
    (case l24 => k_is)
    (case c24 => k_is)
    (case k24 => k_is)
    (case a25 => k_is)
    (case l25 => k_is)
    (case c25 => k_is)
    (case k25 => k_is)
    (case a26 => k_is)
    (case l26 => k_is)
    (case c26 => k_is)
    (case k26 => k_is)
    (case a27 => k_is)
    (case l27 => k_is)
    (case c27 => k_is)
    (case k27 => k_is)
    (case a28 => k_is)
    (case l28 => k_is)
    (case c28 => k_is)
    (case k28 => k_is)
    (case a29 => k_is)
    (case l29 => k_is)
    (case c29 => k_is)
    (case k29 => k_is)
    (case pg => k_is)
    (case hd => k_is)
    (case po => k_is)
    (case sa => k_is)
    (case mk => k_is)
    (case kc => k_is)
    (case n_drawers => k_is)
    (case n_shown => k_is)
    (case n_lost => k_is)
    (case n_weight => k_is)
    (case gF => k_is)
    (case gL => k_is)
    (case z_bool => k_is)
    (case z_dict => k_is)
    (case z_enumerate => k_is)
    (case z_int => k_is)
    (case z_isinstance => k_is)
    (case z_len => k_is)
    (case z_min => k_is)
    (case z_range => k_is)
    (case z_sorted => k_is)
    (case z_str => k_is)
    (case z_sum => k_is)
    (case z_type => k_is)
    (case ek_NoName => k_is)
    (case eb_NoName => k_is)
    (case et_NoName => k_is)
    (case ex_NoName => k_exc)
    (case ek_NoWeight => k_is)
    (case eb_NoWeight => k_is)
    (case et_NoWeight => k_is)
    (case ex_NoWeight => k_exc)
    (case ek_NoDesk => k_is)
    (case eb_NoDesk => k_is)
    (case et_NoDesk => k_is)
    (case ex_NoDesk => k_exc)
    (case ek_NoMatch => k_is)
    (case eb_NoMatch => k_is)
    (case et_NoMatch => k_is)
    (case ex_NoMatch => k_exc)
    (case ek_NoPiece => k_is)
    (case eb_NoPiece => k_is)
    (case et_NoPiece => k_is)
    (case ex_NoPiece => k_exc)
    (case ek_NoText => k_is)
    (case eb_NoText => k_is)
    (case et_NoText => k_is)
    (case ek_DrawerError => k_is)
    (case eb_DrawerError => k_is)
    (case et_DrawerError => k_is)
    (case xL => k_is)
    (case saX => k_is)
    (case rwX => k_is)
    (case hdE => k_is)
    (case hnX => k_is)
    (case htX => k_is)
    (case xa_NoName => k_is)
    (case xb_NoName => k_is)
    (case xd_NoName => k_is)
    (case xe_NoName => k_is)
    (case xm_NoName => k_is)
    (case xs_NoName => k_is)
    (case kt_NoName_NoName => kit_is)
    (case kt_NoName_NoWeight => kit_is)
    (case kt_NoName_NoDesk => kit_is)
    (case kt_NoName_NoMatch => kit_is)
    (case kt_NoName_NoPiece => kit_is)
    (case kt_NoName_NoText => kit_is)
    (case xa_NoWeight => k_is)
    (case xb_NoWeight => k_is)
    (case xd_NoWeight => k_is)
    (case xe_NoWeight => k_is)
    (case xm_NoWeight => k_is)
    (case xs_NoWeight => k_is)
    (case kt_NoWeight_NoName => kit_is)
    (case kt_NoWeight_NoWeight => kit_is)
    (case kt_NoWeight_NoDesk => kit_is)
    (case kt_NoWeight_NoMatch => kit_is)
    (case kt_NoWeight_NoPiece => kit_is)
    (case kt_NoWeight_NoText => kit_is)
    (case xa_NoDesk => k_is)
    (case xb_NoDesk => k_is)
    (case xd_NoDesk => k_is)
    (case xe_NoDesk => k_is)
    (case xm_NoDesk => k_is)
    (case xs_NoDesk => k_is)
    (case kt_NoDesk_NoName => kit_is)
    (case kt_NoDesk_NoWeight => kit_is)
    (case kt_NoDesk_NoDesk => kit_is)
    (case kt_NoDesk_NoMatch => kit_is)
    (case kt_NoDesk_NoPiece => kit_is)
    (case kt_NoDesk_NoText => kit_is)
    (case xa_NoMatch => k_is)
    (case xb_NoMatch => k_is)
    (case xd_NoMatch => k_is)
    (case xe_NoMatch => k_is)
    (case xm_NoMatch => k_is)
    (case xs_NoMatch => k_is)
    (case kt_NoMatch_NoName => kit_is)
    (case kt_NoMatch_NoWeight => kit_is)
    (case kt_NoMatch_NoDesk => kit_is)
    (case kt_NoMatch_NoMatch => kit_is)
    (case kt_NoMatch_NoPiece => kit_is)
    (case kt_NoMatch_NoText => kit_is)
    (case xa_NoText => k_is)
    (case xb_NoText => k_is)
    (case xd_NoText => k_is)
    (case xe_NoText => k_is)
    (case xm_NoText => k_is)
    (case xs_NoText => k_is)
    (case kt_NoText_NoName => kit_is)
    (case kt_NoText_NoWeight => kit_is)
    (case kt_NoText_NoDesk => kit_is)
    (case kt_NoText_NoMatch => kit_is)
    (case kt_NoText_NoPiece => kit_is)
    (case kt_NoText_NoText => kit_is)
    (case kt_i_b => kit_is)
    (case kt_n_NoName => kit_is)
    (case kt_n_NoWeight => kit_is)
    (case kt_n_NoDesk => kit_is)
    (case kt_n_NoMatch => kit_is)
    (case kt_n_NoPiece => kit_is)
    (case kt_n_NoText => kit_is)
