import PyProof.Rows.All
import Wide.All
import OpenK.AllK
import Wide.FinOn
import HandS.ForMost
import HandS.IsInst
import HandS.Codes
import HandS.Steps
import HandS.Exc
import HandS.TupAny
import HandS.StrMore
import HandS.Flow
import HandS.Small
import HandS.Conv
import PyProof.Rows.RegReprOcc
import PyProof.StrLawsLast
import KE.GoesEnum
import HandS.ForExc
import HandS.ExcInit
import HandS.ExcField
import HandS.ExcIs
import KE.KExcIs
import PyProof.ReprLen
import PyProof.ReprRoads
import PyProof.StrLawsRepr
import PyProof.FitsInt
import HandS.Ends
import Wide.All
import OpenK.AllK
import Wide.FinOn
import HandS.More
import HandS.Replace
import PyProof.AutoSeq1
import PySem.Challenge.RW_tongues_k07_patterns_refused
set_option Elab.async false
set_option linter.all false
set_option maxRecDepth 100000
set_option maxHeartbeats 1000000
/-! Tg: readings over deep data: what a reading asks, said of values without addresses. -/
namespace Tg
open PySem L2

/-! ### deep data -/
inductive D where
  | non | bl (b : Bool) | int (i : Int) | str (s : Str) | ty (n : String) | ref (a : Addr)
  | tup (ds : List D) | lst (ds : List D) | lsk (ds : List D)

mutual
def Rep (K : PySem.W.Frag) (G : Hp) : D → V → Prop
  | .non, v => v = .non
  | .bl b, v => v = .bl b
  | .int i, v => v = .int i
  | .str s, v => v = .str s
  | .ty n, v => v = .ty n
  | .ref a, v => v = .ref a
  | .tup ds, v => ∃ a xs, v = .ref a ∧ SqT K G a xs ∧ Reps K G ds xs
  | .lst ds, v => ∃ a xs, v = .ref a ∧ G a = some (.lst xs) ∧ Reps K G ds xs
  | .lsk ds, v => ∃ a xs, v = .ref a ∧ SqL K G a xs ∧ Reps K G ds xs
def Reps (K : PySem.W.Frag) (G : Hp) : List D → List V → Prop
  | [], xs => xs = []
  | d :: ds, xs => ∃ x r, xs = x :: r ∧ Rep K G d x ∧ Reps K G ds r
end

section
variable {K : PySem.W.Frag} {G G' H H' : Hp}
theorem Same.seqT {a : Addr} {xs : List V} (e : Same G G') (h : SqT K G a xs) : SqT K G' a xs := by
  rcases h with (h | ⟨o, h⟩) | h
  · exact .inl (.inl (e _ _ h))
  · exact .inl (.inr ⟨o, e _ _ h⟩)
  · exact .inr h
mutual
theorem Rep.mono (e : Same G G') : ∀ (d : D) (v : V), Rep K G d v → Rep K G' d v
  | .non, _, h => h
  | .bl _, _, h => h
  | .int _, _, h => h
  | .str _, _, h => h
  | .ty _, _, h => h
  | .ref _, _, h => h
  | .tup ds, _, h => by
    unfold Rep at h ⊢
    obtain ⟨a, xs, r, q, s⟩ := h
    exact ⟨a, xs, r, Same.seqT e q, Reps.mono e ds xs s⟩
  | .lst ds, _, h => by
    unfold Rep at h ⊢
    obtain ⟨a, xs, r, q, s⟩ := h
    exact ⟨a, xs, r, e _ _ q, Reps.mono e ds xs s⟩
  | .lsk ds, _, h => by
    unfold Rep at h ⊢
    obtain ⟨a, xs, r, q, s⟩ := h
    exact ⟨a, xs, r, e.seq q, Reps.mono e ds xs s⟩
theorem Reps.mono (e : Same G G') : ∀ (ds : List D) (xs : List V), Reps K G ds xs → Reps K G' ds xs
  | [], _, h => h
  | d :: ds, _, h => by
    unfold Reps at h ⊢
    obtain ⟨x, r, q, s, t⟩ := h
    exact ⟨x, r, q, Rep.mono e d x s, Reps.mono e ds r t⟩
end
theorem Reps.len : ∀ {ds : List D} {xs : List V}, Reps K G ds xs → xs.length = ds.length
  | [], _, h => by
    unfold Reps at h
    rw [h]
    rfl
  | d :: ds, _, h => by
    unfold Reps at h
    obtain ⟨x, r, q, _, t⟩ := h
    rw [q, List.length_cons, List.length_cons, Reps.len t]
theorem Reps.get : ∀ {ds : List D} {xs : List V} {i : Nat} {d : D}, Reps K G ds xs → ds[i]? = some d → ∃ x, xs[i]? = some x ∧ Rep K G d x
  | [], _, i, d, _, e => by simp at e
  | d :: ds, _, i, d', h, e => by
    unfold Reps at h
    obtain ⟨x, r, q, s, t⟩ := h
    subst q
    cases i with
    | zero =>
      have e1 : d = d' := by simpa using e
      subst e1
      exact ⟨x, rfl, s⟩
    | succ i =>
      have e1 : ds[i]? = some d' := by simpa using e
      obtain ⟨y, e2, s2⟩ := Reps.get t e1
      exact ⟨y, by simpa using e2, s2⟩
theorem Reps.get' : ∀ {ds : List D} {xs : List V} {i : Nat} {x : V}, Reps K G ds xs → xs[i]? = some x → ∃ d, ds[i]? = some d ∧ Rep K G d x
  | [], _, i, x, h, e => by
    unfold Reps at h
    rw [h] at e
    simp at e
  | d :: ds, _, i, x', h, e => by
    unfold Reps at h
    obtain ⟨x, r, q, s, t⟩ := h
    subst q
    cases i with
    | zero =>
      have e1 : x = x' := by simpa using e
      subst e1
      exact ⟨d, rfl, s⟩
    | succ i =>
      have e1 : r[i]? = some x' := by simpa using e
      obtain ⟨y, e2, s2⟩ := Reps.get' t e1
      exact ⟨y, by simpa using e2, s2⟩
theorem Reps.append : ∀ {ds es : List D} {xs ys : List V}, Reps K G ds xs → Reps K G es ys → Reps K G (ds ++ es) (xs ++ ys)
  | [], es, xs, ys, h, g => by
    unfold Reps at h
    rw [h]
    exact g
  | d :: ds, es, xs, ys, h, g => by
    unfold Reps at h
    obtain ⟨x, r, q, s, t⟩ := h
    subst q
    show Reps K G (d :: (ds ++ es)) (x :: (r ++ ys))
    unfold Reps
    exact ⟨x, _, rfl, s, Reps.append t g⟩
theorem Reps.one {d : D} {x : V} (h : Rep K G d x) : Reps K G [d] [x] := by
  unfold Reps
  exact ⟨x, [], rfl, h, by unfold Reps; rfl⟩
theorem Reps.nil : Reps K G [] [] := by
  unfold Reps
  rfl
theorem Reps.cons {d : D} {x : V} {ds : List D} {xs : List V} (h : Rep K G d x) (t : Reps K G ds xs) : Reps K G (d :: ds) (x :: xs) := by
  unfold Reps
  exact ⟨x, xs, rfl, h, t⟩
theorem Reps.uncons {d : D} {ds : List D} {xs : List V} (h : Reps K G (d :: ds) xs) : ∃ x r, xs = x :: r ∧ Rep K G d x ∧ Reps K G ds r := by
  unfold Reps at h
  exact h
theorem Reps.set : ∀ {ds : List D} {xs : List V} {i : Nat} {d : D} {x : V}, Reps K G ds xs → Rep K G d x → Reps K G (ds.set i d) (xs.set i x)
  | [], _, i, d, x, h, g => by
    unfold Reps at h
    rw [h]
    simp only [List.set_nil]
    exact Reps.nil
  | c :: ds, _, i, d, x, h, g => by
    obtain ⟨y, r, q, s, t⟩ := Reps.uncons h
    subst q
    cases i with
    | zero => exact Reps.cons g t
    | succ i => exact Reps.cons s (Reps.set t g)
theorem Reps.drop : ∀ {ds : List D} {xs : List V} (n : Nat), Reps K G ds xs → Reps K G (ds.drop n) (xs.drop n)
  | _, _, 0, h => h
  | [], _, n + 1, h => by
    unfold Reps at h
    rw [h]
    exact Reps.nil
  | c :: ds, _, n + 1, h => by
    obtain ⟨y, r, q, s, t⟩ := Reps.uncons h
    subst q
    exact Reps.drop n t
theorem Reps.take : ∀ {ds : List D} {xs : List V} (n : Nat), Reps K G ds xs → Reps K G (ds.take n) (xs.take n)
  | _, _, 0, h => Reps.nil
  | [], _, n + 1, h => by
    unfold Reps at h
    rw [h]
    exact Reps.nil
  | c :: ds, _, n + 1, h => by
    obtain ⟨y, r, q, s, t⟩ := Reps.uncons h
    subst q
    exact Reps.cons s (Reps.take n t)
theorem Reps.ints : ∀ {is : List Int} {xs : List V}, Reps K G (is.map D.int) xs → xs = is.map V.int
  | [], xs, h => by
    unfold Reps at h
    rw [h]
    rfl
  | i :: is, xs, h => by
    obtain ⟨x, r, q, s, t⟩ := Reps.uncons h
    unfold Rep at s
    rw [q, s, Reps.ints t]
    rfl
theorem Reps.ofInts : ∀ {is : List Int}, Reps K G (is.map D.int) (is.map V.int)
  | [] => Reps.nil
  | i :: is => Reps.cons (by unfold Rep; rfl) Reps.ofInts
theorem Reps.bls : ∀ {is : List Bool} {xs : List V}, Reps K G (is.map D.bl) xs → xs = is.map V.bl
  | [], xs, h => by
    unfold Reps at h
    rw [h]
    rfl
  | i :: is, xs, h => by
    obtain ⟨x, r, q, s, t⟩ := Reps.uncons h
    unfold Rep at s
    rw [q, s, Reps.bls t]
    rfl
theorem Reps.strs : ∀ {is : List Str} {xs : List V}, Reps K G (is.map D.str) xs → xs = is.map V.str
  | [], xs, h => by
    unfold Reps at h
    rw [h]
    rfl
  | i :: is, xs, h => by
    obtain ⟨x, r, q, s, t⟩ := Reps.uncons h
    unfold Rep at s
    rw [q, s, Reps.strs t]
    rfl
theorem rep_int {i : Int} {v : V} (h : Rep K G (.int i) v) : v = .int i := by
  unfold Rep at h
  exact h
theorem rep_str {i : Str} {v : V} (h : Rep K G (.str i) v) : v = .str i := by
  unfold Rep at h
  exact h
theorem rep_bl {i : Bool} {v : V} (h : Rep K G (.bl i) v) : v = .bl i := by
  unfold Rep at h
  exact h
theorem rep_non {v : V} (h : Rep K G .non v) : v = .non := by
  unfold Rep at h
  exact h
theorem rep_ref {a : Addr} {v : V} (h : Rep K G (.ref a) v) : v = .ref a := by
  unfold Rep at h
  exact h
theorem rep_ty {n : String} {v : V} (h : Rep K G (.ty n) v) : v = .ty n := by
  unfold Rep at h
  exact h
theorem rep_tup {ds : List D} {v : V} (h : Rep K G (.tup ds) v) : ∃ a xs, v = .ref a ∧ SqT K G a xs ∧ Reps K G ds xs := by
  unfold Rep at h
  exact h
theorem rep_lst {ds : List D} {v : V} (h : Rep K G (.lst ds) v) : ∃ a xs, v = .ref a ∧ G a = some (.lst xs) ∧ Reps K G ds xs := by
  unfold Rep at h
  exact h
theorem rep_lsk {ds : List D} {v : V} (h : Rep K G (.lsk ds) v) : ∃ a xs, v = .ref a ∧ SqL K G a xs ∧ Reps K G ds xs := by
  unfold Rep at h
  exact h
theorem rep_mk_tup {ds : List D} {a : Addr} {xs : List V} (h : SqT K G a xs) (r : Reps K G ds xs) : Rep K G (.tup ds) (.ref a) := by
  unfold Rep
  exact ⟨a, xs, rfl, h, r⟩
theorem rep_mk_lst {ds : List D} {a : Addr} {xs : List V} (h : G a = some (.lst xs)) (r : Reps K G ds xs) : Rep K G (.lst ds) (.ref a) := by
  unfold Rep
  exact ⟨a, xs, rfl, h, r⟩
theorem rep_mk_lsk {ds : List D} {a : Addr} {xs : List V} (h : SqL K G a xs) (r : Reps K G ds xs) : Rep K G (.lsk ds) (.ref a) := by
  unfold Rep
  exact ⟨a, xs, rfl, h, r⟩
theorem rep_of_int {i : Int} : Rep K G (.int i) (.int i) := by unfold Rep; rfl
theorem rep_of_str {i : Str} : Rep K G (.str i) (.str i) := by unfold Rep; rfl
theorem rep_of_bl {i : Bool} : Rep K G (.bl i) (.bl i) := by unfold Rep; rfl
theorem rep_of_non : Rep K G .non .non := by unfold Rep; rfl
theorem rep_of_ref {a : Addr} : Rep K G (.ref a) (.ref a) := by unfold Rep; rfl
theorem rep_of_ty {n : String} : Rep K G (.ty n) (.ty n) := by unfold Rep; rfl
end

/-! ### what may change: lists, dicts with int and text keys, instances -/
inductive MO where
  | lst (ds : List D)
  | dK (kvs : List (Key × D))
  | ins (C dx : Addr) (fs : List (Str × D))
  | xd (fs : List (Str × D))
abbrev Mu := List (Addr × MO)
def RepKV (K : PySem.W.Frag) (G : Hp) {κ : Type} : List (κ × D) → List (κ × V) → Prop
  | [], xs => xs = []
  | (k, d) :: ds, xs => ∃ x r, xs = (k, x) :: r ∧ Rep K G d x ∧ RepKV K G ds r
def RepM (K : PySem.W.Frag) (G : Hp) : MO → HO → Prop
  | .lst ds, o => ∃ xs, o = .lst xs ∧ Reps K G ds xs
  | .dK kvs, o => ∃ ps, o = .dK ps ∧ RepKV K G kvs ps
  | .ins C dx fs, o => ∃ ps, o = .ins C dx ps ∧ RepKV K G fs ps
  | .xd fs, o => ∃ ps, o = .xd ps ∧ RepKV K G fs ps
section
variable {K : PySem.W.Frag} {G G' H H' : Hp}
theorem RepKV.mono {κ : Type} (e : Same G G') : ∀ {ds : List (κ × D)} {xs : List (κ × V)}, RepKV K G ds xs → RepKV K G' ds xs
  | [], _, h => h
  | (k, d) :: ds, _, h => by
    unfold RepKV at h ⊢
    obtain ⟨x, r, q, s, t⟩ := h
    exact ⟨x, r, q, Rep.mono e _ _ s, RepKV.mono e t⟩
theorem RepM.mono (e : Same G G') {m : MO} {o : HO} (h : RepM K G m o) : RepM K G' m o := by
  cases m with
  | lst ds =>
    obtain ⟨xs, r, s⟩ := h
    exact ⟨xs, r, Reps.mono e _ _ s⟩
  | dK kvs =>
    obtain ⟨xs, r, s⟩ := h
    exact ⟨xs, r, RepKV.mono e s⟩
  | ins C dx fs =>
    obtain ⟨xs, r, s⟩ := h
    exact ⟨xs, r, RepKV.mono e s⟩
  | xd fs =>
    obtain ⟨xs, r, s⟩ := h
    exact ⟨xs, r, RepKV.mono e s⟩
end

/-- the state: G the part of the heap that stays, M what may change -/
structure S (K : PySem.W.Frag) (G H : Hp) (M : Mu) : Prop where
  same : Same G H
  mu : ∀ p ∈ M, G p.1 = none ∧ ∃ o, H p.1 = some o ∧ RepM K G p.2 o
  nd : (M.map (·.1)).Nodup
/-- from (G, H) with what may change at A, to (G', H') with what may change at A' -/
structure Step (A : List Addr) (G H : Hp) (A' : List Addr) (G' H' : Hp) : Prop where
  gg : Same G G'
  fr : ∀ b, H b ≠ none → b ∉ A → G' b = G b
  keep : ∀ b o, b ∉ A → H b = some o → H' b = some o
  alive : ∀ b, H b ≠ none → H' b ≠ none
  own : ∀ b ∈ A', b ∈ A ∨ H b = none
abbrev ads (M : Mu) : List Addr := M.map (·.1)

section
variable {K : PySem.W.Frag} {G G' G1 G2 H H' H1 H2 : Hp} {A A1 A2 : List Addr} {M M' M1 M2 : Mu}
theorem Step.refl : Step A G H A G H := ⟨Same.refl G, fun _ _ _ => rfl, fun _ _ _ h => h, fun _ h => h, fun _ h => .inl h⟩
theorem Step.trans (a : Step A G H A1 G1 H1) (b : Step A1 G1 H1 A2 G2 H2) : Step A G H A2 G2 H2 := by
  have no : ∀ c, H c ≠ none → c ∉ A → c ∉ A1 := fun c h n z => by
    rcases a.own c z with q | q
    · exact n q
    · exact h q
  refine ⟨a.gg.trans b.gg, fun c h n => ?_, fun c o n h => ?_, fun c h => b.alive c (a.alive c h), fun c h => ?_⟩
  · rw [b.fr c (a.alive c h) (no c h n), a.fr c h n]
  · exact b.keep c o (no c (by rw [h]; exact fun z => nomatch z) n) (a.keep c o n h)
  · rcases b.own c h with q | q
    · exact a.own c q
    · right
      cases e : H c with
      | none => rfl
      | some o => exact absurd q (a.alive c (by rw [e]; exact fun z => nomatch z))
/-- forgetting some of what may change -/
theorem S.sub (s : S K G H (M1 ++ M2)) : S K G H M1 := ⟨s.same, fun p hp => s.mu p (List.mem_append_left _ hp), by
  have h := s.nd
  rw [List.map_append] at h
  exact (List.nodup_append.mp h).1⟩
/-- a new frozen object -/
theorem S.frozen (s : S K G H M) {p : Addr} {o : HO} (hp : H p = none) : S K (upd G p o) (upd H p o) M ∧ Step (ads M) G H (ads M) (upd G p o) (upd H p o) ∧ Same G (upd G p o) := by
  have gp : G p = none := s.same.free hp
  have gs : Same G (upd G p o) := fun b u e => by
    rw [upd_ne (ne_of_none e gp)]
    exact e
  refine ⟨⟨fun b u e => ?_, fun q hq => ?_, s.nd⟩, ⟨gs, fun b hb _ => ?_, fun b u _ e => ?_, fun b e => ?_, fun b hb => .inl hb⟩, gs⟩
  · by_cases hb : b = p
    · subst hb
      rw [upd_same] at e ⊢
      exact e
    · rw [upd_ne hb] at e ⊢
      exact s.same b u e
  · obtain ⟨g1, o1, h1, r1⟩ := s.mu q hq
    have ne : q.1 ≠ p := ne_of_none h1 hp
    exact ⟨by rw [upd_ne ne]; exact g1, o1, by rw [upd_ne ne]; exact h1, r1.mono gs⟩
  · rw [upd_ne (fun z => hb (by rw [z]; exact hp))]
  · rw [upd_ne (ne_of_none e hp)]
    exact e
  · by_cases hb : b = p
    · subst hb
      rw [upd_same]
      exact fun z => nomatch z
    · rw [upd_ne hb]
      exact e
/-- a new object that may change -/
theorem S.fresh (s : S K G H M) {p : Addr} {o : HO} {m : MO} (hp : H p = none) (r : RepM K G m o) : S K G (upd H p o) (M ++ [(p, m)]) ∧ Step (ads M) G H (ads (M ++ [(p, m)])) G (upd H p o) := by
  have gp : G p = none := s.same.free hp
  refine ⟨⟨fun b u e => ?_, fun q hq => ?_, ?_⟩, ⟨Same.refl G, fun b hb _ => rfl, fun b u _ e => ?_, fun b e => ?_, fun b hb => ?_⟩⟩
  · rw [upd_ne (ne_of_none e gp)]
    exact s.same b u e
  · rcases List.mem_append.mp hq with hq | hq
    · obtain ⟨g1, o1, h1, r1⟩ := s.mu q hq
      exact ⟨g1, o1, by rw [upd_ne (ne_of_none h1 hp)]; exact h1, r1⟩
    · have e : q = (p, m) := by simpa using hq
      subst e
      exact ⟨gp, o, upd_same, r⟩
  · rw [List.map_append, List.nodup_append]
    refine ⟨s.nd, by simp, fun a ha b hb => ?_⟩
    have e : b = p := by simpa using hb
    subst e
    obtain ⟨q, hq, rfl⟩ := List.mem_map.mp ha
    obtain ⟨_, o1, h1, _⟩ := s.mu q hq
    exact ne_of_none h1 hp
  · rw [upd_ne (ne_of_none e hp)]
    exact e
  · by_cases hb : b = p
    · subst hb
      rw [upd_same]
      exact fun z => nomatch z
    · rw [upd_ne hb]
      exact e
  · have hb' : b ∈ M.map (·.1) ++ [p] := by simpa [ads] using hb
    rcases List.mem_append.mp hb' with hb | hb
    · exact .inl hb
    · have e : b = p := by simpa using hb
      subst e
      exact .inr hp
/-- what may change is changed -/
theorem S.write (s : S K G H (M1 ++ (p, m) :: M2)) {o : HO} {m' : MO} (r : RepM K G m' o) : S K G (upd H p o) (M1 ++ (p, m') :: M2) ∧ Step (ads (M1 ++ (p, m) :: M2)) G H (ads (M1 ++ (p, m') :: M2)) G (upd H p o) := by
  obtain ⟨gp, o0, hp, r0⟩ := s.mu (p, m) (by simp)
  have nd := s.nd
  have ads_eq : ads (M1 ++ (p, m') :: M2) = ads (M1 ++ (p, m) :: M2) := by simp [ads]
  have nd' : (M1.map (·.1) ++ p :: M2.map (·.1)).Nodup := by simpa using nd
  have out : ∀ q, q ∈ M1 ∨ q ∈ M2 → q.1 ≠ p := fun q hq z => by
    rw [List.nodup_append] at nd'
    obtain ⟨_, h2, h3⟩ := nd'
    rcases hq with hq | hq
    · exact h3 q.1 (List.mem_map.mpr ⟨q, hq, rfl⟩) p (by simp) z
    · exact (List.nodup_cons.mp h2).1 (List.mem_map.mpr ⟨q, hq, z⟩)
  refine ⟨⟨fun b u e => ?_, fun q hq => ?_, by rw [show (M1 ++ (p, m') :: M2).map (·.1) = (M1 ++ (p, m) :: M2).map (·.1) from ads_eq]; exact nd⟩, ⟨Same.refl G, fun b hb _ => rfl, fun b u hb e => ?_, fun b e => ?_, fun b hb => .inl (by rw [← ads_eq]; exact hb)⟩⟩
  · rw [upd_ne (ne_of_none e gp)]
    exact s.same b u e
  · have old : ∀ q, q ∈ M1 ∨ q ∈ M2 → G q.1 = none ∧ ∃ o1, upd H p o q.1 = some o1 ∧ RepM K G q.2 o1 := fun q hq => by
      obtain ⟨g1, o1, h1, r1⟩ := s.mu q (by rcases hq with hq | hq <;> simp [hq])
      exact ⟨g1, o1, by rw [upd_ne (out q hq)]; exact h1, r1⟩
    rcases List.mem_append.mp hq with hq | hq
    · exact old q (.inl hq)
    · rcases List.mem_cons.mp hq with e | hq
      · subst e
        exact ⟨gp, o, upd_same, r⟩
      · exact old q (.inr hq)
  · have ne : b ≠ p := fun z => hb (by simp [ads, z])
    rw [upd_ne ne]
    exact e
  · by_cases hb : b = p
    · subst hb
      rw [upd_same]
      exact fun z => nomatch z
    · rw [upd_ne hb]
      exact e
/-- what may change is frozen -/
theorem S.freeze {p : Addr} {ds : List D} (s : S K G H (M1 ++ (p, .lst ds) :: M2)) : ∃ xs, S K (upd G p (.lst xs)) H (M1 ++ M2) ∧ Step (ads (M1 ++ (p, .lst ds) :: M2)) G H (ads (M1 ++ M2)) (upd G p (.lst xs)) H ∧ Same G (upd G p (.lst xs)) ∧ Rep K (upd G p (.lst xs)) (.lst ds) (.ref p) := by
  obtain ⟨gp, o0, hp, r0⟩ := s.mu (p, .lst ds) (by simp)
  obtain ⟨xs, rfl, rx⟩ := r0
  have gs : Same G (upd G p (.lst xs)) := fun b u e => by
    rw [upd_ne (ne_of_none e gp)]
    exact e
  have nd := s.nd
  have nd' : (M1.map (·.1) ++ p :: M2.map (·.1)).Nodup := by simpa using nd
  have out : ∀ q, q ∈ M1 ∨ q ∈ M2 → q.1 ≠ p := fun q hq z => by
    rw [List.nodup_append] at nd'
    obtain ⟨_, h2, h3⟩ := nd'
    rcases hq with hq | hq
    · exact h3 q.1 (List.mem_map.mpr ⟨q, hq, rfl⟩) p (by simp) z
    · exact (List.nodup_cons.mp h2).1 (List.mem_map.mpr ⟨q, hq, z⟩)
  refine ⟨xs, ⟨fun b u e => ?_, fun q hq => ?_, ?_⟩, ⟨gs, fun b hb hn => ?_, fun b u hb e => e, fun b e => e, fun b hb => .inl ?_⟩, gs, ?_⟩
  · by_cases hb : b = p
    · subst hb
      rw [upd_same] at e
      rw [← e]
      exact hp
    · rw [upd_ne hb] at e
      exact s.same b u e
  · have hq' := List.mem_append.mp hq
    obtain ⟨g1, o1, h1, r1⟩ := s.mu q (by rcases hq' with z | z <;> simp [z])
    exact ⟨by rw [upd_ne (out q hq')]; exact g1, o1, h1, r1.mono gs⟩
  · rw [List.map_append]
    rw [List.nodup_append] at nd' ⊢
    obtain ⟨h1, h2, h3⟩ := nd'
    exact ⟨h1, (List.nodup_cons.mp h2).2, fun a ha b hb => h3 a ha b (List.mem_cons_of_mem _ hb)⟩
  · rw [upd_ne]
    intro z
    exact hn (by simp [ads, z])
  · simp only [ads, List.map_append, List.mem_append, List.map_cons, List.mem_cons] at hb ⊢
    rcases hb with z | z
    · exact .inl z
    · exact .inr (.inr z)
  · exact rep_mk_lst upd_same (Reps.mono gs _ _ rx)
end

/-! ### slots -/
abbrev DS := List (Option D)
structure RelS (K : PySem.W.Frag) (G : Hp) (δ : DS) (σ : L2.St) : Prop where
  len : δ.length = σ.length
  at_ : ∀ (i : Nat) (d : D), δ[i]? = some (some d) → ∃ v, σ[i]? = some (some v) ∧ Rep K G d v
section
variable {K : PySem.W.Frag} {G G' H H' : Hp} {δ : DS} {σ : L2.St}
theorem RelS.mono (e : Same G G') (r : RelS K G δ σ) : RelS K G' δ σ := ⟨r.len, fun i d h => let ⟨v, a, b⟩ := r.at_ i d h; ⟨v, a, Rep.mono e _ _ b⟩⟩
theorem RelS.set (r : RelS K G δ σ) (i : Nat) {d : D} {v : V} (h : Rep K G d v) : RelS K G (δ.set i (some d)) (σ.set i (some v)) := by
  refine ⟨by rw [List.length_set, List.length_set]; exact r.len, fun j e hj => ?_⟩
  by_cases hij : i = j
  · subst hij
    rw [List.getElem?_set] at hj ⊢
    rw [if_pos rfl] at hj ⊢
    rw [← r.len]
    split at hj
    · rename_i hl
      have e1 : d = e := by simpa using hj
      subst e1
      rw [if_pos hl]
      exact ⟨v, rfl, h⟩
    · cases hj
  · rw [List.getElem?_set_ne hij] at hj ⊢
    exact r.at_ j e hj
theorem RelS.setD (r : RelS K G δ σ) (i : Nat) {d : D} {v : V} (e : σ[i]? = some (some v)) (h : Rep K G d v) : RelS K G (δ.set i (some d)) σ := by
  refine ⟨by rw [List.length_set]; exact r.len, fun j f hj => ?_⟩
  by_cases hij : i = j
  · subst hij
    rw [List.getElem?_set, if_pos rfl] at hj
    split at hj
    · have e1 : d = f := by simpa using hj
      subst e1
      exact ⟨v, e, h⟩
    · cases hj
  · rw [List.getElem?_set_ne hij] at hj
    exact r.at_ j f hj
theorem RelS.drop (r : RelS K G δ σ) (i : Nat) : RelS K G (δ.set i none) (σ.set i none) := by
  refine ⟨by rw [List.length_set, List.length_set]; exact r.len, fun j e hj => ?_⟩
  by_cases hij : i = j
  · subst hij
    rw [List.getElem?_set, if_pos rfl] at hj
    split at hj <;> cases hj
  · rw [List.getElem?_set_ne hij] at hj ⊢
    exact r.at_ j e hj
/-- forgetting slots -/
theorem RelS.weak {δ' : DS} (r : RelS K G δ σ) (hl : δ'.length = δ.length) (h : ∀ (i : Nat) (d : D), δ'[i]? = some (some d) → δ[i]? = some (some d)) : RelS K G δ' σ := ⟨hl.trans r.len, fun i d e => r.at_ i d (h i d e)⟩
end
def startD (n : Nat) (ds : List D) : DS := ds.map some ++ List.replicate (n - ds.length) none
theorem relS_start {K : PySem.W.Frag} {G : Hp} {N : List Str} {ds : List D} {vs : List V} (r : Reps K G ds vs) : RelS K G (startD N.length ds) (L2.start N vs) := by
  have hl := r.len
  refine ⟨by simp [startD, L2.start, hl], fun i d h => ?_⟩
  unfold startD at h
  unfold L2.start
  by_cases hi : i < ds.length
  · rw [List.getElem?_append_left (by simpa using hi), List.getElem?_map] at h
    cases e : ds[i]? with
    | none => rw [e] at h; cases h
    | some d' =>
      rw [e] at h
      have e1 : d' = d := by simpa using h
      subst e1
      obtain ⟨x, e2, q⟩ := r.get e
      refine ⟨x, ?_, q⟩
      rw [List.getElem?_append_left (by simp [hl]; exact hi), List.getElem?_map, e2]
      rfl
  · rw [List.getElem?_append_right (by simpa using hi), List.getElem?_replicate] at h
    split at h <;> cases h

/-! ### readings over deep data -/
section
variable (K : PySem.W.Frag)
/-- behind an evaluation: the value d, what may change is M' -/
def AE (te : TE) (δ : DS) (M : Mu) (k : D → Mu → Prop) : Prop := ∀ σ G H Q, RelS K G δ σ → S K G H M →
  (∀ d M' v G' H', k d M' → S K G' H' M' → Step (ads M) G H (ads M') G' H' → Rep K G' d v → Q v H') → te σ H Q
def AT (tt : TT) (δ : DS) (M : Mu) (k : Bool → Mu → Prop) : Prop := ∀ σ G H Q, RelS K G δ σ → S K G H M →
  (∀ b M' G' H', k b M' → S K G' H' M' → Step (ads M) G H (ads M') G' H' → Q b H') → tt σ H Q
def AA (ta : TA) (δ : DS) (M : Mu) (k : List D → Mu → Prop) : Prop := ∀ σ G H Q, RelS K G δ σ → S K G H M →
  (∀ ds M' vs G' H', k ds M' → S K G' H' M' → Step (ads M) G H (ads M') G' H' → Reps K G' ds vs → Q vs H') → ta σ H Q
def AO (to : TO) (δ : DS) (M : Mu) (k : Option Int → Mu → Prop) : Prop := ∀ σ G H Q, RelS K G δ σ → S K G H M →
  (∀ o M' G' H', k o M' → S K G' H' M' → Step (ads M) G H (ads M') G' H' → Q o H') → to σ H Q
/-- an operation on two values, on one, on a list of values -/
def AR (r : R2) (x y : D) (M : Mu) (k : D → Mu → Prop) : Prop := ∀ vx vy G H Q, Rep K G x vx → Rep K G y vy → S K G H M →
  (∀ d M' v G' H', k d M' → S K G' H' M' → Step (ads M) G H (ads M') G' H' → Rep K G' d v → Q v H') → r vx vy H Q
def AU (r : V → Hp → VK → Prop) (x : D) (M : Mu) (k : D → Mu → Prop) : Prop := ∀ vx G H Q, Rep K G x vx → S K G H M →
  (∀ d M' v G' H', k d M' → S K G' H' M' → Step (ads M) G H (ads M') G' H' → Rep K G' d v → Q v H') → r vx H Q
def AC (r : List V → Hp → VK → Prop) (xs : List D) (M : Mu) (k : D → Mu → Prop) : Prop := ∀ vs G H Q, Reps K G xs vs → S K G H M →
  (∀ d M' v G' H', k d M' → S K G' H' M' → Step (ads M) G H (ads M') G' H' → Rep K G' d v → Q v H') → r vs H Q
/-- a method of x on a list of values -/
def AM (r : V → List V → Hp → VK → Prop) (x : D) (xs : List D) (M : Mu) (k : D → Mu → Prop) : Prop := ∀ vx vs G H Q, Rep K G x vx → Reps K G xs vs → S K G H M →
  (∀ d M' v G' H', k d M' → S K G' H' M' → Step (ads M) G H (ads M') G' H' → Rep K G' d v → Q v H') → r vx vs H Q
def AG (g : TG) (d : D) (δ : DS) (M : Mu) (k : DS → Mu → Prop) : Prop := ∀ v σ G H Q, Rep K G d v → RelS K G δ σ → S K G H M →
  (∀ δ' M' σ' G' H', k δ' M' → RelS K G' δ' σ' → S K G' H' M' → Step (ads M) G H (ads M') G' H' → Q σ' H') → g v σ H Q
def AGs (g : TGs) (ds : List D) (δ : DS) (M : Mu) (k : DS → Mu → Prop) : Prop := ∀ vs σ G H Q, Reps K G ds vs → RelS K G δ σ → S K G H M →
  (∀ δ' M' σ' G' H', k δ' M' → RelS K G' δ' σ' → S K G' H' M' → Step (ads M) G H (ads M') G' H' → Q σ' H') → g vs σ H Q
/-- what is wanted behind a statement -/
structure AEnds where
  nx : DS → Mu → Prop
  rt : D → Mu → Prop
  bk : DS → Mu → Prop := fun _ _ => False
  ct : DS → Mu → Prop := fun _ _ => False
  /-- what is raised: the error's fields; W, who takes it (the error's own dict, the heap) -/
  xs : List (Str × D) → Mu → Prop := fun _ _ => False
  W : Addr → Hp → Prop := fun _ _ => False
structure Fit (A : AEnds) (M : Mu) (G H : Hp) (E : Ends) : Prop where
  nx : ∀ δ' M' σ' G' H', A.nx δ' M' → RelS K G' δ' σ' → S K G' H' M' → Step (ads M) G H (ads M') G' H' → E.nx σ' H'
  rt : ∀ d M' v G' H', A.rt d M' → S K G' H' M' → Step (ads M) G H (ads M') G' H' → Rep K G' d v → E.rt v H'
  bk : ∀ δ' M' σ' G' H', A.bk δ' M' → RelS K G' δ' σ' → S K G' H' M' → Step (ads M) G H (ads M') G' H' → E.bk σ' H'
  ct : ∀ δ' M' σ' G' H', A.ct δ' M' → RelS K G' δ' σ' → S K G' H' M' → Step (ads M) G H (ads M') G' H' → E.ct σ' H'
  xs : ∀ fs M' d G' H', A.xs fs M' → S K G' H' (M' ++ [(d, .xd fs)]) → Step (ads M) G H (ads (M' ++ [(d, .xd fs)])) G' H' → A.W d H'
def AS (ts : TS) (δ : DS) (M : Mu) (A : AEnds) : Prop := ∀ σ G H E, RelS K G δ σ → S K G H M → Fit K A M G H E → ts E σ H
/-- what a for walks: the items ds -/
def ItOk (J : It) (G : Hp) (ds : List D) : Prop := ∀ i G1 H1 M, Same G G1 → S K G1 H1 M →
  (∀ d, ds[i]? = some d → J.go i H1 ∧ ∀ x H', J.yld i H1 x H' → ∃ G', S K G' H' M ∧ Step (ads M) G1 H1 (ads M) G' H' ∧ Rep K G' d x) ∧ (i = ds.length → J.stop i H1)
def AI (wi : TI) (δ : DS) (M : Mu) (k : List D → Mu → Prop) : Prop := ∀ σ G H R, RelS K G δ σ → S K G H M →
  (∀ ds M' G' H' J, k ds M' → S K G' H' M' → Step (ads M) G H (ads M') G' H' → ItOk K J G' ds → R J H') → wi σ H R
end
end Tg
set_option Elab.async false
set_option linter.all false
set_option maxRecDepth 100000
set_option maxHeartbeats 1000000
namespace Tg
open PySem L2
section
variable {K : PySem.W.Frag} {δ : DS} {M : Mu} {ta tb te to ti : TE} {k : D → Mu → Prop} {i : Nat} {d x y : D}
/-! ### expressions -/
theorem ae_var (h : δ[i]? = some (some d)) (q : k d M) : AE K (tVar i) δ M k := fun σ G H Q r s f =>
  let ⟨v, e, rv⟩ := r.at_ i d h
  ⟨v, e, f d M v G H q s Step.refl rv⟩
theorem ae_c {v : V} (h : ∀ G, Rep K G d v) (q : k d M) : AE K (tC v) δ M k := fun σ G H Q r s f => f d M v G H q s Step.refl (h G)
theorem ae_int {j : Int} (q : k (.int j) M) : AE K (tC (.int j)) δ M k := ae_c (fun _ => rep_of_int) q
theorem ae_bl {b : Bool} (q : k (.bl b) M) : AE K (tC (.bl b)) δ M k := ae_c (fun _ => rep_of_bl) q
theorem ae_non (q : k .non M) : AE K (tC .non) δ M k := ae_c (fun _ => rep_of_non) q
theorem ae_str {z : Str} (q : k (.str z) M) : AE K (tC (.str z)) δ M k := ae_c (fun _ => rep_of_str) q
theorem ae_ref {a : Addr} (q : k (.ref a) M) : AE K (tC (.ref a)) δ M k := ae_c (fun _ => rep_of_ref) q
theorem ae_ty {n : String} (q : k (.ty n) M) : AE K (tC (.ty n)) δ M k := ae_c (fun _ => rep_of_ty) q
theorem ae_op {r : R2} (h : AE K ta δ M fun x M1 => AE K tb δ M1 fun y M2 => AR K r x y M2 k) : AE K (tOp r ta tb) δ M k := fun σ G H Q rs s f =>
  h σ G H _ rs s fun x M1 vx G1 H1 h1 s1 st1 r1 => h1 σ G1 H1 _ (rs.mono st1.gg) s1 fun y M2 vy G2 H2 h2 s2 st2 r2 =>
    h2 vx vy G2 H2 Q (Rep.mono st2.gg _ _ r1) r2 s2 fun d M3 v G3 H3 q s3 st3 r3 => f d M3 v G3 H3 q s3 ((st1.trans st2).trans st3) r3
theorem ae_un {r : V → Hp → VK → Prop} (h : AE K ta δ M fun x M1 => AU K r x M1 k) : AE K (tUn r ta) δ M k := fun σ G H Q rs s f =>
  h σ G H _ rs s fun x M1 vx G1 H1 h1 s1 st1 r1 => h1 vx G1 H1 Q r1 s1 fun d M3 v G3 H3 q s3 st3 r3 => f d M3 v G3 H3 q s3 (st1.trans st3) r3
theorem ae_andV (h : AE K ta δ M fun x M1 => ∃ b, x = .bl b ∧ (b = true → AE K tb δ M1 k) ∧ (b = false → k (.bl false) M1)) : AE K (tAndV ta tb) δ M k := fun σ G H Q rs s f =>
  h σ G H _ rs s fun x M1 vx G1 H1 ⟨b, e, h1, h2⟩ s1 st1 r1 => by
    subst e
    refine ⟨b, rep_bl r1, ?_⟩
    cases b with
    | true =>
      rw [if_pos rfl]
      exact h1 rfl σ G1 H1 Q (rs.mono st1.gg) s1 fun d M3 v G3 H3 q s3 st3 r3 => f d M3 v G3 H3 q s3 (st1.trans st3) r3
    | false =>
      rw [if_neg Bool.false_ne_true]
      exact f _ M1 _ G1 H1 (h2 rfl) s1 st1 rep_of_bl
theorem ae_orV (h : AE K ta δ M fun x M1 => ∃ b, x = .bl b ∧ (b = false → AE K tb δ M1 k) ∧ (b = true → k (.bl true) M1)) : AE K (tOrV ta tb) δ M k := fun σ G H Q rs s f =>
  h σ G H _ rs s fun x M1 vx G1 H1 ⟨b, e, h1, h2⟩ s1 st1 r1 => by
    subst e
    refine ⟨b, rep_bl r1, ?_⟩
    cases b with
    | false =>
      rw [if_neg Bool.false_ne_true]
      exact h1 rfl σ G1 H1 Q (rs.mono st1.gg) s1 fun d M3 v G3 H3 q s3 st3 r3 => f d M3 v G3 H3 q s3 (st1.trans st3) r3
    | true =>
      rw [if_pos rfl]
      exact f _ M1 _ G1 H1 (h2 rfl) s1 st1 rep_of_bl
theorem ae_notV (h : AE K ta δ M fun x M1 => ∃ b, x = .bl b ∧ k (.bl (!b)) M1) : AE K (tNotV ta) δ M k := fun σ G H Q rs s f =>
  h σ G H _ rs s fun x M1 vx G1 H1 ⟨b, e, h1⟩ s1 st1 r1 => by
    subst e
    exact ⟨b, rep_bl r1, f _ M1 _ G1 H1 h1 s1 st1 rep_of_bl⟩
theorem ae_if {t : TT} (h : AT K t δ M fun b M1 => (b = true → AE K ta δ M1 k) ∧ (b = false → AE K tb δ M1 k)) : AE K (tIf t ta tb) δ M k := fun σ G H Q rs s f =>
  h σ G H _ rs s fun b M1 G1 H1 ⟨h1, h2⟩ s1 st1 => by
    cases b with
    | true =>
      rw [if_pos rfl]
      exact h1 rfl σ G1 H1 Q (rs.mono st1.gg) s1 fun d M3 v G3 H3 q s3 st3 r3 => f d M3 v G3 H3 q s3 (st1.trans st3) r3
    | false =>
      rw [if_neg Bool.false_ne_true]
      exact h2 rfl σ G1 H1 Q (rs.mono st1.gg) s1 fun d M3 v G3 H3 q s3 st3 r3 => f d M3 v G3 H3 q s3 (st1.trans st3) r3
/-! ### tests -/
variable {t u : TT} {kb : Bool → Mu → Prop}
theorem at_test (h : AE K te δ M fun d M' => ∃ b, d = .bl b ∧ kb b M') : AT K (tTest te) δ M kb := fun σ G H Q rs s f =>
  h σ G H _ rs s fun x M1 vx G1 H1 ⟨b, e, h1⟩ s1 st1 r1 => by
    subst e
    exact ⟨b, rep_bl r1, f b M1 G1 H1 h1 s1 st1⟩
theorem at_B (h : AE K te δ M fun d M' => ∃ b, d = .bl b ∧ kb b M') : AT K (tB te) δ M kb := fun σ G H Q rs s f =>
  h σ G H _ rs s fun x M1 vx G1 H1 ⟨b, e, h1⟩ s1 st1 r1 => by
    subst e
    exact ⟨b, rep_bl r1, f b M1 G1 H1 h1 s1 st1⟩
theorem at_and (h : AT K t δ M fun b M1 => (b = true → AT K u δ M1 kb) ∧ (b = false → kb false M1)) : AT K (tAnd t u) δ M kb := fun σ G H Q rs s f =>
  h σ G H _ rs s fun b M1 G1 H1 ⟨h1, h2⟩ s1 st1 => by
    cases b with
    | true =>
      rw [if_pos rfl]
      exact h1 rfl σ G1 H1 Q (rs.mono st1.gg) s1 fun d M3 G3 H3 q s3 st3 => f d M3 G3 H3 q s3 (st1.trans st3)
    | false =>
      rw [if_neg Bool.false_ne_true]
      exact f _ M1 G1 H1 (h2 rfl) s1 st1
theorem at_or (h : AT K t δ M fun b M1 => (b = false → AT K u δ M1 kb) ∧ (b = true → kb true M1)) : AT K (tOr t u) δ M kb := fun σ G H Q rs s f =>
  h σ G H _ rs s fun b M1 G1 H1 ⟨h1, h2⟩ s1 st1 => by
    cases b with
    | false =>
      rw [if_neg Bool.false_ne_true]
      exact h1 rfl σ G1 H1 Q (rs.mono st1.gg) s1 fun d M3 G3 H3 q s3 st3 => f d M3 G3 H3 q s3 (st1.trans st3)
    | true =>
      rw [if_pos rfl]
      exact f _ M1 G1 H1 (h2 rfl) s1 st1
theorem at_not (h : AT K t δ M fun b M1 => kb (!b) M1) : AT K (tNot t) δ M kb := fun σ G H Q rs s f =>
  h σ G H _ rs s fun b M1 G1 H1 h1 s1 st1 => f _ M1 G1 H1 h1 s1 st1
/-- a value's truth -/
def truD : D → Bool
  | .non => false
  | .bl b => b
  | .int i => i != 0
  | .str z => ((z.length : Int) != 0)
  | .tup ds => !ds.isEmpty
  | .lst ds => !ds.isEmpty
  | .lsk ds => !ds.isEmpty
  | _ => true
def TruOk : D → Prop
  | .str z => z.length ≤ sizeLine
  | .ref _ => False
  | .ty _ => False
  | _ => True
theorem isEmpty_len {α β : Type} {xs : List α} {ys : List β} (h : xs.length = ys.length) : xs.isEmpty = ys.isEmpty := by
  cases xs <;> cases ys <;> simp_all
theorem truV_of {G H : Hp} {v : V} (e : Same G H) (o : TruOk d) (r : Rep K G d v) : TruV K v H (truD d) := by
  cases d with
  | non => rw [rep_non r]; rfl
  | bl b => rw [rep_bl r]; rfl
  | int i => rw [rep_int r]; rfl
  | str z => rw [rep_str r]; exact ⟨o, rfl⟩
  | ty n => exact o.elim
  | ref a => exact o.elim
  | tup ds =>
    obtain ⟨a, xs, rfl, h, rs⟩ := rep_tup r
    exact .inr (.inl ⟨xs, Same.seqT e h, by rw [show truD (.tup ds) = !ds.isEmpty from rfl, isEmpty_len rs.len]⟩)
  | lst ds =>
    obtain ⟨a, xs, rfl, h, rs⟩ := rep_lst r
    exact .inl ⟨xs, .inl (.inl (e _ _ h)), by rw [show truD (.lst ds) = !ds.isEmpty from rfl, isEmpty_len rs.len]⟩
  | lsk ds =>
    obtain ⟨a, xs, rfl, h, rs⟩ := rep_lsk r
    exact .inl ⟨xs, e.seq h, by rw [show truD (.lsk ds) = !ds.isEmpty from rfl, isEmpty_len rs.len]⟩
def tTruU (K : PySem.W.Frag) (ta : TE) : TT := fun σ H Q => ta σ H fun x H' => ∃ k, TruV K x H' k ∧ Q k H'
theorem pt_tru {X : Cx} {a : Expr} (ha : PE X a ta) (he : ∀ whole, isTrue a X.env whole = (do let v ← whole; standAt a.pos; holding [v] (truthy v)) := by intro _; rfl) : PT X a (tTruU X.K ta) := pt_truth ha he
theorem at_tru (h : AE K te δ M fun d M' => TruOk d ∧ kb (truD d) M') : AT K (tTruU K te) δ M kb := fun σ G H Q rs s f =>
  h σ G H _ rs s fun x M1 vx G1 H1 ⟨o, h1⟩ s1 st1 r1 => ⟨truD x, truV_of s1.same o r1, f _ M1 G1 H1 h1 s1 st1⟩
/-! ### operations -/
theorem ar_int {g : Int → Int → Int} {a b : Int} (q : k (.int (g a b)) M) : AR K (rI0 fun i j => .int (g i j)) (.int a) (.int b) M k := fun vx vy G H Q rx ry s f =>
  ⟨a, b, rep_int rx, rep_int ry, f _ M _ G H q s Step.refl rep_of_int⟩
theorem ar_cmp {g : Int → Int → Bool} {a b : Int} (q : k (.bl (g a b)) M) : AR K (rI0 fun i j => .bl (g i j)) (.int a) (.int b) M k := fun vx vy G H Q rx ry s f =>
  ⟨a, b, rep_int rx, rep_int ry, f _ M _ G H q s Step.refl rep_of_bl⟩
theorem ar_intC {C : Int → Int → Prop} {g : Int → Int → Int} {a b : Int} (c : C a b) (q : k (.int (g a b)) M) : AR K (rI C fun i j => .int (g i j)) (.int a) (.int b) M k := fun vx vy G H Q rx ry s f =>
  ⟨a, b, rep_int rx, rep_int ry, c, f _ M _ G H q s Step.refl rep_of_int⟩
theorem ar_add {a b : Int} (q : k (.int (a + b)) M) : AR K (rI0 fun i j => .int (i + j)) (.int a) (.int b) M k := ar_int (g := fun i j => i + j) q
theorem ar_sub {a b : Int} (q : k (.int (a - b)) M) : AR K (rI0 fun i j => .int (i - j)) (.int a) (.int b) M k := ar_int (g := fun i j => i - j) q
theorem ar_or1 {r1 r2 : R2} (h : AR K r1 x y M k) : AR K (fun x y H Q => r1 x y H Q ∨ r2 x y H Q) x y M k := fun vx vy G H Q rx ry s f => .inl (h vx vy G H Q rx ry s f)
theorem ar_or2 {r1 r2 : R2} (h : AR K r2 x y M k) : AR K (fun x y H Q => r1 x y H Q ∨ r2 x y H Q) x y M k := fun vx vy G H Q rx ry s f => .inr (h vx vy G H Q rx ry s f)
theorem au_neg {a : Int} (q : k (.int (-a)) M) : AU K (rU fun i => .int (-i)) (.int a) M k := fun vx G H Q rx s f => ⟨a, rep_int rx, f _ M _ G H q s Step.refl rep_of_int⟩
/-- equality of two scalars -/
def sclD : D → D → Option Bool
  | .int a, .int b => some (decide (a = b))
  | .str a, .str b => some (decide (a = b))
  | .bl a, .bl b => some (decide (a = b))
  | .non, .non => some true
  | .non, .int _ => some false
  | .int _, .non => some false
  | .non, .str _ => some false
  | .str _, .non => some false
  | _, _ => none
theorem ar_eqD {b : Bool} (h : sclD x y = some b) (q : k (.bl b) M) : AR K rEq x y M k := fun vx vy G H Q rx ry s f => by
  have go : ∀ (c : Bool), scal vx vy = true → decide (vx = vy) = c → c = b → rEq vx vy H Q := fun c h1 h2 h3 => ⟨h1, by
    rw [h2, h3]
    exact f _ M _ G H q s Step.refl rep_of_bl⟩
  cases x <;> cases y <;> simp only [sclD, Option.some.injEq, reduceCtorEq] at h
  · rw [rep_non rx, rep_non ry] at go ⊢
    exact go true rfl (by simp) h
  · rename_i j
    rw [rep_non rx, rep_int ry] at go ⊢
    exact go false rfl (by simp) h
  · rename_i j
    rw [rep_non rx, rep_str ry] at go ⊢
    exact go false rfl (by simp) h
  · rename_i i j
    rw [rep_bl rx, rep_bl ry] at go ⊢
    exact go _ rfl (by simp) h
  · rw [rep_int rx, rep_non ry] at go ⊢
    exact go false rfl (by simp) h
  · rename_i i j
    rw [rep_int rx, rep_int ry] at go ⊢
    exact go _ rfl (by simp) h
  · rw [rep_str rx, rep_non ry] at go ⊢
    exact go false rfl (by simp) h
  · rename_i i j
    rw [rep_str rx, rep_str ry] at go ⊢
    exact go _ rfl (by simp) h
theorem ar_neD {b : Bool} (h : sclD x y = some b) (q : k (.bl (!b)) M) : AR K rNe x y M k := fun vx vy G H Q rx ry s f => by
  have go : ∀ (c : Bool), scal vx vy = true → decide (vx = vy) = c → c = b → rNe vx vy H Q := fun c h1 h2 h3 => ⟨h1, by
    rw [h2, h3]
    exact f _ M _ G H q s Step.refl rep_of_bl⟩
  cases x <;> cases y <;> simp only [sclD, Option.some.injEq, reduceCtorEq] at h
  · rw [rep_non rx, rep_non ry] at go ⊢
    exact go true rfl (by simp) h
  · rename_i j
    rw [rep_non rx, rep_int ry] at go ⊢
    exact go false rfl (by simp) h
  · rename_i j
    rw [rep_non rx, rep_str ry] at go ⊢
    exact go false rfl (by simp) h
  · rename_i i j
    rw [rep_bl rx, rep_bl ry] at go ⊢
    exact go _ rfl (by simp) h
  · rw [rep_int rx, rep_non ry] at go ⊢
    exact go false rfl (by simp) h
  · rename_i i j
    rw [rep_int rx, rep_int ry] at go ⊢
    exact go _ rfl (by simp) h
  · rw [rep_str rx, rep_non ry] at go ⊢
    exact go false rfl (by simp) h
  · rename_i i j
    rw [rep_str rx, rep_str ry] at go ⊢
    exact go _ rfl (by simp) h
def isNon : D → Bool
  | .non => true
  | _ => false
theorem isNon_of {G : Hp} {v : V} (r : Rep K G d v) : decide (v = V.non) = isNon d := by
  cases d with
  | non => rw [rep_non r]; rfl
  | bl b => rw [rep_bl r]; rfl
  | int i => rw [rep_int r]; rfl
  | str z => rw [rep_str r]; rfl
  | ty n => rw [rep_ty r]; rfl
  | ref a => rw [rep_ref r]; rfl
  | tup ds => obtain ⟨a, xs, rfl, _⟩ := rep_tup r; rfl
  | lst ds => obtain ⟨a, xs, rfl, _⟩ := rep_lst r; rfl
  | lsk ds => obtain ⟨a, xs, rfl, _⟩ := rep_lsk r; rfl
theorem ar_isN (q : k (.bl (isNon x)) M) : AR K rIsN x .non M k := fun vx vy G H Q rx ry s f => ⟨rep_non ry, by
  rw [isNon_of rx]
  exact f _ M _ G H q s Step.refl rep_of_bl⟩
theorem ar_notN (q : k (.bl (!isNon x)) M) : AR K rNotN x .non M k := fun vx vy G H Q rx ry s f => ⟨rep_non ry, by
  rw [isNon_of rx]
  exact f _ M _ G H q s Step.refl rep_of_bl⟩
/-! ### items -/
theorem atI_rep {G : Hp} {ds : List D} {xs : List V} {j : Int} (r : Reps K G ds xs) (h : atI ds j = some d) : ∃ v, atI xs j = some v ∧ Rep K G d v := by
  unfold atI at h ⊢
  rw [r.len]
  cases e : ixN ds.length j with
  | none => rw [e] at h; cases h
  | some m =>
    rw [e] at h
    exact r.get h
theorem ar_ixL {ds : List D} {j : Int} (h : atI ds j = some d) (q : k d M) : AR K (rIxL K) (.lst ds) (.int j) M k := fun vx vy G H Q rx ry s f => by
  obtain ⟨a, xs, rfl, ha, rs⟩ := rep_lst rx
  obtain ⟨v, e, rv⟩ := atI_rep rs h
  exact ⟨a, xs, j, v, rfl, rep_int ry, .inl (.inl (s.same _ _ ha)), e, f d M v G H q s Step.refl rv⟩
theorem ar_ixK {ds : List D} {j : Int} (h : atI ds j = some d) (q : k d M) : AR K (rIxL K) (.lsk ds) (.int j) M k := fun vx vy G H Q rx ry s f => by
  obtain ⟨a, xs, rfl, ha, rs⟩ := rep_lsk rx
  obtain ⟨v, e, rv⟩ := atI_rep rs h
  exact ⟨a, xs, j, v, rfl, rep_int ry, s.same.seq ha, e, f d M v G H q s Step.refl rv⟩
theorem ar_ixT {ds : List D} {j : Int} (h : atI ds j = some d) (q : k d M) : AR K (rIxT K) (.tup ds) (.int j) M k := fun vx vy G H Q rx ry s f => by
  obtain ⟨a, xs, rfl, ha, rs⟩ := rep_tup rx
  obtain ⟨v, e, rv⟩ := atI_rep rs h
  exact ⟨a, xs, j, v, rfl, rep_int ry, Same.seqT s.same ha, e, f d M v G H q s Step.refl rv⟩
theorem ar_ixS {z : Str} {j : Int} {c : Nat} (hz : z.length ≤ sizeLine) (h : atI z.cps.toList j = some c) (q : k (.str ⟨#[c]⟩) M) : AR K rIxS (.str z) (.int j) M k := fun vx vy G H Q rx ry s f =>
  ⟨z, j, c, rep_str rx, rep_int ry, hz, h, f _ M _ G H q s Step.refl rep_of_str⟩
/-- an item of a list that may change -/
theorem ar_ixM {a : Addr} {M1 M2 : Mu} {ds : List D} {j : Int} (e : M = M1 ++ (a, .lst ds) :: M2) (h : atI ds j = some d) (q : k d M) : AR K (rIxL K) (.ref a) (.int j) M k := fun vx vy G H Q rx ry s f => by
  obtain ⟨_, o, ho, r⟩ := s.mu (a, .lst ds) (by rw [e]; simp)
  obtain ⟨xs, rfl, rs⟩ := r
  obtain ⟨v, e2, rv⟩ := atI_rep rs h
  exact ⟨a, xs, j, v, rep_ref rx, rep_int ry, .inl (.inl ho), e2, f d M v G H q s Step.refl rv⟩
theorem aix_L {ds : List D} {j : Int} (h : atI ds j = some d) (q : k d M) : AR K (rIx K) (.lst ds) (.int j) M k := ar_or1 (ar_ixL h q)
theorem aix_K {ds : List D} {j : Int} (h : atI ds j = some d) (q : k d M) : AR K (rIx K) (.lsk ds) (.int j) M k := ar_or1 (ar_ixK h q)
theorem aix_T {ds : List D} {j : Int} (h : atI ds j = some d) (q : k d M) : AR K (rIx K) (.tup ds) (.int j) M k := ar_or2 (ar_or1 (ar_ixT h q))
theorem aix_S {z : Str} {j : Int} {c : Nat} (hz : z.length ≤ sizeLine) (h : atI z.cps.toList j = some c) (q : k (.str ⟨#[c]⟩) M) : AR K (rIx K) (.str z) (.int j) M k := ar_or2 (ar_or2 (ar_ixS hz h q))
theorem aix_M {a : Addr} {M1 M2 : Mu} {ds : List D} {j : Int} (e : M = M1 ++ (a, .lst ds) :: M2) (h : atI ds j = some d) (q : k d M) : AR K (rIx K) (.ref a) (.int j) M k := ar_or1 (ar_ixM e h q)
/-! ### arguments, calls -/
variable {kl : List D → Mu → Prop}
theorem aa_nil (q : kl [] M) : AA K tNil δ M kl := fun σ G H Q r s f => f [] M [] G H q s Step.refl Reps.nil
theorem aa_cons {tr : TA} (h : AE K te δ M fun d M1 => AA K tr δ M1 fun ds M2 => kl (d :: ds) M2) : AA K (tCons te tr) δ M kl := fun σ G H Q rs s f =>
  h σ G H _ rs s fun x M1 vx G1 H1 h1 s1 st1 r1 => h1 σ G1 H1 _ (rs.mono st1.gg) s1 fun ds M2 vs G2 H2 h2 s2 st2 r2 =>
    f (x :: ds) M2 (vx :: vs) G2 H2 h2 s2 (st1.trans st2) (Reps.cons (Rep.mono st2.gg _ _ r1) r2)
theorem ae_tup {ts : TA} (h : AA K ts δ M fun ds M1 => ds.length ≤ sizeLine ∧ k (.tup ds) M1) : AE K (tTup ts) δ M k := fun σ G H Q rs s f =>
  h σ G H _ rs s fun ds M1 vs G1 H1 ⟨hl, h1⟩ s1 st1 r1 => ⟨by rw [r1.len]; exact hl, fun p hp => by
    obtain ⟨s2, st2, e2⟩ := s1.frozen (o := .tup vs) hp
    exact f _ M1 _ _ _ h1 s2 (st1.trans st2) (rep_mk_tup (.inl (.inl upd_same)) (Reps.mono e2 _ _ r1))⟩
theorem ae_lst {ts : TA} (h : AA K ts δ M fun ds M1 => ds.length ≤ sizeLine ∧ k (.lst ds) M1) : AE K (tLst ts) δ M k := fun σ G H Q rs s f =>
  h σ G H _ rs s fun ds M1 vs G1 H1 ⟨hl, h1⟩ s1 st1 r1 => ⟨by rw [r1.len]; exact hl, fun p hp => by
    obtain ⟨s2, st2, e2⟩ := s1.frozen (o := .lst vs) hp
    exact f _ M1 _ _ _ h1 s2 (st1.trans st2) (rep_mk_lst upd_same (Reps.mono e2 _ _ r1))⟩
/-- a list that is to change -/
def tLstM (t : TA) : TE := tLst t
theorem pe_lstM {X : Cx} {es : List Expr} {t : TA} {pos : Pos} (h : PE X (.List es pos) (tLst t)) : PE X (.List es pos) (tLstM t) := h
theorem ae_lstM {ts : TA} (h : AA K ts δ M fun ds M1 => ds.length ≤ sizeLine ∧ ∀ a, k (.ref a) (M1 ++ [(a, .lst ds)])) : AE K (tLstM ts) δ M k := fun σ G H Q rs s f =>
  h σ G H _ rs s fun ds M1 vs G1 H1 ⟨hl, h1⟩ s1 st1 r1 => ⟨by rw [r1.len]; exact hl, fun p hp => by
    obtain ⟨s2, st2⟩ := s1.fresh (m := .lst ds) (o := .lst vs) hp ⟨vs, rfl, r1⟩
    exact f _ _ _ _ _ (h1 p) s2 (st1.trans st2) rep_of_ref⟩
theorem ae_cb {r : List V → Hp → VK → Prop} {ts : TA} (h : AA K ts δ M fun ds M1 => AC K r ds M1 k) : AE K (tCB r ts) δ M k := fun σ G H Q rs s f =>
  h σ G H _ rs s fun ds M1 vs G1 H1 h1 s1 st1 r1 => h1 vs G1 H1 Q r1 s1 fun d M3 v G3 H3 q s3 st3 r3 => f d M3 v G3 H3 q s3 (st1.trans st3) r3
theorem ac_or1 {r1 r2 : List V → Hp → VK → Prop} {xs : List D} (h : AC K r1 xs M k) : AC K (fun xs H Q => r1 xs H Q ∨ r2 xs H Q) xs M k := fun vs G H Q rx s f => .inl (h vs G H Q rx s f)
theorem ac_or2 {r1 r2 : List V → Hp → VK → Prop} {xs : List D} (h : AC K r2 xs M k) : AC K (fun xs H Q => r1 xs H Q ∨ r2 xs H Q) xs M k := fun vs G H Q rx s f => .inr (h vs G H Q rx s f)
/-! ### a def's promise over deep data -/
def Spc (K : PySem.W.Frag) (W : List D → Mu → (D → Mu → Prop) → Prop) : Sp := fun vs H Q _ => ∃ G ds M k, Reps K G ds vs ∧ S K G H M ∧ W ds M k ∧
  ∀ d M' v G' H', k d M' → S K G' H' M' → Step (ads M) G H (ads M') G' H' → Rep K G' d v → Q v H'
abbrev Wt := List D → Mu → (D → Mu → Prop) → Prop
theorem S.join {G H G' H' : Hp} {Mc R Mc' : Mu} (s : S K G H (Mc ++ R)) (s' : S K G' H' Mc') (st : Step (ads Mc) G H (ads Mc') G' H') :
    S K G' H' (Mc' ++ R) ∧ Step (ads (Mc ++ R)) G H (ads (Mc' ++ R)) G' H' := by
  have nd := s.nd
  rw [List.map_append, List.nodup_append] at nd
  obtain ⟨n1, n2, n3⟩ := nd
  have rout : ∀ p ∈ R, p.1 ∉ ads Mc := fun p hp z => n3 p.1 z p.1 (List.mem_map.mpr ⟨p, hp, rfl⟩) rfl
  have ral : ∀ p ∈ R, H p.1 ≠ none := fun p hp z => by
    obtain ⟨_, o, ho, _⟩ := s.mu p (List.mem_append_right _ hp)
    rw [z] at ho
    cases ho
  refine ⟨⟨s'.same, fun p hp => ?_, ?_⟩, ⟨st.gg, fun b hb hn => st.fr b hb fun z => hn ?_, fun b o hn e => st.keep b o (fun z => hn ?_) e, st.alive, fun b hb => ?_⟩⟩
  · rcases List.mem_append.mp hp with hp | hp
    · exact s'.mu p hp
    · obtain ⟨g1, o, ho, r⟩ := s.mu p (List.mem_append_right _ hp)
      exact ⟨by rw [st.fr _ (ral p hp) (rout p hp)]; exact g1, o, st.keep _ _ (rout p hp) ho, r.mono st.gg⟩
  · rw [List.map_append, List.nodup_append]
    refine ⟨s'.nd, n2, fun a ha b hb e => ?_⟩
    subst e
    obtain ⟨p, hp, rfl⟩ := List.mem_map.mp hb
    rcases st.own _ ha with q | q
    · exact rout p hp q
    · exact ral p hp q
  · simp only [ads, List.map_append, List.mem_append]
    exact .inl z
  · simp only [ads, List.map_append, List.mem_append]
    exact .inl z
  · simp only [ads, List.map_append, List.mem_append] at hb ⊢
    rcases hb with hb | hb
    · rcases st.own b hb with q | q
      · exact .inl (.inl q)
      · exact .inr q
    · exact .inl (.inr hb)
/-- a call of a def whose promise is W: Mc is what it may change, R what it does not see, kc what is known behind it -/
theorem ae_call {W : Wt} {E : XK} {ts : TA} (h : AA K ts δ M fun ds M1 => ∃ Mc R kc, M1 = Mc ++ R ∧ W ds Mc kc ∧ ∀ d Mc', kc d Mc' → k d (Mc' ++ R)) : AE K (tCall (Spc K W) [] E ts) δ M k := fun σ G H Q rs s f =>
  h σ G H _ rs s fun ds M1 vs G1 H1 ⟨Mc, R, kc, e, hw, hk⟩ s1 st1 r1 => by
    subst e
    refine ⟨G1, ds, Mc, kc, by rw [List.append_nil]; exact r1, s1.sub, hw, fun d M' v G' H' hd s' st' rv => ?_⟩
    obtain ⟨s2, st2⟩ := s1.join s' st'
    exact f d _ v G' H' (hk d M' hd) s2 (st1.trans st2) rv
/-- freezing, ahead of what follows -/
theorem k_freeze {a : Addr} {ds : List D} {M1 M2 : Mu} {te : TE} (h : AE K te δ M fun d M' => d = .ref a ∧ M' = M1 ++ (a, .lst ds) :: M2 ∧ k (.lst ds) (M1 ++ M2)) : AE K te δ M k := fun σ G H Q rs s f =>
  h σ G H _ rs s fun x M1 vx G1 H1 ⟨e1, e2, h1⟩ s1 st1 r1 => by
    subst e1 e2
    obtain ⟨xs, s2, st2, e3, r2⟩ := s1.freeze
    rw [rep_ref r1]
    exact f _ _ _ _ _ h1 s2 (st1.trans st2) r2
/-! ### targets -/
variable {kg : DS → Mu → Prop}
theorem ag_name (q : kg (δ.set i (some d)) M) : AG K (gName i) d δ M kg := fun v σ G H Q rv rs s f => f _ M _ G H q (rs.set i rv) s Step.refl
theorem ag_tup {n : Nat} {g : TGs} {ds : List D} (hl : ds.length = n) (h : AGs K g ds δ M kg) : AG K (gTup K n g) (.tup ds) δ M kg := fun v σ G H Q rv rs s f => by
  obtain ⟨a, xs, rfl, ha, rx⟩ := rep_tup rv
  exact ⟨a, xs, rfl, Same.seqT s.same ha, by rw [rx.len, hl], h xs σ G H Q rx rs s f⟩
theorem ags_nil (q : kg δ M) : AGs K gNil [] δ M kg := fun v σ G H Q rv rs s f => by
  unfold Reps at rv
  exact ⟨rv, f _ M _ G H q rs s Step.refl⟩
theorem ags_cons {t : TG} {u : TGs} {r : List D} (h : AG K t d δ M fun δ1 M1 => AGs K u r δ1 M1 kg) : AGs K (gCons t u) (d :: r) δ M kg := fun v σ G H Q rv rs s f => by
  obtain ⟨x, xs, rfl, r1, r2⟩ := rv.uncons
  exact ⟨x, xs, rfl, h x σ G H _ r1 rs s fun δ1 M1 σ1 G1 H1 h1 rs1 s1 st1 => h1 xs σ1 G1 H1 Q (Reps.mono st1.gg _ _ r2) rs1 s1 fun δ2 M2 σ2 G2 H2 h2 rs2 s2 st2 => f δ2 M2 σ2 G2 H2 h2 rs2 s2 (st1.trans st2)⟩
/-- a[j] = d, of a list that may change -/
def PutM (o i v : D) (M : Mu) (q : Mu → Prop) : Prop := ∃ a ds M1 M2 j n, o = .ref a ∧ i = .int j ∧ M = M1 ++ (a, .lst ds) :: M2 ∧ ixN ds.length j = some n ∧ q (M1 ++ (a, .lst (ds.set n v)) :: M2)
theorem ag_setL (h : AE K to δ M fun o M1 => AE K ti δ M1 fun j M2 => PutM o j d M2 fun M3 => kg δ M3) : AG K (gSub to ti rSetL) d δ M kg := fun v σ G H Q rv rs s f =>
  h σ G H _ rs s fun o M1 vo G1 H1 h1 s1 st1 r1 => h1 σ G1 H1 _ (rs.mono st1.gg) s1 fun j M2 vj G2 H2 h2 s2 st2 r2 => by
    obtain ⟨a, ds, N1, N2, jj, n, rfl, rfl, rfl, hn, q⟩ := h2
    obtain ⟨g0, o, ho, r⟩ := s2.mu (a, .lst ds) (by simp)
    obtain ⟨xs, rfl, rx⟩ := r
    obtain ⟨s3, st3⟩ := s2.write (o := .lst (xs.set n v)) (m' := .lst (ds.set n d)) ⟨_, rfl, Reps.set rx (Rep.mono (st1.trans st2).gg _ _ rv)⟩
    exact ⟨a, xs, jj, n, rep_ref r1, rep_int r2, ho, by rw [rx.len]; exact hn, f δ _ σ G2 _ q (rs.mono (st1.trans st2).gg) s3 ((st1.trans st2).trans st3)⟩
end
/-! ### statements -/
section
variable {K : PySem.W.Frag} {δ : DS} {M : Mu} {ta tb te to ti : TE} {i : Nat} {A : AEnds} {t u : TS} {tt : TT}
theorem Fit.go {M' : Mu} {G H G' H' : Hp} {E : Ends} (f : Fit K A M G H E) (st : Step (ads M) G H (ads M') G' H') : Fit K A M' G' H' E :=
  ⟨fun δ' M2 σ' G2 H2 a r s st2 => f.nx δ' M2 σ' G2 H2 a r s (st.trans st2), fun d M2 v G2 H2 a s st2 r => f.rt d M2 v G2 H2 a s (st.trans st2) r,
   fun δ' M2 σ' G2 H2 a r s st2 => f.bk δ' M2 σ' G2 H2 a r s (st.trans st2), fun δ' M2 σ' G2 H2 a r s st2 => f.ct δ' M2 σ' G2 H2 a r s (st.trans st2),
   fun fs M2 d G2 H2 a s st2 => f.xs fs M2 d G2 H2 a s (st.trans st2)⟩
theorem as_next (q : A.nx δ M) : AS K tNext δ M A := fun σ G H E rs s f => f.nx δ M σ G H q rs s Step.refl
theorem as_seq (h : AS K t δ M { A with nx := fun δ' M' => AS K u δ' M' A }) : AS K (tSeq t u) δ M A := fun σ G H E rs s f =>
  h σ G H { E with nx := u E } rs s ⟨fun δ' M' σ' G' H' a rs' s' st => a σ' G' H' E rs' s' (f.go st), f.rt, f.bk, f.ct, f.xs⟩
theorem as_asg {g : TG} (h : AE K te δ M fun d M1 => AG K g d δ M1 A.nx) : AS K (tAsg te g) δ M A := fun σ G H E rs s f =>
  h σ G H _ rs s fun d M1 v G1 H1 h1 s1 st1 r1 => h1 v σ G1 H1 E.nx r1 (rs.mono st1.gg) s1 fun δ' M' σ' G' H' a rs' s' st => f.nx δ' M' σ' G' H' a rs' s' (st1.trans st)
theorem as_set (h : AE K te δ M fun d M1 => A.nx (δ.set i (some d)) M1) : AS K (tAsg te (gName i)) δ M A := as_asg fun σ G H Q rs s f => h σ G H Q rs s fun d M' v G' H' q => f d M' v G' H' (ag_name q)
theorem as_ret (h : AE K te δ M A.rt) : AS K (tRet te) δ M A := fun σ G H E rs s f => h σ G H E.rt rs s fun d M1 v G1 H1 h1 s1 st1 r1 => f.rt d M1 v G1 H1 h1 s1 st1 r1
theorem as_retN (h : A.rt .non M) : AS K tRetN δ M A := fun σ G H E rs s f => f.rt .non M .non G H h s Step.refl rep_of_non
theorem as_if (h : AT K tt δ M fun b M1 => (b = true → AS K t δ M1 A) ∧ (b = false → AS K u δ M1 A)) : AS K (tIfS tt t u) δ M A := fun σ G H E rs s f =>
  h σ G H _ rs s fun b M1 G1 H1 ⟨h1, h2⟩ s1 st1 => by
    cases b with
    | true =>
      rw [if_pos rfl]
      exact h1 rfl σ G1 H1 E (rs.mono st1.gg) s1 (f.go st1)
    | false =>
      rw [if_neg Bool.false_ne_true]
      exact h2 rfl σ G1 H1 E (rs.mono st1.gg) s1 (f.go st1)
theorem as_drop (h : AE K te δ M fun _ M1 => A.nx δ M1) : AS K (tDrop te) δ M A := fun σ G H E rs s f => h σ G H _ rs s fun d M1 v G1 H1 h1 s1 st1 r1 => f.nx δ M1 σ G1 H1 h1 (rs.mono st1.gg) s1 st1
theorem as_brk (h : A.bk δ M) : AS K tBreak δ M A := fun σ G H E rs s f => f.bk δ M σ G H h rs s Step.refl
theorem as_cont (h : A.ct δ M) : AS K tCont δ M A := fun σ G H E rs s f => f.ct δ M σ G H h rs s Step.refl
theorem as_aug {r : TIp} {x : D} (hx : δ[i]? = some (some x)) (h : AE K te δ M fun y M1 => AR K r x y M1 fun z M2 => A.nx (δ.set i (some z)) M2) : AS K (tAug i te r) δ M A := fun σ G H E rs s f => by
  obtain ⟨v, e, rv⟩ := rs.at_ i x hx
  exact ⟨v, e, h σ G H _ rs s fun y M1 vy G1 H1 h1 s1 st1 r1 => h1 v vy G1 H1 _ (Rep.mono st1.gg _ _ rv) r1 s1 fun z M2 vz G2 H2 h2 s2 st2 r2 =>
    f.nx _ M2 _ G2 H2 h2 ((rs.mono (st1.trans st2).gg).set i r2) s2 (st1.trans st2)⟩
theorem as_while (I : Nat → DS → Mu → Prop) (m : Nat) (h0 : I m δ M) (h : ∀ m δ' M', I m δ' M' → AT K tt δ' M' fun b M1 => (b = true → AS K t δ' M1 { A with nx := fun δ2 M2 => ∃ m', m' < m ∧ I m' δ2 M2, ct := fun δ2 M2 => ∃ m', m' < m ∧ I m' δ2 M2, bk := A.nx }) ∧ (b = false → A.nx δ' M1)) : AS K (tWhile tt t) δ M A := fun σ G H E rs s f =>
  ⟨fun m σ' H' => ∃ δ' M' G', I m δ' M' ∧ RelS K G' δ' σ' ∧ S K G' H' M' ∧ Step (ads M) G H (ads M') G' H', ⟨m, δ, M, G, h0, rs, s, Step.refl⟩, fun m σ' H' ⟨δ', M', G', hI, rs', s', st'⟩ =>
    h m δ' M' hI σ' G' H' _ rs' s' fun b M1 G1 H1 ⟨h1, h2⟩ s1 st1 => by
      cases b with
      | true =>
        rw [if_pos rfl]
        refine ⟨fun σ2 H2 => ∃ m', m' < m ∧ ∃ δ' M' G', I m' δ' M' ∧ RelS K G' δ' σ2 ∧ S K G' H2 M' ∧ Step (ads M) G H (ads M') G' H2, fun σ2 H2 ⟨m', hm, q⟩ => ⟨m', hm, q⟩, ?_⟩
        refine h1 rfl σ' G1 H1 _ (rs'.mono st1.gg) s1 ⟨?_, ?_, ?_, ?_, ?_⟩
        · rintro δ2 M2 σ2 G2 H2 ⟨m', hm, q⟩ rs2 s2 st2
          exact ⟨m', hm, δ2, M2, G2, q, rs2, s2, (st'.trans st1).trans st2⟩
        · intro d M2 v G2 H2 q s2 st2 r2
          exact f.rt d M2 v G2 H2 q s2 ((st'.trans st1).trans st2) r2
        · intro δ2 M2 σ2 G2 H2 q rs2 s2 st2
          exact f.nx δ2 M2 σ2 G2 H2 q rs2 s2 ((st'.trans st1).trans st2)
        · rintro δ2 M2 σ2 G2 H2 ⟨m', hm, q⟩ rs2 s2 st2
          exact ⟨m', hm, δ2, M2, G2, q, rs2, s2, (st'.trans st1).trans st2⟩
        · intro fs M2 d G2 H2 q s2 st2
          exact f.xs fs M2 d G2 H2 q s2 ((st'.trans st1).trans st2)
      | false =>
        rw [if_neg Bool.false_ne_true]
        exact f.nx δ' M1 σ' G1 H1 (h2 rfl) (rs'.mono st1.gg) s1 (st'.trans st1)⟩
theorem as_for {wi : TI} {g : TG} (h : AI K wi δ M fun ds M1 => ∃ I : Nat → DS → Mu → Prop, I 0 δ M1 ∧
      (∀ i d δ' M', ds[i]? = some d → I i δ' M' → AG K g d δ' M' fun δ2 M2 => AS K t δ2 M2 { A with nx := I (i + 1), ct := I (i + 1), bk := A.nx }) ∧
      (∀ δ' M', I ds.length δ' M' → A.nx δ' M')) : AS K (tFor wi g t) δ M A := fun σ G H E rs s f =>
  h σ G H _ rs s fun ds M1 G1 H1 J ⟨I, h0, hs, he⟩ s1 st1 ok => by
    refine ⟨fun i m σ' H' => m = ds.length - i ∧ i ≤ ds.length ∧ ∃ δ' M' G', I i δ' M' ∧ RelS K G' δ' σ' ∧ S K G' H' M' ∧ Step (ads M1) G1 H1 (ads M') G' H', ⟨ds.length, by simp, Nat.zero_le _, δ, M1, G1, h0, rs.mono st1.gg, s1, Step.refl⟩, ?_⟩
    rintro i m σ' H' ⟨rfl, hi, δ', M', G', hI, rs', s', st'⟩
    obtain ⟨o1, o2⟩ := ok i G' H' M' st'.gg s'
    by_cases hl : i < ds.length
    · obtain ⟨hgo, hy⟩ := o1 ds[i] (List.getElem?_eq_getElem hl)
      refine .inr ⟨hgo, fun σ2 H2 => ∃ δ' M' G', I (i + 1) δ' M' ∧ RelS K G' δ' σ2 ∧ S K G' H2 M' ∧ Step (ads M1) G1 H1 (ads M') G' H2, fun σ2 H2 q => ⟨ds.length - (i + 1), by omega, rfl, hl, q⟩, fun x H2 y => ?_⟩
      obtain ⟨G2, s2, st2, r2⟩ := hy x H2 y
      refine hs i ds[i] δ' M' (List.getElem?_eq_getElem hl) hI x σ' G2 H2 _ r2 (rs'.mono st2.gg) s2 fun δ3 M3 σ3 G3 H3 h3 rs3 s3 st3 => ?_
      refine h3 σ3 G3 H3 _ rs3 s3 ⟨?_, ?_, ?_, ?_, ?_⟩
      · intro δ4 M4 σ4 G4 H4 q rs4 s4 st4
        exact ⟨δ4, M4, G4, q, rs4, s4, ((st'.trans st2).trans st3).trans st4⟩
      · intro d M4 v G4 H4 q s4 st4 r4
        exact f.rt d M4 v G4 H4 q s4 (st1.trans (((st'.trans st2).trans st3).trans st4)) r4
      · intro δ4 M4 σ4 G4 H4 q rs4 s4 st4
        exact f.nx δ4 M4 σ4 G4 H4 q rs4 s4 (st1.trans (((st'.trans st2).trans st3).trans st4))
      · intro δ4 M4 σ4 G4 H4 q rs4 s4 st4
        exact ⟨δ4, M4, G4, q, rs4, s4, ((st'.trans st2).trans st3).trans st4⟩
      · intro fs M4 d G4 H4 q s4 st4
        exact f.xs fs M4 d G4 H4 q s4 (st1.trans (((st'.trans st2).trans st3).trans st4))
    · have e : i = ds.length := by omega
      subst e
      exact .inl ⟨o2 rfl, f.nx δ' M' σ' G' H' (he δ' M' hI) rs' s' (st1.trans st')⟩
/-- the freezing of a slot -/
theorem as_freeze {a : Addr} {ds : List D} {M1 M2 : Mu} (hi : δ[i]? = some (some (.ref a))) (e : M = M1 ++ (a, .lst ds) :: M2) (h : AS K t (δ.set i (some (.lst ds))) (M1 ++ M2) A) : AS K t δ M A := fun σ G H E rs s f => by
  subst e
  obtain ⟨xs, s2, st2, e3, r2⟩ := s.freeze
  obtain ⟨v, hv, rv⟩ := rs.at_ i _ hi
  rw [rep_ref rv] at hv
  exact h σ _ H E ((rs.mono e3).setD i hv r2) s2 (f.go st2)
/-- what follows, by another word -/
theorem AS.mono {A' : AEnds} (h : AS K t δ M A') (h1 : ∀ δ M, A'.nx δ M → A.nx δ M) (h2 : ∀ d M, A'.rt d M → A.rt d M) (h3 : ∀ δ M, A'.bk δ M → A.bk δ M) (h4 : ∀ δ M, A'.ct δ M → A.ct δ M) (h5 : ∀ fs M, A'.xs fs M → A.xs fs M) (h6 : ∀ d H, A.W d H → A'.W d H) : AS K t δ M A := fun σ G H E rs s f =>
  h σ G H E rs s ⟨fun δ' M' σ' G' H' q => f.nx δ' M' σ' G' H' (h1 _ _ q), fun d M' v G' H' q => f.rt d M' v G' H' (h2 _ _ q), fun δ' M' σ' G' H' q => f.bk δ' M' σ' G' H' (h3 _ _ q), fun δ' M' σ' G' H' q => f.ct δ' M' σ' G' H' (h4 _ _ q), fun fs M' d G' H' q s' st => h6 _ _ (f.xs fs M' d G' H' (h5 _ _ q) s' st)⟩
end
end Tg
set_option Elab.async false
set_option linter.all false
set_option maxRecDepth 100000
set_option maxHeartbeats 1000000
namespace Tg
open PySem L2 PyProof.Rows
/-! ### what is walked -/
section
variable {K : PySem.W.Frag} {G : Hp}
theorem itOk_list {a : Addr} {xs : List V} {ds : List D} (h : SqL K G a xs) (r : Reps K G ds xs) : ItOk K (Itl K a) G ds := fun i G1 H1 M e s => by
  have hq : SqL K H1 a xs := s.same.seq (e.seq h)
  refine ⟨fun d hd => ?_, fun hi => ⟨xs, hq, by rw [r.len, hi]; exact Nat.le_refl _⟩⟩
  obtain ⟨x, hx, rx⟩ := r.get hd
  refine ⟨⟨xs, x, hq, hx⟩, fun y H' hy => ?_⟩
  obtain ⟨rfl, hy⟩ := hy
  have e2 : x = y := Option.some.inj (hx.symm.trans (hy xs hq))
  subst e2
  exact ⟨G1, s, Step.refl, Rep.mono e _ _ rx⟩
theorem itOk_tup {a : Addr} {xs : List V} {ds : List D} (h : SqT K G a xs) (r : Reps K G ds xs) : ItOk K (Itt K a) G ds := fun i G1 H1 M e s => by
  have hq : SqT K H1 a xs := Same.seqT s.same (Same.seqT e h)
  refine ⟨fun d hd => ?_, fun hi => ⟨xs, hq, by rw [r.len, hi]; exact Nat.le_refl _⟩⟩
  obtain ⟨x, hx, rx⟩ := r.get hd
  refine ⟨⟨xs, x, hq, hx⟩, fun y H' hy => ?_⟩
  obtain ⟨rfl, hy⟩ := hy
  have e2 : x = y := Option.some.inj (hx.symm.trans (hy xs hq))
  subst e2
  exact ⟨G1, s, Step.refl, Rep.mono e _ _ rx⟩
/-- the ints from lo on -/
def rng (lo : Int) (n : Nat) : List D := (List.range n).map fun i => .int (lo + (i : Nat))
theorem rng_len (lo : Int) (n : Nat) : (rng lo n).length = n := by simp [rng]
theorem rng_get {lo : Int} {n i : Nat} {d : D} (h : (rng lo n)[i]? = some d) : i < n ∧ d = .int (lo + (i : Nat)) := by
  unfold rng at h
  rw [List.getElem?_map] at h
  by_cases hi : i < n
  · rw [List.getElem?_range hi] at h
    exact ⟨hi, by simpa using h.symm⟩
  · rw [List.getElem?_eq_none (by simpa using hi)] at h
    cases h
theorem itOk_rng {lo : Int} {n : Nat} : ItOk K (Itr lo n) G (rng lo n) := fun i G1 H1 M e s => by
  refine ⟨fun d hd => ?_, fun hi => ?_⟩
  · obtain ⟨hi, rfl⟩ := rng_get hd
    refine ⟨hi, fun y H' hy => ?_⟩
    obtain ⟨rfl, rfl⟩ := hy
    exact ⟨G1, s, Step.refl, rep_of_int⟩
  · rw [rng_len] at hi
    exact Nat.le_of_eq hi.symm
def signs (z : Str) : List D := z.cps.toList.map fun c => .str ⟨#[c]⟩
theorem itOk_str {z : Str} : ItOk K (Its z) G (signs z) := fun i G1 H1 M e s => by
  refine ⟨fun d hd => ?_, fun hi => ?_⟩
  · unfold signs at hd
    rw [List.getElem?_map] at hd
    cases hc : z.cps.toList[i]? with
    | none => rw [hc] at hd; cases hd
    | some c =>
      rw [hc] at hd
      have e1 : D.str ⟨#[c]⟩ = d := by simpa using hd
      subst e1
      have hi : i < z.cps.size := by
        have h2 := (List.getElem?_eq_some_iff.mp hc).1
        simpa using h2
      refine ⟨hi, fun y H' hy => ?_⟩
      obtain ⟨rfl, c', h1, rfl⟩ := hy
      have e2 : c = c' := by
        have h3 : z.cps[i]? = some c := by simpa using hc
        rw [h1] at h3
        exact (Option.some.inj h3).symm
      subst e2
      exact ⟨G1, s, Step.refl, rep_of_str⟩
  · have h2 : z.cps.size ≤ i := by
      rw [hi]
      simp [signs]
    exact h2
/-- pairs of a number and an item -/
def enumD (ds : List D) : List D := ds.zipIdx.map fun p => .tup [.int (p.2 : Nat), p.1]
theorem itOk_enum {a : Addr} {xs : List V} {ds : List D} (h : SqL K G a xs) (r : Reps K G ds xs) : ItOk K (Ite K a) G (enumD ds) := fun i G1 H1 M e s => by
  have hq : SqL K H1 a xs := s.same.seq (e.seq h)
  refine ⟨fun d hd => ?_, fun hi => ⟨xs, hq, by rw [r.len, hi]; simp [enumD]⟩⟩
  unfold enumD at hd
  rw [List.getElem?_map, List.getElem?_zipIdx] at hd
  cases hc : ds[i]? with
  | none => rw [hc] at hd; cases hd
  | some c =>
    rw [hc] at hd
    have e1 : D.tup [.int ((0 + i : Nat) : Int), c] = d := by simpa using hd
    rw [Nat.zero_add] at e1
    subst e1
    obtain ⟨x, hx, rx⟩ := r.get hc
    refine ⟨⟨xs, x, hq, hx⟩, fun y H' hy => ?_⟩
    obtain ⟨T, x', rfl, nT, rfl, hy⟩ := hy
    have e2 : x = x' := Option.some.inj (hx.symm.trans (hy xs hq))
    subst e2
    obtain ⟨s2, st2, e3⟩ := s.frozen (o := .tup [.int (i : Nat), x]) nT
    exact ⟨_, s2, st2, rep_mk_tup (.inl (.inl upd_same)) (Reps.cons rep_of_int (Reps.one (Rep.mono (e.trans e3) _ _ rx)))⟩
end
/-- a list, a tuple, a text -/
def iSeq (K : PySem.W.Frag) (tl : TE) : TI := fun σ H R => tl σ H fun x H1 => (∃ a, x = .ref a ∧ (∃ xs, SqL K H1 a xs) ∧ R (Itl K a) H1) ∨ (∃ a, x = .ref a ∧ (∃ xs, SqT K H1 a xs) ∧ R (Itt K a) H1) ∨ (∃ z, x = .str z ∧ R (Its z) H1)
theorem pi_seq {X : Cx} {tg l : Expr} {tl : TE} (hl : PE X l tl) : PI X tg l (iSeq X.K tl) := by
  refine ⟨fun pins s σ H R I h => ?_⟩
  refine thn (hl.run pins s σ H _ I h) fun v s1 ⟨x, H1, I1, r1, q1⟩ => ?_
  rcases q1 with ⟨a, e, ⟨xs, hq⟩, q⟩ | ⟨a, e, ⟨xs, hq⟩, q⟩ | ⟨z, e, q⟩
  · subst e
    cases r1
    obtain ⟨its, rv, p, hz⟩ := I1.list hq
    refine wpAny_pyIter_list p.isList ?_
    refine ⟨s1.heap.objs.size, [s1.heap.objs.size], _, _, H1, rfl, I1.kept (t' := s1.toks) fun b o e => Heap.get?_push_of_some _ e, turn_list a _, ⟨_, Heap.get?_push_size _ rfl, rfl, rfl⟩, fun b hb => ?_, q⟩
    have e : b = s1.heap.objs.size := by simpa using hb
    subst e
    exact I1.fpOk (Nat.le_refl _) (I1.hok.fresh (Nat.le_refl _))
  · subst e
    cases r1
    obtain ⟨its, rv, p, hz⟩ := I1.tuple hq
    refine wpAny_pyIter_tuple (show s1.heap.IsTuple a its.toArray from p) ?_
    refine ⟨s1.heap.objs.size, [s1.heap.objs.size], _, _, H1, rfl, I1.kept (t' := s1.toks) fun b o e => Heap.get?_push_of_some _ e, turn_tuple a _, ⟨_, Heap.get?_push_size _ rfl, rfl, rfl⟩, fun b hb => ?_, q⟩
    have e : b = s1.heap.objs.size := by simpa using hb
    subst e
    exact I1.fpOk (Nat.le_refl _) (I1.hok.fresh (Nat.le_refl _))
  · subst e
    obtain ⟨t, rfl⟩ := r1
    cases ha : z.cps.all (· < 128)
    · exact wpAny_pyIter_wide ha (pi_one (tk := s1.toks) I1 _ (turn_str _ z t "str_iterator" (.inr rfl)) ⟨_, Heap.get?_push_size _ rfl, rfl, rfl⟩ q)
    · exact wpAny_pyIter_ascii ha (pi_one (tk := s1.toks) I1 _ (turn_str _ z t "str_ascii_iterator" (.inl rfl)) ⟨_, Heap.get?_push_size _ rfl, rfl, rfl⟩ q)
/-- the items of a deep value -/
def itemsD : D → Option (List D)
  | .lst ds => some ds
  | .lsk ds => some ds
  | .tup ds => some ds
  | .str z => some (signs z)
  | _ => none
section
variable {K : PySem.W.Frag} {δ : DS} {M : Mu} {ta tb te tl : TE} {k : D → Mu → Prop} {ki : List D → Mu → Prop}
theorem ai_seq (h : AE K tl δ M fun d M1 => ∃ ds, itemsD d = some ds ∧ ki ds M1) : AI K (iSeq K tl) δ M ki := fun σ G H R rs s f =>
  h σ G H _ rs s fun d M1 v G1 H1 ⟨ds, e, h1⟩ s1 st1 r1 => by
    cases d <;> simp only [itemsD, Option.some.injEq, reduceCtorEq] at e
    · subst e
      rw [rep_str r1]
      exact .inr (.inr ⟨_, rfl, f _ M1 G1 H1 _ h1 s1 st1 itOk_str⟩)
    · subst e
      obtain ⟨a, xs, rfl, ha, rx⟩ := rep_tup r1
      exact .inr (.inl ⟨a, rfl, ⟨xs, Same.seqT s1.same ha⟩, f _ M1 G1 H1 _ h1 s1 st1 (itOk_tup ha rx)⟩)
    · subst e
      obtain ⟨a, xs, rfl, ha, rx⟩ := rep_lst r1
      exact .inl ⟨a, rfl, ⟨xs, .inl (.inl (s1.same _ _ ha))⟩, f _ M1 G1 H1 _ h1 s1 st1 (itOk_list (.inl (.inl ha)) rx)⟩
    · subst e
      obtain ⟨a, xs, rfl, ha, rx⟩ := rep_lsk r1
      exact .inl ⟨a, rfl, ⟨xs, s1.same.seq ha⟩, f _ M1 G1 H1 _ h1 s1 st1 (itOk_list ha rx)⟩
theorem ai_range1 {ts : TA} (h : AA K ts δ M fun ds M1 => ∃ j : Int, ds = [.int j] ∧ -(2 ^ 62) ≤ j ∧ j < 2 ^ 62 ∧ ki (rng 0 j.toNat) M1) : AI K (iRng1 ts) δ M ki := fun σ G H R rs s f =>
  h σ G H _ rs s fun ds M1 vs G1 H1 ⟨j, e, h2, h3, h1⟩ s1 st1 r1 => by
    subst e
    obtain ⟨x, r, rfl, rx, rr⟩ := r1.uncons
    unfold Reps at rr
    subst rr
    exact ⟨j, by rw [rep_int rx], h2, h3, f _ M1 G1 H1 _ h1 s1 st1 itOk_rng⟩
theorem ai_range2 {ts : TA} (h : AA K ts δ M fun ds M1 => ∃ i j : Int, ds = [.int i, .int j] ∧ (-(2 ^ 62) ≤ i ∧ i < 2 ^ 62 ∧ -(2 ^ 62) ≤ j ∧ j < 2 ^ 62) ∧ ki (rng i (j - i).toNat) M1) : AI K (iRng2 ts) δ M ki := fun σ G H R rs s f =>
  h σ G H _ rs s fun ds M1 vs G1 H1 ⟨i, j, e, h2, h1⟩ s1 st1 r1 => by
    subst e
    obtain ⟨x, r, rfl, rx, rr⟩ := r1.uncons
    obtain ⟨y, r2, rfl, ry, rr⟩ := rr.uncons
    unfold Reps at rr
    subst rr
    exact ⟨i, j, by rw [rep_int rx, rep_int ry], h2, f _ M1 G1 H1 _ h1 s1 st1 itOk_rng⟩
/-! ### comprehensions -/
def wipeD (δ : DS) : List Nat → DS
  | [] => δ
  | v :: vs => (wipeD δ vs).set v none
theorem relS_wipe {G : Hp} {σ : L2.St} (r : RelS K G δ σ) : ∀ vs : List Nat, RelS K G (wipeD δ vs) (wipe σ vs)
  | [] => r
  | v :: vs => (relS_wipe r vs).drop v
/-- the target of a comprehension stores into the wiped slots alone -/
structure OwnG (vs : List Nat) (g : TG) : Prop where
  run : ∀ x σ H (Q : L2.St → Hp → Prop), g x σ H Q → g x σ H fun σ2 H2 => wipe σ2 vs = wipe σ vs ∧ Q σ2 H2
theorem wipe_set {σ : L2.St} {i : Nat} {v : Option V} : ∀ {vs : List Nat}, i ∈ vs → wipe (σ.set i v) vs = wipe σ vs
  | w :: vs, h => by
    show (wipe (σ.set i v) vs).set w none = (wipe σ vs).set w none
    by_cases hi : i ∈ vs
    · rw [wipe_set hi]
    · have e : i = w := by
        rcases List.mem_cons.mp h with e | e
        · exact e
        · exact absurd e hi
      subst e
      have aux : ∀ us : List Nat, (wipe (σ.set i v) us).set i none = (wipe σ us).set i none := by
        intro us
        induction us with
        | nil => show (σ.set i v).set i none = σ.set i none; rw [List.set_set]
        | cons u us ih =>
          show ((wipe (σ.set i v) us).set u none).set i none = ((wipe σ us).set u none).set i none
          by_cases hu : u = i
          · subst hu
            rw [List.set_set, List.set_set]
            exact ih
          · rw [List.set_comm _ _ hu, List.set_comm _ _ hu, ih]
      exact aux vs
theorem wipe_wipe {σ : L2.St} : ∀ vs : List Nat, wipe (wipe σ vs) vs = wipe σ vs := by
  have aux : ∀ (us vs : List Nat), (∀ u ∈ us, u ∈ vs) → wipe (wipe σ us) vs = wipe σ vs := by
    intro us
    induction us with
    | nil => intro vs _; rfl
    | cons u us ih =>
      intro vs h
      show wipe ((wipe σ us).set u none) vs = wipe σ vs
      rw [wipe_set (h u (by simp))]
      exact ih vs fun w hw => h w (List.mem_cons_of_mem _ hw)
  exact fun vs => aux vs vs fun _ h => h
theorem ownG_name {i : Nat} {vs : List Nat} (h : i ∈ vs) : OwnG vs (gName i) := ⟨fun x σ H Q q => ⟨wipe_set h, q⟩⟩
/-- several names -/
structure OwnGs (vs : List Nat) (g : TGs) : Prop where
  run : ∀ xs σ H (Q : L2.St → Hp → Prop), g xs σ H Q → g xs σ H fun σ2 H2 => wipe σ2 vs = wipe σ vs ∧ Q σ2 H2
theorem ownGs_nil {vs : List Nat} : OwnGs vs gNil := ⟨fun xs σ H Q ⟨e, q⟩ => ⟨e, rfl, q⟩⟩
theorem ownGs_cons {i : Nat} {vs : List Nat} {u : TGs} (h : i ∈ vs) (hu : OwnGs vs u) : OwnGs vs (gCons (gName i) u) := ⟨fun xs σ H Q ⟨v, r, e, q⟩ => ⟨v, r, e, by
  have q2 : u r (σ.set i (some v)) H Q := q
  have q3 := hu.run r (σ.set i (some v)) H Q q2
  rw [wipe_set h] at q3
  exact q3⟩⟩
theorem ownG_tup {n : Nat} {vs : List Nat} {u : TGs} (hu : OwnGs vs u) : OwnG vs (gTup K n u) := ⟨fun x σ H Q ⟨a, xs, e, hs, hl, q⟩ => ⟨a, xs, e, hs, hl, hu.run xs σ H Q q⟩⟩
theorem ae_lc {wi : TI} {g : TG} {tt : TT} {vs : List Nat} (og : OwnG vs g) (h : AI K wi δ M fun ds M1 => ds.length < sizeLine ∧ ∃ I : Nat → List D → Mu → Prop, I 0 [] M1 ∧
      (∀ i d acc M', ds[i]? = some d → I i acc M' → AG K g d (wipeD δ vs) M' fun δ2 M2 => AT K tt δ2 M2 fun b M3 => (b = true → AE K te δ2 M3 fun y M4 => I (i + 1) (acc ++ [y]) M4) ∧ (b = false → I (i + 1) acc M3)) ∧
      (∀ acc M', I ds.length acc M' → k (.lst acc) M')) : AE K (tLc wi g tt te vs) δ M k := fun σ G H Q rs s f =>
  h σ G H _ rs s fun ds M1 G1 H1 J ⟨hz, I, h0, hs, he⟩ s1 st1 ok Dl nD => by
    have gD : G1 Dl = none := s1.same.free nD
    have nM : ∀ p ∈ M1, p.1 ≠ Dl := fun p hp => by
      obtain ⟨_, o, ho, _⟩ := s1.mu p hp
      exact ne_of_none ho nD
    -- the state behind i turns; the list at Dl beside
    refine ⟨fun i m H' => m = ds.length - i ∧ i ≤ ds.length ∧ ∃ acc xs M' G', acc.length ≤ i ∧ I i acc M' ∧ H' Dl = some (.lst xs) ∧ Reps K G' acc xs ∧ G' Dl = none ∧ Dl ∉ ads M' ∧ S K G' H' M' ∧ Step (ads M1) G1 H1 (ads M') G' H',
      ⟨ds.length, by simp, Nat.zero_le _, [], [], M1, G1, Nat.le_refl _, h0, upd_same, Reps.nil, gD, fun z => ?_, ?_, ?_⟩, ?_⟩
    · obtain ⟨p, hp, e⟩ := List.mem_map.mp z
      exact nM p hp e
    · refine ⟨fun b u e => ?_, fun p hp => ?_, s1.nd⟩
      · rw [upd_ne (ne_of_none e gD)]
        exact s1.same b u e
      · obtain ⟨g1, o, ho, r⟩ := s1.mu p hp
        exact ⟨g1, o, by rw [upd_ne (nM p hp)]; exact ho, r⟩
    · refine ⟨Same.refl _, fun _ _ _ => rfl, fun b o _ e => ?_, fun b e => ?_, fun b hb => .inl hb⟩
      · rw [upd_ne (ne_of_none e nD)]
        exact e
      · by_cases hb : b = Dl
        · subst hb
          rw [upd_same]
          exact fun z => nomatch z
        · rw [upd_ne hb]
          exact e
    rintro i m H' ⟨rfl, hi, acc, xs, M', G', hal, hI, hD, rx, gD', nD', s', st'⟩
    obtain ⟨o1, o2⟩ := ok i G' H' M' st'.gg s'
    by_cases hl : i < ds.length
    · obtain ⟨hgo, hy⟩ := o1 ds[i] (List.getElem?_eq_getElem hl)
      -- the list at Dl beside any further step
      have beside : ∀ {A2 : List Addr} {G2 H2 : Hp}, Step (ads M') G' H' A2 G2 H2 → H2 Dl = some (.lst xs) ∧ G2 Dl = none ∧ Dl ∉ A2 := fun {A2 G2 H2} st => by
        refine ⟨st.keep _ _ nD' hD, ?_, fun z => ?_⟩
        · rw [st.fr Dl (by rw [hD]; exact fun z => nomatch z) nD']
          exact gD'
        · rcases st.own _ z with q | q
          · exact nD' q
          · rw [hD] at q
            cases q
      refine .inr ⟨hgo, fun H2 => ∃ acc xs M' G', acc.length ≤ i + 1 ∧ I (i + 1) acc M' ∧ H2 Dl = some (.lst xs) ∧ Reps K G' acc xs ∧ G' Dl = none ∧ Dl ∉ ads M' ∧ S K G' H2 M' ∧ Step (ads M1) G1 H1 (ads M') G' H2, fun H2 q => ⟨ds.length - (i + 1), by omega, rfl, hl, q⟩, fun x H2 y => ?_⟩
      obtain ⟨G2, s2, st2, r2⟩ := hy x H2 y
      have rsw : RelS K G2 (wipeD δ vs) (wipe σ vs) := relS_wipe (rs.mono (st1.gg.trans (st'.gg.trans st2.gg))) vs
      have body := hs i ds[i] acc M' (List.getElem?_eq_getElem hl) hI x (wipe σ vs) G2 H2 (fun σ2 H3 => tt σ2 H3 fun b H4 =>
        if b = true then te σ2 H4 fun y H5 => ∃ acc, H5 Dl = some (.lst acc) ∧ acc.length < sizeLine ∧ (fun H2 => ∃ acc xs M' G', acc.length ≤ i + 1 ∧ I (i + 1) acc M' ∧ H2 Dl = some (.lst xs) ∧ Reps K G' acc xs ∧ G' Dl = none ∧ Dl ∉ ads M' ∧ S K G' H2 M' ∧ Step (ads M1) G1 H1 (ads M') G' H2) (upd H5 Dl (.lst (acc ++ [y])))
        else (fun H2 => ∃ acc xs M' G', acc.length ≤ i + 1 ∧ I (i + 1) acc M' ∧ H2 Dl = some (.lst xs) ∧ Reps K G' acc xs ∧ G' Dl = none ∧ Dl ∉ ads M' ∧ S K G' H2 M' ∧ Step (ads M1) G1 H1 (ads M') G' H2) H4) r2 rsw s2 ?_
      · have fin := og.run x (wipe σ vs) H2 _ body
        rw [wipe_wipe] at fin
        exact fin
      · intro δ3 M3 σ3 G3 H3 h3 rs3 s3 st3
        refine h3 σ3 G3 H3 _ rs3 s3 fun b M4 G4 H4 ⟨h4, h5⟩ s4 st4 => ?_
        cases b with
        | true =>
          rw [if_pos rfl]
          refine h4 rfl σ3 G4 H4 _ (rs3.mono st4.gg) s4 fun y M5 vy G5 H5 q5 s5 st5 r5 => ?_
          have sta := ((st2.trans st3).trans st4).trans st5
          obtain ⟨b1, b2, b3⟩ := beside sta
          refine ⟨xs, b1, by rw [rx.len]; exact Nat.lt_of_le_of_lt hal (Nat.lt_of_lt_of_le hl (Nat.le_of_lt hz)), acc ++ [y], xs ++ [vy], M5, G5, by rw [List.length_append]; exact Nat.succ_le_succ hal, q5, upd_same, (Reps.mono sta.gg _ _ rx).append (Reps.one r5), b2, b3, ?_, ?_⟩
          · refine ⟨fun c u e => ?_, fun p hp => ?_, s5.nd⟩
            · rw [upd_ne (ne_of_none e b2)]
              exact s5.same c u e
            · obtain ⟨g1, o, ho, r⟩ := s5.mu p hp
              exact ⟨g1, o, by rw [upd_ne (fun z => b3 (List.mem_map.mpr ⟨p, hp, z⟩))]; exact ho, r⟩
          · have stb := st'.trans sta
            refine ⟨stb.gg, stb.fr, fun c o hc e => ?_, fun c e => ?_, stb.own⟩
            · rw [upd_ne (ne_of_none e nD)]
              exact stb.keep c o hc e
            · by_cases hcD : c = Dl
              · subst hcD
                rw [upd_same]
                exact fun z => nomatch z
              · rw [upd_ne hcD]
                exact stb.alive c e
        | false =>
          rw [if_neg Bool.false_ne_true]
          have sta := (st2.trans st3).trans st4
          obtain ⟨b1, b2, b3⟩ := beside sta
          exact ⟨acc, xs, M4, G4, Nat.le_succ_of_le hal, h5 rfl, b1, Reps.mono sta.gg _ _ rx, b2, b3, s4, st'.trans sta⟩
    · have e : i = ds.length := by omega
      subst e
      refine .inl ⟨o2 rfl, ?_⟩
      -- the list is frozen
      have sD : S K G' H' ([] ++ (Dl, .lst acc) :: M') := ⟨s'.same, fun p hp => by
        rcases List.mem_cons.mp hp with e | hp
        · subst e
          exact ⟨gD', _, hD, xs, rfl, rx⟩
        · exact s'.mu p hp, by
        show ((Dl, MO.lst acc) :: M' |>.map (·.1)).Nodup
        rw [List.map_cons, List.nodup_cons]
        exact ⟨nD', s'.nd⟩⟩
      obtain ⟨ys, s5, st5, e5, r5⟩ := sD.freeze
      refine f (.lst acc) M' (.ref Dl) _ H' (he acc M' hI) s5 (st1.trans ?_) r5
      refine ⟨st'.gg.trans e5, fun b hb hn => ?_, st'.keep, st'.alive, st'.own⟩
      rw [upd_ne (fun z => by rw [z] at hb; exact hb nD)]
      exact st'.fr b hb hn
end
/-! ### a def -/
section
variable {P : Program} {w : World} {K : PySem.W.Frag} {mg : Str → Option Value} {base : Heap}
theorem spc_ok {W : Wt} {x qual : Str} {st : Stmt} {f : Addr} {fd : FuncData} {N ps : List Str} {k : Nat} (F : Fun K x qual st f fd) (Sc : FnScope N ps (defScope st)) (len : ∀ ds M kk, W ds M kk → ds.length = ps.length)
    (hbody : ∀ (cdv : Value) (A : Around) (outer : List Env) (s : Shared) (H : Hp) (E : XK), Room k (A.deeper (envOfC qual (defScope st) s.heap.objs.size f cdv)) →
      ∃ t, PSs (cxOf CX0 P w K mg base N qual (defScope st) f cdv A outer s H E).nox (defBody st) t ∧ ∀ ds M kk, W ds M kk → AS K t (startD N.length ds) M { nx := fun _ M' => kk .non M', rt := kk }) : FnOk P w K mg base CX0 (k + 1) f fd ps (Spc K W) := by
  refine F.ok Sc (fun vs H Q E h => ?_) (fun cdv A outer s H vs Q E hr h => ?_)
  · obtain ⟨G, ds, M, kk, r, _, hw, _⟩ := h
    rw [r.len]
    exact len ds M kk hw
  · obtain ⟨G, ds, M, kk, r, hs, hw, q⟩ := h
    obtain ⟨t, pt, ht⟩ := hbody cdv A outer s H E hr
    refine ⟨t, pt, ht ds M kk hw (start N vs) G H _ (relS_start r) hs ⟨?_, ?_, ?_, ?_, ?_⟩⟩
    · intro δ' M' σ' G' H' a rs' s' st'
      exact q .non M' .non G' H' a s' st' rep_of_non
    · intro d M' v G' H' a s' st' rv
      exact q d M' v G' H' a s' st' rv
    · intro δ' M' σ' G' H' a
      exact a.elim
    · intro δ' M' σ' G' H' a
      exact a.elim
    · intro fs M' d G' H' a
      exact a.elim
end
end Tg
set_option Elab.async false
set_option linter.all false
set_option maxRecDepth 100000
set_option maxHeartbeats 1000000
namespace Tg
open PySem L2 PyProof.Rows
/-! ### texts by their codes -/
def tx (l : List Nat) : Str := ⟨l.toArray⟩
theorem tx_len (l : List Nat) : (tx l).length = l.length := by
  show l.toArray.size = l.length
  simp
theorem tx_codes (z : Str) : tx z.cps.toList = z := by
  cases z
  simp [tx]
theorem tx_cps (l : List Nat) : (tx l).cps.toList = l := by simp [tx]
theorem tx_inj {a b : List Nat} (h : tx a = tx b) : a = b := by
  have := congrArg (fun z : Str => z.cps.toList) h
  simpa [tx] using this
theorem tx_app (a b : List Nat) : tx a ++ tx b = tx (a ++ b) := by
  show (⟨a.toArray ++ b.toArray⟩ : Str) = ⟨(a ++ b).toArray⟩
  simp
theorem tx_nil : tx [] = (⟨#[]⟩ : Str) := rfl
theorem tx_signs (l : List Nat) : signs (tx l) = l.map fun c => .str (tx [c]) := by
  unfold signs
  rw [tx_cps]
  rfl
theorem tx_eq {a b : List Nat} : decide (tx a = tx b) = decide (a = b) := by
  by_cases h : a = b
  · subst h; simp
  · rw [decide_eq_false h, decide_eq_false fun z => h (tx_inj z)]
theorem tx_join (ls : List (List Nat)) : Txt.join (tx []) (ls.map tx) = tx ls.flatten := by
  rw [TL.join_eq]
  induction ls with
  | nil => rfl
  | cons a r ih =>
    cases r with
    | nil =>
      show tx a = _
      simp
    | cons b r =>
      show tx a ++ tx [] ++ Str.join (tx []) ((b :: r).map tx) = _
      rw [ih, tx_app, tx_app]
      simp
theorem tx_cut (l : List Nat) (lo hi : Option Int) : cutS (tx l) lo hi = tx ((l.drop (HT.sIx l.length 0 lo)).take (HT.sIx l.length l.length hi - HT.sIx l.length 0 lo)) := by
  unfold cutS
  rw [tx_len, tx_cps]
  rfl
/-! ### universal operations -/
section
variable {X : Cx}
abbrev rAddU (K : PySem.W.Frag) : R2 := fun x y H Q => (rI0 fun i j => .int (i + j)) x y H Q ∨ ((fun x y H Q => ∃ i j, x = .str i ∧ y = .str j ∧ i.length + j.length ≤ sizeLine ∧ Q (.str (i ++ j)) H) x y H Q ∨ (rCat x y H Q ∨ rCatA K x y H Q))
theorem op_addU : OpR X (binaryOp .Add) (rAddU X.K) := op_add.or (op_add_str.or (op_cat.or op_catA))
abbrev rIAddU : R2 := fun x y H Q => (rI0 fun i j => .int (i + j)) x y H Q ∨ ((fun x y H Q => ∃ i j, x = .str i ∧ y = .str j ∧ i.length + j.length ≤ sizeLine ∧ Q (.str (i ++ j)) H) x y H Q)
theorem ip_addU : PIp X .Add rIAddU := iop_add.or iop_add_str
theorem ip_subU : PIp X .Sub (rI0 fun i j => .int (i - j)) := iop_sub
def rSlU (K : PySem.W.Frag) : V → Option Int → Option Int → Hp → VK → Prop := fun x lo hi H Q => rSlL K x lo hi H Q ∨ (rSlS x lo hi H Q ∨ rSlA K x lo hi H Q)
theorem sl_any : SlR X (rSlU X.K) := by
  intro pins s σ H x v vl vu lo hi sl Q I rx hs pl pu h
  rcases h with h | h | h
  · exact sl_list pins s σ H x v vl vu lo hi sl Q I rx hs pl pu h
  · exact sl_str pins s σ H x v vl vu lo hi sl Q I rx hs pl pu h
  · exact sl_tupA pins s σ H x v vl vu lo hi sl Q I rx hs pl pu h
def rLenU (K : PySem.W.Frag) : List V → Hp → VK → Prop := fun xs H Q => (∃ p ys, xs = [.ref p] ∧ (SqL K H p ys ∨ SqT K H p ys) ∧ Q (.int ys.length) H) ∨ (∃ z, xs = [.str z] ∧ z.length ≤ sizeLine ∧ Q (.int z.length) H)
theorem call_lenU : CallR X (.builtin "len") (rLenU X.K) := call_len_seq.or call_len_str
def rTupU (K : PySem.W.Frag) : List V → Hp → VK → Prop := fun xs H Q => ∃ p ys, xs = [.ref p] ∧ ((SqL K H p ys ∧ ∀ l, H l = none → Q (.ref l) (upd H l (.tup ys))) ∨ (SqT K H p ys ∧ Q (.ref p) H))
theorem call_tupU : CallR X (.type "tuple") (rTupU X.K) := call_tuple_of
def rListU (K : PySem.W.Frag) : List V → Hp → VK → Prop := fun xs H Q => ∃ p ys, xs = [.ref p] ∧ (SqL K H p ys ∨ SqT K H p ys) ∧ ∀ l, H l = none → Q (.ref l) (upd H l (.lst ys))
theorem call_listU : CallR X (.type "list") (rListU X.K) := call_list_of
def rIntU : List V → Hp → VK → Prop := fun xs H Q => (∃ i, xs = [.int i] ∧ Q (.int i) H) ∨ ∃ k, xs = [.bl k] ∧ Q (.int (if k then 1 else 0)) H
theorem call_intU : CallR X (.type "int") rIntU := call_int1
def rMin2 : List V → Hp → VK → Prop := fun xs H Q => ∃ i j, xs = [.int i, .int j] ∧ Q (.int (if j < i then j else i)) H
theorem call_minU (hc : X.calm = true) : CallR X (.builtin "min") rMin2 := call_min2 hc
end
section
variable {K : PySem.W.Frag} {δ : DS} {M : Mu} {ta tb te to : TE} {k : D → Mu → Prop} {x y d : D}
theorem au_int {a b : Int} (q : k (.int (a + b)) M) : AR K (rAddU K) (.int a) (.int b) M k := ar_or1 (ar_int q)
theorem au_str {a b : List Nat} (h : a.length + b.length ≤ sizeLine) (q : k (.str (tx (a ++ b))) M) : AR K (rAddU K) (.str (tx a)) (.str (tx b)) M k := ar_or2 (ar_or1 fun vx vy G H Q rx ry s f =>
  ⟨tx a, tx b, rep_str rx, rep_str ry, by rw [tx_len, tx_len]; exact h, by rw [tx_app]; exact f _ M _ G H q s Step.refl rep_of_str⟩)
theorem au_lst {a b : List D} (h : a.length + b.length ≤ sizeLine) (q : k (.lst (a ++ b)) M) : AR K (rAddU K) (.lst a) (.lst b) M k := ar_or2 (ar_or2 (ar_or1 fun vx vy G H Q rx ry s f => by
  obtain ⟨p, xs, rfl, hp, r1⟩ := rep_lst rx
  obtain ⟨q', ys, rfl, hq, r2⟩ := rep_lst ry
  refine ⟨p, q', xs, ys, rfl, rfl, s.same _ _ hp, s.same _ _ hq, by rw [r1.len, r2.len]; exact h, fun l hl => ?_⟩
  obtain ⟨s2, st2, e2⟩ := s.frozen (o := .lst (xs ++ ys)) hl
  exact f _ M _ _ _ q s2 st2 (rep_mk_lst upd_same (Reps.mono e2 _ _ (r1.append r2)))))
theorem au_tup {a b : List D} (h : a.length + b.length ≤ sizeLine) (q : k (.tup (a ++ b)) M) : AR K (rAddU K) (.tup a) (.tup b) M k := ar_or2 (ar_or2 (ar_or2 fun vx vy G H Q rx ry s f => by
  obtain ⟨p, xs, rfl, hp, r1⟩ := rep_tup rx
  obtain ⟨q', ys, rfl, hq, r2⟩ := rep_tup ry
  refine ⟨p, q', xs, ys, rfl, rfl, Same.seqT s.same hp, Same.seqT s.same hq, by rw [r1.len, r2.len]; exact h, fun e => ?_, fun e1 e2 => ?_, fun e1 e2 l hl => ?_⟩
  · refine f _ M _ G H q s Step.refl (rep_mk_tup hq ?_)
    have e1 : a = [] := List.length_eq_zero_iff.mp (by rw [← r1.len, e]; rfl)
    subst e1
    exact r2
  · refine f _ M _ G H q s Step.refl (rep_mk_tup hp ?_)
    have e1 : b = [] := List.length_eq_zero_iff.mp (by rw [← r2.len, e2]; rfl)
    subst e1
    rw [List.append_nil]
    exact r1
  · obtain ⟨s2, st2, e2⟩ := s.frozen (o := .tup (xs ++ ys)) hl
    exact f _ M _ _ _ q s2 st2 (rep_mk_tup (.inl (.inl upd_same)) (Reps.mono e2 _ _ (r1.append r2)))))
theorem ai_int {a b : Int} (q : k (.int (a + b)) M) : AR K rIAddU (.int a) (.int b) M k := ar_or1 (ar_int q)
theorem ai_str {a b : List Nat} (h : a.length + b.length ≤ sizeLine) (q : k (.str (tx (a ++ b))) M) : AR K rIAddU (.str (tx a)) (.str (tx b)) M k := ar_or2 fun vx vy G H Q rx ry s f =>
  ⟨tx a, tx b, rep_str rx, rep_str ry, by rw [tx_len, tx_len]; exact h, by rw [tx_app]; exact f _ M _ G H q s Step.refl rep_of_str⟩
theorem au_ixS {l : List Nat} {j : Int} {c : Nat} (hz : l.length ≤ sizeLine) (h : atI l j = some c) (q : k (.str (tx [c])) M) : AR K (rIx K) (.str (tx l)) (.int j) M k :=
  aix_S (by rw [tx_len]; exact hz) (by rw [tx_cps]; exact h) q
/-! ### slices -/
variable {ko : Option Int → Mu → Prop}
theorem ao_none (q : ko none M) : AO K tNoPart δ M ko := fun σ G H Q rs s f => f none M G H q s Step.refl
theorem ao_some (h : AE K te δ M fun d M1 => ∃ i, d = .int i ∧ ko (some i) M1) : AO K (tPart te) δ M ko := fun σ G H Q rs s f =>
  h σ G H _ rs s fun d M1 v G1 H1 ⟨i, e, q⟩ s1 st1 r1 => by
    subst e
    exact ⟨i, rep_int r1, f _ M1 G1 H1 q s1 st1⟩
/-- a slice of a value -/
def ASl (K : PySem.W.Frag) (r : V → Option Int → Option Int → Hp → VK → Prop) (x : D) (lo hi : Option Int) (M : Mu) (k : D → Mu → Prop) : Prop := ∀ vx G H Q, Rep K G x vx → S K G H M →
  (∀ d M' v G' H', k d M' → S K G' H' M' → Step (ads M) G H (ads M') G' H' → Rep K G' d v → Q v H') → r vx lo hi H Q
theorem ae_sl {r : V → Option Int → Option Int → Hp → VK → Prop} {tl th : TO} (h : AE K te δ M fun x M1 => AO K tl δ M1 fun lo M2 => AO K th δ M2 fun hi M3 => ASl K r x lo hi M3 k) : AE K (L2.tSl r te tl th) δ M k := fun σ G H Q rs s f =>
  h σ G H _ rs s fun x M1 v G1 H1 h1 s1 st1 r1 => h1 σ G1 H1 _ (rs.mono st1.gg) s1 fun lo M2 G2 H2 h2 s2 st2 => h2 σ G2 H2 _ (rs.mono (st1.trans st2).gg) s2 fun hi M3 G3 H3 h3 s3 st3 =>
    h3 v G3 H3 Q (Rep.mono (st2.trans st3).gg _ _ r1) s3 fun d M4 v4 G4 H4 q s4 st4 r4 => f d M4 v4 G4 H4 q s4 (((st1.trans st2).trans st3).trans st4) r4
def cutD {α : Type} (xs : List α) (lo hi : Option Int) : List α := (xs.drop (HT.sIx xs.length 0 lo)).take (HT.sIx xs.length xs.length hi - HT.sIx xs.length 0 lo)
theorem cutD_len {α : Type} (xs : List α) (lo hi : Option Int) : (cutD xs lo hi).length ≤ xs.length := by
  unfold cutD
  rw [List.length_take, List.length_drop]
  omega
theorem reps_cut {G : Hp} {ds : List D} {xs : List V} (r : Reps K G ds xs) (lo hi : Option Int) : Reps K G (cutD ds lo hi) (cutV xs lo hi) := by
  unfold cutD cutV
  rw [r.len]
  exact (r.drop _).take _
theorem asl_lst {ds : List D} {lo hi : Option Int} (q : k (.lst (cutD ds lo hi)) M) : ASl K (rSlU K) (.lst ds) lo hi M k := fun vx G H Q rx s f => by
  obtain ⟨a, xs, rfl, ha, rs⟩ := rep_lst rx
  refine .inl ⟨a, xs, rfl, .inl (.inl (s.same _ _ ha)), fun l hl => ?_⟩
  obtain ⟨s2, st2, e2⟩ := s.frozen (o := .lst (cutV xs lo hi)) hl
  exact f _ M _ _ _ q s2 st2 (rep_mk_lst upd_same (Reps.mono e2 _ _ (reps_cut rs lo hi)))
theorem asl_str {l : List Nat} {lo hi : Option Int} (hz : l.length ≤ sizeLine) (q : k (.str (tx (cutD l lo hi))) M) : ASl K (rSlU K) (.str (tx l)) lo hi M k := fun vx G H Q rx s f =>
  .inr (.inl ⟨tx l, rep_str rx, by rw [tx_len]; exact hz, by
    rw [tx_cut]
    exact f _ M _ G H q s Step.refl rep_of_str⟩)
/-! ### built-ins -/

def lenD : D → Option Nat
  | .lst ds => some ds.length
  | .lsk ds => some ds.length
  | .tup ds => some ds.length
  | _ => none
theorem ac_lenD {n : Nat} (h : lenD x = some n) (q : k (.int (n : Int)) M) : AC K (rLenU K) [x] M k := fun vs G H Q rx s f => by
  obtain ⟨v, r, rfl, r1, rr⟩ := rx.uncons
  unfold Reps at rr
  subst rr
  cases x <;> simp only [lenD, Option.some.injEq, reduceCtorEq] at h
  · obtain ⟨a, xs, rfl, ha, rs⟩ := rep_tup r1
    refine .inl ⟨a, xs, rfl, .inr (Same.seqT s.same ha), ?_⟩
    rw [rs.len, h]
    exact f _ M _ G H q s Step.refl rep_of_int
  · obtain ⟨a, xs, rfl, ha, rs⟩ := rep_lst r1
    refine .inl ⟨a, xs, rfl, .inl (.inl (.inl (s.same _ _ ha))), ?_⟩
    rw [rs.len, h]
    exact f _ M _ G H q s Step.refl rep_of_int
  · obtain ⟨a, xs, rfl, ha, rs⟩ := rep_lsk r1
    refine .inl ⟨a, xs, rfl, .inl (s.same.seq ha), ?_⟩
    rw [rs.len, h]
    exact f _ M _ G H q s Step.refl rep_of_int
theorem ac_lenS {l : List Nat} (hz : l.length ≤ sizeLine) (q : k (.int (l.length : Int)) M) : AC K (rLenU K) [.str (tx l)] M k := fun vs G H Q rx s f => by
  obtain ⟨v, r, rfl, r1, rr⟩ := rx.uncons
  unfold Reps at rr
  subst rr
  refine .inr ⟨tx l, by rw [rep_str r1], by rw [tx_len]; exact hz, ?_⟩
  rw [tx_len]
  exact f _ M _ G H q s Step.refl rep_of_int
theorem ac_lenM {a : Addr} {M1 M2 : Mu} {ds : List D} (e : M = M1 ++ (a, .lst ds) :: M2) (q : k (.int (ds.length : Int)) M) : AC K (rLenU K) [.ref a] M k := fun vs G H Q rx s f => by
  obtain ⟨v, r, rfl, r1, rr⟩ := rx.uncons
  unfold Reps at rr
  subst rr
  obtain ⟨_, o, ho, r⟩ := s.mu (a, .lst ds) (by rw [e]; simp)
  obtain ⟨xs, rfl, rs⟩ := r
  refine .inl ⟨a, xs, by rw [rep_ref r1], .inl (.inl (.inl ho)), ?_⟩
  rw [rs.len]
  exact f _ M _ G H q s Step.refl rep_of_int
theorem ac_int {i : Int} (q : k (.int i) M) : AC K rIntU [.int i] M k := fun vs G H Q rx s f => by
  obtain ⟨v, r, rfl, r1, rr⟩ := rx.uncons
  unfold Reps at rr
  subst rr
  exact .inl ⟨i, by rw [rep_int r1], f _ M _ G H q s Step.refl rep_of_int⟩
theorem ac_min {i j : Int} (q : k (.int (if j < i then j else i)) M) : AC K rMin2 [.int i, .int j] M k := fun vs G H Q rx s f => by
  obtain ⟨v, r, rfl, r1, rr⟩ := rx.uncons
  obtain ⟨u, r, rfl, r2, rr⟩ := rr.uncons
  unfold Reps at rr
  subst rr
  exact ⟨i, j, by rw [rep_int r1, rep_int r2], f _ M _ G H q s Step.refl rep_of_int⟩
theorem ac_tupL {ds : List D} (q : k (.tup ds) M) : AC K (rTupU K) [.lst ds] M k := fun vs G H Q rx s f => by
  obtain ⟨v, r, rfl, r1, rr⟩ := rx.uncons
  unfold Reps at rr
  subst rr
  obtain ⟨a, xs, rfl, ha, rs⟩ := rep_lst r1
  refine ⟨a, xs, rfl, .inl ⟨.inl (.inl (s.same _ _ ha)), fun l hl => ?_⟩⟩
  obtain ⟨s2, st2, e2⟩ := s.frozen (o := .tup xs) hl
  exact f _ M _ _ _ q s2 st2 (rep_mk_tup (.inl (.inl upd_same)) (Reps.mono e2 _ _ rs))
theorem ac_tupT {ds : List D} (q : k (.tup ds) M) : AC K (rTupU K) [.tup ds] M k := fun vs G H Q rx s f => by
  obtain ⟨v, r, rfl, r1, rr⟩ := rx.uncons
  unfold Reps at rr
  subst rr
  obtain ⟨a, xs, rfl, ha, rs⟩ := rep_tup r1
  exact ⟨a, xs, rfl, .inr ⟨Same.seqT s.same ha, f _ M _ G H q s Step.refl (rep_mk_tup ha rs)⟩⟩
theorem ac_tupM {a : Addr} {M1 M2 : Mu} {ds : List D} (e : M = M1 ++ (a, .lst ds) :: M2) (q : k (.tup ds) M) : AC K (rTupU K) [.ref a] M k := fun vs G H Q rx s f => by
  obtain ⟨v, r, rfl, r1, rr⟩ := rx.uncons
  unfold Reps at rr
  subst rr
  obtain ⟨_, o, ho, r⟩ := s.mu (a, .lst ds) (by rw [e]; simp)
  obtain ⟨xs, rfl, rs⟩ := r
  refine ⟨a, xs, by rw [rep_ref r1], .inl ⟨.inl (.inl ho), fun l hl => ?_⟩⟩
  obtain ⟨s2, st2, e2⟩ := s.frozen (o := .tup xs) hl
  exact f _ M _ _ _ q s2 st2 (rep_mk_tup (.inl (.inl upd_same)) (Reps.mono e2 _ _ rs))
theorem ac_list {ds : List D} (h : x = .lst ds ∨ x = .tup ds ∨ x = .lsk ds) (q : k (.lst ds) M) : AC K (rListU K) [x] M k := fun vs G H Q rx s f => by
  obtain ⟨v, r, rfl, r1, rr⟩ := rx.uncons
  unfold Reps at rr
  subst rr
  have go : ∀ (a : Addr) (xs : List V), v = .ref a → (SqL K H a xs ∨ SqT K H a xs) → Reps K G ds xs → rListU K [v] H Q := fun a xs e h1 h2 => ⟨a, xs, by rw [e], h1, fun l hl => by
    obtain ⟨s2, st2, e2⟩ := s.frozen (o := .lst xs) hl
    exact f _ M _ _ _ q s2 st2 (rep_mk_lst upd_same (Reps.mono e2 _ _ h2))⟩
  rcases h with rfl | rfl | rfl
  · obtain ⟨a, xs, e, ha, rs⟩ := rep_lst r1
    exact go a xs e (.inl (.inl (.inl (s.same _ _ ha)))) rs
  · obtain ⟨a, xs, e, ha, rs⟩ := rep_tup r1
    exact go a xs e (.inr (Same.seqT s.same ha)) rs
  · obtain ⟨a, xs, e, ha, rs⟩ := rep_lsk r1
    exact go a xs e (.inl (s.same.seq ha)) rs
theorem ac_listM {ds : List D} (h : x = .lst ds ∨ x = .tup ds ∨ x = .lsk ds) (q : ∀ a, k (.ref a) (M ++ [(a, .lst ds)])) : AC K (rListU K) [x] M k := fun vs G H Q rx s f => by
  obtain ⟨v, r, rfl, r1, rr⟩ := rx.uncons
  unfold Reps at rr
  subst rr
  have go : ∀ (a : Addr) (xs : List V), v = .ref a → (SqL K H a xs ∨ SqT K H a xs) → Reps K G ds xs → rListU K [v] H Q := fun a xs e h1 h2 => ⟨a, xs, by rw [e], h1, fun l hl => by
    obtain ⟨s2, st2⟩ := s.fresh (o := .lst xs) (m := .lst ds) hl ⟨xs, rfl, h2⟩
    exact f _ _ _ _ _ (q l) s2 st2 rep_of_ref⟩
  rcases h with rfl | rfl | rfl
  · obtain ⟨a, xs, e, ha, rs⟩ := rep_lst r1
    exact go a xs e (.inl (.inl (.inl (s.same _ _ ha)))) rs
  · obtain ⟨a, xs, e, ha, rs⟩ := rep_tup r1
    exact go a xs e (.inr (Same.seqT s.same ha)) rs
  · obtain ⟨a, xs, e, ha, rs⟩ := rep_lsk r1
    exact go a xs e (.inl (s.same.seq ha)) rs
theorem ac_all {bs : List Bool} (q : k (.bl (bs.all id)) M) : AC K (rAll K) [.lst (bs.map .bl)] M k := fun vs G H Q rx s f => by
  obtain ⟨v, r, rfl, r1, rr⟩ := rx.uncons
  unfold Reps at rr
  subst rr
  obtain ⟨a, xs, rfl, ha, rs⟩ := rep_lst r1
  rw [rs.bls] at ha
  exact ⟨a, bs, rfl, .inl (.inl (s.same _ _ ha)), f _ M _ G H q s Step.refl rep_of_bl⟩
theorem ac_any {bs : List Bool} (q : k (.bl (bs.any id)) M) : AC K (rAny K) [.lst (bs.map .bl)] M k := fun vs G H Q rx s f => by
  obtain ⟨v, r, rfl, r1, rr⟩ := rx.uncons
  unfold Reps at rr
  subst rr
  obtain ⟨a, xs, rfl, ha, rs⟩ := rep_lst r1
  rw [rs.bls] at ha
  exact ⟨a, bs, rfl, .inl (.inl (s.same _ _ ha)), f _ M _ G H q s Step.refl rep_of_bl⟩
/-! ### isinstance -/
def typeD : D → Option String
  | .non => some "NoneType"
  | .bl _ => some "bool"
  | .int _ => some "int"
  | .str _ => some "str"
  | .tup _ => some "tuple"
  | .lst _ => some "list"
  | _ => none
theorem tyX_of {G H : Hp} {v : V} {n : String} (e : Same G H) (h : typeD d = some n) (r : Rep K G d v) : TyX K H v (.type n) := by
  cases d <;> simp only [typeD, Option.some.injEq, reduceCtorEq] at h
  · rw [rep_non r, ← h]
    exact .base .non
  · rw [rep_bl r, ← h]
    exact .base (.bl _)
  · rw [rep_int r, ← h]
    exact .base (.int _)
  · rw [rep_str r, ← h]
    exact .base (.str _)
  · obtain ⟨a, xs, rfl, ha, _⟩ := rep_tup r
    rw [← h]
    rcases Same.seqT e ha with (q | ⟨o, q⟩) | ⟨o, its, n, q1, q2, q3⟩
    · exact .base (.tup q)
    · exact .fTuple q
    · exact .kTuple q1 q2
  · obtain ⟨a, xs, rfl, ha, _⟩ := rep_lst r
    rw [← h]
    exact .base (.lst (e _ _ ha))
theorem ac_isi {n c : String} {b : Bool} (h : typeD x = some n) (hk : PySem.W.kitOne K (.type n) (.type c) = some b) (q : k (.bl b) M) : AC K (rIsi K) [x, .ty c] M k := fun vs G H Q rx s f => by
  obtain ⟨v, r, rfl, r1, rr⟩ := rx.uncons
  obtain ⟨u, r, rfl, r2, rr⟩ := rr.uncons
  unfold Reps at rr
  subst rr
  exact ⟨v, u, .type n, .type c, b, rfl, by rw [rep_ty r2]; exact .ty c, tyX_of s.same h r1, hk, f _ M _ G H q s Step.refl rep_of_bl⟩
/-! ### methods -/
/-- a method of a list -/
def LstM (x : D) (M1 : Mu) : Prop := (∃ ds, x = D.lst ds) ∨ (∃ ds, x = D.lsk ds) ∨ ∃ a ds N1 N2, x = D.ref a ∧ M1 = N1 ++ (a, MO.lst ds) :: N2
theorem lstM_ref {a : Addr} {ds : List D} {M1 N1 N2 : Mu} (e : M1 = N1 ++ (a, MO.lst ds) :: N2) : LstM (.ref a) M1 := .inr (.inr ⟨a, ds, N1, N2, rfl, e⟩)
theorem ae_lm {r : V → List V → Hp → VK → Prop} {ts : TA} (h : AE K to δ M fun x M1 => LstM x M1 ∧ AA K ts δ M1 fun xs M2 => AM K r x xs M2 k) : AE K (tBM K "list" r to ts) δ M k := fun σ G H Q rs s f =>
  h σ G H _ rs s fun x M1 v G1 H1 ⟨ht, h1⟩ s1 st1 r1 => by
    refine ⟨?_, h1 σ G1 H1 _ (rs.mono st1.gg) s1 fun xs M2 vs G2 H2 h2 s2 st2 r2 => h2 v vs G2 H2 Q (Rep.mono st2.gg _ _ r1) r2 s2 fun d M3 v3 G3 H3 q s3 st3 r3 => f d M3 v3 G3 H3 q s3 ((st1.trans st2).trans st3) r3⟩
    rcases ht with ⟨ds, e⟩ | ⟨ds, e⟩ | ⟨a, ds, N1, N2, e, e2⟩
    · subst e
      obtain ⟨a, xs, rfl, ha, _⟩ := rep_lst r1
      exact .inl ⟨rfl, xs, .inl (.inl (s1.same _ _ ha))⟩
    · subst e
      obtain ⟨a, xs, rfl, ha, _⟩ := rep_lsk r1
      exact .inl ⟨rfl, xs, s1.same.seq ha⟩
    · subst e
      rw [rep_ref r1]
      obtain ⟨_, o, ho, r⟩ := s1.mu (a, .lst ds) (by rw [e2]; simp)
      obtain ⟨xs, rfl, rs⟩ := r
      exact .inl ⟨rfl, xs, .inl (.inl ho)⟩
theorem am_append {a : Addr} {ds : List D} {M1 M2 : Mu} (e : M = M1 ++ (a, .lst ds) :: M2) (hz : ds.length < sizeLine) (q : k .non (M1 ++ (a, .lst (ds ++ [d])) :: M2)) : AM K rAppend (.ref a) [d] M k := fun vx vs G H Q rx rxs s f => by
  subst e
  obtain ⟨v, r, rfl, r1, rr⟩ := rxs.uncons
  unfold Reps at rr
  subst rr
  obtain ⟨g0, o, ho, r⟩ := s.mu (a, .lst ds) (by simp)
  obtain ⟨xs, rfl, rs⟩ := r
  obtain ⟨s2, st2⟩ := s.write (o := .lst (xs ++ [v])) (m' := .lst (ds ++ [d])) ⟨_, rfl, rs.append (Reps.one r1)⟩
  exact ⟨a, xs, v, rep_ref rx, rfl, ho, by rw [rs.len]; exact hz, f _ _ _ _ _ q s2 st2 rep_of_non⟩
theorem am_extend {a : Addr} {ds es : List D} {M1 M2 : Mu} (e : M = M1 ++ (a, .lst ds) :: M2) (hz : ds.length + es.length ≤ sizeLine) (q : k .non (M1 ++ (a, .lst (ds ++ es)) :: M2)) : AM K rExtend (.ref a) [.lst es] M k := fun vx vs G H Q rx rxs s f => by
  subst e
  obtain ⟨v, r, rfl, r1, rr⟩ := rxs.uncons
  unfold Reps at rr
  subst rr
  obtain ⟨b, ys, rfl, hb, r2⟩ := rep_lst r1
  obtain ⟨g0, o, ho, r⟩ := s.mu (a, .lst ds) (by simp)
  obtain ⟨xs, rfl, rs⟩ := r
  obtain ⟨s2, st2⟩ := s.write (o := .lst (xs ++ ys)) (m' := .lst (ds ++ es)) ⟨_, rfl, rs.append r2⟩
  exact ⟨a, b, xs, ys, rep_ref rx, rfl, ho, s.same _ _ hb, by rw [rs.len, r2.len]; exact hz, f _ _ _ _ _ q s2 st2 rep_of_non⟩
abbrev rJoin (K : PySem.W.Frag) : V → List V → Hp → VK → Prop := fun x xs H Q => ∃ a p, ∃ ys : List Str, x = .str a ∧ xs = [.ref p] ∧ (SqL K H p (ys.map V.str) ∨ SqT K H p (ys.map V.str)) ∧
      (ys.map (·.length)).sum + ys.length * a.length ≤ 16777216 ∧ Q (.str (Txt.join a ys)) H
theorem ae_m1 {r : V → List V → Hp → VK → Prop} (h : AE K to δ M fun x M1 => (∃ z, x = .str z) ∧ AE K te δ M1 fun y M2 => AM K r x [y] M2 k) : AE K (tM1 r to te) δ M k := fun σ G H Q rs s f =>
  h σ G H _ rs s fun x M1 v G1 H1 ⟨⟨z, hz⟩, h1⟩ s1 st1 r1 => by
    subst hz
    refine ⟨⟨z, rep_str r1⟩, h1 σ G1 H1 _ (rs.mono st1.gg) s1 fun y M2 vy G2 H2 h2 s2 st2 r2 => h2 v [vy] G2 H2 Q (Rep.mono st2.gg _ _ r1) (Reps.one r2) s2 fun d M3 v3 G3 H3 q s3 st3 r3 => f d M3 v3 G3 H3 q s3 ((st1.trans st2).trans st3) r3⟩
theorem am_join {ls : List (List Nat)} (hz : (ls.map (·.length)).sum ≤ 16777216) (q : k (.str (tx ls.flatten)) M) : AM K (rJoin K) (.str (tx [])) [.lst (ls.map fun l => .str (tx l))] M k := fun vx vs G H Q rx rxs s f => by
  obtain ⟨v, r, rfl, r1, rr⟩ := rxs.uncons
  unfold Reps at rr
  subst rr
  obtain ⟨b, ys, rfl, hb, r2⟩ := rep_lst r1
  have e : ys = (ls.map tx).map V.str := by
    have h2 : ls.map (fun l => D.str (tx l)) = (ls.map tx).map D.str := by simp
    rw [h2] at r2
    exact r2.strs
  refine ⟨tx [], b, ls.map tx, rep_str rx, rfl, .inl (.inl (.inl (by rw [← e]; exact s.same _ _ hb))), ?_, ?_⟩
  · have h1 : ((ls.map tx).map (·.length)) = ls.map (·.length) := by
      rw [List.map_map]
      exact List.map_congr_left fun l _ => tx_len l
    rw [h1, tx_len]
    simpa using hz
  · rw [tx_join]
    exact f _ M _ G H q s Step.refl rep_of_str
end
end Tg
set_option Elab.async false
set_option linter.all false
set_option maxRecDepth 100000
set_option maxHeartbeats 1000000
namespace Tg
open PySem L2 PyProof.Rows
/-! ### the rules with the written part by its name -/
section
variable {X : Cx} {K : PySem.W.Frag} {e a b : Expr} {ta tb te tl : TE} {pos : Pos}
theorem ix_K (h : X.K = K := by rfl) : IxR X (rIx K) := h ▸ ix_seq
theorem add_K (h : X.K = K := by rfl) : OpR X (binaryOp .Add) (rAddU K) := h ▸ op_addU
theorem sl_K (h : X.K = K := by rfl) : SlR X (rSlU K) := h ▸ sl_any
theorem len_K (h : X.K = K := by rfl) : CallR X (.builtin "len") (rLenU K) := h ▸ call_lenU
theorem tup_K (h : X.K = K := by rfl) : CallR X (.type "tuple") (rTupU K) := h ▸ call_tupU
theorem list_K (h : X.K = K := by rfl) : CallR X (.type "list") (rListU K) := h ▸ call_listU
theorem all_K (hc : X.calm = true) (h : X.K = K := by rfl) : CallR X (.builtin "all") (rAll K) := h ▸ cr_all hc
theorem any_K (hc : X.calm = true) (h : X.K = K := by rfl) : CallR X (.builtin "any") (rAny K) := h ▸ cr_any hc
theorem isi_K (h : X.K = K := by rfl) : CallR X (.builtin "isinstance") (rIsi K) := h ▸ call_isi
theorem seq_K {tg l : Expr} (hl : PE X l tl) (h : X.K = K := by rfl) : PI X tg l (iSeq K tl) := h ▸ pi_seq hl
theorem tru_K {t : TE} (ha : PE X a t) (h : X.K = K := by rfl) (he : ∀ whole, isTrue a X.env whole = (do let v ← whole; standAt a.pos; holding [v] (truthy v)) := by intro _; rfl) : PT X a (tTruU K t) := h ▸ pt_tru ha he
theorem gtup_K {es : List Expr} {k : Nat} {t : TGs} {n : Nat} (hc : X.calm = true) (hg : PGs X es t) (h : X.K = K := by rfl)
    (hn : (assignEach es X.env).length = n := by rfl) (hst : (assignEach es X.env).findIdx? (·.1) = none := by rfl) : PG X (.Tuple es k pos) (gTup K n t) := h ▸ pg_tup hc hg hn hst
theorem app_K {o : Expr} {es : List Expr} {to : TE} {t : TA} {apos cpos : Pos} (h0 : PE X (.Call (.Attribute o "append" apos) (e :: es) [] cpos) (tBM X.K "list" rAppend to t)) (h : X.K = K := by rfl) : PE X (.Call (.Attribute o "append" apos) (e :: es) [] cpos) (tBM K "list" rAppend to t) := h ▸ h0
theorem ext_K {o : Expr} {es : List Expr} {to : TE} {t : TA} {apos cpos : Pos} (h0 : PE X (.Call (.Attribute o "extend" apos) (e :: es) [] cpos) (tBM X.K "list" rExtend to t)) (h : X.K = K := by rfl) : PE X (.Call (.Attribute o "extend" apos) (e :: es) [] cpos) (tBM K "list" rExtend to t) := h ▸ h0
theorem popAt_K {o : Expr} {es : List Expr} {to : TE} {t : TA} {apos cpos : Pos} (h0 : PE X (.Call (.Attribute o "pop" apos) (e :: es) [] cpos) (tBM X.K "list" rPopAt to t)) (h : X.K = K := by rfl) : PE X (.Call (.Attribute o "pop" apos) (e :: es) [] cpos) (tBM K "list" rPopAt to t) := h ▸ h0
theorem join_K {o : Expr} {to : TE} {apos cpos : Pos} (h0 : PE X (.Call (.Attribute o "join" apos) [e] [] cpos) (tM1 (rJoin X.K) to te)) (h : X.K = K := by rfl) : PE X (.Call (.Attribute o "join" apos) [e] [] cpos) (tM1 (rJoin K) to te) := h ▸ h0
/-! ### three comparisons in a row -/
def tChain3 (r r' r2 : R2) (ta tb tc td : TE) : TE := fun σ H Q => ta σ H fun x H1 => tb σ H1 fun y H2 => r x y H2 fun z H3 => ∃ k, z = .bl k ∧ (if k = true then tc σ H3 fun w' H4 => r' y w' H4 fun z2 H5 => ∃ k2, z2 = .bl k2 ∧ (if k2 = true then td σ H5 fun w2 H6 => r2 w' w2 H6 Q else Q (.bl false) H5) else Q (.bl false) H3)
end
section
variable {X : Cx} {pins : List (Addr × Obj)} {a b c d : Expr} {ta tb tc td : TE} {pos : Pos}
theorem pt_chain3 {op op' op2 : CmpOp} {r r' r2 : R2} (ho : OpR X (compareOp op) r) (ho' : OpR X (compareOp op') r') (ho2 : OpR X (compareOp op2) r2) (ha : PE X a ta) (hb : PE X b tb) (hc : PE X c tc) (hd : PE X d td)
    (hm : lastMarks [op, op', op2] [b, c, d] = false := by with_unfolding_all rfl) : PT X (.Compare a [op, op', op2] [b, c, d] pos) (tTest (tChain3 r r' r2 ta tb tc td)) := by
  refine ⟨fun pins s σ H Q I h => ?_⟩
  refine isTrue_chain (thn (ha.run pins s σ H _ I h) fun v s1 ⟨x, H1, I1, r1, q1⟩ => test_link (thn (hb.run pins s1 σ H1 _ I1 q1) fun u s2 ⟨y, H2, I2, ry, q2⟩ =>
    thn (ho pins s2 σ H2 x y v u _ I2 r1 ry q2) fun dd s3 ⟨z, H3, I3, r3, k, e, q3⟩ => ?_)) hm
  subst e
  cases r3
  refine wpAny_truthy_bool ?_
  cases k with
  | false =>
    obtain ⟨k', e', q'⟩ := q3
    cases e'
    exact ite_ff ⟨H3, I3, q'⟩
  | true =>
    refine ite_tt (test_link (thn (hc.run pins s3 σ H3 _ I3 q3) fun w' s4 ⟨z', H4, I4, r4, q4⟩ => thn (ho' pins s4 σ H4 y z' u w' _ I4 ry r4 q4) fun d' s5 ⟨z2, H5, I5, r5, k2, e2, q5⟩ => ?_))
    subst e2
    cases r5
    refine wpAny_truthy_bool ?_
    cases k2 with
    | false =>
      obtain ⟨k', e', q'⟩ := q5
      cases e'
      exact ite_ff ⟨H5, I5, q'⟩
    | true =>
      refine ite_tt (test_last (thn (hd.run pins s5 σ H5 _ I5 q5) fun w2 s6 ⟨z3, H6, I6, r6, q6⟩ => thn (ho2 pins s6 σ H6 z' z3 w' w2 _ I6 r4 r6 q6) fun d2 s7 ⟨z4, H7, I7, r7, k3, e3, q7⟩ => ?_))
      subst e3
      cases r7
      exact wpAny_truthy_bool ⟨H7, I7, q7⟩
end
section
variable {K : PySem.W.Frag} {δ : DS} {M : Mu} {ta tb tc td te to ti tx : TE} {k : D → Mu → Prop} {x y d : D}
theorem ae_chain {r r' : R2} (h : AE K ta δ M fun x M1 => AE K tb δ M1 fun y M2 => AR K r x y M2 fun z M3 => ∃ b, z = .bl b ∧ (b = true → AE K tc δ M3 fun w M4 => AR K r' y w M4 k) ∧ (b = false → k (.bl false) M3)) : AE K (tChain r r' ta tb tc) δ M k := fun σ G H Q rs s f =>
  h σ G H _ rs s fun x M1 vx G1 H1 h1 s1 st1 r1 => h1 σ G1 H1 _ (rs.mono st1.gg) s1 fun y M2 vy G2 H2 h2 s2 st2 r2 =>
    h2 vx vy G2 H2 _ (Rep.mono st2.gg _ _ r1) r2 s2 fun z M3 vz G3 H3 ⟨b, e, q1, q2⟩ s3 st3 r3 => by
      subst e
      refine ⟨b, rep_bl r3, ?_⟩
      have st := (st1.trans st2).trans st3
      cases b with
      | true =>
        rw [if_pos rfl]
        exact q1 rfl σ G3 H3 _ (rs.mono st.gg) s3 fun w M4 vw G4 H4 h4 s4 st4 r4 => h4 vy vw G4 H4 Q (Rep.mono (st3.trans st4).gg _ _ r2) r4 s4 fun d M5 v G5 H5 q s5 st5 r5 => f d M5 v G5 H5 q s5 ((st.trans st4).trans st5) r5
      | false =>
        rw [if_neg Bool.false_ne_true]
        exact f _ M3 _ G3 H3 (q2 rfl) s3 st rep_of_bl
theorem ae_chain3 {r r' r2 : R2} (h : AE K ta δ M fun x M1 => AE K tb δ M1 fun y M2 => AR K r x y M2 fun z M3 => ∃ b, z = .bl b ∧ (b = true → AE K tc δ M3 fun w M4 => AR K r' y w M4 fun z2 M5 => ∃ b2, z2 = .bl b2 ∧ (b2 = true → AE K td δ M5 fun w2 M6 => AR K r2 w w2 M6 k) ∧ (b2 = false → k (.bl false) M5)) ∧ (b = false → k (.bl false) M3)) : AE K (tChain3 r r' r2 ta tb tc td) δ M k := fun σ G H Q rs s f =>
  h σ G H _ rs s fun x M1 vx G1 H1 h1 s1 st1 r1 => h1 σ G1 H1 _ (rs.mono st1.gg) s1 fun y M2 vy G2 H2 h2 s2 st2 ry =>
    h2 vx vy G2 H2 _ (Rep.mono st2.gg _ _ r1) ry s2 fun z M3 vz G3 H3 ⟨b, e, q1, q2⟩ s3 st3 r3 => by
      subst e
      refine ⟨b, rep_bl r3, ?_⟩
      have st := (st1.trans st2).trans st3
      cases b with
      | true =>
        rw [if_pos rfl]
        exact q1 rfl σ G3 H3 _ (rs.mono st.gg) s3 fun w M4 vw G4 H4 h4 s4 st4 r4 => h4 vy vw G4 H4 _ (Rep.mono (st3.trans st4).gg _ _ ry) r4 s4 fun d M5 v G5 H5 ⟨b2, e2, q3, q4⟩ s5 st5 r5 => by
          subst e2
          refine ⟨b2, rep_bl r5, ?_⟩
          have st' := (st.trans st4).trans st5
          cases b2 with
          | true =>
            rw [if_pos rfl]
            exact q3 rfl σ G5 H5 _ (rs.mono st'.gg) s5 fun w2 M6 vw2 G6 H6 h6 s6 st6 r6 => h6 vw vw2 G6 H6 Q (Rep.mono (st5.trans st6).gg _ _ r4) r6 s6 fun d M7 v G7 H7 q s7 st7 r7 => f d M7 v G7 H7 q s7 ((st'.trans st6).trans st7) r7
          | false =>
            rw [if_neg Bool.false_ne_true]
            exact f _ M5 _ G5 H5 (q4 rfl) s5 st' rep_of_bl
      | false =>
        rw [if_neg Bool.false_ne_true]
        exact f _ M3 _ G3 H3 (q2 rfl) s3 st rep_of_bl
/-! ### the slots at the entry -/
theorem as_start {n : Nat} {ds : List D} {δ' : DS} {t : TS} {A : AEnds} (e : startD n ds = δ') (h : AS K t δ' M A) : AS K t (startD n ds) M A := e ▸ h
theorem as_slots {δ' : DS} {t : TS} {A : AEnds} (e : δ = δ') (h : AS K t δ' M A) : AS K t δ M A := e ▸ h
/-! ### list(range(..)) -/
theorem ae_listRg1 {ta : TE} (h : AE K ta δ M fun d M1 => ∃ j : Int, d = .int j ∧ 0 ≤ j ∧ j ≤ 16777216 ∧ k (.lst (rng 0 j.toNat)) M1) : AE K (tLstRg (tRg1 ta)) δ M k := fun σ G H Q rs s f =>
  h σ G H _ rs s fun d M1 v G1 H1 ⟨j, e, h0, h2, q⟩ s1 st1 r1 => by
    subst e
    refine ⟨j, rep_int r1, RgOk.of_le (Int.le_refl 0) h2 (by decide) h0, fun l hl => ?_⟩
    obtain ⟨s2, st2, e2⟩ := s1.frozen (o := .lst (rgV 0 j)) hl
    refine f _ M1 _ _ _ q s2 (st1.trans st2) (rep_mk_lst upd_same ?_)
    have e3 : rgV 0 j = (((List.range j.toNat).map fun (i : Nat) => ((0 : Int) + (i : Nat))).map V.int) := by
      unfold rgV
      rw [List.map_map, Int.sub_zero]
      rfl
    have e4 : rng 0 j.toNat = (((List.range j.toNat).map fun (i : Nat) => ((0 : Int) + (i : Nat))).map D.int) := by
      unfold rng
      rw [List.map_map]
      rfl
    rw [e3, e4]
    exact Reps.ofInts
/-! ### dicts -/
def valD {κ : Type} [DecidableEq κ] (kvs : List (κ × D)) (q : κ) : Option D := (kvs.find? fun kv => decide (kv.1 = q)).map (·.2)
def putD {κ : Type} [DecidableEq κ] (kvs : List (κ × D)) (q : κ) (v : D) : List (κ × D) :=
  if (kvs.any fun kv => decide (kv.1 = q)) = true then kvs.map (fun kv => if kv.1 = q then (kv.1, v) else kv) else kvs ++ [(q, v)]
def keyD : Key → D
  | .inl i => .int i
  | .inr z => .str z
theorem rep_key {G : Hp} {v : V} : ∀ {q : Key}, Rep K G (keyD q) v → v = kV q
  | .inl _, h => rep_int h
  | .inr _, h => rep_str h
theorem repKV_len {κ : Type} {G : Hp} : ∀ {ds : List (κ × D)} {xs : List (κ × V)}, RepKV K G ds xs → xs.length = ds.length
  | [], _, h => by
    unfold RepKV at h
    rw [h]
    rfl
  | (q, d) :: ds, _, h => by
    unfold RepKV at h
    obtain ⟨x, r, e, _, t⟩ := h
    rw [e, List.length_cons, List.length_cons, repKV_len t]
theorem repKV_get {κ : Type} [DecidableEq κ] {G : Hp} {q : κ} : ∀ {ds : List (κ × D)} {xs : List (κ × V)}, RepKV K G ds xs → (∀ d, valD ds q = some d → ∃ v, valV xs q = some v ∧ Rep K G d v) ∧ (valD ds q = none → valV xs q = none)
  | [], _, h => by
    unfold RepKV at h
    rw [h]
    exact ⟨fun d e => by simp [valD] at e, fun _ => rfl⟩
  | (q', d') :: ds, _, h => by
    unfold RepKV at h
    obtain ⟨x, r, e, rx, t⟩ := h
    subst e
    have ih := repKV_get (q := q) t
    by_cases hq : q' = q
    · subst hq
      refine ⟨fun d e => ⟨x, by simp [valV], ?_⟩, fun e => ?_⟩
      · have e1 : d' = d := by simpa [valD] using e
        subst e1
        exact rx
      · simp [valD] at e
    · have e1 : valD ((q', d') :: ds) q = valD ds q := by simp [valD, hq]
      have e2 : valV ((q', x) :: r) q = valV r q := by simp [valV, hq]
      rw [e1, e2]
      exact ih
theorem repKV_any {κ : Type} [DecidableEq κ] {G : Hp} {q : κ} : ∀ {ds : List (κ × D)} {xs : List (κ × V)}, RepKV K G ds xs → (xs.any fun kv => decide (kv.1 = q)) = (ds.any fun kv => decide (kv.1 = q))
  | [], _, h => by
    unfold RepKV at h
    rw [h]
    rfl
  | (q', d') :: ds, _, h => by
    unfold RepKV at h
    obtain ⟨x, r, e, rx, t⟩ := h
    subst e
    rw [List.any_cons, List.any_cons, repKV_any t]
theorem repKV_map {κ : Type} [DecidableEq κ] {G : Hp} {q : κ} {d : D} {v : V} (hv : Rep K G d v) : ∀ {ds : List (κ × D)} {xs : List (κ × V)}, RepKV K G ds xs → RepKV K G (ds.map fun kv => if kv.1 = q then (kv.1, d) else kv) (xs.map fun kv => if kv.1 = q then (kv.1, v) else kv)
  | [], _, h => by
    unfold RepKV at h
    rw [h]
    show RepKV K G [] []
    unfold RepKV
    rfl
  | (q', d') :: ds, _, h => by
    unfold RepKV at h
    obtain ⟨x, r, e, rx, t⟩ := h
    subst e
    rw [List.map_cons, List.map_cons]
    by_cases hq : q' = q
    · rw [if_pos hq, if_pos hq]
      unfold RepKV
      exact ⟨v, _, rfl, hv, repKV_map hv t⟩
    · rw [if_neg hq, if_neg hq]
      unfold RepKV
      exact ⟨x, _, rfl, rx, repKV_map hv t⟩
theorem repKV_snoc {κ : Type} {G : Hp} {q : κ} {d : D} {v : V} (hv : Rep K G d v) : ∀ {ds : List (κ × D)} {xs : List (κ × V)}, RepKV K G ds xs → RepKV K G (ds ++ [(q, d)]) (xs ++ [(q, v)])
  | [], _, h => by
    unfold RepKV at h
    rw [h]
    show RepKV K G [(q, d)] [(q, v)]
    unfold RepKV
    exact ⟨v, [], rfl, hv, by unfold RepKV; rfl⟩
  | (q', d') :: ds, _, h => by
    unfold RepKV at h
    obtain ⟨x, r, e, rx, t⟩ := h
    subst e
    show RepKV K G ((q', d') :: (ds ++ [(q, d)])) ((q', x) :: (r ++ [(q, v)]))
    unfold RepKV
    exact ⟨x, _, rfl, rx, repKV_snoc hv t⟩
theorem repKV_put {κ : Type} [DecidableEq κ] {G : Hp} {q : κ} {d : D} {v : V} (hv : Rep K G d v) {ds : List (κ × D)} {xs : List (κ × V)} (h : RepKV K G ds xs) : RepKV K G (putD ds q d) (putK xs q v) := by
  unfold putD putK
  rw [repKV_any h]
  split
  · exact repKV_map hv h
  · exact repKV_snoc hv h
theorem ae_dnew (q : ∀ a, k (.ref a) (M ++ [(a, .dK [])])) : AE K tDNewK δ M k := fun σ G H Q rs s f p hp => by
  obtain ⟨s2, st2⟩ := s.fresh (o := .dK []) (m := .dK []) hp ⟨[], rfl, by unfold RepKV; rfl⟩
  exact f _ _ _ _ _ (q p) s2 st2 rep_of_ref
def rSetU : TSet := fun o i v H Q => rSetL o i v H Q ∨ rSetD o i v H Q
theorem set_any {X : Cx} (hu : X.A.units + 1 < cLine) : PSet X rSetU := fun pins s σ H o i v ov iv u Q I ro ri rv h => by
  rcases h with h | h
  · exact set_list pins s σ H o i v ov iv u Q I ro ri rv h
  · exact set_dict hu pins s σ H o i v ov iv u Q I ro ri rv h
/-- o[i] = v, of a list or a dict that may change -/
def PutU (o i v : D) (M : Mu) (q : Mu → Prop) : Prop := PutM o i v M q ∨ ∃ a kvs M1 M2 key, o = .ref a ∧ i = keyD key ∧ M = M1 ++ (a, .dK kvs) :: M2 ∧ kvs.length < sizeLine ∧ q (M1 ++ (a, .dK (putD kvs key v)) :: M2)
theorem put_l {a : Addr} {ds : List D} {M1 M2 : Mu} {j : Int} {n : Nat} {v : D} {q : Mu → Prop} (e : M = M1 ++ (a, .lst ds) :: M2) (hn : ixN ds.length j = some n) (h : q (M1 ++ (a, .lst (ds.set n v)) :: M2)) : PutU (.ref a) (.int j) v M q := .inl ⟨a, ds, M1, M2, j, n, rfl, rfl, e, hn, h⟩
theorem put_d {a : Addr} {kvs : List (Key × D)} {M1 M2 : Mu} {i : D} {key : Key} {v : D} {q : Mu → Prop} (e : M = M1 ++ (a, .dK kvs) :: M2) (hi : i = keyD key) (hl : kvs.length < sizeLine) (h : q (M1 ++ (a, .dK (putD kvs key v)) :: M2)) : PutU (.ref a) i v M q := .inr ⟨a, kvs, M1, M2, key, rfl, hi, e, hl, h⟩
theorem ag_setU {kg : DS → Mu → Prop} (h : AE K to δ M fun o M1 => AE K ti δ M1 fun j M2 => PutU o j d M2 fun M3 => kg δ M3) : AG K (gSub to ti rSetU) d δ M kg := fun v σ G H Q rv rs s f =>
  h σ G H _ rs s fun o M1 vo G1 H1 h1 s1 st1 r1 => h1 σ G1 H1 _ (rs.mono st1.gg) s1 fun j M2 vj G2 H2 h2 s2 st2 r2 => by
    have rv2 := Rep.mono (st1.trans st2).gg _ _ rv
    have rs2 := rs.mono (st1.trans st2).gg
    rcases h2 with ⟨a, ds, N1, N2, jj, n, rfl, rfl, rfl, hn, q⟩ | ⟨a, kvs, N1, N2, key, rfl, rfl, rfl, hl, q⟩
    · obtain ⟨g0, o, ho, r⟩ := s2.mu (a, .lst ds) (by simp)
      obtain ⟨xs, rfl, rx⟩ := r
      obtain ⟨s3, st3⟩ := s2.write (o := .lst (xs.set n v)) (m' := .lst (ds.set n d)) ⟨_, rfl, Reps.set rx rv2⟩
      exact .inl ⟨a, xs, jj, n, rep_ref r1, rep_int r2, ho, by rw [rx.len]; exact hn, f δ _ σ G2 _ q rs2 s3 ((st1.trans st2).trans st3)⟩
    · obtain ⟨g0, o, ho, r⟩ := s2.mu (a, .dK kvs) (by simp)
      obtain ⟨xs, rfl, rx⟩ := r
      obtain ⟨s3, st3⟩ := s2.write (o := .dK (putK xs key v)) (m' := .dK (putD kvs key d)) ⟨_, rfl, repKV_put rv2 rx⟩
      exact .inr ⟨a, _, rep_ref r1, by rw [rep_key r2]; exact DPut.k ho (by rw [repKV_len rx]; exact hl), f δ _ σ G2 _ q rs2 s3 ((st1.trans st2).trans st3)⟩
/-- a dict that may change, asked -/
theorem ae_dget2 (h : AE K td δ M fun o M1 => (∃ a kvs N1 N2, o = .ref a ∧ M1 = N1 ++ (a, MO.dK kvs) :: N2) ∧ AE K te δ M1 fun i M2 => AE K tx δ M2 fun z M3 => ∃ a kvs N1 N2 key, o = .ref a ∧ i = keyD key ∧ M3 = N1 ++ (a, MO.dK kvs) :: N2 ∧ k ((valD kvs key).getD z) M3) : AE K (tDGet2 td te tx) δ M k := fun σ G H Q rs s f =>
  h σ G H _ rs s fun o M1 vo G1 H1 ⟨⟨a, kvs, N1, N2, e1, e2⟩, h1⟩ s1 st1 r1 => by
    subst e1
    refine ⟨a, rep_ref r1, ?_, h1 σ G1 H1 _ (rs.mono st1.gg) s1 fun i M2 vi G2 H2 h2 s2 st2 r2 => h2 σ G2 H2 _ (rs.mono (st1.trans st2).gg) s2 fun z M3 vz G3 H3 h3 s3 st3 r3 => ?_⟩
    · obtain ⟨g0, o, ho, r⟩ := s1.mu (a, .dK kvs) (by rw [e2]; simp)
      obtain ⟨xs, rfl, rx⟩ := r
      exact .inl ⟨xs, .inl ho⟩
    · obtain ⟨a', kvs, N1, N2, key, e3, e4, e5, q⟩ := h3
      cases e3
      subst e4
      obtain ⟨g0, o, ho, r⟩ := s3.mu (a, .dK kvs) (by rw [e5]; simp)
      obtain ⟨xs, rfl, rx⟩ := r
      have st := (st1.trans st2).trans st3
      rw [rep_key r2]
      refine ⟨valV xs key, DGet.k ho, ?_⟩
      obtain ⟨g1, g2⟩ := repKV_get (q := key) rx
      cases hv : valD kvs key with
      | none =>
        rw [hv] at q
        rw [g2 hv]
        exact f z M3 vz G3 H3 q s3 st r3
      | some dv =>
        rw [hv] at q
        obtain ⟨v, e6, r6⟩ := g1 dv hv
        rw [e6]
        exact f dv M3 v G3 H3 q s3 st r6
end
end Tg
namespace Tg
open PySem L2
theorem dcase {p : Prop} [Decidable p] {A B : Prop} (h1 : p → A) (h2 : ¬ p → B) : (decide p = true → A) ∧ (decide p = false → B) := ⟨fun c => h1 (of_decide_eq_true c), fun c => h2 (of_decide_eq_false c)⟩
theorem dcaseN {p : Prop} [Decidable p] {A B : Prop} (h1 : ¬ p → A) (h2 : p → B) : ((!decide p) = true → A) ∧ ((!decide p) = false → B) := ⟨fun c => h1 (by
  intro q
  rw [decide_eq_true q] at c
  cases c), fun c => h2 (by
  by_cases q : p
  · exact q
  · rw [decide_eq_false q] at c
    cases c)⟩
theorem dcaseR {p : Prop} [Decidable p] {A B : Prop} (h1 : ¬ p → A) (h2 : p → B) : (decide p = false → A) ∧ (decide p = true → B) := ⟨fun c => h1 (of_decide_eq_false c), fun c => h2 (of_decide_eq_true c)⟩
theorem bcaseT {A B : Prop} (h : A) : (true = true → A) ∧ (true = false → B) := ⟨fun _ => h, fun c => nomatch c⟩
theorem bcaseF {A B : Prop} (h : B) : (false = true → A) ∧ (false = false → B) := ⟨fun c => (nomatch c), fun _ => h⟩
theorem bcaseTR {A B : Prop} (h : B) : (true = false → A) ∧ (true = true → B) := ⟨fun c => (nomatch c), fun _ => h⟩
theorem bcaseFR {A B : Prop} (h : A) : (false = false → A) ∧ (false = true → B) := ⟨fun _ => h, fun c => nomatch c⟩
theorem cmul_l {i j : Int} (h1 : -(2 ^ 64) < i) (h2 : i < 2 ^ 64) : CMul i j := .inl ⟨h1, h2⟩
theorem cmul_r {i j : Int} (h1 : -(2 ^ 64) < j) (h2 : j < 2 ^ 64) : CMul i j := .inr ⟨h1, h2⟩
theorem at_yes {K : PySem.W.Frag} {δ : DS} {M : Mu} {kb : Bool → Mu → Prop} (q : kb true M) : AT K tYes δ M kb := fun σ G H Q rs s f => f true M G H q s Step.refl
end Tg
namespace Tg
open PySem L2
section
variable {K : PySem.W.Frag} {M : Mu} {k : D → Mu → Prop} {a : Addr} {ds es : List D} {M2 : Mu} {x y : Addr × MO} {j : Int} {n : Nat} {v d i : D} {q : Mu → Prop} {kvs : List (Key × D)} {key : Key}
theorem put_l0 (hn : ixN ds.length j = some n) (h : q ((a, .lst (ds.set n v)) :: M2)) : PutU (.ref a) (.int j) v ((a, .lst ds) :: M2) q := put_l (M1 := []) rfl hn h
theorem put_l1 (hn : ixN ds.length j = some n) (h : q (x :: (a, .lst (ds.set n v)) :: M2)) : PutU (.ref a) (.int j) v (x :: (a, .lst ds) :: M2) q := put_l (M1 := [x]) rfl hn h
theorem put_d0 (hi : i = keyD key) (hl : kvs.length < sizeLine) (h : q ((a, .dK (putD kvs key v)) :: M2)) : PutU (.ref a) i v ((a, .dK kvs) :: M2) q := put_d (M1 := []) rfl hi hl h
theorem put_d1 (hi : i = keyD key) (hl : kvs.length < sizeLine) (h : q (x :: (a, .dK (putD kvs key v)) :: M2)) : PutU (.ref a) i v (x :: (a, .dK kvs) :: M2) q := put_d (M1 := [x]) rfl hi hl h
theorem aix0 (h : atI ds j = some d) (q : k d ((a, .lst ds) :: M2)) : AR K (rIx K) (.ref a) (.int j) ((a, .lst ds) :: M2) k := aix_M (M1 := []) rfl h q
theorem aix1 (h : atI ds j = some d) (q : k d (x :: (a, .lst ds) :: M2)) : AR K (rIx K) (.ref a) (.int j) (x :: (a, .lst ds) :: M2) k := aix_M (M1 := [x]) rfl h q
theorem app0 (hz : ds.length < sizeLine) (q : k .non ((a, .lst (ds ++ [d])) :: M2)) : AM K rAppend (.ref a) [d] ((a, .lst ds) :: M2) k := am_append (M1 := []) rfl hz q
theorem app1 (hz : ds.length < sizeLine) (q : k .non (x :: (a, .lst (ds ++ [d])) :: M2)) : AM K rAppend (.ref a) [d] (x :: (a, .lst ds) :: M2) k := am_append (M1 := [x]) rfl hz q
theorem app2 (hz : ds.length < sizeLine) (q : k .non (x :: y :: (a, .lst (ds ++ [d])) :: M2)) : AM K rAppend (.ref a) [d] (x :: y :: (a, .lst ds) :: M2) k := am_append (M1 := [x, y]) rfl hz q
theorem ext0 (hz : ds.length + es.length ≤ sizeLine) (q : k .non ((a, .lst (ds ++ es)) :: M2)) : AM K rExtend (.ref a) [.lst es] ((a, .lst ds) :: M2) k := am_extend (M1 := []) rfl hz q
theorem lst0 : LstM (.ref a) ((a, MO.lst ds) :: M2) := lstM_ref (N1 := []) rfl
theorem lst1 : LstM (.ref a) (x :: (a, MO.lst ds) :: M2) := lstM_ref (N1 := [x]) rfl
theorem lst2 : LstM (.ref a) (x :: y :: (a, MO.lst ds) :: M2) := lstM_ref (N1 := [x, y]) rfl
theorem lenM0 (q : k (.int (ds.length : Int)) ((a, .lst ds) :: M2)) : AC K (rLenU K) [.ref a] ((a, .lst ds) :: M2) k := ac_lenM (M1 := []) rfl q
theorem lenM1 (q : k (.int (ds.length : Int)) (x :: (a, .lst ds) :: M2)) : AC K (rLenU K) [.ref a] (x :: (a, .lst ds) :: M2) k := ac_lenM (M1 := [x]) rfl q
theorem tupM0 (q : k (.tup ds) ((a, .lst ds) :: M2)) : AC K (rTupU K) [.ref a] ((a, .lst ds) :: M2) k := ac_tupM (M1 := []) rfl q
theorem tupM1 (q : k (.tup ds) (x :: (a, .lst ds) :: M2)) : AC K (rTupU K) [.ref a] (x :: (a, .lst ds) :: M2) k := ac_tupM (M1 := [x]) rfl q
variable {δ : DS} {t : TS} {A : AEnds} {s : Nat}
theorem frz0 (hi : δ[s]? = some (some (.ref a))) (h : AS K t (δ.set s (some (.lst ds))) M2 A) : AS K t δ ((a, .lst ds) :: M2) A := as_freeze (M1 := []) hi rfl h
theorem frz1 (hi : δ[s]? = some (some (.ref a))) (h : AS K t (δ.set s (some (.lst ds))) (x :: M2) A) : AS K t δ (x :: (a, .lst ds) :: M2) A := as_freeze (M1 := [x]) hi rfl h
theorem frz2 (hi : δ[s]? = some (some (.ref a))) (h : AS K t (δ.set s (some (.lst ds))) (x :: y :: M2) A) : AS K t δ (x :: y :: (a, .lst ds) :: M2) A := as_freeze (M1 := [x, y]) hi rfl h
end
end Tg
namespace Tg
open PySem L2
theorem as_cut {K : PySem.W.Frag} {δ : DS} {M : Mu} {A : AEnds} {t u : TS} (J : DS → Mu → Prop) (h1 : AS K t δ M { A with nx := J }) (h2 : ∀ δ' M', J δ' M' → AS K u δ' M' A) : AS K (tSeq t u) δ M A :=
  as_seq (h1.mono (fun δ M q => h2 δ M q) (fun _ _ q => q) (fun _ _ q => q) (fun _ _ q => q) (fun _ _ q => q) (fun _ _ q => q))
end Tg
namespace Tg
open PySem L2
theorem len_ok {ds : List D} (n : Nat) (h : ds.length = n) (hn : n ≤ 1000 := by decide) : ds.length ≤ sizeLine := by
  rw [h]
  exact Nat.le_trans hn (by decide)
end Tg
set_option Elab.async false
set_option linter.all false
set_option maxRecDepth 100000
set_option maxHeartbeats 1000000
namespace Tg
open PySem L2 PyProof.Rows
/-! ### methods of texts -/
section
variable {X : Cx} {e : Expr}
abbrev rCount : V → List V → Hp → VK → Prop := fun x xs H Q => ∃ a b, x = .str a ∧ xs = [.str b] ∧ Q (.int (Txt.count a b)) H
abbrev rRfind4 : V → List V → Hp → VK → Prop := fun x xs H Q => ∃ (a b : Str) (i j : Int), x = .str a ∧ xs = [.str b, .int i, .int j] ∧ Q (.int (Txt.rfindIn a b i j)) H
theorem rf_K {K : PySem.W.Frag} {o : Expr} {es : List Expr} {to : TE} {t : TA} {apos cpos : Pos} (h0 : PE X (.Call (.Attribute o "rfind" apos) (e :: es) [] cpos) (tBM X.K "str" rRfind4 to t)) (h : X.K = K := by rfl) : PE X (.Call (.Attribute o "rfind" apos) (e :: es) [] cpos) (tBM K "str" rRfind4 to t) := h ▸ h0
end
section
variable {K : PySem.W.Frag} {δ : DS} {M : Mu} {to : TE} {k : D → Mu → Prop}
theorem ae_sm {r : V → List V → Hp → VK → Prop} {ts : TA} (h : AE K to δ M fun x M1 => (∃ z, x = D.str z) ∧ AA K ts δ M1 fun xs M2 => AM K r x xs M2 k) : AE K (tBM K "str" r to ts) δ M k := fun σ G H Q rs s f =>
  h σ G H _ rs s fun x M1 v G1 H1 ⟨⟨z, e⟩, h1⟩ s1 st1 r1 => by
    subst e
    refine ⟨by rw [rep_str r1]; exact rfl, h1 σ G1 H1 _ (rs.mono st1.gg) s1 fun xs M2 vs G2 H2 h2 s2 st2 r2 => h2 v vs G2 H2 Q (Rep.mono st2.gg _ _ r1) r2 s2 fun d M3 v3 G3 H3 q s3 st3 r3 => f d M3 v3 G3 H3 q s3 ((st1.trans st2).trans st3) r3⟩
/-- how often a code stands in a list -/
def nls (l : List Nat) : Nat := (l.filter fun c => decide (c = 10)).length
def col : List Nat → Nat → Nat
  | [], n => n
  | c :: r, n => col r (if c = 10 then 1 else n + 1)
theorem col_snoc (c : Nat) : ∀ (l : List Nat) (n : Nat), col (l ++ [c]) n = if c = 10 then 1 else col l n + 1
  | [], n => rfl
  | d :: l, n => col_snoc c l _
theorem nls_snoc (l : List Nat) (c : Nat) : nls (l ++ [c]) = if c = 10 then nls l + 1 else nls l := by
  unfold nls
  rw [List.filter_append, List.length_append]
  by_cases h : c = 10
  · subst h
    simp
  · simp [h]
theorem nls_cnt : ∀ l : List Nat, cnt 10 l = (nls l : Int)
  | [] => rfl
  | c :: r => by
    rw [cnt_cons, nls_cnt r]
    unfold nls
    by_cases h : c = 10
    · subst h
      simp
      omega
    · simp [h]
theorem am_nls {l : List Nat} (q : k (.int (nls l)) M) : AM K rCount (.str (tx l)) [.str (Str.ofString "\n")] M k := fun vx vs G H Q rx rxs s f => by
  obtain ⟨v, r, rfl, r1, rr⟩ := rxs.uncons
  unfold Reps at rr
  subst rr
  refine ⟨tx l, Str.ofString "\n", rep_str rx, by rw [rep_str r1], ?_⟩
  have e : Txt.count (tx l) (Str.ofString "\n") = (nls l : Int) := by
    rw [show Str.ofString "\n" = (⟨#[10]⟩ : Str) from by decide +kernel, count_cnt, tx_cps, nls_cnt]
  rw [e]
  exact f _ M _ G H q s Step.refl rep_of_int
/-- the column behind the signs of l -/
theorem rfind_col (l : List Nat) (j : Nat) (hj : j ≤ l.length) : (j : Int) - Txt.rfindIn (tx l) (Str.ofString "\n") 0 j = (col (l.take j) 1 : Nat) := by
  have e1 : Str.ofString "\n" = (⟨#[10]⟩ : Str) := by decide +kernel
  rw [e1]
  unfold Txt.rfindIn
  have e2 : fromIndex (tx l).length 0 = 0 := by
    unfold fromIndex
    simp
  have e3 : toIndexW (tx l).length (j : Int) = j := by
    unfold toIndexW
    rw [tx_len, if_neg (by omega)]
    omega
  rw [e2, e3, StrLaws.last_eq]
  have key := StrLaws.last_run (tx l) ⟨#[10]⟩ j (List.range' 0 (j + 1 - 0)) [] none (fun _ h => nomatch h) (fun _ h => nomatch h) (by simpa using List.pairwise_lt_range' (s := 0) (n := j + 1 - 0))
  rw [List.nil_append] at key
  have at_iff : ∀ i, StrLaws.At (tx l) ⟨#[10]⟩ j i ↔ i < j ∧ l[i]? = some 10 := fun i => by
    have h0 := StrLaws.subAt_one (tx l) 10 i
    rw [tx_cps] at h0
    have h1 : (⟨#[10]⟩ : Str).length = 1 := rfl
    unfold StrLaws.At
    constructor
    · rintro ⟨h2, h3⟩
      rw [h1] at h2
      exact ⟨by omega, h0.mp ⟨by rw [h1, tx_len]; omega, h3⟩⟩
    · rintro ⟨h2, h3⟩
      exact ⟨by rw [h1]; omega, (h0.mpr h3).2⟩
  -- the column by the last line feed
  have main : ∀ j, j ≤ l.length → (∀ a, a < j → l[a]? = some 10 → (∀ i, a < i → i < j → l[i]? ≠ some 10) → (col (l.take j) 1 : Int) = j - a) ∧ ((∀ i, i < j → l[i]? ≠ some 10) → (col (l.take j) 1 : Int) = j + 1) := by
    intro j
    induction j with
    | zero =>
      intro _
      exact ⟨fun a h => absurd h (by omega), fun _ => by simp [col]⟩
    | succ j ih =>
      intro hj
      obtain ⟨i1, i2⟩ := ih (by omega)
      have hl : j < l.length := by omega
      have e : l.take (j + 1) = l.take j ++ [l[j]] := by
        rw [List.take_add_one, List.getElem?_eq_getElem hl]
        rfl
      rw [e, col_snoc]
      by_cases h : l[j] = 10
      · rw [if_pos h]
        have hs : l[j]? = some 10 := by rw [List.getElem?_eq_getElem hl, h]
        refine ⟨fun a ha h1 h2 => ?_, fun h2 => absurd hs (h2 j (by omega))⟩
        by_cases hc : a = j
        · subst hc
          omega
        · exact absurd hs (h2 j (by omega) (by omega))
      · rw [if_neg h]
        have hs : l[j]? ≠ some 10 := by
          rw [List.getElem?_eq_getElem hl]
          exact fun z => h (Option.some.inj z)
        refine ⟨fun a ha h1 h2 => ?_, fun h2 => ?_⟩
        · have hc : a ≠ j := fun z => hs (by rw [← z]; exact h1)
          have := i1 a (by omega) h1 fun i hi hi2 => h2 i hi (by omega)
          omega
        · have := i2 fun i hi => h2 i (by omega)
          omega
  obtain ⟨m1, m2⟩ := main j hj
  have mem : ∀ i, i < j → i ∈ List.range' 0 (j + 1 - 0) := fun i hi => by simp [List.mem_range']; omega
  cases hr : (forIn (List.range' 0 (j + 1 - 0)) none (StrLaws.lastBody (tx l) ⟨#[10]⟩ j)).run with
  | none =>
    rw [hr] at key
    have := m2 fun i hi hs => key i (mem i hi) ((at_iff i).mpr ⟨hi, hs⟩)
    show (j : Int) - (-1) = _
    omega
  | some a =>
    rw [hr] at key
    obtain ⟨k1, k2⟩ := key
    obtain ⟨h1, h2⟩ := (at_iff a).mp k1
    have := m1 a h1 h2 fun i hi hi2 hs => k2 i (mem i hi2) hi ((at_iff i).mpr ⟨hi2, hs⟩)
    show (j : Int) - (a : Int) = _
    omega
theorem am_rfind {l : List Nat} {j : Nat} {i1 : Int} {b : Str} (hi : i1 = 0) (hb : b = Str.ofString "\n") (q : k (.int (Txt.rfindIn (tx l) (Str.ofString "\n") 0 j)) M) : AM K rRfind4 (.str (tx l)) [.str b, .int i1, .int j] M k := fun vx vs G H Q rx rxs s f => by
  subst hi hb
  obtain ⟨v, r, rfl, r1, rr⟩ := rxs.uncons
  obtain ⟨v2, r, rfl, r2, rr⟩ := rr.uncons
  obtain ⟨v3, r, rfl, r3, rr⟩ := rr.uncons
  unfold Reps at rr
  subst rr
  exact ⟨tx l, _, 0, j, rep_str rx, by rw [rep_str r1, rep_int r2, rep_int r3], f _ M _ G H q s Step.refl rep_of_int⟩
theorem tru_ok_bl {b : Bool} : TruOk (.bl b) := True.intro
theorem tru_ok_int {i : Int} : TruOk (.int i) := True.intro
theorem tru_ok_lst {ds : List D} : TruOk (.lst ds) := True.intro
theorem caseT {b : Bool} {A B : Prop} (h : b = true) (q : A) : (b = true → A) ∧ (b = false → B) := ⟨fun _ => q, fun c => nomatch h.symm.trans c⟩
theorem caseF {b : Bool} {A B : Prop} (h : b = false) (q : B) : (b = true → A) ∧ (b = false → B) := ⟨fun c => (nomatch h.symm.trans c), fun _ => q⟩
theorem caseTR {b : Bool} {A B : Prop} (h : b = true) (q : B) : (b = false → A) ∧ (b = true → B) := ⟨fun c => (nomatch h.symm.trans c), fun _ => q⟩
theorem caseFR {b : Bool} {A B : Prop} (h : b = false) (q : A) : (b = false → A) ∧ (b = true → B) := ⟨fun _ => q, fun c => nomatch h.symm.trans c⟩
theorem ac_isiT {x : D} {n c : String} (h : typeD x = some n) (hk : PySem.W.kitOne K (.type n) (.type c) = some true) (q : k (.bl true) M) : AC K (rIsi K) [x, .ty c] M k := ac_isi h hk q
theorem ac_isiF {x : D} {n c : String} (h : typeD x = some n) (hk : PySem.W.kitOne K (.type n) (.type c) = some false) (q : k (.bl false) M) : AC K (rIsi K) [x, .ty c] M k := ac_isi h hk q
/-! ### dicts, asked -/
theorem val_put {κ : Type} [DecidableEq κ] {kvs : List (κ × D)} {q q' : κ} {v : D} : valD (putD kvs q v) q' = if q = q' then some v else valD kvs q' := by
  unfold putD
  by_cases h : (kvs.any fun kv => decide (kv.1 = q)) = true
  · rw [if_pos h]
    induction kvs with
    | nil => simp at h
    | cons kv r ih =>
      obtain ⟨p, d⟩ := kv
      rw [List.map_cons]
      by_cases hp : p = q
      · subst hp
        rw [if_pos rfl]
        by_cases hq : p = q'
        · subst hq
          simp [valD]
        · rw [if_neg hq]
          have e : ∀ r : List (κ × D), valD (r.map fun kv => if kv.1 = p then (kv.1, v) else kv) q' = valD r q' := by
            intro r
            induction r with
            | nil => rfl
            | cons kv r ih =>
              obtain ⟨p2, d2⟩ := kv
              rw [List.map_cons]
              by_cases h2 : p2 = p
              · subst h2
                rw [if_pos rfl]
                have a : valD ((p2, v) :: r.map fun kv => if kv.1 = p2 then (kv.1, v) else kv) q' = valD (r.map fun kv => if kv.1 = p2 then (kv.1, v) else kv) q' := by simp [valD, hq]
                have b : valD ((p2, d2) :: r) q' = valD r q' := by simp [valD, hq]
                rw [a, b, ih]
              · rw [if_neg h2]
                by_cases h3 : p2 = q'
                · simp [valD, h3]
                · have a : valD ((p2, d2) :: r.map fun kv => if kv.1 = p then (kv.1, v) else kv) q' = valD (r.map fun kv => if kv.1 = p then (kv.1, v) else kv) q' := by simp [valD, h3]
                  have b : valD ((p2, d2) :: r) q' = valD r q' := by simp [valD, h3]
                  rw [a, b, ih]
          have a : valD ((p, v) :: r.map fun kv => if kv.1 = p then (kv.1, v) else kv) q' = valD (r.map fun kv => if kv.1 = p then (kv.1, v) else kv) q' := by simp [valD, hq]
          have b : valD ((p, d) :: r) q' = valD r q' := by simp [valD, hq]
          rw [a, b, e]
      · rw [if_neg hp]
        have h' : (r.any fun kv => decide (kv.1 = q)) = true := by simpa [hp] using h
        by_cases hq : p = q'
        · subst hq
          rw [if_neg (Ne.symm hp)]
          simp [valD]
        · have a : valD ((p, d) :: r.map fun kv => if kv.1 = q then (kv.1, v) else kv) q' = valD (r.map fun kv => if kv.1 = q then (kv.1, v) else kv) q' := by simp [valD, hq]
          have b : valD ((p, d) :: r) q' = valD r q' := by simp [valD, hq]
          rw [a, b, ih h']
  · rw [if_neg h]
    induction kvs with
    | nil =>
      by_cases hq : q = q'
      · simp [valD, hq]
      · simp [valD, hq]
    | cons kv r ih =>
      obtain ⟨p, d⟩ := kv
      have hp : p ≠ q := fun z => h (by simp [z])
      have h' : ¬ (r.any fun kv => decide (kv.1 = q)) = true := fun z => h (by rw [List.any_cons, z, Bool.or_true])
      by_cases hq : p = q'
      · subst hq
        rw [if_neg (Ne.symm hp)]
        simp [valD]
      · have a : valD ((p, d) :: r ++ [(q, v)]) q' = valD (r ++ [(q, v)]) q' := by simp [valD, hq]
        have b : valD ((p, d) :: r) q' = valD r q' := by simp [valD, hq]
        rw [a, b, ih h']
theorem put_len {κ : Type} [DecidableEq κ] {kvs : List (κ × D)} {q : κ} {v : D} : (putD kvs q v).length ≤ kvs.length + 1 := by
  unfold putD
  split
  · rw [List.length_map]
    omega
  · rw [List.length_append]
    exact Nat.le_refl _
end
end Tg
set_option Elab.async false
set_option linter.all false
set_option maxRecDepth 100000
set_option maxHeartbeats 1000000
namespace Tg
open PySem L2 PyProof.Rows
/-! ### numbers ahead of what a tuple holds -/
/-- the tuple at a, turn by turn, its items behind their numbers in pairs that are new -/
def Iet (K : PySem.W.Frag) (a : Addr) : It where
  go := fun i H => ∃ ys y, SqT K H a ys ∧ ys[i]? = some y
  yld := fun i H v H' => ∃ p y, v = .ref p ∧ H p = none ∧ H' = upd H p (.tup [.int (i : Nat), y]) ∧ ∀ ys, SqT K H a ys → ys[i]? = some y
  stop := fun i H => ∃ ys, SqT K H a ys ∧ ys.length ≤ i
/-- how the two cells of the walk stand ahead of turn i -/
def EtAt (a en it : Addr) (i : Nat) (h : Heap) : Prop := (∃ old, IsEnum h en it (i : Int) old) ∧ h.IsTupleIter it a i ∧ en ≠ it
theorem turn_enumT {P : Program} {w : World} {K : PySem.W.Frag} {es : List Expr} {n : Nat} {tp : Pos} (a en it : Addr) : Turn P w K (.Tuple es n tp) (Iet K a) [en, it] en (EtAt a en it) where
  mem := List.mem_cons_self ..
  obj := by
    rintro i h ⟨⟨old, he⟩, ⟨o, ho, hc, hd⟩, _⟩ b hb
    rcases List.mem_cons.mp hb with rfl | hb
    · exact ⟨_, he, fun _ q => nomatch q⟩
    · cases List.mem_singleton.mp hb
      refine ⟨o, ho, fun v q => ?_⟩
      rw [hd] at q
      cases q
  keep := by
    rintro i h h' ⟨⟨old, he⟩, hi, ne⟩ k
    exact ⟨⟨old, k en (List.mem_cons_self ..) _ he⟩, hi.at fun o q => k it (by simp) o q, ne⟩
  item := by
    rintro X rfl rfl rfl calm i pins s σ H E I hf ⟨⟨old, he⟩, hit, ne⟩ ⟨ys, y, hq, hy⟩
    obtain ⟨its, rv, tp', hz⟩ := I.tuple hq
    obtain ⟨u, hu, ru⟩ := rv.get hy
    have ta : s.heap.IsTuple a its.toArray := tp'
    have lt : i < its.toArray.size := by
      have := (List.getElem?_eq_some_iff.mp hu).1
      simpa using this
    have ea : a ≠ en := by
      rintro rfl
      obtain ⟨o, ho, hc, _⟩ := ta
      rw [he] at ho
      cases ho
      exact absurd (Value.type.inj hc) (by decide)
    have ia : a ≠ it := by
      rintro rfl
      obtain ⟨o, ho, hc, _⟩ := ta
      obtain ⟨o2, ho2, hc2, _⟩ := hit
      rw [ho] at ho2
      cases ho2
      rw [hc] at hc2
      exact absurd (Value.type.inj hc2) (by decide)
    have sen : en < s.heap.objs.size := Heap.lt_size he
    have sit : it < s.heap.objs.size := by
      obtain ⟨_, q, _⟩ := hit
      exact Heap.lt_size q
    have nofp : en ∉ [it, a] := fun z => by
      rcases List.mem_cons.mp z with z | z
      · exact ne z
      · exact ea (List.mem_singleton.mp z).symm
    refine wpAny_pyNext_enum_itemD (Draws.tuple (A := X.A.in1) (I.ok.hd calm) it a ia its.toArray) he ⟨hit, ta⟩ lt ne nofp fun v h1 tk hv out st1 hT hs1 hk => ?_
    have ev : v = u := by
      have h2 : its[i]? = some v := by simpa using hv
      rw [hu] at h2
      exact (Option.some.inj h2).symm
    subst ev
    refine ⟨_, rfl, wpAny_letOwnedTupleGo_enum (s := { s with heap := h1, toks := tk + 1 }) out fun h2 he2 sb => ?_⟩
    have hT2 : h2.get? s.heap.objs.size = some { cls := .type "tuple", data := .seq #[.int i tk, v] } := by
      rw [sb.2 _ (Nat.ne_of_gt sen)]
      exact hT
    have fresh : ObjOk X.prog X.w (upd H s.heap.objs.size (.tup [.int (i : Nat), y])) h2 s.heap.objs.size (.tup [.int (i : Nat), y]) := by
      refine ⟨by show 2 ≤ sizeLine; decide, [.int i tk, v], ?_, _, hT2, rfl, _, rfl⟩
      exact .cons ⟨_, rfl⟩ (.cons ru .nil)
    have kept : ∀ b ob, b ∉ [en, it] → s.heap.get? b = some ob → h2.get? b = some ob := fun b ob hb q => by
      rw [sb.2 b fun z => hb (by simp [z])]
      exact hk b ob (fun z => hb (by simp [z])) (fun z => hb (by simp [z])) q
    have I2 : Inv X pins σ (upd H s.heap.objs.size (.tup [.int (i : Nat), y])) { s with heap := h2, toks := tk + 1 } := I.turnedNew (ch := [en, it]) kept hf (Nat.le_refl _) fresh
    refine ⟨.ref s.heap.objs.size, _, I2, rfl, ⟨_, y, rfl, I.hok.fresh (Nat.le_refl _), rfl, fun zs hz => ?_⟩, ⟨⟨v, ?_⟩, ?_, ne⟩, fun b hb => ?_⟩
    · rw [I.tuple_inj hz hq]
      exact hy
    · rw [show ((i + 1 : Nat) : Int) = (i : Int) + 1 by omega]
      exact he2
    · exact st1.1.at fun o q => (sb.2 it (Ne.symm ne)).trans q
    · have lb : b < s.heap.objs.size := by
        rcases List.mem_cons.mp hb with rfl | hb
        · exact sen
        · cases List.mem_singleton.mp hb
          exact sit
      rw [upd_ne (Nat.ne_of_lt lb)]
      exact (hf b hb).1
  done := by
    rintro X rfl rfl rfl calm i pins s σ H E I hf ⟨⟨old, he⟩, hit, ne⟩ ⟨ys, hq, hy⟩
    obtain ⟨its, rv, tp', hz⟩ := I.tuple hq
    have ta : s.heap.IsTuple a its.toArray := tp'
    obtain ⟨f0, f1, f2, f3, f4, f5⟩ := hf it (by simp)
    have hn : its.toArray[i]? = none := by
      have := rv.length
      simp
      omega
    have hT : s.TypeIs (.ref en) "enumerate" := ⟨_, he, rfl⟩
    unfold pyNext
    refine wpAny_bind (wpAny_attempt (wpAny_callSpecial?_slot (name := Str.ofString "__next__") hT F.slot_enumerate_next (wpAny_call_entry F.slot_enumerate_next hT F.entry_enumerate_next ?_ (F.args_enumerate_next_1 _))))
    show wpAny _ _ (field (.ref en) 2 >>= _) _ _ _
    refine wpAny_bind (wpAny_field he rfl (x := .ref it) rfl (wpAny_bind (wpAny_nextOf_tuple_end (I.ok.hd calm) hit ta hn fun h' x he' hx' => ?_)))
    obtain ⟨o, ho, hc⟩ := hx'
    refine wpAny_bind (wpAny_isInstance (T := "StopIteration") (b := true) ⟨o, ho, hc⟩ isSubtype_stop (wpAny_pure ⟨rfl, ?_⟩))
    exact I.turned (t' := s.toks) (fun b o hb q => he' b o hb q) f0 f1 f3 f4 f5
  self := by
    rintro A i s Q E ⟨⟨_, he⟩, _⟩ h
    exact wpAny_pyIter_enum he h
set_option maxHeartbeats 2000000 in
/-- what enumerate(v) makes -/
theorem new_enum {v : Value} {o : Obj} {H0 : Heap → Prop} (B : Begins v o H0) : Meets (Builtin.«enumerate.__new__» ⟨[.type "enumerate", v], []⟩) (fun _ R s => H0 s.heap ∧
    R (.ok (.ret (.ref (s.heap.push o).objs.size))) { s with heap := (s.heap.push o).push { cls := .type "enumerate", data := .fields #[.none, .bool false, .ref s.heap.objs.size, rawInt 0, .none, .none] } }) :=
  .of_wp fun prog w A R s hh => by
    obtain ⟨hp, g, d, tk, os⟩ := s
    obtain ⟨hH, hR⟩ := hh
    have hsub := sub_enumerate
    have begun : ∀ {A' : Around} {E Q : Value → Shared → Prop}, Q (.ref hp.objs.size) ⟨hp.push o, g, d, tk, os⟩ → wpAny (model prog w) A' (pyIter v) Q E ⟨hp, g, d, tk, os⟩ := fun q => B.iter _ _ _ _ ⟨hp, g, d, tk, os⟩ _ hH q
    wp_walk using begun
    refine wpAny_stack_any fun st => wpAny_pure ?_
    split
    · rename_i c _ _ _ _ _
      rcases c == Value.type "enumerate" with _ | _ <;> (wp_walk using begun; exact ⟨_, rfl, hR⟩)
    · wp_walk using begun
      exact ⟨_, rfl, hR⟩
theorem call_enumT {prog : Program} {w : World} {A : Around} {E : Value → Shared → Prop} {s : Shared} {a : Addr} {its : Array Value} {Q : Value → Shared → Prop} (ta : s.heap.IsTuple a its)
    (q : ∀ h', IsEnum h' (s.heap.objs.size + 1) s.heap.objs.size 0 .none → h'.IsTupleIter s.heap.objs.size a 0 → (∀ b o, s.heap.get? b = some o → h'.get? b = some o) → Q (.ref (s.heap.objs.size + 1)) { s with heap := h' }) :
    wpAny (model prog w) A (call (.type "enumerate") [.ref a]) Q E s := by
  refine callType_new F.called_enumerate (by decide) (F.typeCall_enumerate_1 _) (F.newCall_enumerate_1 _) (fun obj => F.args_object_init_2 obj _) F.entry_enumerate_new (new_enum (begins_tuple a its)) ⟨ta, ?_⟩
  show _ ∧ _
  have sz : (s.heap.push { cls := .type "tuple_iterator", data := .fields #[.ref a, .int 0 0] }).objs.size = s.heap.objs.size + 1 := Heap.size_push ..
  rw [sz]
  have he : IsEnum ((s.heap.push { cls := .type "tuple_iterator", data := .fields #[.ref a, .int 0 0] }).push { cls := .type "enumerate", data := .fields #[.none, .bool false, .ref s.heap.objs.size, rawInt 0, .none, .none] }) (s.heap.objs.size + 1) s.heap.objs.size 0 .none := by
    have h0 := Heap.get?_push_size (s.heap.push { cls := .type "tuple_iterator", data := .fields #[.ref a, .int 0 0] }) (o := { cls := .type "enumerate", data := .fields #[.none, .bool false, .ref s.heap.objs.size, rawInt 0, .none, .none] }) rfl
    rw [sz] at h0
    exact h0
  exact ⟨⟨_, he, rfl⟩, q _ he ⟨_, Heap.get?_push_of_some _ (Heap.get?_push_size _ rfl), rfl, rfl⟩ fun b o x => Heap.get?_push_of_some _ (Heap.get?_push_of_some _ x)⟩
/-- enumerate of a list or of a tuple -/
def iEnS (K : PySem.W.Frag) (ta : TA) : TI := fun σ H R => ta σ H fun vs H1 => ∃ a xs, vs = [.ref a] ∧ ((SqL K H1 a xs ∧ R (Ite K a) H1) ∨ (SqT K H1 a xs ∧ R (Iet K a) H1))
theorem pi_enS {X : Cx} {e : Expr} {ta : TA} {p pos tp : Pos} {es : List Expr} {n : Nat} (hg : Gl X "enumerate") (hm : X.mg "enumerate" = none) (ha : PA X [e] ta) (hs : starEach [e] X.env = [(false, eval e X.env)] := by rfl) : PI X (.Tuple es n tp) (.Call (.Name "enumerate" p) [e] [] pos) (iEnS X.K ta) := by
  refine ⟨fun pins s σ H R I h => ?_⟩
  refine Call_ (ld_blt I hg hm boot_enumerate (PyProof.Rows.callWith_type1 (thn (ha.run pos pins s σ H _ I h) fun us s1 ⟨vs, H1, I1, r1, a, xs, ex, alt⟩ => ?_) hs rfl))
  subst ex
  obtain ⟨u, rfl, ru⟩ : ∃ u, us = [u] ∧ RelV (.ref a) u := by
    cases r1 with
    | cons r rr =>
      cases rr
      exact ⟨_, rfl, r⟩
  cases ru
  have fp : ∀ b ∈ [s1.heap.objs.size + 1, s1.heap.objs.size], FpOk X pins H1 b := fun b hb => by
    have le : s1.heap.objs.size ≤ b := by
      rcases List.mem_cons.mp hb with rfl | hb
      · exact Nat.le_succ _
      · exact Nat.le_of_eq (List.mem_singleton.mp hb).symm
    exact I1.fpOk le (I1.hok.fresh le)
  rcases alt with ⟨hq, q⟩ | ⟨hq, q⟩
  · obtain ⟨its, rv, p', _⟩ := I1.list hq
    exact call_enumerate_list p'.isList fun h' he hit _ hk => wpAny_pyIter_enum he ⟨_, _, _, _, H1, rfl, I1.kept (t' := s1.toks) hk, turn_enum a (s1.heap.objs.size + 1) s1.heap.objs.size, ⟨⟨.none, he⟩, hit, Nat.succ_ne_self _⟩, fp, q⟩
  · obtain ⟨its, rv, p', _⟩ := I1.tuple hq
    exact call_enumT (show s1.heap.IsTuple a its.toArray from p') fun h' he hit hk => wpAny_pyIter_enum he ⟨_, _, _, _, H1, rfl, I1.kept (t' := s1.toks) hk, turn_enumT a (s1.heap.objs.size + 1) s1.heap.objs.size, ⟨⟨.none, he⟩, hit, Nat.succ_ne_self _⟩, fp, q⟩
section
variable {K : PySem.W.Frag} {G : Hp} {δ : DS} {M : Mu} {ki : List D → Mu → Prop}
theorem itOk_enumT {a : Addr} {xs : List V} {ds : List D} (h : SqT K G a xs) (r : Reps K G ds xs) : ItOk K (Iet K a) G (enumD ds) := fun i G1 H1 M e s => by
  have hq : SqT K H1 a xs := Same.seqT s.same (Same.seqT e h)
  refine ⟨fun d hd => ?_, fun hi => ⟨xs, hq, by rw [r.len, hi]; simp [enumD]⟩⟩
  unfold enumD at hd
  rw [List.getElem?_map, List.getElem?_zipIdx] at hd
  cases hc : ds[i]? with
  | none => rw [hc] at hd; cases hd
  | some c =>
    rw [hc] at hd
    have e1 : D.tup [.int ((0 + i : Nat) : Int), c] = d := by simpa using hd
    rw [Nat.zero_add] at e1
    subst e1
    obtain ⟨x, hx, rx⟩ := r.get hc
    refine ⟨⟨xs, x, hq, hx⟩, fun y H' hy => ?_⟩
    obtain ⟨T, x', rfl, nT, rfl, hy⟩ := hy
    have e2 : x = x' := Option.some.inj (hx.symm.trans (hy xs hq))
    subst e2
    obtain ⟨s2, st2, e3⟩ := s.frozen (o := .tup [.int (i : Nat), x]) nT
    exact ⟨_, s2, st2, rep_mk_tup (.inl (.inl upd_same)) (Reps.cons rep_of_int (Reps.one (Rep.mono (e.trans e3) _ _ rx)))⟩
def seqD : D → Option (List D)
  | .lst ds => some ds
  | .tup ds => some ds
  | _ => none
theorem ai_enum {ts : TA} (h : AA K ts δ M fun ds M1 => ∃ d es, ds = [d] ∧ seqD d = some es ∧ ki (enumD es) M1) : AI K (iEnS K ts) δ M ki := fun σ G H R rs s f =>
  h σ G H _ rs s fun ds M1 vs G1 H1 ⟨d, es, e, he, h1⟩ s1 st1 r1 => by
    subst e
    obtain ⟨x, r, rfl, rx, rr⟩ := r1.uncons
    unfold Reps at rr
    subst rr
    cases d <;> simp only [seqD, Option.some.injEq, reduceCtorEq] at he
    · subst he
      obtain ⟨a, xs, rfl, ha, rs2⟩ := rep_tup rx
      exact ⟨a, xs, rfl, .inr ⟨Same.seqT s1.same ha, f _ M1 G1 H1 _ h1 s1 st1 (itOk_enumT ha rs2)⟩⟩
    · subst he
      obtain ⟨a, xs, rfl, ha, rs2⟩ := rep_lst rx
      exact ⟨a, xs, rfl, .inl ⟨.inl (.inl (s1.same _ _ ha)), f _ M1 G1 H1 _ h1 s1 st1 (itOk_enum (.inl (.inl ha)) rs2)⟩⟩
theorem enumD_get {ds : List D} {i : Nat} {d : D} (h : (enumD ds)[i]? = some d) : ∃ c, ds[i]? = some c ∧ d = .tup [.int (i : Nat), c] := by
  unfold enumD at h
  rw [List.getElem?_map, List.getElem?_zipIdx] at h
  cases hc : ds[i]? with
  | none => rw [hc] at h; cases h
  | some c =>
    rw [hc] at h
    have e1 : D.tup [.int ((0 + i : Nat) : Int), c] = d := by simpa using h
    rw [Nat.zero_add] at e1
    exact ⟨c, rfl, e1.symm⟩
theorem enumD_len (ds : List D) : (enumD ds).length = ds.length := by simp [enumD]
end
section
variable {X : Cx} {K : PySem.W.Frag}
theorem enS_K {e : Expr} {ta : TA} {p pos tp : Pos} {es : List Expr} {n : Nat} (h0 : PI X (.Tuple es n tp) (.Call (.Name "enumerate" p) [e] [] pos) (iEnS X.K ta)) (h : X.K = K := by rfl) : PI X (.Tuple es n tp) (.Call (.Name "enumerate" p) [e] [] pos) (iEnS K ta) := h ▸ h0
end
end Tg
set_option Elab.async false
set_option linter.all false
set_option maxRecDepth 100000
set_option maxHeartbeats 1000000
namespace Tg
open PySem L2 PyProof.Rows
section
variable {K : PySem.W.Frag} {δ : DS} {M M1 M2 : Mu} {te : TE} {k : D → Mu → Prop} {kb : Bool → Mu → Prop} {a : Addr} {ds : List D} {x : Addr × MO}
/-- a list, some times over -/
theorem ar_rep {j : Int} (h0 : 0 ≤ j) (h1 : ds.length * j.toNat ≤ 16777216) (h2 : j < 16777217) (q : k (.lst (List.replicate j.toNat ds).flatten) M) : AR K rRep (.lst ds) (.int j) M k := fun vx vy G H Q rx ry s f => by
  obtain ⟨p, xs, rfl, hp, r1⟩ := rep_lst rx
  refine ⟨p, j, xs, rfl, rep_int ry, s.same _ _ hp, by omega, by omega, by rw [r1.len]; exact h1, fun l hl => ?_⟩
  obtain ⟨s2, st2, e2⟩ := s.frozen (o := .lst (List.replicate j.toNat xs).flatten) hl
  refine f _ M _ _ _ q s2 st2 (rep_mk_lst upd_same ?_)
  have go : ∀ n : Nat, Reps K (upd G l (.lst (List.replicate j.toNat xs).flatten)) (List.replicate n ds).flatten (List.replicate n xs).flatten := by
    intro n
    induction n with
    | zero => exact Reps.nil
    | succ n ih =>
      rw [List.replicate_succ, List.replicate_succ, List.flatten_cons, List.flatten_cons]
      exact (Reps.mono e2 _ _ r1).append ih
  exact go _
theorem reps_erase {G : Hp} : ∀ {ds : List D} {xs : List V} (n : Nat), Reps K G ds xs → Reps K G (ds.eraseIdx n) (xs.eraseIdx n)
  | [], _, n, h => by
    unfold Reps at h
    rw [h]
    simp only [List.eraseIdx_nil]
    exact Reps.nil
  | c :: ds, _, n, h => by
    obtain ⟨y, r, q, s, t⟩ := Reps.uncons h
    subst q
    cases n with
    | zero => exact t
    | succ n => exact Reps.cons s (reps_erase n t)
theorem am_popAt {i : Nat} {d : D} (e : M = M1 ++ (a, .lst ds) :: M2) (hi : ds[i]? = some d) (hz : ds.length ≤ 16777216) (q : k d (M1 ++ (a, .lst (ds.eraseIdx i)) :: M2)) : AM K rPopAt (.ref a) [.int i] M k := fun vx vs G H Q rx rxs s f => by
  subst e
  obtain ⟨v, r, rfl, r1, rr⟩ := rxs.uncons
  unfold Reps at rr
  subst rr
  obtain ⟨g0, o, ho, r⟩ := s.mu (a, .lst ds) (by simp)
  obtain ⟨xs, rfl, rs⟩ := r
  obtain ⟨y, hy, ry⟩ := rs.get hi
  have hl := (List.getElem?_eq_some_iff.mp hi).1
  obtain ⟨s2, st2⟩ := s.write (o := .lst (xs.eraseIdx i)) (m' := .lst (ds.eraseIdx i)) ⟨_, rfl, reps_erase i rs⟩
  refine ⟨a, xs, i, i, y, rep_ref rx, by rw [rep_int r1], ho, by omega, by omega, ?_, hy, f _ _ _ _ _ q s2 st2 ry⟩
  rw [rs.len]
  unfold seqIndex?
  have e1 : (if (i : Int) < 0 then (i : Int) + (ds.length : Int) else (i : Int)) = i := if_neg (by omega)
  simp only [e1]
  rw [if_pos (by simp; omega), Int.toNat_natCast]
theorem at_truM (h : AE K te δ M fun d M' => ∃ a ds N1 N2, d = .ref a ∧ M' = N1 ++ (a, MO.lst ds) :: N2 ∧ kb (!ds.isEmpty) M') : AT K (tTruU K te) δ M kb := fun σ G H Q rs s f =>
  h σ G H _ rs s fun d M1 vx G1 H1 ⟨a, ds, N1, N2, e1, e2, h1⟩ s1 st1 r1 => by
    subst e1
    obtain ⟨g0, o, ho, r⟩ := s1.mu (a, .lst ds) (by rw [e2]; simp)
    obtain ⟨xs, rfl, rx⟩ := r
    refine ⟨!ds.isEmpty, ?_, f _ M1 G1 H1 h1 s1 st1⟩
    rw [rep_ref r1]
    exact .inl ⟨xs, .inl (.inl ho), by rw [isEmpty_len rx.len]⟩
theorem ext1 {es : List D} (hz : ds.length + es.length ≤ sizeLine) (q : k .non (x :: (a, .lst (ds ++ es)) :: M2)) : AM K rExtend (.ref a) [.lst es] (x :: (a, .lst ds) :: M2) k := am_extend (M1 := [x]) rfl hz q
end
end Tg
set_option Elab.async false
set_option linter.all false
set_option maxRecDepth 100000
set_option maxHeartbeats 1000000
/-! Tg: what is raised: an own error with two fields. -/
namespace Tg
open PySem L2 PyProof.Rows
/-! ### the promise of a def that may raise an error of the class C -/
abbrev WtX := List D → Mu → (D → Mu → Prop) → (List (Str × D) → Mu → Prop) → Prop
def SpcX (K : PySem.W.Frag) (C : Addr) (W : WtX) : Sp := fun vs H Q E => ∃ G ds M k kx, Reps K G ds vs ∧ S K G H M ∧ W ds M k kx ∧
  (∀ d M' v G' H', k d M' → S K G' H' M' → Step (ads M) G H (ads M') G' H' → Rep K G' d v → Q v H') ∧
  ∀ fs M' d G' H', kx fs M' → S K G' H' (M' ++ [(d, .xd fs)]) → Step (ads M) G H (ads (M' ++ [(d, .xd fs)])) G' H' → E (.ref C) (some d) H'
section
variable {P : Program} {w : World} {K : PySem.W.Frag} {mg : Str → Option Value} {base : Heap}
theorem spc_okX {C : Addr} {W : WtX} {x qual : Str} {st : Stmt} {f : Addr} {fd : FuncData} {N ps : List Str} {k : Nat} (F : Fun K x qual st f fd) (Sc : FnScope N ps (defScope st)) (len : ∀ ds M kk kx, W ds M kk kx → ds.length = ps.length)
    (hbody : ∀ (cdv : Value) (A : Around) (outer : List Env) (s : Shared) (H : Hp) (E : XK), Room k (A.deeper (envOfC qual (defScope st) s.heap.objs.size f cdv)) →
      ∃ t, PSs (cxOf (L2.CX P w) P w K mg base N qual (defScope st) f cdv A outer s H E) (defBody st) t ∧
        ∀ ds M kk kx, W ds M kk kx → AS K t (startD N.length ds) M { nx := fun _ M' => kk .non M', rt := kk, xs := kx, W := fun d H' => E (.ref C) (some d) H' }) : FnOk P w K mg base (L2.CX P w) (k + 1) f fd ps (SpcX K C W) := by
  refine F.okX Sc (fun vs H Q E h => ?_) (fun cdv A outer s H vs Q E hr h => ?_)
  · obtain ⟨G, ds, M, kk, kx, r, _, hw, _⟩ := h
    rw [r.len]
    exact len ds M kk kx hw
  · obtain ⟨G, ds, M, kk, kx, r, hs, hw, q, qx⟩ := h
    obtain ⟨t, pt, ht⟩ := hbody cdv A outer s H E hr
    refine ⟨t, pt, ht ds M kk kx hw (start N vs) G H _ (relS_start r) hs ⟨?_, ?_, ?_, ?_, ?_⟩⟩
    · intro δ' M' σ' G' H' a rs' s' st'
      exact q .non M' .non G' H' a s' st' rep_of_non
    · intro d M' v G' H' a s' st' rv
      exact q d M' v G' H' a s' st' rv
    · intro δ' M' σ' G' H' a
      exact a.elim
    · intro δ' M' σ' G' H' a
      exact a.elim
    · intro fs M' d G' H' a s' st'
      exact qx fs M' d G' H' a s' st'
end
/-! ### raising -/
/-- what __init__ of an error with two fields leaves -/
def spIni (K : PySem.W.Frag) (C : Addr) (f1 f2 : Str) : Sp := fun vs H Q _ => ∃ a y z, vs = [.ref a, y, z] ∧ H a = some (exo a C none) ∧
  ∀ dx, H dx = none → dx ≠ a → Q .non (upd (upd (upd H dx (exd dx [(f1, y)])) a (exo a C (some dx))) dx (exd dx [(f2, z), (f1, y)]))
/-- raise X(e1, e2) -/
def tRaiseO (K : PySem.W.Frag) (C : Addr) (f1 f2 : Str) (E : XK) (ta : TA) : TS := fun _ σ H => tMkO C (spIni K C f1 f2) [] ta σ H fun cls d H' => E cls d H'
section
variable {K : PySem.W.Frag} {δ : DS} {M : Mu} {A : AEnds} {C : Addr} {f1 f2 : Str} {E : XK} {ta : TA}
theorem upd_swap {H : Hp} {a b : Addr} {o u : HO} (h : a ≠ b) : upd (upd H a o) b u = upd (upd H b u) a o := by
  funext c
  by_cases h1 : c = b
  · subst h1
    rw [upd_same, upd_ne (Ne.symm h), upd_same]
  · rw [upd_ne h1]
    by_cases h2 : c = a
    · subst h2
      rw [upd_same, upd_same]
    · rw [upd_ne h2, upd_ne h2, upd_ne h1]
theorem as_raise (hA : A.W = fun d H' => E (.ref C) (some d) H') (h : AA K ta δ M fun ds M1 => ∃ y z, ds = [y, z] ∧ A.xs [(f2, z), (f1, y)] M1) : AS K (tRaiseO K C f1 f2 E ta) δ M A := fun σ G H E' rs s f =>
  h σ G H _ rs s fun ds M1 vs G1 H1 ⟨y, z, e, hx⟩ s1 st1 r1 => by
    subst e
    obtain ⟨vy, r, rfl, ry, rr⟩ := r1.uncons
    obtain ⟨vz, r, rfl, rz, rr⟩ := rr.uncons
    unfold Reps at rr
    subst rr
    refine ⟨by show 2 ≤ 1000; decide, fun a ha => ⟨a, vy, vz, rfl, upd_same, fun dx hdx hne => ⟨rfl, dx, [(f2, vz), (f1, vy)], ?_, upd_same, ?_, ?_⟩⟩⟩
    · rw [upd_ne (Ne.symm hne), upd_same]
    · have h0 := hdx
      rw [upd_ne hne] at h0
      exact h0
    · have hd1 : H1 dx = none := by
        have h0 := hdx
        rw [upd_ne hne] at h0
        exact h0
      have e : upd (del (upd (upd (upd (upd H1 a (exo a C none)) dx (exd dx [(f1, vy)])) a (exo a C (some dx))) dx (exd dx [(f2, vz), (f1, vy)])) a) dx (.xd [(f2, vz), (f1, vy)]) = upd H1 dx (.xd [(f2, vz), (f1, vy)]) := by
        funext b
        by_cases h1 : b = dx
        · subst h1
          rw [upd_same, upd_same]
        · rw [upd_ne h1, upd_ne h1]
          by_cases h2 : b = a
          · subst h2
            rw [del_same, ha]
          · rw [del_ne h2, upd_ne h1, upd_ne h2, upd_ne h1, upd_ne h2]
      rw [e]
      obtain ⟨s2, st2⟩ := s1.fresh (o := .xd [(f2, vz), (f1, vy)]) (m := .xd [(f2, z), (f1, y)]) hd1 ⟨_, rfl, by
        unfold RepKV
        refine ⟨vz, _, rfl, rz, ?_⟩
        unfold RepKV
        exact ⟨vy, [], rfl, ry, by unfold RepKV; rfl⟩⟩
      have q := f.xs _ M1 dx G1 _ hx s2 (st1.trans st2)
      rw [hA] at q
      exact q
end
section
variable {X : Cx} {K : PySem.W.Frag} {C fI : Addr} {k : Nat} {fd : FuncData} {f1 f2 x : Str} {e e2 : Expr} {es : List Expr} {ta : TA} {p pos pos2 : Pos} {CX : CXT} {E : XK}
theorem ps_raiseO (hc : X.calm = true) (tk : Takes X (fun cls d _ H => E cls d H)) (T : OexC X.K C) (iC : PySem.W.findIn X.K (.ref C) "__init__" = some (some (.ref fI))) (tI : PySem.W.typeIn X.K (.ref fI) = some (.type "function"))
    (F1 : FnOk X.prog X.w X.K X.mg X.base CX k fI fd ["self", f1, f2] (spIni X.K C f1 f2)) (hr : Room (k + 1) X.A) (hb : Binds X.K fd ["self", f1, f2] []) (hx : Passes CX X (fun _ _ _ => False)) (hg : Gl X x) (hm : X.mg x = some (.ref C)) (ha : PA X (e :: es) ta)
    (hdb : (x == ("__debug__" : Str)) = false := by decide) (he : starEach (e :: es) X.env = (false, eval e X.env) :: starEach es X.env := by rfl) (hpl : (backTo pos (starEach es X.env)).any (·.1) = false := by rfl) :
    PS X (.Raise (some (.Call (.Name x p) (e :: es) [] pos)) none pos2) (tRaiseO X.K C f1 f2 E ta) := ps_raise hc tk (pmk_oex T iC tI F1 hr hb .nil hx hg hm ha hdb he hpl)
end
/-! ### an error caught -/
section
variable {K : PySem.W.Frag} {δ : DS} {M : Mu} {A : AEnds} {C : Addr} {W : WtX} {ta : TA} {ib i : Nat} {ts : Addr → Value → Option Addr → TS}
/-- try: x = f(..) except X as n: suite -/
def tTryX (K : PySem.W.Frag) (C : Addr) (W : WtX) (ta : TA) (ib i : Nat) (ts : Addr → Value → Option Addr → TS) : TS := fun D σ H => tAsg (tCallS (SpcX K C W) (WE (wAs K (.ref C) i ts (fun _ _ _ _ => False) D)) ta) (gName ib) D σ H
theorem as_tryX (te : PySem.W.exmOne K (.ref C) (.ref C) = some true) (h : AA K ta δ M fun ds M1 => ∃ Mc R kc kx, M1 = Mc ++ R ∧ W ds Mc kc kx ∧ (∀ d Mc', kc d Mc' → A.nx (δ.set ib (some d)) (Mc' ++ R)) ∧
      ∀ fs Mc' a d, kx fs Mc' → AS K (ts a (.ref C) (some d)) (δ.set i (some (.ref a))) ((Mc' ++ [(d, .xd fs)]) ++ R) { A with nx := fun δ' M' => A.nx (δ'.set i none) M', bk := fun δ' M' => A.bk (δ'.set i none) M', ct := fun δ' M' => A.ct (δ'.set i none) M' }) :
    AS K (tTryX K C W ta ib i ts) δ M A := fun σ G H E rs s f =>
  h σ G H _ rs s fun ds M1 vs G1 H1 ⟨Mc, R, kc, kx, e, hw, hn, hx⟩ s1 st1 r1 => by
    subst e
    refine ⟨G1, ds, Mc, kc, kx, r1, s1.sub, hw, fun d M' v G' H' hd s' st' rv => ?_, fun fs M' d G' H' hk s' st' => ?_⟩
    · obtain ⟨s2, st2⟩ := s1.join s' st'
      exact f.nx _ _ _ G' H' (hn d M' hd) ((rs.mono (st1.trans st2).gg).set ib rv) s2 (st1.trans st2)
    · obtain ⟨s2, st2⟩ := s1.join s' st'
      have st := st1.trans st2
      have fg := f.go st
      refine ⟨true, te, fun _ a ha => ?_, fun q => nomatch q⟩
      refine hx fs M' a d hk (σ.set i (some (.ref a))) G' H' _ ((rs.mono st.gg).set i rep_of_ref) s2 ⟨?_, fg.rt, ?_, ?_, fg.xs⟩
      · intro δ' M2 σ' G2 H2 q r s3 st3
        exact fg.nx _ M2 _ G2 H2 q (r.drop i) s3 st3
      · intro δ' M2 σ' G2 H2 q r s3 st3
        exact fg.bk _ M2 _ G2 H2 q (r.drop i) s3 st3
      · intro δ' M2 σ' G2 H2 q r s3 st3
        exact fg.ct _ M2 _ G2 H2 q (r.drop i) s3 st3
theorem repKV_look {G : Hp} {f : Str} {d : D} : ∀ {ds : List (Str × D)} {xs : List (Str × V)}, RepKV K G ds xs → ds.lookup f = some d → ∃ v, xs.lookup f = some v ∧ Rep K G d v
  | [], _, _, e => nomatch e
  | (q, d') :: ds, _, h, e => by
    unfold RepKV at h
    obtain ⟨x, r, rfl, rx, t⟩ := h
    rw [List.lookup_cons] at e ⊢
    cases hq : f == q with
    | true =>
      rw [hq] at e
      cases e
      exact ⟨x, rfl, rx⟩
    | false =>
      rw [hq] at e
      exact repKV_look t e
variable {a d : Addr} {f : Str} {te : TE} {k : D → Mu → Prop}
theorem ae_xf (h : AE K te δ M fun x M1 => x = .ref a ∧ ∃ fs y N1 N2, M1 = N1 ++ (d, .xd fs) :: N2 ∧ fs.lookup f = some y ∧ k y M1) : AE K (tXf a (.ref C) (some d) C f te) δ M k := fun σ G H Q rs s f' =>
  h σ G H _ rs s fun x M1 v G1 H1 ⟨e1, fs, y, N1, N2, e2, hl, q⟩ s1 st1 r1 => by
    subst e1
    obtain ⟨g0, o, ho, r⟩ := s1.mu (d, .xd fs) (by rw [e2]; simp)
    obtain ⟨ps, rfl, rp⟩ := r
    obtain ⟨v, hv, rv⟩ := repKV_look rp hl
    exact ⟨rep_ref r1, rfl, d, ps, v, rfl, ho, hv, f' y M1 v G1 H1 q s1 st1 rv⟩
end
/-! ### isinstance of the error that is caught -/
/-- e the error at a of the class D with its dict -/
def rIsX (K : PySem.W.Frag) (D a : Addr) (cls : Value) (d : Option Addr) : List V → Hp → VK → Prop := fun xs H Q => ∃ (dd : Addr) (c : V) (cv : Value) (b : Bool) (fs : List (Str × V)), cls = .ref D ∧ d = some dd ∧ xs = [.ref a, c] ∧ H dd = some (.xd fs) ∧ (∀ u, RelV c u → u = cv) ∧ PySem.W.kitOne K (.ref D) cv = some b ∧ Q (.bl b) H
theorem call_isX {X : Cx} {a D : Addr} {cls : Value} {d : Option Addr} {oe : Obj} {pn : List (Addr × Obj)} (C : ExcC X.K D) (hz : Zc cls d oe) (hf : ∃ vs, oe.data = .fields vs) : CallR (X.suite a ((a, oe) :: pn)) (.builtin "isinstance") (rIsX X.K D a cls d) := by
  rintro pins s σ H xs us Q I r ⟨dd, c, cv, b, fs, ec1, ed1, rfl, hdd, hcv, e, q⟩
  subst ec1 ed1
  obtain ⟨u1, u2, rfl, r1, r2⟩ : ∃ u1 u2, us = [u1, u2] ∧ RelV (.ref a) u1 ∧ RelV c u2 := by
    cases r with
    | cons rx rr =>
      cases rr with
      | cons rt rr =>
        cases rr
        exact ⟨_, _, rfl, rx, rt⟩
  cases r1
  have ec := hcv _ r2
  subst ec
  have at_a := (I.pin (a, oe) (List.mem_append_left _ (List.mem_cons_self ..))).1
  obtain ⟨mA, hns, _⟩ : ObjOk X.prog X.w H s.heap dd (.xd fs) := I.hok dd _ hdd
  obtain ⟨od, ho, _⟩ := lookIn_ns hns
  obtain ⟨vs, hv⟩ := hf
  have J : PySem.W.InstAt s.heap a oe D (some od) := ⟨at_a, hz.1, by unfold PySem.W.notCls; rw [hv] <;> rfl, by rw [hz.2]; exact ho⟩
  have hcl : (PySem.W.clsIn X.K D).isSome = true := by
    obtain ⟨cd, h1, _⟩ := PySem.W.any_some C.hd
    rw [h1]
    rfl
  exact PySem.W.kia_one (PySem.W.kitx_exc hcl C.hg C.hk C.hs C.ha C.hn C.ht C.hm) I.kIn J e (fun z => nomatch z) fun tk => ⟨.bl b, H, I.kept (t' := tk) fun _ _ z => z, rfl, q⟩
section
variable {K : PySem.W.Frag} {M : Mu} {k : D → Mu → Prop} {a d C : Addr}
theorem ac_isXref {Cx : Addr} {b : Bool} {fs : List (Str × D)} (N1 N2 : Mu) (hM : M = N1 ++ (d, .xd fs) :: N2) (hk : PySem.W.kitOne K (.ref C) (.ref Cx) = some b) (q : k (.bl b) M) : AC K (rIsX K C a (.ref C) (some d)) [.ref a, .ref Cx] M k := fun vs G H Q rx s f => by
  obtain ⟨v, r, rfl, r1, rr⟩ := rx.uncons
  obtain ⟨u, r, rfl, r2, rr⟩ := rr.uncons
  unfold Reps at rr
  subst rr
  obtain ⟨g0, o, ho, r⟩ := s.mu (d, .xd fs) (by rw [hM]; simp)
  obtain ⟨ps, rfl, _⟩ := r
  exact ⟨d, u, .ref Cx, b, ps, rfl, rfl, by rw [rep_ref r1], ho, fun z hz => by rw [rep_ref r2] at hz; exact hz, hk, f _ M _ G H q s Step.refl rep_of_bl⟩
theorem ac_isXty {n : String} {b : Bool} {fs : List (Str × D)} (N1 N2 : Mu) (hM : M = N1 ++ (d, .xd fs) :: N2) (hk : PySem.W.kitOne K (.ref C) (.type n) = some b) (q : k (.bl b) M) : AC K (rIsX K C a (.ref C) (some d)) [.ref a, .ty n] M k := fun vs G H Q rx s f => by
  obtain ⟨v, r, rfl, r1, rr⟩ := rx.uncons
  obtain ⟨u, r, rfl, r2, rr⟩ := rr.uncons
  unfold Reps at rr
  subst rr
  obtain ⟨g0, o, ho, r⟩ := s.mu (d, .xd fs) (by rw [hM]; simp)
  obtain ⟨ps, rfl, _⟩ := r
  exact ⟨d, u, .type n, b, ps, rfl, rfl, by rw [rep_ref r1], ho, fun z hz => by rw [rep_ty r2] at hz; exact hz, hk, f _ M _ G H q s Step.refl rep_of_bl⟩
end
/-! ### what the written part says of an own error's class -/
structure ErrC (K : PySem.W.Frag) (mg : Str → Option Value) (x qual : Str) (st : Stmt) (f1 f2 : Str) (C : Addr) : Prop where
  o : OexC K C
  m : mg x = some (.ref C)
  i : ∃ fI fd, PySem.W.findIn K (.ref C) "__init__" = some (some (.ref fI)) ∧ PySem.W.typeIn K (.ref fI) = some (.type "function") ∧ Fun K "__init__" qual st fI fd ∧ Binds K fd ["self", f1, f2] []
  n1 : PySem.W.findIn K (.ref C) f1 = some none
  n2 : PySem.W.findIn K (.ref C) f2 = some none
  xf : XfC K C
  self : PySem.W.exmOne K (.ref C) (.ref C) = some true
  ec : ExcC K C
/-- a def that may raise, by its name -/
structure CalX (P : Program) (w : World) (K : PySem.W.Frag) (mg : Str → Option Value) (base : Heap) (k : Nat) (x : Str) (sp : Sp) : Prop where
  ex : ∃ (f : Addr) (fd : FuncData) (ps : List Str), FnOk P w K mg base (L2.CX P w) k f fd ps sp ∧ mg x = some (.ref f) ∧ PySem.W.keepIn K (.ref f) = true ∧ Binds K fd ps []
section
variable {X : Cx} {k j : Nat} {x : Str} {sp : Sp} {W : WX} {e : Expr} {es : List Expr} {t : TA} {p pos : Pos}
theorem pe_cX (tk : Takes X W) (c : CalX X.prog X.w X.K X.mg X.base k x sp) (hr : Room j X.A) (hk : k ≤ j) (hg : Gl X x) (ha : PA X (e :: es) t)
    (hdb : (x == ("__debug__" : Str)) = false := by decide) (he : starEach (e :: es) X.env = (false, eval e X.env) :: starEach es X.env := by rfl) (hpl : (backTo pos (starEach es X.env)).any (·.1) = false := by rfl) :
    PE X (.Call (.Name x p) (e :: es) [] pos) (tCallS sp (WE W) t) := by
  obtain ⟨f, fd, ps, F, hm, kp, b⟩ := c.ex
  exact pe_callS F (hr.mono hk) hg hm kp b (fun σ => passAt tk σ) ha hdb he hpl
end
/-! ### what is known of a class by its name -/
theorem ae_refC {K : PySem.W.Frag} {δ : DS} {M : Mu} {k : D → Mu → Prop} {a : Addr} (q : k (.ref a) M) : AE K (tC (.ref a)) δ M k := fun σ G H Q rs s f => f _ M _ G H q s Step.refl rep_of_ref
/-- what may change is forgotten -/
theorem ae_forget {K : PySem.W.Frag} {δ : DS} {M : Mu} {k : D → Mu → Prop} {te : TE} (h : AE K te δ M fun d _ => k d []) : AE K te δ M k := fun σ G H Q rs s f =>
  h σ G H Q rs s fun d M' v G' H' q s' st r => f d [] v G' H' q ⟨s'.same, (fun _ h => nomatch h), List.nodup_nil⟩ ⟨st.gg, st.fr, st.keep, st.alive, (fun _ h => nomatch h)⟩ r
/-! ### facts of classes -/
theorem exm_self {K : PySem.W.Frag} {S : Addr} (h1 : PySem.W.subIn K (.ref S) (.type "BaseException") = some true) (h2 : PySem.W.isClsIn K S = true) (h3 : PySem.W.typeIn K (.ref S) = some (.type "type")) (h4 : PySem.W.subIn K (.ref S) (.ref S) = some true) :
    PySem.W.exmOne K (.ref S) (.ref S) = some true := by
  have h2' : (PySem.W.clsIn K S).isSome = true := h2
  unfold PySem.W.exmOne PySem.W.kitCls
  rw [h1, if_pos (by decide)]
  show (if ((PySem.W.clsIn K S).isSome && PySem.W.typeIn K (.ref S) == some (.type "type")) = true then PySem.W.subIn K (.ref S) (.ref S) else none) = some true
  rw [h2', h3, if_pos (by decide), h4]
theorem kit_ref {K : PySem.W.Frag} {S : Addr} {t : Value} (h2 : PySem.W.isClsIn K S = true) (h3 : PySem.W.typeIn K (.ref S) = some (.type "type")) (h4 : PySem.W.subIn K t (.ref S) = some true) : PySem.W.kitOne K t (.ref S) = some true := by
  have h2' : (PySem.W.clsIn K S).isSome = true := h2
  unfold PySem.W.kitOne
  split
  · rfl
  · show (if ((PySem.W.clsIn K S).isSome && PySem.W.typeIn K (.ref S) == some (.type "type")) = true then PySem.W.subIn K t (.ref S) else none) = some true
    rw [h2', h3, if_pos (by decide), h4]
theorem kit_ty {K : PySem.W.Frag} {T : String} {t : Value} (h2 : PySem.W.kitMeta T = true) (h4 : PySem.W.subIn K t (.type T) = some true) : PySem.W.kitOne K t (.type T) = some true := by
  unfold PySem.W.kitOne
  split
  · rfl
  · show (if PySem.W.kitMeta T = true then PySem.W.subIn K t (.type T) else none) = some true
    rw [if_pos h2, h4]
end Tg
set_option Elab.async false
set_option linter.all false
set_option maxRecDepth 100000
set_option maxHeartbeats 1000000
/-! Tg: the text of deep data. -/
namespace Tg
open PySem L2 PyProof.Rows
mutual
def toPy : D → PyData
  | .non => .none
  | .bl b => .bool b
  | .int i => .int i
  | .str z => .str z
  | .tup ds => .tuple (toPys ds)
  | .lst ds => .list (toPys ds)
  | .lsk ds => .list (toPys ds)
  | .ty _ => .none
  | .ref _ => .none
def toPys : List D → List PyData
  | [] => []
  | d :: ds => toPy d :: toPys ds
end
mutual
/-- data that can be shown: plain, small ints, signs that are signs -/
def Sho : D → Prop
  | .non => True
  | .bl _ => True
  | .int i => i.natAbs < 1000000
  | .str z => ∀ c ∈ z.cps.toList, c < 128
  | .tup ds => Shos ds
  | .lst ds => Shos ds
  | .lsk ds => Shos ds
  | .ty _ => False
  | .ref _ => False
def Shos : List D → Prop
  | [] => True
  | d :: ds => Sho d ∧ Shos ds
end
mutual
/-- no text of it is longer -/
def wt : D → Nat
  | .non => 4
  | .bl _ => 5
  | .int _ => 4000
  | .str z => 10 * z.length + 2
  | .tup ds => wts ds + 3
  | .lst ds => wts ds + 3
  | .lsk ds => wts ds + 3
  | .ty _ => 4
  | .ref _ => 4
def wts : List D → Nat
  | [] => 0
  | d :: ds => wt d + 2 + wts ds
end
theorem log_small {i : Int} (h : i.natAbs < 1000000) : i.natAbs.log2 < 1920 := by
  by_cases e : i.natAbs = 0
  · rw [e]
    decide
  · rw [Nat.log2_lt e]
    exact Nat.lt_of_lt_of_le h (Nat.le_trans (by decide : 1000000 ≤ 2 ^ 20) (Nat.pow_le_pow_right (by decide) (by decide)))
mutual
theorem show_ok : ∀ d : D, Sho d → (toPy d).showable = true ∧ (toPy d).hasDict = false ∧ (toPy d).shown.length ≤ wt d
  | .non, _ => ⟨rfl, rfl, by decide +kernel⟩
  | .bl true, _ => ⟨rfl, rfl, by decide +kernel⟩
  | .bl false, _ => ⟨rfl, rfl, by decide +kernel⟩
  | .int i, h => by
    unfold Sho at h
    have hl := log_small h
    refine ⟨decide_eq_true hl, rfl, ?_⟩
    have e := int_text_length_le (k := 1920) (by decide) hl
    show (Str.ofString (toString i)).length ≤ 4000
    rw [PySem.ofString_length]
    omega
  | .str z, h => by
    unfold Sho at h
    exact ⟨rfl, rfl, StrLaws.reprText_len z fun c hc => Nat.lt_trans (h c hc) (by decide)⟩
  | .tup ds, h => by
    unfold Sho at h
    obtain ⟨h1, h2, h3, h4⟩ := show_oks ds h
    refine ⟨h1, h2, ?_⟩
    have e := tupleText_len_le (PyData.shownAll (toPys ds))
    show (tupleText (PyData.shownAll (toPys ds))).length ≤ wts ds + 3
    omega
  | .lst ds, h => by
    unfold Sho at h
    obtain ⟨h1, h2, h3, h4⟩ := show_oks ds h
    refine ⟨h1, h2, ?_⟩
    have e := listText_len_le (PyData.shownAll (toPys ds))
    show (listText (PyData.shownAll (toPys ds))).length ≤ wts ds + 3
    omega
  | .lsk ds, h => by
    unfold Sho at h
    obtain ⟨h1, h2, h3, h4⟩ := show_oks ds h
    refine ⟨h1, h2, ?_⟩
    have e := listText_len_le (PyData.shownAll (toPys ds))
    show (listText (PyData.shownAll (toPys ds))).length ≤ wts ds + 3
    omega
  | .ty _, h => by
    unfold Sho at h
    exact h.elim
  | .ref _, h => by
    unfold Sho at h
    exact h.elim
theorem show_oks : ∀ ds : List D, Shos ds → PyData.showableAll (toPys ds) = true ∧ PyData.hasDictAll (toPys ds) = false ∧ ((PyData.shownAll (toPys ds)).map (·.length)).sum + 2 * (PyData.shownAll (toPys ds)).length ≤ wts ds ∧ True
  | [], _ => ⟨rfl, rfl, Nat.le_refl _, True.intro⟩
  | d :: ds, h => by
    unfold Shos at h
    obtain ⟨a1, a2, a3⟩ := show_ok d h.1
    obtain ⟨b1, b2, b3, _⟩ := show_oks ds h.2
    refine ⟨?_, ?_, ?_, True.intro⟩
    · show ((toPy d).showable && PyData.showableAll (toPys ds)) = true
      rw [a1, b1]
      rfl
    · show ((toPy d).hasDict || PyData.hasDictAll (toPys ds)) = false
      rw [a2, b2]
      rfl
    · show (((toPy d).shown :: PyData.shownAll (toPys ds)).map (·.length)).sum + 2 * ((toPy d).shown :: PyData.shownAll (toPys ds)).length ≤ wt d + 2 + wts ds
      rw [List.map_cons, List.sum_cons, List.length_cons]
      omega
end
section
variable {K : PySem.W.Frag} {G H : Hp}
mutual
theorem dp_of (e : Same G H) : ∀ (d : D) (v : V), Sho d → Rep K G d v → Dp K H v (toPy d)
  | .non, _, _, r => by
    rw [rep_non r]
    exact .non
  | .bl b, _, _, r => by
    rw [rep_bl r]
    exact .bl b
  | .int i, _, _, r => by
    rw [rep_int r]
    exact .int i
  | .str z, _, _, r => by
    rw [rep_str r]
    exact .str z
  | .tup ds, _, h, r => by
    unfold Sho at h
    obtain ⟨a, xs, rfl, q, rs⟩ := rep_tup r
    exact .tup (Same.seqT e q) (dps_of e ds xs h rs)
  | .lst ds, _, h, r => by
    unfold Sho at h
    obtain ⟨a, xs, rfl, q, rs⟩ := rep_lst r
    exact .lst (.inl (.inl (e _ _ q))) (dps_of e ds xs h rs)
  | .lsk ds, _, h, r => by
    unfold Sho at h
    obtain ⟨a, xs, rfl, q, rs⟩ := rep_lsk r
    exact .lst (e.seq q) (dps_of e ds xs h rs)
  | .ty _, _, h, _ => by
    unfold Sho at h
    exact h.elim
  | .ref _, _, h, _ => by
    unfold Sho at h
    exact h.elim
theorem dps_of (e : Same G H) : ∀ (ds : List D) (vs : List V), Shos ds → Reps K G ds vs → DpAll K H vs (toPys ds)
  | [], _, _, r => by
    unfold Reps at r
    rw [r]
    exact .nil
  | d :: ds, _, h, r => by
    unfold Shos at h
    obtain ⟨x, xs, rfl, r1, r2⟩ := r.uncons
    exact .cons (dp_of e d x h.1 r1) (dps_of e ds xs h.2 r2)
end
end
/-! ### repr -/
def rRepr (K : PySem.W.Frag) : List V → Hp → VK → Prop := fun xs H Q => ∃ a d, xs = [.ref a] ∧ Dp K H (.ref a) d ∧ d.showable = true ∧ d.hasDict = false ∧ d.depth ≤ 40 ∧ d.shown.length ≤ sizeLine ∧ Q (.str d.shown) H
theorem call_reprD {X : Cx} (hg : X.A.guards = some []) (hu : X.A.units + 64 < cLine) : CallR X (.builtin "repr") (rRepr X.K) := by
  rintro pins s σ H xs us Q I r ⟨a, d, rfl, hd, h1, h2, h3, h4, q⟩
  obtain ⟨u, rfl, ru⟩ : ∃ u, us = [u] ∧ RelV (.ref a) u := by
    cases r with
    | cons rx rr =>
      cases rr
      exact ⟨_, rfl, rx⟩
  obtain rfl : u = Value.ref a := ru
  obtain ⟨as, rd⟩ := Dp.reads I d (.ref a) _ hd rfl
  exact repr_of_reads' rd h1 (fun z => absurd (h2.symm.trans z) Bool.false_ne_true) hg (by omega) (fun _ _ e => e) (fun h' u tk hk => ⟨.str d.shown, H, I.kept (t' := tk) hk, ⟨_, rfl⟩, q⟩) h4
section
variable {K : PySem.W.Frag} {M : Mu} {k : D → Mu → Prop}
theorem ac_repr {ds : List D} (hs : Sho (.tup ds)) (hw : wt (.tup ds) ≤ 16777216) (hd : (toPy (.tup ds)).depth ≤ 40) (q : k (.str (toPy (.tup ds)).shown) M) : AC K (rRepr K) [.tup ds] M k := fun vs G H Q rx s f => by
  obtain ⟨v, r, rfl, r1, rr⟩ := rx.uncons
  unfold Reps at rr
  subst rr
  obtain ⟨h1, h2, h3⟩ := show_ok _ hs
  have hsz := sizeLine_eq
  have dp := dp_of s.same _ v hs r1
  obtain ⟨a, xs, rfl, _⟩ := rep_tup r1
  exact ⟨a, _, rfl, dp, h1, h2, hd, by omega, f _ M _ G H q s Step.refl rep_of_str⟩
end
end Tg
set_option Elab.async false
set_option linter.all false
set_option maxRecDepth 100000
set_option maxHeartbeats 2000000
/-! Tg: the law's own call, where it is known that nothing is being shown. -/
namespace Tg
open PySem L2 PySem.Spec PyProof.Rows
/-- one call of a def, around which A stands -/
theorem run_at {P : Program} {w : World} {K : PySem.W.Frag} {mg : Str → Option Value} {base : Heap} {k : Nat} {x qual : Str} {st : Stmt} {f : Addr} {fd : FuncData} {N ps : List Str} {A : Around} {outer : List Env} {s : Shared} {H : Hp} {args : Args} {us : List Value} {vs : List V} {Q : VK} {E : XK}
    (F : Fun K x qual st f fd) (Sc : FnScope N ps (defScope st)) (hl : vs.length = ps.length) (hr : Room (k + 1) A) (e0 : Env0 P w K mg base A outer s H) (hb : BindsTo s fd args (ps.zip us)) (r : Vals vs us)
    (body : ∀ cdv : Value, Room k (A.deeper (envOfC qual (defScope st) s.heap.objs.size f cdv)) → ∃ t, PSs (cxOf CX0 P w K mg base N qual (defScope st) f cdv A outer s H E) (defBody st) t ∧ t { nx := fun _ H' => Q .non H', rt := Q } (start N vs) H) :
    codeAny (model P w) A (.call (.ref f) args) (CR CX0 outer P w H s Q E) s := by
  obtain ⟨oc, od, kV, doc, pm, an, cdv, ct, osl, rfl, lk, hcd⟩ := F.ex
  have kin : K.In s.heap := e0.mod.kin.keeps fun b o q => (e0.bs b o q).1
  have kinds : ∀ y ∈ ps.zip us, (defScope st).names.lookup y.1 = some .local ∨ ((defScope st).names.lookup y.1 = some .cell ∧ ((cellsFrom (s.heap.objs.size + 1) (defScope st).names []).lookup y.1).isSome = true) := by
    rintro ⟨n, v⟩ hy
    rcases Sc.par n (List.of_mem_zip hy).1 with z | z
    · exact .inl z
    · exact .inr ⟨z, PySem.W.cellsFrom_some _ _ _ (.inl z)⟩
  refine codeAny_call_function hr.depth (kin _ _ lk) rfl Sc.co Sc.gen rfl (PySem.W.codeRec_of kin hcd) (hb _ _ _ _ (wpAny_newFunctionEnv_cells Sc.kind kinds fun env he s1 ic => ?_))
  subst he
  refine ⟨(e0.mod.nolimit.keeps fun b o q => (e0.bs b o q).1).keeps ic.toInCall.keep, codeAny_func ?_⟩
  obtain ⟨t, ht, hq⟩ := body cdv (hr.deeper _)
  refine wpAny_mono (ht.run [] s1 (start N vs) H _ (inv_start Sc hr.hd e0 hl r ic) hq) ?_ fun e s' z => z
  intro fl s' z
  cases fl with
  | ret u =>
    obtain ⟨v, σ', H', J, rv, q⟩ := z
    exact ⟨v, H', J.os, J.bare, J.base, J.hok, rv, q⟩
  | next =>
    obtain ⟨σ', H', J, q⟩ := z
    exact ⟨V.non, H', J.os, J.bare, J.base, J.hok, rfl, q⟩
  | brk =>
    obtain ⟨_, _, _, q⟩ := z
    exact q.elim
  | cont =>
    obtain ⟨_, _, _, q⟩ := z
    exact q.elim
/-- the law's call behind the top -/
theorem law_at {P : Program} {w : World} {K : PySem.W.Frag} {mg mb : Str → Option Value} {fa a : Addr} {s : Shared} {vs : List Value} {ns : List Int}
    (kin : K.In s.heap) (hns : s.heap.Ns mainGlobals mg) (hb : s.heap.Ns builtinsNs mb) (hbb : ∀ x : Str, x ≠ "__name__" → mb x = bootBuiltins x) (hlim : s.heap.NoLimit) (hg : s.gens = #[])
    (ha : s.heap.get? a = some { cls := .type "list", data := .seq vs.toArray }) (hi : IntsAre vs ns) (hl : ns.length ≤ sizeLine)
    (run : ∀ (base : Heap) (H : Hp), K.In base → base.Ns mainGlobals mg → SqL K H a (ns.map V.int) → Env0 P w K mg base callerA [] s H → codeAny (model P w) callerA (.call (.ref fa) ⟨[.ref a], []⟩) (CR CX0 [] P w H s (fun v _ => v = .bl true) fun _ _ _ => False) s) :
    codeAny (model P w) callerA (.call (.ref fa) ⟨[.ref a], []⟩) (fun r s' => r = .ok (.ret (.bool true)) ∧ OldK s.heap s'.heap ∧ s'.os = s.os ∧ AllBare s'.gens) s := by
  have lenV := hi.length
  have main : ∀ H : Hp, Only H → SqL K H a (ns.map V.int) → HOk P w H s.heap → (∀ b, H b ≠ none → b = a ∧ K.lookup a = none) →
      codeAny (model P w) callerA (.call (.ref fa) ⟨[.ref a], []⟩) (fun r s' => r = .ok (.ret (.bool true)) ∧ OldK s.heap s'.heap ∧ s'.os = s.os ∧ AllBare s'.gens) s := by
    intro H only sq hok at_a
    have hid : ∀ {b : Addr} {o : Obj}, s.heap.get? b = some o → H b = none → (hidT s.heap H).get? b = some o := hidT_get
    have free : ∀ {b : Addr} {m : Str → Option Value}, s.heap.Ns b m → H b = none := by
      rintro b m ⟨o, es, ep, e, d, _⟩
      by_cases z : H b = none
      · exact z
      · obtain ⟨e1, _⟩ := at_a b z
        subst e1
        rw [ha] at e
        cases e
        exact nomatch (show Data.seq vs.toArray _ = Data.dict es ep from d)
    have ns2 : ∀ {b : Addr} {m : Str → Option Value}, s.heap.Ns b m → (hidT s.heap H).Ns b m := fun {b m} n => by
      have z := free n
      obtain ⟨o, es, ep, e, d, r⟩ := n
      exact ⟨o, es, ep, hid e z, d, r⟩
    have kin2 : K.In (hidT s.heap H) := fun b o e => by
      refine hid (kin b o e) ?_
      by_cases z : H b = none
      · exact z
      · obtain ⟨e1, e2⟩ := at_a b z
        subst e1
        rw [e2] at e
        cases e
    have mod : Mod K mg (hidT s.heap H) := by
      obtain ⟨mc, h1, h2⟩ := hlim
      exact ⟨kin2, ns2 hns, ⟨mb, ns2 hb, hbb⟩, mc, ns2 h1, h2⟩
    have none_in : ∀ b : Addr, b ∉ ([] : List Addr) := fun b z => nomatch z
    refine codeAny_mono (run _ H kin2 (ns2 hns) sq ⟨rfl, mod, fun b o e => of_hidT e, Nat.le_of_eq (hidT_size _ _), trivial, fun b z => absurd z (none_in b), hok, .of_eq hg⟩) ?_
    intro r s' h
    rcases r with e | fl
    · exact False.elim h
    · cases fl with
      | next => exact False.elim h
      | brk => exact False.elim h
      | cont => exact False.elim h
      | ret u =>
        obtain ⟨v, H', os, bare, un, hok2, rv, q⟩ := h
        cases (show v = .bl true from q)
        cases (show u = Value.bool true from rv)
        refine ⟨rfl, OldK.of_keep fun b o e => ?_, os, bare⟩
        by_cases z : H b = none
        · exact un.keep b o e z (none_in b) (by simp)
        · rcases only b with z2 | ⟨ob, xs, z2⟩
          · exact absurd z2 z
          · obtain ⟨e1, _⟩ := hok b _ z2
            obtain ⟨e2, _⟩ := hok2 b _ (un.frzs b ob _ z2)
            rw [e] at e1
            cases e1
            exact e2
  have rv := vals_ints hi
  by_cases hk : K.lookup a = none
  · refine main (fun b => if b = a then some (.frz { cls := .type "list", data := .seq vs.toArray } (.lst (ns.map V.int))) else none) (fun b => ?_) (.inl (.inr ⟨_, if_pos rfl⟩)) (fun b u z => ?_) fun b z => ?_
    · by_cases e : b = a
      · exact .inr ⟨_, _, if_pos e⟩
      · exact .inl (if_neg e)
    · by_cases e : b = a
      · subst e
        cases (if_pos rfl).symm.trans z
        exact ⟨ha, by rw [List.length_map]; exact hl, vs, _, rv, ha⟩
      · cases (if_neg e).symm.trans z
    · by_cases e : b = a
      · exact ⟨e, hk⟩
      · exact absurd (if_neg e) z
  · obtain ⟨o, ho⟩ := Option.ne_none_iff_exists'.mp hk
    have e := kin a o ho
    rw [ha] at e
    cases e
    exact main (fun _ => none) (fun _ => .inl rfl) (.inr ⟨_, vs.toArray, _, ho, rfl, rfl, rfl, by rw [List.size_toArray, lenV]; exact hl, by simpa using rv⟩) (fun b u z => nomatch z) fun b z => absurd rfl z
/-- the end of a law row, by what its call comes to -/
theorem walk_at_law {l : PySem.W.OpenLaw} {n : Nat} {q : Program} {loose : List Str} {XP : (Str → Option Value) → Heap → Prop} {YP : World → Heap → Prop} {d : DefRec} {K : Params → PySem.W.Frag}
    (hn : l.most = some n) (hn2 : n ≤ sizeLine) (hdf : d.params.defaults = []) (hY : ∀ (w : World) (h : Heap), YP w h → (K w.params).In h)
    (run : ∀ (w : World) (mg : Str → Option Value) (fa a : Addr) (h : Heap) (ns : List Int) (s : Shared) (base : Heap) (H : Hp), (K w.params).In h → h.Ns mainGlobals mg → mg d.name = some (.ref fa) → ns.length ≤ n → (K w.params).In base → base.Ns mainGlobals mg →
      SqL (K w.params) H a (ns.map V.int) → Env0 l.prog w (K w.params) mg base callerA [] s H → codeAny (model l.prog w) callerA (.call (.ref fa) ⟨[.ref a], []⟩) (CR CX0 [] l.prog w H s (fun v _ => v = .bl true) fun _ _ _ => False) s) :
    PySem.W.WalkO q loose XP YP l.row.toRowW d [] (fun f vs => PySem.call f vs) := by
  refine Att.attach_call hn hdf fun w s₀ s1 mg mb fa o pm cd doc a vs ns G Y ho hd hcd hmg hobj hints hlen hg => ?_
  have kin := hY w _ Y
  exact law_at kin G.T.g G.T.b G.T.builtins G.T.nolimit hg hobj hints (Nat.le_trans hlen hn2) fun base H k2 n2 sq e0 => run w mg fa a _ ns s1 base H kin G.T.g hmg hlen k2 n2 sq e0
end Tg
set_option Elab.async false
set_option linter.all false
set_option maxRecDepth 100000
set_option maxHeartbeats 1000000
/-! Tg, objects: fields, methods, making; written dicts; further words. -/
namespace Tg
open PySem L2 PyProof.Rows
section
variable {K : PySem.W.Frag} {G G' H H' : Hp} {M M1 M2 R : Mu}
def putFD (f : Str) (v : D) : List (Str × D) → List (Str × D)
  | [] => [(f, v)]
  | (g, x) :: r => if g = f then (g, v) :: r else (g, x) :: putFD f v r
theorem repKV_putF {f : Str} {d : D} {v : V} (hv : Rep K G d v) : ∀ {ds : List (Str × D)} {xs : List (Str × V)}, RepKV K G ds xs → RepKV K G (putFD f d ds) (putF f v xs)
  | [], _, h => by
    unfold RepKV at h
    rw [h]
    show RepKV K G [(f, d)] [(f, v)]
    unfold RepKV
    exact ⟨v, [], rfl, hv, by unfold RepKV; rfl⟩
  | (g, e) :: ds, _, h => by
    unfold RepKV at h
    obtain ⟨x, r, q, s, t⟩ := h
    subst q
    show RepKV K G (if g = f then (g, d) :: ds else (g, e) :: putFD f d ds) (if g = f then (g, v) :: r else (g, x) :: putF f v r)
    by_cases c : g = f
    · rw [if_pos c, if_pos c]
      unfold RepKV
      exact ⟨v, r, rfl, hv, t⟩
    · rw [if_neg c, if_neg c]
      unfold RepKV
      exact ⟨x, _, rfl, s, repKV_putF hv t⟩
theorem repKV_no {f : Str} : ∀ {ds : List (Str × D)} {xs : List (Str × V)}, RepKV K G ds xs → ds.lookup f = none → xs.lookup f = none
  | [], _, h, _ => by
    unfold RepKV at h
    rw [h]
    rfl
  | (g, e) :: ds, _, h, l => by
    unfold RepKV at h
    obtain ⟨x, r, q, s, t⟩ := h
    subst q
    unfold List.lookup at l ⊢
    cases c : (f == g) with
    | true => rw [c] at l; cases l
    | false =>
      rw [c] at l
      exact repKV_no t l
/-- an object that nobody speaks of -/
theorem S.junk (s : S K G H M) {p : Addr} {o : HO} (hp : H p = none) : S K G (upd H p o) M ∧ Step (ads M) G H (ads M) G (upd H p o) := by
  have gp : G p = none := s.same.free hp
  refine ⟨⟨fun b u e => ?_, fun q hq => ?_, s.nd⟩, ⟨Same.refl G, fun b hb _ => rfl, fun b u _ e => ?_, fun b e => ?_, fun b hb => .inl hb⟩⟩
  · rw [upd_ne (ne_of_none e gp)]
    exact s.same b u e
  · obtain ⟨g1, o1, h1, r1⟩ := s.mu q hq
    exact ⟨g1, o1, by rw [upd_ne (ne_of_none h1 hp)]; exact h1, r1⟩
  · rw [upd_ne (ne_of_none e hp)]
    exact e
  · by_cases hb : b = p
    · subst hb
      rw [upd_same]
      exact fun z => nomatch z
    · rw [upd_ne hb]
      exact e
theorem S.perm (s : S K G H M) (h : M.Perm M') : S K G H M' := ⟨s.same, fun p hp => s.mu p (h.mem_iff.mpr hp), (h.map (·.1)).nodup_iff.mp s.nd⟩
theorem Step.perm {A B A' B' : List Addr} (st : Step A G H A' G' H') (h : ∀ b, b ∈ A ↔ b ∈ B) (h' : ∀ b, b ∈ A' ↔ b ∈ B') : Step B G H B' G' H' :=
  ⟨st.gg, fun b hb n => st.fr b hb fun z => n ((h b).mp z), fun b o n e => st.keep b o (fun z => n ((h b).mp z)) e, st.alive, fun b hb => by
    rcases st.own b ((h' b).mpr hb) with q | q
    · exact .inl ((h b).mp q)
    · exact .inr q⟩
theorem ads_perm {M M' : Mu} (h : M.Perm M') : ∀ b, b ∈ ads M ↔ b ∈ ads M' := fun b => (h.map (·.1)).mem_iff
end
section
variable {K : PySem.W.Frag} {δ : DS} {M : Mu} {ta tb te to ti tv : TE} {k : D → Mu → Prop} {i : Nat} {d x y : D} {A : AEnds} {t u : TS} {f m : Str} {C : Addr}
/-! ### fields -/
theorem ae_fld (h : AE K te δ M fun x M1 => ∃ a C dx fs d N1 N2, x = .ref a ∧ M1 = N1 ++ (a, MO.ins C dx fs) :: N2 ∧ Cls K C ∧ NoAttr K C f ∧ fs.lookup f = some d ∧ k d M1) : AE K (tFld K te f) δ M k := fun σ G H Q rs s f' =>
  h σ G H _ rs s fun x M1 vx G1 H1 ⟨a, C, dx, fs, d, N1, N2, e1, e2, c, n, l, q⟩ s1 st1 r1 => by
    subst e1
    obtain ⟨g0, o, ho, ps, rfl, rk⟩ := s1.mu (a, .ins C dx fs) (by rw [e2]; simp)
    obtain ⟨v, lv, rv⟩ := repKV_look rk l
    exact ⟨a, C, dx, ps, v, rep_ref r1, ho, c, n, lv, f' d M1 v G1 H1 q s1 st1 rv⟩
theorem as_sfld (h : AE K tv δ M fun y M1 => AE K te δ M1 fun x M2 => ∃ a C dx fs N1 N2, x = .ref a ∧ M2 = N1 ++ (a, MO.ins C dx fs) :: N2 ∧ Cls K C ∧ NoAttr K C f ∧ fs.length < 1000 ∧ A.nx δ (N1 ++ (a, MO.ins C dx (putFD f y fs)) :: N2)) : AS K (sFld K te tv f) δ M A := fun σ G H E rs s ft =>
  h σ G H _ rs s fun y M1 vy G1 H1 h1 s1 st1 r1 => h1 σ G1 H1 _ (rs.mono st1.gg) s1 fun x M2 vx G2 H2 ⟨a, C, dx, fs, N1, N2, e1, e2, c, n, l, q⟩ s2 st2 r2 => by
    subst e1 e2
    obtain ⟨g0, o, ho, ps, rfl, rk⟩ := s2.mu (a, .ins C dx fs) (by simp)
    obtain ⟨s3, st3⟩ := s2.write (o := .ins C dx (putF f vy ps)) (m' := .ins C dx (putFD f y fs)) ⟨_, rfl, repKV_putF (Rep.mono st2.gg _ _ r1) rk⟩
    exact ⟨a, C, dx, ps, rep_ref r2, ho, c, n, by rw [repKV_len rk]; exact l, ft.nx _ _ _ _ _ q (rs.mono (st1.trans st2).gg) s3 ((st1.trans st2).trans st3)⟩
/-- self.f += e, of ints -/
theorem as_sfldaug (h : AE K te δ M fun x M1 => ∃ a C dx fs j, x = .ref a ∧ (∃ N1 N2, M1 = N1 ++ (a, MO.ins C dx fs) :: N2) ∧ Cls K C ∧ NoAttr K C f ∧ fs.lookup f = some (.int j) ∧
      AE K tv δ M1 fun y M2 => ∃ b fs' N1 N2, y = .int b ∧ M2 = N1 ++ (a, MO.ins C dx fs') :: N2 ∧ fs'.length < 1000 ∧ A.nx δ (N1 ++ (a, MO.ins C dx (putFD f (.int (j + b)) fs')) :: N2)) : AS K (sFldAug K te tv rAdd f) δ M A := fun σ G H E rs s ft =>
  h σ G H _ rs s fun x M1 vx G1 H1 ⟨a, C, dx, fs, j, e1, ⟨N1, N2, e2⟩, c, n, l, h1⟩ s1 st1 r1 => by
    subst e1
    obtain ⟨g0, o, ho, ps, rfl, rk⟩ := s1.mu (a, .ins C dx fs) (by rw [e2]; simp)
    obtain ⟨v, lv, rv⟩ := repKV_look rk l
    refine ⟨a, C, dx, ps, v, rep_ref r1, ho, c, n, lv, h1 σ G1 H1 _ (rs.mono st1.gg) s1 ?_⟩
    rintro y M2 vy G2 H2 ⟨b, fs', P1, P2, rfl, rfl, l', q⟩ s2 st2 r2
    obtain ⟨g0', o', ho', ps', rfl, rk'⟩ := s2.mu (a, .ins C dx fs') (by simp)
    obtain ⟨s3, st3⟩ := s2.write (o := .ins C dx (putF f (.int (j + b)) ps')) (m' := .ins C dx (putFD f (.int (j + b)) fs')) ⟨_, rfl, repKV_putF rep_of_int rk'⟩
    exact ⟨j, b, rep_int rv, rep_int r2, dx, ps', ho', by rw [repKV_len rk']; exact l', ft.nx _ _ _ _ _ q (rs.mono (st1.trans st2).gg) s3 ((st1.trans st2).trans st3)⟩
/-! ### methods -/
theorem ae_meth {W : Wt} {E : XK} {ts : TA} (h : AE K te δ M fun x M1 => ∃ a dx fs, x = .ref a ∧ (∃ N1 N2, M1 = N1 ++ (a, MO.ins C dx fs) :: N2) ∧ fs.lookup m = none ∧
      AA K ts δ M1 fun ds M2 => ∃ Mc R kc, M2 = Mc ++ R ∧ W (.ref a :: ds) Mc kc ∧ ∀ d Mc', kc d Mc' → k d (Mc' ++ R)) : AE K (tMeth C m (Spc K W) [] E te ts) δ M k := fun σ G H Q rs s f' =>
  h σ G H _ rs s fun x M1 vx G1 H1 ⟨a, dx, fs, e1, ⟨N1, N2, e2⟩, l, h1⟩ s1 st1 r1 => by
    subst e1
    obtain ⟨g0, o, ho, ps, rfl, rk⟩ := s1.mu (a, .ins C dx fs) (by rw [e2]; simp)
    refine ⟨a, dx, ps, rep_ref r1, ho, repKV_no rk l, h1 σ G1 H1 _ (rs.mono st1.gg) s1 ?_⟩
    rintro ds M2 vs G2 H2 ⟨Mc, R, kc, rfl, hw, hk⟩ s2 st2 r2
    rw [rep_ref r1, List.append_nil]
    refine ⟨G2, _, Mc, kc, Reps.cons rep_of_ref r2, s2.sub, hw, fun d M' v G' H' hd s' st' rv => ?_⟩
    obtain ⟨s3, st3⟩ := s2.join s' st'
    exact f' d _ v G' H' (hk d M' hd) s3 ((st1.trans st2).trans st3) rv
/-- C(..): the new object stands first -/
theorem ae_make {W : Wt} {E : XK} {ts : TA} (h : AA K ts δ M fun ds M1 => ∀ x dx, ∃ kc, W (.ref x :: ds) [(x, MO.ins C dx [])] kc ∧ ∀ d Mc', kc d Mc' → d = .non ∧ k (.ref x) (Mc' ++ M1)) : AE K (tMake C (Spc K W) [] E ts) δ M k := fun σ G H Q rs s f' =>
  h σ G H _ rs s fun ds M1 vs G1 H1 h1 s1 st1 r1 x dx nx nd ne => by
    obtain ⟨kc, hw, hk⟩ := h1 x dx
    obtain ⟨s2, st2⟩ := s1.junk (o := .own x) nd
    have nx' : upd H1 dx (.own x) x = none := by rw [upd_ne (Ne.symm ne)]; exact nx
    obtain ⟨s3, st3⟩ := s2.fresh (m := .ins C dx []) (o := .ins C dx []) nx' ⟨[], rfl, by unfold RepKV; rfl⟩
    have hp : (M1 ++ [(x, MO.ins C dx [])]).Perm ([(x, MO.ins C dx [])] ++ M1) := List.perm_append_comm
    have s4 := s3.perm hp
    rw [List.append_nil]
    refine ⟨G1, _, [(x, .ins C dx [])], kc, Reps.cons rep_of_ref r1, s4.sub, hw, fun d M' v G' H' hd s' st' rv => ?_⟩
    obtain ⟨e, q⟩ := hk d M' hd
    subst e
    obtain ⟨s5, st5⟩ := s4.join s' st'
    have st35 := (st3.perm (fun _ => Iff.rfl) (ads_perm hp)).trans st5
    exact ⟨rep_non rv, f' _ _ _ G' H' q s5 ((st1.trans st2).trans st35) rep_of_ref⟩
end
/-! ### the same with K as it stands -/
section
variable {X : Cx} {K : PySem.W.Frag} {o e value : Expr} {f : Str} {pos pos' tpos : Pos} {ta tv : TE}
theorem fld_K (he : PE X o ta) (h : X.K = K := by rfl) (hb : attributeBase o f X.env (eval o X.env) = eval o X.env := by rfl) : PE X (.Attribute o f pos) (tFld K ta f) := h ▸ pe_fld he hb
theorem sfld_K (ha : PE X o ta) (hv : PE X value tv) (h : X.K = K := by rfl) (hs : swapsWith value (some (.Attribute o f pos')) pos.line X.env = pure false := by rfl) : PS X (.Assign [.Attribute o f pos'] value pos) (sFld K ta tv f) := h ▸ ps_fld ha hv hs
theorem sfldaug_K (ha : PE X o ta) (hv : PE X value tv) (h : X.K = K := by rfl) : PS X (.AugAssign (.Attribute o f tpos) .Add value pos) (sFldAug K ta tv rAdd f) := h ▸ ps_fldaug ha hv in_add
end
/-! ### further words -/
/-- x in y: a sign in a text, a text in a text, an item in a list or tuple -/
def rInU (K : PySem.W.Frag) : R2 := fun x y H Q => (∃ (c : Nat) (z : Str), x = .str ⟨#[c]⟩ ∧ y = .str z ∧ Q (.bl (decide (c ∈ z.cps.toList))) H) ∨ ((∃ i j, x = .str i ∧ y = .str j ∧ Q (.bl (!(Builtin.Str.occurrences j i 0 j.length 1).isEmpty)) H) ∨ rIn K false x y H Q)
def rNotInU (K : PySem.W.Frag) : R2 := fun x y H Q => (∃ (c : Nat) (z : Str), x = .str ⟨#[c]⟩ ∧ y = .str z ∧ Q (.bl (!decide (c ∈ z.cps.toList))) H) ∨ ((∃ i j, x = .str i ∧ y = .str j ∧ Q (.bl (!(!(Builtin.Str.occurrences j i 0 j.length 1).isEmpty))) H) ∨ rIn K true x y H Q)
/-- int(x) of a bool -/
def rMulS : R2 := fun x y H Q => ∃ (z : Str) (n : Int), x = .str z ∧ y = .int n ∧ MulOk z n ∧ Q (.str (Txt.mul z n)) H
section
variable {X : Cx} {K : PySem.W.Frag}
theorem in_K (h : X.K = K := by rfl) : OpR X (compareOp .In) (rInU K) := h ▸ op_in_sign.or (op_in_str.or op_in_seq)
theorem notin_K (h : X.K = K := by rfl) : OpR X (compareOp .NotIn) (rNotInU K) := h ▸ op_notIn_sign.or (op_notIn_str.or op_notIn_seq)
theorem op_mulS : OpR X (binaryOp .Mult) rMulS := by
  intro pins s σ H x y v u Q I rx ry h
  obtain ⟨z, n, rfl, rfl, ok, q⟩ := h
  obtain ⟨t, rfl⟩ := rx
  obtain ⟨t', rfl⟩ := ry
  exact SB.mul ok fun t'' k => ⟨.str (Txt.mul z n), H, I.tok _, ⟨_, rfl⟩, q⟩
/-- an item of a list, to be changed in place -/
theorem get_list (h : X.K = K := by rfl) : PGet X (rIxL K) := by
  subst h
  intro pins s σ H x y v u Q I rx ry h
  obtain ⟨p, xs, i, z, rfl, rfl, hq, he, q⟩ := h
  cases rx
  obtain ⟨t, rfl⟩ := ry
  obtain ⟨its, r, pl, hz⟩ := I.list hq
  obtain ⟨j, h1, h2, h3, h4, h5⟩ := atI_get he
  obtain ⟨w, ew, rw'⟩ := r.get h2
  have hl := r.length
  have hn := line63
  have fin : EP X pins σ Q w s := ⟨z, H, I, rw', q⟩
  by_cases h0 : 0 ≤ i
  · have hj : i.toNat = j := by
      rw [seqIndex_of h0 h5] at h1
      exact Option.some.inj h1
    exact wpAny_getItem_list pl.isList h0 (by omega) (by rw [hj]; simpa using ew) fin
  · have hj : (i + (its.toArray.size : Int)).toNat = j := by
      rw [seqIndex_neg (by omega) h4] at h1
      rw [List.size_toArray, ← hl]
      exact Option.some.inj h1
    exact wpAny_getItem_list_neg pl.isList (by omega) (by rw [List.size_toArray] <;> omega) (by omega) (by rw [hj]; simpa using ew) fin
end
/-! ### written dicts: texts by texts -/
def Ents : List DictEntry → List (Str × Str) → Prop
  | [], kvs => kvs = []
  | e :: r, kvs => ∃ k v s t u, kvs = (k, v) :: s ∧ e.key = .str k t ∧ e.val = .str v u ∧ Ents r s
structure KTab (K : PySem.W.Frag) (w : World) (a : Addr) (kvs : List (Str × Str)) : Prop where
  ex : ∃ es n, K.lookup a = some ⟨.type "dict", none, .dict es n, #[]⟩ ∧ PySem.W.KeysLit w.params es.toList ∧ Ents es.toList kvs
  low : (a == sysModules) = false
theorem Ents.look : ∀ {es : List DictEntry} {kvs : List (Str × Str)}, Ents es kvs → ∀ z : Str, es.any (·.refKey) = false ∧ ((kvs.lookup z = none ∧ es.find? (·.key.isStr z) = none) ∨ ∃ e v u, kvs.lookup z = some v ∧ es.find? (·.key.isStr z) = some e ∧ e.val = .str v u)
  | [], _, h, z => by
    unfold Ents at h
    subst h
    exact ⟨rfl, .inl ⟨rfl, rfl⟩⟩
  | e :: r, _, h, z => by
    unfold Ents at h
    obtain ⟨k, v, s, t, u, rfl, e1, e2, h⟩ := h
    obtain ⟨i1, i2⟩ := Ents.look h z
    have r1 : e.refKey = false := by
      unfold DictEntry.refKey
      rw [e1]
    refine ⟨by rw [List.any_cons, r1, i1]; rfl, ?_⟩
    have r2 : e.key.isStr z = (k == z) := by rw [e1]; rfl
    by_cases c : k = z
    · subst c
      have hb : (k == k) = true := beq_self_eq_true k
      exact .inr ⟨e, v, u, by simp [List.lookup, hb], by rw [List.find?_cons, r2, hb], e2⟩
    · have hb : (k == z) = false := beq_eq_false_iff_ne.mpr c
      have hb' : (z == k) = false := beq_eq_false_iff_ne.mpr (Ne.symm c)
      rcases i2 with ⟨i3, i4⟩ | ⟨e', v', u', i3, i4, i5⟩
      · exact .inl ⟨by simp [List.lookup, hb', i3], by rw [List.find?_cons, r2, hb]; exact i4⟩
      · exact .inr ⟨e', v', u', by simp [List.lookup, hb', i3], by rw [List.find?_cons, r2, hb]; exact i4, i5⟩
theorem KTab.ns {K : PySem.W.Frag} {w : World} {a : Addr} {kvs : List (Str × Str)} (h : KTab K w a kvs) (z : Str) : ∃ es n, K.lookup a = some ⟨.type "dict", none, .dict es n, #[]⟩ ∧ PySem.W.KeysLit w.params es.toList ∧
    ((kvs.lookup z = none ∧ PySem.W.nsIn K a z = some none) ∨ ∃ v u, kvs.lookup z = some v ∧ PySem.W.nsIn K a z = some (some (.str v u))) := by
  obtain ⟨es, n, h1, h2, h3⟩ := h.ex
  refine ⟨es, n, h1, h2, ?_⟩
  obtain ⟨g1, g2⟩ := h3.look z
  unfold PySem.W.nsIn
  rw [h1]
  dsimp only
  rcases g2 with ⟨g2, g3⟩ | ⟨e, v, u, g2, g3, g4⟩
  · rw [g3]
    dsimp only
    rw [g1]
    exact .inl ⟨g2, rfl⟩
  · rw [g3]
    dsimp only
    rw [g4]
    exact .inr ⟨v, u, g2, rfl⟩
def optS : Option Str → D
  | none => .non
  | some z => .str z
/-- d.get(z) -/
def tKGet1 (K : PySem.W.Frag) (w : World) (td ty : TE) : TE := fun σ H Q => td σ H fun x H1 => ∃ a kvs, x = .ref a ∧ KTab K w a kvs ∧ ty σ H1 fun y H2 => ∃ z, y = .str z ∧ Q (match kvs.lookup z with | none => .non | some v => .str v) H2
section
variable {X : Cx} {K : PySem.W.Frag} {w : World} {o e : Expr} {apos cpos : Pos} {td ty : TE}
theorem kget1 (ho : PE X o td) (he : PE X e ty) (m : M1 X o "get" apos e cpos) : PE X (.Call (.Attribute o "get" apos) [e] [] cpos) (tKGet1 X.K X.w td ty) := by
  refine ⟨fun pins s σ H Q I h => ?_⟩
  refine wpAny_Call_method m.base m.few m.line PySem.F.plainAttrs_dict PySem.F.slot_dict_get PySem.F.type_dict_get (thn (ho.run pins s σ H _ I h) fun u s1 ⟨x, H1, I1, rx, a, kvs, ex, d, q1⟩ => ?_)
  subst ex
  obtain rfl : u = Value.ref a := rx
  have low := d.low
  obtain ⟨es, n, h1, h2, _⟩ := d.ex
  have hm1 := PySem.W.mapOf_K (prog := X.prog) (w := X.w) I1.kIn h1 h2
  refine ⟨hm1.typeIs, fun b q => ?_, ?_⟩
  · cases q
    exact ⟨_, I1.kIn _ _ h1, rfl⟩
  rw [m.trees]
  refine Calls.callWith_builtin rfl (Calls.evalArgs_plain (Calls.spliced_cons (thn (he.run pins s1 σ H1 _ I1 q1) fun iv s2 ⟨y, H2, I2, ry, z, ey, q2⟩ => Calls.spliced_nil ?_)))
  subst ey
  obtain ⟨t, rfl⟩ := (show ∃ t, iv = Value.str z t from ry)
  obtain ⟨es', n', h1', h2', hz⟩ := d.ns z
  have hm := PySem.W.mapOf_K (prog := X.prog) (w := X.w) I2.kIn h1' h2'
  refine call_meetsIn PySem.F.slot_dict_get hm.typeIs PySem.F.entry_dict_get (PySem.F.args_dict_get_2 _ _) (meets_dict_get (strKind X.prog X.w) a (strKind_is X.prog X.w z t) low) ⟨_, hm, ?_⟩
  rcases hz with ⟨z1, z2⟩ | ⟨v, u, z1, z2⟩
  · rw [z1] at q2
    rw [PySem.W.find_K h1' z2]
    exact ⟨.non, H2, I2.tok _, rfl, q2⟩
  · rw [z1] at q2
    rw [PySem.W.find_K h1' z2]
    exact ⟨.str v, H2, I2.tok _, ⟨_, rfl⟩, q2⟩
theorem kget1_K (ho : PE X o td) (he : PE X e ty) (m : M1 X o "get" apos e cpos) (h : X.K = K := by rfl) (h2 : X.w = w := by rfl) : PE X (.Call (.Attribute o "get" apos) [e] [] cpos) (tKGet1 K w td ty) := h ▸ h2 ▸ kget1 ho he m
theorem kix_K (h : X.K = K := by rfl) (h2 : X.w = w := by rfl) : IxR X (rIxD K w) := h ▸ h2 ▸ ix_kdict
end
section
variable {K : PySem.W.Frag} {w : World} {δ : DS} {M : Mu} {ta tb te to ti tv : TE} {k : D → Mu → Prop} {i : Nat} {d x y : D}
theorem ae_kget1 {td ty : TE} (h : AE K td δ M fun x M1 => ∃ a kvs, x = .ref a ∧ KTab K w a kvs ∧ AE K ty δ M1 fun y M2 => ∃ z, y = .str z ∧ k (optS (kvs.lookup z)) M2) : AE K (tKGet1 K w td ty) δ M k := fun σ G H Q rs s f =>
  h σ G H _ rs s fun x M1 vx G1 H1 ⟨a, kvs, e1, tab, h1⟩ s1 st1 r1 => by
    subst e1
    refine ⟨a, kvs, rep_ref r1, tab, h1 σ G1 H1 _ (rs.mono st1.gg) s1 ?_⟩
    rintro y M2 vy G2 H2 ⟨z, rfl, q⟩ s2 st2 r2
    refine ⟨z, rep_str r2, ?_⟩
    cases e : kvs.lookup z with
    | none =>
      rw [e] at q
      exact f _ M2 _ G2 H2 q s2 (st1.trans st2) rep_of_non
    | some v =>
      rw [e] at q
      exact f _ M2 _ G2 H2 q s2 (st1.trans st2) rep_of_str
theorem ar_kix {a : Addr} {kvs : List (Str × Str)} {z v : Str} (tab : KTab K w a kvs) (h : kvs.lookup z = some v) (q : k (.str v) M) : AR K (rIxD K w) (.ref a) (.str z) M k := fun vx vy G H Q rx ry s f => by
  obtain ⟨es, n, h1, h2, hz⟩ := tab.ns z
  rcases hz with ⟨z1, _⟩ | ⟨v', u, z1, z2⟩
  · rw [h] at z1; cases z1
  · rw [h] at z1
    cases z1
    exact ⟨a, z, .str v, rep_ref rx, rep_str ry, ⟨es, n, _, h1, h2, z2, ⟨_, rfl⟩⟩, f _ M _ G H q s Step.refl rep_of_str⟩
/-! ### in -/
theorem ain_sign {c : Nat} {l : List Nat} (q : k (.bl (decide (c ∈ l))) M) : AR K (rInU K) (.str (tx [c])) (.str (tx l)) M k := fun vx vy G H Q rx ry s f => .inl ⟨c, tx l, rep_str rx, rep_str ry, f _ M _ G H (by rw [tx_cps]; exact q) s Step.refl rep_of_bl⟩
theorem anin_sign {c : Nat} {l : List Nat} (q : k (.bl (!decide (c ∈ l))) M) : AR K (rNotInU K) (.str (tx [c])) (.str (tx l)) M k := fun vx vy G H Q rx ry s f => .inl ⟨c, tx l, rep_str rx, rep_str ry, f _ M _ G H (by rw [tx_cps]; exact q) s Step.refl rep_of_bl⟩
theorem ain_text {a b : Str} (q : k (.bl (!(Builtin.Str.occurrences b a 0 b.length 1).isEmpty)) M) : AR K (rInU K) (.str a) (.str b) M k := fun vx vy G H Q rx ry s f => .inr (.inl ⟨a, b, rep_str rx, rep_str ry, f _ M _ G H q s Step.refl rep_of_bl⟩)
theorem inV_strs {z : Str} : ∀ {ss : List Str}, inV (.str z) (ss.map V.str) = decide (z ∈ ss)
  | [] => rfl
  | a :: ss => by
    have ih := inV_strs (z := z) (ss := ss)
    unfold inV at ih ⊢
    rw [List.map_cons, List.any_cons, ih]
    show (a == z || decide (z ∈ ss)) = _
    by_cases c : a = z
    · subst c; simp
    · have hb : (a == z) = false := beq_eq_false_iff_ne.mpr c
      rw [hb]
      simp [Ne.symm c]
theorem flat_strs : ∀ {ss : List Str}, (ss.map V.str).all flatV = true
  | [] => rfl
  | a :: ss => by
    rw [List.map_cons, List.all_cons, flat_strs]
    rfl
theorem ain_tup {z : Str} {ss : List Str} (q : k (.bl (decide (z ∈ ss))) M) : AR K (rInU K) (.str z) (.tup (ss.map D.str)) M k := fun vx vy G H Q rx ry s f => by
  obtain ⟨a, xs, rfl, ha, rx'⟩ := rep_tup ry
  have e := rx'.strs
  subst e
  refine .inr (.inr ⟨a, _, rfl, .inr (Same.seqT s.same ha), by rw [rep_str rx]; rfl, flat_strs, ?_⟩)
  rw [rep_str rx, if_neg Bool.false_ne_true, inV_strs]
  exact f _ M _ G H q s Step.refl rep_of_bl
theorem anin_tup {z : Str} {ss : List Str} (q : k (.bl (!decide (z ∈ ss))) M) : AR K (rNotInU K) (.str z) (.tup (ss.map D.str)) M k := fun vx vy G H Q rx ry s f => by
  obtain ⟨a, xs, rfl, ha, rx'⟩ := rep_tup ry
  have e := rx'.strs
  subst e
  refine .inr (.inr ⟨a, _, rfl, .inr (Same.seqT s.same ha), by rw [rep_str rx]; rfl, flat_strs, ?_⟩)
  rw [rep_str rx, if_pos rfl, inV_strs]
  exact f _ M _ G H q s Step.refl rep_of_bl
/-! ### texts -/
/-- a text, many times -/
def repL (n : Nat) (l : List Nat) : List Nat := (List.replicate n l).flatten
theorem foldl_app : ∀ (n : Nat) (l : List Nat) (acc : Array Nat), ((List.replicate n l.toArray).foldl (· ++ ·) acc) = acc ++ (repL n l).toArray
  | 0, l, acc => by simp [repL]
  | n + 1, l, acc => by
    rw [List.replicate_succ, List.foldl_cons, foldl_app n l]
    simp [repL, List.replicate_succ]
theorem mul_tx (l : List Nat) (n : Nat) : Txt.mul (tx l) (n : Int) = tx (repL n l) := by
  unfold Txt.mul
  by_cases h : (n : Int) < 1
  · have e : n = 0 := by omega
    subst e
    rfl
  · rw [if_neg h]
    split
    · rename_i c
      rw [Bool.or_eq_true] at c
      rcases c with c | c
      · have e : (n : Int) = 1 := by simpa using c
        have e' : n = 1 := by omega
        subst e'
        simp [repL]
      · have e : (tx l).length = 0 := by simpa using c
        rw [tx_len] at e
        have e' : l = [] := List.length_eq_zero_iff.mp e
        subst e'
        have : repL n ([] : List Nat) = [] := by simp [repL]
        rw [this]
    · show (⟨(List.replicate (n : Int).toNat (tx l).cps).foldl (· ++ ·) #[]⟩ : Str) = _
      have e : (tx l).cps = l.toArray := rfl
      rw [e, Int.toNat_natCast, foldl_app]
      simp [tx]
theorem ar_mulS {l : List Nat} {n : Nat} (hl : l.length ≤ 1000) (hn : n ≤ 1000) (q : k (.str (tx (repL n l))) M) : AR K rMulS (.str (tx l)) (.int n) M k := fun vx vy G H Q rx ry s f => by
  refine ⟨tx l, (n : Nat), rep_str rx, rep_int ry, ⟨?_, ?_, ?_⟩, ?_⟩
  · rw [Bool.or_eq_false_iff]
    exact ⟨decide_eq_false (by omega), decide_eq_false (by omega)⟩
  · intro h1 _
    rw [tx_len]
    have h2 : (1000 : Int) ≤ (2 ^ 63 - 1) / (n : Int) := by
      rw [Int.le_ediv_iff_mul_le (by omega)]
      omega
    omega
  · intro h1 _
    rw [tx_len, Int.toNat_natCast]
    have h3 : l.length * n ≤ 1000 * 1000 := Nat.mul_le_mul hl hn
    have hsz := sizeLine_eq
    exact decide_eq_false (by omega)
  · rw [mul_tx]
    exact f _ M _ G H q s Step.refl rep_of_str
/-- int(flag) -/
theorem ac_intB {b : Bool} (q : k (.int (if b then 1 else 0)) M) : AC K rIntU [.bl b] M k := fun vs G H Q rx s f => by
  obtain ⟨v, r, rfl, r1, r2⟩ := rx.uncons
  unfold Reps at r2
  subst r2
  exact .inr ⟨b, by rw [rep_bl r1], f _ M _ G H q s Step.refl rep_of_int⟩
/-- sep.join of texts -/
def joinL (a : List Nat) : List (List Nat) → List Nat
  | [] => []
  | [l] => l
  | l :: m :: r => l ++ a ++ joinL a (m :: r)
theorem repl_E : True := True.intro
end
end Tg
set_option Elab.async false
set_option linter.all false
set_option maxRecDepth 100000
set_option maxHeartbeats 1000000
/-! Tg, further words: join with a separator, extend by a tuple, insert, index, an item changed in place, a written display. -/
namespace Tg
open PySem L2 PyProof.Rows
section
variable {K : PySem.W.Frag} {w : World} {δ : DS} {M : Mu} {ta tb te to ti tv : TE} {k : D → Mu → Prop} {i : Nat} {d x y : D} {A : AEnds}
theorem tx_joinS (a : List Nat) : ∀ ls : List (List Nat), Str.join (tx a) (ls.map tx) = tx (joinL a ls)
  | [] => rfl
  | [l] => rfl
  | l :: m :: r => by
    show tx l ++ tx a ++ Str.join (tx a) ((m :: r).map tx) = _
    rw [tx_joinS a (m :: r), tx_app, tx_app]
    rfl
theorem am_joinS {a : List Nat} {ls : List (List Nat)} (hz : (ls.map (·.length)).sum + ls.length * a.length ≤ 16777216) (q : k (.str (tx (joinL a ls))) M) : AM K (rJoin K) (.str (tx a)) [.lst (ls.map fun l => .str (tx l))] M k := fun vx vs G H Q rx rxs s f => by
  obtain ⟨v, r, rfl, r1, rr⟩ := rxs.uncons
  unfold Reps at rr
  subst rr
  obtain ⟨b, ys, rfl, hb, r2⟩ := rep_lst r1
  have e : ys = (ls.map tx).map V.str := by
    have h2 : ls.map (fun l => D.str (tx l)) = (ls.map tx).map D.str := by simp
    rw [h2] at r2
    exact r2.strs
  refine ⟨tx a, b, ls.map tx, rep_str rx, rfl, .inl (.inl (.inl (by rw [← e]; exact s.same _ _ hb))), ?_, ?_⟩
  · have h1 : ((ls.map tx).map (·.length)) = ls.map (·.length) := by
      rw [List.map_map]
      exact List.map_congr_left fun l _ => tx_len l
    rw [h1, tx_len, List.length_map]
    exact hz
  · have e2 : Txt.join (tx a) (ls.map tx) = tx (joinL a ls) := by rw [TL.join_eq, tx_joinS]
    rw [e2]
    exact f _ M _ G H q s Step.refl rep_of_str
/-! ### extend by a tuple -/
def rExtendT (K : PySem.W.Frag) : V → List V → Hp → VK → Prop := fun x vs H Q => ∃ l b xs zs, x = .ref l ∧ vs = [.ref b] ∧ H l = some (.lst xs) ∧ SqT K H b zs ∧ xs.length + zs.length ≤ sizeLine ∧ Q .non (upd H l (.lst (xs ++ zs)))
def rExtendU (K : PySem.W.Frag) : V → List V → Hp → VK → Prop := fun x vs H Q => rExtend x vs H Q ∨ rExtendT K x vs H Q
end
section
variable {X : Cx} {K : PySem.W.Frag}
theorem list_extend_tup (l : Addr) (items : Array Value) (n : Nat) (b : Addr) (items2 : Array Value) (n2 : Nat) (dd : Option Addr) (sl : Array (Option Value)) (hs0 : ¬(!items.isEmpty && Builtin.List.listTooLong (items.size + items2.size)) = true) (hs1 : items.size ≤ sizeLine) (hs2 : items.size + items2.size ≤ sizeLine + 1) :
    Meets (Builtin.«list.extend» ⟨[.ref l, .ref b], []⟩) (fun _ R s => s.heap.get? l = some { cls := .type "list", dict := none, data := .seq items n, slots := #[] } ∧ s.heap.get? b = some { cls := .type "tuple", dict := dd, data := .seq items2 n2, slots := sl } ∧ R (.ok (.ret Value.none)) { s with heap := s.heap.update l (Obj.mapSeq fun x => x ++ items2), toks := s.toks }) :=
  .of_wp fun prog w A R s h => by
    obtain ⟨hp, g, d, tk, os⟩ := s; obtain ⟨hl, hb, h⟩ := h; have f1 := AutoSeq1.idx_int; have f2 := AutoSeq1.sub_tuple_tuple; have f3 := AutoSeq1.sub_list_list; have f4 := AutoSeq1.sub_tuple_list; have f5 := AutoSeq1.sub_list_tuple;
    have hz' : (items ++ items2).size ≤ sizeLine + 1 := by rw [Array.size_append]; exact hs2
    wp_walk using (wpAny_updateSeq hl rfl (hz := hs1) (_hz' := hz')), wpAny_loadPart' hl, wpAny_loadPart' hb; exact ⟨_, rfl, h⟩
theorem mt_extendT : MtM X "list.extend" (rExtendT X.K) := by
  intro pins s σ H x vs v us Q I rx rv h
  obtain ⟨l, b, xs, zs, rfl, rfl, hH, hB, hz, q⟩ := h
  cases rx
  obtain ⟨u, rfl, ru⟩ := rv.one
  cases ru
  obtain ⟨z, its, n, r, hl, e⟩ := I.lstM hH
  obtain ⟨its2, r2, ⟨o2, e2, c2, n2, e3⟩, hz2⟩ := I.tuple hB
  obtain ⟨cl, dd, dt, sl⟩ := o2
  cases c2
  cases e3
  have l1 := r.length
  have l2 := r2.length
  have hsz : its.toArray.size + its2.toArray.size ≤ sizeLine := by rw [List.size_toArray, List.size_toArray]; omega
  have hlong : ¬ (!its.toArray.isEmpty && Builtin.List.listTooLong (its.toArray.size + its2.toArray.size)) = true := by
    rw [notLongL hsz, Bool.and_false]
    exact Bool.false_ne_true
  refine call_meets F.slot_list_extend ⟨_, e, rfl⟩ F.entry_list_extend (F.args_list_extend_2 _ _)
    (list_extend_tup l its.toArray n b its2.toArray n2 dd sl hlong (by rw [List.size_toArray]; omega) (by omega)) ⟨e, e2, ?_⟩
  refine ⟨.non, _, I.lset (its' := its ++ its2) hH e (by simp) (r.append r2) ?_, rfl, q⟩
  rw [List.length_append]
  omega
theorem mt_extendU (h : X.K = K := by rfl) : MtM X "list.extend" (rExtendU K) := by
  subst h
  intro pins s σ H x vs v us Q I rx rv h
  rcases h with h | h
  · exact mt_extend pins s σ H x vs v us Q I rx rv h
  · exact mt_extendT pins s σ H x vs v us Q I rx rv h
def rInsert : V → List V → Hp → VK → Prop := fun x vs H Q => ∃ (l : Addr) (xs : List V) (i : Int) (y : V), x = .ref l ∧ vs = [.int i, y] ∧ H l = some (.lst xs) ∧ xs.length < sizeLine ∧ 0 ≤ i ∧ i < 2 ^ 63 ∧ Q .non (upd H l (.lst (xs.take i.toNat ++ [y] ++ xs.drop i.toNat)))
theorem mt_insertU : MtR X "list.insert" rInsert := mt_insert
def rIndex : V → List V → Hp → VK → Prop := fun x xs H Q => ∃ a b i rest, x = .str a ∧ xs = [.str b] ∧ Builtin.Str.occurrences a b 0 a.length 1 = i :: rest ∧ Q (.int (i : Nat)) H
theorem mt_indexU : MtR X "str.index" rIndex := mt_sindex
end
section
variable {K : PySem.W.Frag} {w : World} {δ : DS} {M M1 M2 : Mu} {ta tb te to ti tv : TE} {k : D → Mu → Prop} {i : Nat} {d x y : D} {A : AEnds}
theorem am_extU {a : Addr} {ds es : List D} (e : M = M1 ++ (a, .lst ds) :: M2) (hz : ds.length + es.length ≤ sizeLine) (hx : x = .lst es ∨ x = .tup es) (q : k .non (M1 ++ (a, .lst (ds ++ es)) :: M2)) : AM K (rExtendU K) (.ref a) [x] M k := fun vx vs G H Q rx rxs s f => by
  rcases hx with hx | hx
  · subst hx
    exact .inl (am_extend e hz q vx vs G H Q rx rxs s f)
  · subst hx
    subst e
    obtain ⟨v, r, rfl, r1, rr⟩ := rxs.uncons
    unfold Reps at rr
    subst rr
    obtain ⟨b, ys, rfl, hb, r2⟩ := rep_tup r1
    obtain ⟨g0, o, ho, r⟩ := s.mu (a, .lst ds) (by simp)
    obtain ⟨xs, rfl, rs⟩ := r
    obtain ⟨s2, st2⟩ := s.write (o := .lst (xs ++ ys)) (m' := .lst (ds ++ es)) ⟨_, rfl, rs.append r2⟩
    exact .inr ⟨a, b, xs, ys, rep_ref rx, rfl, ho, Same.seqT s.same hb, by rw [rs.len, r2.len]; exact hz, f _ _ _ _ _ q s2 st2 rep_of_non⟩
theorem am_insert {a : Addr} {ds : List D} {j : Nat} (e : M = M1 ++ (a, .lst ds) :: M2) (hz : ds.length < sizeLine) (hj : j ≤ ds.length) (q : k .non (M1 ++ (a, .lst (ds.take j ++ [d] ++ ds.drop j)) :: M2)) : AM K rInsert (.ref a) [.int j, d] M k := fun vx vs G H Q rx rxs s f => by
  subst e
  obtain ⟨v, r, rfl, r1, rr⟩ := rxs.uncons
  obtain ⟨v2, r', rfl, r2, rr'⟩ := rr.uncons
  unfold Reps at rr'
  subst rr'
  obtain ⟨g0, o, ho, r⟩ := s.mu (a, .lst ds) (by simp)
  obtain ⟨xs, rfl, rs⟩ := r
  have hsz := sizeLine_eq
  obtain ⟨s2, st2⟩ := s.write (o := .lst (xs.take (j : Int).toNat ++ [v2] ++ xs.drop (j : Int).toNat)) (m' := .lst (ds.take j ++ [d] ++ ds.drop j)) ⟨_, rfl, by
    rw [Int.toNat_natCast]
    exact ((Reps.take j rs).append (Reps.one r2)).append (Reps.drop j rs)⟩
  exact ⟨a, xs, j, v2, rep_ref rx, by rw [rep_int r1], ho, by rw [rs.len]; exact hz, by omega, by omega, f _ _ _ _ _ q s2 st2 rep_of_non⟩
theorem am_index {a b : Str} {j : Nat} {rest : List Nat} (h : Builtin.Str.occurrences a b 0 a.length 1 = j :: rest) (q : k (.int (j : Nat)) M) : AM K rIndex (.str a) [.str b] M k := fun vx vs G H Q rx rxs s f => by
  obtain ⟨v, r, rfl, r1, rr⟩ := rxs.uncons
  unfold Reps at rr
  subst rr
  exact ⟨a, b, j, rest, rep_str rx, by rw [rep_str r1], h, f _ M _ G H q s Step.refl rep_of_int⟩
/-- xs[j] op= e -/
theorem as_augL {r : TIp} (h : AE K to δ M fun o M1 => AE K ti δ M1 fun j M2 => ∃ a ds N1 N2 jj n x, o = .ref a ∧ j = .int jj ∧ M2 = N1 ++ (a, MO.lst ds) :: N2 ∧ ixN ds.length jj = some n ∧ ds[n]? = some x ∧
      AE K te δ M2 fun y M3 => AR K r x y M3 fun z M4 => ∃ ds' P1 P2 n', M4 = P1 ++ (a, MO.lst ds') :: P2 ∧ ixN ds'.length jj = some n' ∧ A.nx δ (P1 ++ (a, MO.lst (ds'.set n' z)) :: P2)) : AS K (tAugS to ti te (rIxL K) r rSetL) δ M A := fun σ G H E rs s ft =>
  h σ G H _ rs s fun o M1 vo G1 H1 h1 s1 st1 r1 => h1 σ G1 H1 _ (rs.mono st1.gg) s1 fun j M2 vj G2 H2 h2 s2 st2 r2 => by
    obtain ⟨a, ds, N1, N2, jj, n, x, rfl, rfl, e2, hn, hx, h3⟩ := h2
    obtain ⟨g0, oo, ho, r⟩ := s2.mu (a, .lst ds) (by rw [e2]; simp)
    obtain ⟨xs, rfl, rx⟩ := r
    obtain ⟨vx, ex, rvx⟩ := rx.get hx
    have st12 := st1.trans st2
    refine ⟨a, xs, jj, vx, rep_ref (Rep.mono st2.gg _ _ r1), rep_int r2, .inl (.inl ho), by unfold atI; rw [rx.len, hn]; exact ex, h3 σ G2 H2 _ (rs.mono st12.gg) s2 ?_⟩
    intro y M3 vy G3 H3 h4 s3 st3 r3
    refine h4 vx vy G3 H3 _ (Rep.mono st3.gg _ _ rvx) r3 s3 ?_
    rintro z M4 vz G4 H4 ⟨ds', P1, P2, n', rfl, hn', q⟩ s4 st4 r4
    obtain ⟨g0', oo', ho', r'⟩ := s4.mu (a, .lst ds') (by simp)
    obtain ⟨xs', rfl, rx'⟩ := r'
    obtain ⟨s5, st5⟩ := s4.write (o := .lst (xs'.set n' vz)) (m' := .lst (ds'.set n' z)) ⟨_, rfl, Reps.set rx' r4⟩
    have st := ((st12.trans st3).trans st4).trans st5
    exact ⟨a, xs', jj, n', rep_ref r1, rep_int r2, ho', by rw [rx'.len]; exact hn', ft.nx _ _ _ _ _ q (rs.mono st.gg) s5 st⟩
/-- {'a': 'b', ..}[z] -/
def tDispGet (trs : List (TE × TE)) (ty : TE) : TE := tDGet (tDisp trs) ty
theorem ae_dispGet {kvs : List (Str × Str)} {ty : TE} (hk : kvs.length ≤ 15) (h : AE K ty δ M fun y M2 => ∃ z v, y = .str z ∧ valV (mergeK [] (kvs.map fun p => ((Sum.inr p.1 : Key), V.str p.2))) (Sum.inr z) = some (.str v) ∧ k (.str v) M2) : AE K (tDispGet (kvs.map fun p => (tC (.str p.1), tC (.str p.2))) ty) δ M k := fun σ G H Q rs s f p hp => by
  have all : ∀ (l : List (Str × Str)) (H' : Hp) (R : List (V × V) → Hp → Prop), R (l.map fun p => (V.str p.1, V.str p.2)) H' → tPairs (l.map fun p => (tC (.str p.1), tC (.str p.2))) σ H' R := by
    intro l
    induction l with
    | nil => intro H' R h; exact h
    | cons a l ih => intro H' R h; exact ih H' _ h
  refine all kvs _ _ ⟨upd_same, kvs.map fun p => ((Sum.inr p.1 : Key), V.str p.2), by rw [List.map_map]; rfl, by rw [List.length_map]; exact hk, ?_⟩
  have eH : ∀ o, upd (upd H p (HO.dK [])) p o = upd H p o := fun o => by
    funext b
    by_cases hb : b = p
    · subst hb; rw [upd_same, upd_same]
    · rw [upd_ne hb, upd_ne hb, upd_ne hb]
  rw [eH]
  have hpM : p ∉ ads M := fun z => by
    obtain ⟨q, hq, e⟩ := List.mem_map.mp z
    obtain ⟨_, o, ho, _⟩ := s.mu q hq
    rw [e, hp] at ho
    cases ho
  obtain ⟨s2, st2⟩ := s.junk (o := .dK (mergeK [] (kvs.map fun p => ((Sum.inr p.1 : Key), V.str p.2)))) hp
  refine h σ G _ _ rs s2 ?_
  rintro y M2 vy G2 H2 ⟨z, v, rfl, hv, q⟩ s3 st3 r3
  have hd := st3.keep p _ hpM upd_same
  refine ⟨p, .str v, rfl, ?_, f _ _ _ _ _ q s3 (st2.trans st3) rep_of_str⟩
  rw [rep_str r3, ← hv]
  exact DGet.k (k := Sum.inr z) hd
end
section
variable {X : Cx} {K : PySem.W.Frag}
theorem extU_K {o e : Expr} {es : List Expr} {to : TE} {t : TA} {apos cpos : Pos} (h0 : PE X (.Call (.Attribute o "extend" apos) (e :: es) [] cpos) (tBM X.K "list" (rExtendU X.K) to t)) (h : X.K = K := by rfl) : PE X (.Call (.Attribute o "extend" apos) (e :: es) [] cpos) (tBM K "list" (rExtendU K) to t) := h ▸ h0
theorem ins_K {o e : Expr} {es : List Expr} {to : TE} {t : TA} {apos cpos : Pos} (h0 : PE X (.Call (.Attribute o "insert" apos) (e :: es) [] cpos) (tBM X.K "list" rInsert to t)) (h : X.K = K := by rfl) : PE X (.Call (.Attribute o "insert" apos) (e :: es) [] cpos) (tBM K "list" rInsert to t) := h ▸ h0
theorem dispGet_K {o e : Expr} {trs : List (TE × TE)} {te : TE} {pos : Pos} (hu : X.A.units + 1 < cLine) (h0 : PE X o (tDisp trs)) (h1 : PE X e te) (hs : NoSl e := by exact fun _ _ => rfl) : PE X (.Subscript o e pos) (tDispGet trs te) := pe_dget hu h0 h1 hs
/-- a method of a class -/
structure DefM (K : PySem.W.Frag) (C : Addr) (m qual : Str) (st : Stmt) (ps : List Str) : Prop where
  ex : ∃ f fd, Fun K m qual st f fd ∧ Meth K C m f ∧ Binds K fd ps []
theorem met_of {P : Program} {w : World} {mg : Str → Option Value} {base : Heap} {C : Addr} {m qual : Str} {st : Stmt} {ps : List Str} {k : Nat} {sp : Sp} (c : Cls K C) (D : DefM K C m qual st ps)
    (ok : ∀ f fd, Fun K m qual st f fd → FnOk P w K mg base CX0 k f fd ps sp) : C8.Met P w K mg base k C m sp [] := by
  obtain ⟨f, fd, F, hm, b⟩ := D.ex
  exact ⟨f, fd, ps, [], c, hm, ok f fd F, b, .nil⟩
theorem mak_of {P : Program} {w : World} {mg : Str → Option Value} {base : Heap} {C : Addr} {x qual : Str} {st : Stmt} {ps : List Str} {k : Nat} {sp : Sp} (hm : mg x = some (.ref C)) (h1 : PySem.W.makesIn K C = true) (h2 : PySem.W.keepIn K (.ref C) = true) (D : DefM K C "__init__" qual st ps)
    (ok : ∀ f fd, Fun K "__init__" qual st f fd → FnOk P w K mg base CX0 k f fd ps sp) : C8.Mak P w K mg base k x C sp [] := by
  obtain ⟨f, fd, F, ⟨a1, a2, a3⟩, b⟩ := D.ex
  exact ⟨f, fd, ps, [], ⟨h1, a1, a2, h2⟩, ok f fd F, hm, b, .nil⟩
end
/-! ### constants of the top -/
def StrsV : List Value → List Str → Prop
  | [], ss => match ss with
    | [] => True
    | _ => False
  | v :: r, ss => match ss with
    | [] => False
    | z :: s => (∃ t, v = .str z t) ∧ StrsV r s
theorem StrsV.vals : ∀ {its : List Value} {ss : List Str}, StrsV its ss → Vals (ss.map V.str) its
  | [], [], _ => .nil
  | [], _ :: _, h => h.elim
  | _ :: _, [], h => h.elim
  | v :: r, z :: s, ⟨⟨t, e⟩, h⟩ => .cons ⟨t, e⟩ (StrsV.vals h)
theorem reps_strs {K : PySem.W.Frag} {G : Hp} : ∀ ss : List Str, Reps K G (ss.map D.str) (ss.map V.str)
  | [] => Reps.nil
  | z :: s => Reps.cons rep_of_str (reps_strs s)
theorem rep_gtup {K : PySem.W.Frag} {a : Addr} {dd : Option Addr} {its : List Value} {n : Nat} {sl : Array (Option Value)} {ss : List Str} (hl : K.lookup a = some ⟨.type "tuple", dd, .seq its.toArray n, sl⟩) (hv : StrsV its ss) (hz : its.length ≤ sizeLine := by decide) : ∀ G : Hp, Rep K G (.tup (ss.map D.str)) (.ref a) := fun G =>
  rep_mk_tup (xs := ss.map V.str) (.inr ⟨_, its.toArray, n, hl, rfl, rfl, by simpa using hz, by simpa using hv.vals⟩) (reps_strs ss)
end Tg
set_option Elab.async false
set_option linter.all false
set_option maxRecDepth 100000
set_option maxHeartbeats 1000000
/-! Tg: expressions that may raise; an own error with one field. -/
namespace Tg
open PySem L2 PyProof.Rows
abbrev XS := List (Str × D) → Mu → Prop
/-- as AE, but an error may come out: its fields and what may change (xs), who takes it (W) -/
def AEX (K : PySem.W.Frag) (te : TE) (δ : DS) (M : Mu) (xs : XS) (W : Addr → Hp → Prop) (k : D → Mu → Prop) : Prop := ∀ σ G H Q, RelS K G δ σ → S K G H M →
  (∀ d M' v G' H', k d M' → S K G' H' M' → Step (ads M) G H (ads M') G' H' → Rep K G' d v → Q v H') →
  (∀ fs M' d G' H', xs fs M' → S K G' H' (M' ++ [(d, .xd fs)]) → Step (ads M) G H (ads (M' ++ [(d, .xd fs)])) G' H' → W d H') → te σ H Q
def AAX (K : PySem.W.Frag) (ta : TA) (δ : DS) (M : Mu) (xs : XS) (W : Addr → Hp → Prop) (k : List D → Mu → Prop) : Prop := ∀ σ G H Q, RelS K G δ σ → S K G H M →
  (∀ ds M' vs G' H', k ds M' → S K G' H' M' → Step (ads M) G H (ads M') G' H' → Reps K G' ds vs → Q vs H') →
  (∀ fs M' d G' H', xs fs M' → S K G' H' (M' ++ [(d, .xd fs)]) → Step (ads M) G H (ads (M' ++ [(d, .xd fs)])) G' H' → W d H') → ta σ H Q
section
variable {K : PySem.W.Frag} {δ : DS} {M : Mu} {ta tb te to ti tv : TE} {ts : TA} {k : D → Mu → Prop} {ka : List D → Mu → Prop} {i : Nat} {d x y : D} {A : AEnds} {xs : XS} {W : Addr → Hp → Prop} {C Ce : Addr} {m : Str} {E : XK}
theorem aex_ae (h : AE K te δ M k) : AEX K te δ M xs W k := fun σ G H Q rs s f _ => h σ G H Q rs s f
theorem aax_aa (h : AA K ts δ M ka) : AAX K ts δ M xs W ka := fun σ G H Q rs s f _ => h σ G H Q rs s f
/-- a method that may raise -/
theorem aex_meth {Wx : WtX} (hW : W = fun d H' => E (.ref Ce) (some d) H') (h : AE K te δ M fun x M1 => ∃ a dx fs, x = .ref a ∧ (∃ N1 N2, M1 = N1 ++ (a, MO.ins C dx fs) :: N2) ∧ fs.lookup m = none ∧
      AA K ts δ M1 fun ds M2 => ∃ Mc R kc kx, M2 = Mc ++ R ∧ Wx (.ref a :: ds) Mc kc kx ∧ (∀ d Mc', kc d Mc' → k d (Mc' ++ R)) ∧ ∀ fs Mc', kx fs Mc' → xs fs (Mc' ++ R)) : AEX K (tMeth C m (SpcX K Ce Wx) [] E te ts) δ M xs W k := fun σ G H Q rs s f' fx =>
  h σ G H _ rs s fun x M1 vx G1 H1 ⟨a, dx, fs, e1, ⟨N1, N2, e2⟩, l, h1⟩ s1 st1 r1 => by
    subst e1 hW
    obtain ⟨g0, o, ho, ps, rfl, rk⟩ := s1.mu (a, .ins C dx fs) (by rw [e2]; simp)
    refine ⟨a, dx, ps, rep_ref r1, ho, repKV_no rk l, h1 σ G1 H1 _ (rs.mono st1.gg) s1 ?_⟩
    rintro ds M2 vs G2 H2 ⟨Mc, R, kc, kx, rfl, hw, hk, hx⟩ s2 st2 r2
    rw [rep_ref r1, List.append_nil]
    refine ⟨G2, _, Mc, kc, kx, Reps.cons rep_of_ref r2, s2.sub, hw, fun d M' v G' H' hd s' st' rv => ?_, fun fs' M' d G' H' hk' s' st' => ?_⟩
    · obtain ⟨s3, st3⟩ := s2.join s' st'
      exact f' d _ v G' H' (hk d M' hd) s3 ((st1.trans st2).trans st3) rv
    · obtain ⟨s3, st3⟩ := s2.join s' st'
      have hp : ((M' ++ [(d, MO.xd fs')]) ++ R).Perm ((M' ++ R) ++ [(d, MO.xd fs')]) := by
        rw [List.append_assoc, List.append_assoc]
        exact List.Perm.append_left M' List.perm_append_comm
      exact fx fs' (M' ++ R) d G' H' (hx fs' M' hk') (s3.perm hp) (((st1.trans st2).trans st3).perm (fun _ => Iff.rfl) (ads_perm hp))
theorem aax_one (h : AEX K te δ M xs W fun d M1 => ka [d] M1) : AAX K (tCons te tNil) δ M xs W ka := fun σ G H Q rs s f fx =>
  h σ G H _ rs s (fun d M1 v G1 H1 h1 s1 st1 r1 => f [d] M1 [v] G1 H1 h1 s1 st1 (Reps.one r1)) fx
theorem aax_cons (h : AE K te δ M fun d M1 => AAX K ts δ M1 xs W fun ds M2 => ka (d :: ds) M2) : AAX K (tCons te ts) δ M xs W ka := fun σ G H Q rs s f fx =>
  h σ G H _ rs s fun d M1 v G1 H1 h1 s1 st1 r1 => h1 σ G1 H1 _ (rs.mono st1.gg) s1 (fun ds M2 vs G2 H2 h2 s2 st2 r2 => f (d :: ds) M2 (v :: vs) G2 H2 h2 s2 (st1.trans st2) (Reps.cons (Rep.mono st2.gg _ _ r1) r2))
    fun fs M' d' G' H' a s' st' => fx fs M' d' G' H' a s' (st1.trans st')
theorem aex_tup (h : AAX K ts δ M xs W fun ds M1 => ds.length ≤ sizeLine ∧ k (.tup ds) M1) : AEX K (tTup ts) δ M xs W k := fun σ G H Q rs s f fx =>
  h σ G H _ rs s (fun ds M1 vs G1 H1 ⟨hl, h1⟩ s1 st1 r1 => ⟨by rw [r1.len]; exact hl, fun p hp => by
    obtain ⟨s2, st2, e2⟩ := s1.frozen (o := .tup vs) hp
    exact f _ M1 _ _ _ h1 s2 (st1.trans st2) (rep_mk_tup (.inl (.inl upd_same)) (Reps.mono e2 _ _ r1))⟩) fx
theorem aex_lstM (h : AAX K ts δ M xs W fun ds M1 => ds.length ≤ sizeLine ∧ ∀ a, k (.ref a) (M1 ++ [(a, .lst ds)])) : AEX K (tLstM ts) δ M xs W k := fun σ G H Q rs s f fx =>
  h σ G H _ rs s (fun ds M1 vs G1 H1 ⟨hl, h1⟩ s1 st1 r1 => ⟨by rw [r1.len]; exact hl, fun p hp => by
    obtain ⟨s2, st2⟩ := s1.fresh (m := .lst ds) (o := .lst vs) hp ⟨vs, rfl, r1⟩
    exact f _ _ _ _ _ (h1 p) s2 (st1.trans st2) rep_of_ref⟩) fx
theorem aex_lm {r : V → List V → Hp → VK → Prop} (h : AE K to δ M fun x M1 => LstM x M1 ∧ AAX K ts δ M1 xs W fun zs M2 => AM K r x zs M2 k) : AEX K (tBM K "list" r to ts) δ M xs W k := fun σ G H Q rs s f fx =>
  h σ G H _ rs s fun x M1 v G1 H1 ⟨ht, h1⟩ s1 st1 r1 => by
    refine ⟨?_, h1 σ G1 H1 _ (rs.mono st1.gg) s1 (fun xs M2 vs G2 H2 h2 s2 st2 r2 => h2 v vs G2 H2 Q (Rep.mono st2.gg _ _ r1) r2 s2 fun d M3 v3 G3 H3 q s3 st3 r3 => f d M3 v3 G3 H3 q s3 ((st1.trans st2).trans st3) r3)
      fun fs M' d' G' H' a s' st' => fx fs M' d' G' H' a s' (st1.trans st')⟩
    rcases ht with ⟨ds, e⟩ | ⟨ds, e⟩ | ⟨a, ds, N1, N2, e, e2⟩
    · subst e
      obtain ⟨a, xs, rfl, ha, _⟩ := rep_lst r1
      exact .inl ⟨rfl, xs, .inl (.inl (s1.same _ _ ha))⟩
    · subst e
      obtain ⟨a, xs, rfl, ha, _⟩ := rep_lsk r1
      exact .inl ⟨rfl, xs, s1.same.seq ha⟩
    · subst e
      rw [rep_ref r1]
      obtain ⟨_, o, ho, r⟩ := s1.mu (a, .lst ds) (by rw [e2]; simp)
      obtain ⟨xs, rfl, rs⟩ := r
      exact .inl ⟨rfl, xs, .inl (.inl ho)⟩
/-! ### statements -/
theorem as_asgX {g : TG} (h : AEX K te δ M A.xs A.W fun d M1 => AG K g d δ M1 A.nx) : AS K (tAsg te g) δ M A := fun σ G H E rs s f =>
  h σ G H _ rs s (fun d M1 v G1 H1 h1 s1 st1 r1 => h1 v σ G1 H1 E.nx r1 (rs.mono st1.gg) s1 fun δ' M' σ' G' H' a rs' s' st => f.nx δ' M' σ' G' H' a rs' s' (st1.trans st)) f.xs
theorem as_setX (h : AEX K te δ M A.xs A.W fun d M1 => A.nx (δ.set i (some d)) M1) : AS K (tAsg te (gName i)) δ M A := as_asgX fun σ G H Q rs s f fx => h σ G H Q rs s (fun d M' v G' H' q => f d M' v G' H' (ag_name q)) fx
theorem as_retX (h : AEX K te δ M A.xs A.W A.rt) : AS K (tRet te) δ M A := fun σ G H E rs s f => h σ G H E.rt rs s (fun d M1 v G1 H1 h1 s1 st1 r1 => f.rt d M1 v G1 H1 h1 s1 st1 r1) f.xs
theorem as_dropX (h : AEX K te δ M A.xs A.W fun _ M1 => A.nx δ M1) : AS K (tDrop te) δ M A := fun σ G H E rs s f => h σ G H _ rs s (fun d M1 v G1 H1 h1 s1 st1 r1 => f.nx δ M1 σ G1 H1 h1 (rs.mono st1.gg) s1 st1) f.xs
theorem as_augX {r : TIp} {x : D} (hx : δ[i]? = some (some x)) (h : AEX K te δ M A.xs A.W fun y M1 => AR K r x y M1 fun z M2 => A.nx (δ.set i (some z)) M2) : AS K (tAug i te r) δ M A := fun σ G H E rs s f => by
  obtain ⟨v, e, rv⟩ := rs.at_ i x hx
  exact ⟨v, e, h σ G H _ rs s (fun y M1 vy G1 H1 h1 s1 st1 r1 => h1 v vy G1 H1 _ (Rep.mono st1.gg _ _ rv) r1 s1 fun z M2 vz G2 H2 h2 s2 st2 r2 =>
    f.nx _ M2 _ G2 H2 h2 ((rs.mono (st1.trans st2).gg).set i r2) s2 (st1.trans st2)) f.xs⟩
end
/-! ### an own error with one field -/
def spIni1 (K : PySem.W.Frag) (C : Addr) (f1 : Str) : Sp := fun vs H Q _ => ∃ a y, vs = [.ref a, y] ∧ H a = some (exo a C none) ∧
  ∀ dx, H dx = none → dx ≠ a → Q .non (upd (upd H dx (exd dx [(f1, y)])) a (exo a C (some dx)))
def tRaise1 (K : PySem.W.Frag) (C : Addr) (f1 : Str) (E : XK) (ta : TA) : TS := fun _ σ H => tMkO C (spIni1 K C f1) [] ta σ H fun cls d H' => E cls d H'
section
variable {K : PySem.W.Frag} {δ : DS} {M : Mu} {A : AEnds} {C : Addr} {f1 : Str} {E : XK} {ta : TA}
theorem as_raise1 (hA : A.W = fun d H' => E (.ref C) (some d) H') (h : AA K ta δ M fun ds M1 => ∃ y, ds = [y] ∧ A.xs [(f1, y)] M1) : AS K (tRaise1 K C f1 E ta) δ M A := fun σ G H E' rs s f =>
  h σ G H _ rs s fun ds M1 vs G1 H1 ⟨y, e, hx⟩ s1 st1 r1 => by
    subst e
    obtain ⟨vy, r, rfl, ry, rr⟩ := r1.uncons
    unfold Reps at rr
    subst rr
    refine ⟨by show 1 ≤ 1000; decide, fun a ha => ⟨a, vy, rfl, upd_same, fun dx hdx hne => ⟨rfl, dx, [(f1, vy)], upd_same, ?_, ?_, ?_⟩⟩⟩
    · rw [upd_ne hne, upd_same]
    · have h0 := hdx
      rw [upd_ne hne] at h0
      exact h0
    · have hd1 : H1 dx = none := by
        have h0 := hdx
        rw [upd_ne hne] at h0
        exact h0
      have e : upd (del (upd (upd (upd H1 a (exo a C none)) dx (exd dx [(f1, vy)])) a (exo a C (some dx))) a) dx (.xd [(f1, vy)]) = upd H1 dx (.xd [(f1, vy)]) := by
        funext b
        by_cases h1 : b = dx
        · subst h1
          rw [upd_same, upd_same]
        · rw [upd_ne h1, upd_ne h1]
          by_cases h2 : b = a
          · subst h2
            rw [del_same, ha]
          · rw [del_ne h2, upd_ne h2, upd_ne h1, upd_ne h2]
      rw [e]
      obtain ⟨s2, st2⟩ := s1.fresh (o := .xd [(f1, vy)]) (m := .xd [(f1, y)]) hd1 ⟨_, rfl, by
        unfold RepKV
        exact ⟨vy, [], rfl, ry, by unfold RepKV; rfl⟩⟩
      have q := f.xs _ M1 dx G1 _ hx s2 (st1.trans st2)
      rw [hA] at q
      exact q
end
section
variable {X : Cx} {K : PySem.W.Frag} {C fI : Addr} {k : Nat} {fd : FuncData} {f1 x : Str} {e : Expr} {es : List Expr} {ta : TA} {p pos pos2 : Pos} {CX : CXT} {E : XK}
theorem ps_raise1 (hc : X.calm = true) (tk : Takes X (fun cls d _ H => E cls d H)) (T : OexC X.K C) (iC : PySem.W.findIn X.K (.ref C) "__init__" = some (some (.ref fI))) (tI : PySem.W.typeIn X.K (.ref fI) = some (.type "function"))
    (F1 : FnOk X.prog X.w X.K X.mg X.base CX k fI fd ["self", f1] (spIni1 X.K C f1)) (hr : Room (k + 1) X.A) (hb : Binds X.K fd ["self", f1] []) (hx : Passes CX X (fun _ _ _ => False)) (hg : Gl X x) (hm : X.mg x = some (.ref C)) (ha : PA X (e :: es) ta)
    (hdb : (x == ("__debug__" : Str)) = false := by decide) (he : starEach (e :: es) X.env = (false, eval e X.env) :: starEach es X.env := by rfl) (hpl : (backTo pos (starEach es X.env)).any (·.1) = false := by rfl) :
    PS X (.Raise (some (.Call (.Name x p) (e :: es) [] pos)) none pos2) (tRaise1 X.K C f1 E ta) := ps_raise hc tk (pmk_oex T iC tI F1 hr hb .nil hx hg hm ha hdb he hpl)
end
structure ErrC1 (K : PySem.W.Frag) (mg : Str → Option Value) (x qual : Str) (st : Stmt) (f1 : Str) (C : Addr) : Prop where
  o : OexC K C
  m : mg x = some (.ref C)
  i : ∃ fI fd, PySem.W.findIn K (.ref C) "__init__" = some (some (.ref fI)) ∧ PySem.W.typeIn K (.ref fI) = some (.type "function") ∧ Fun K "__init__" qual st fI fd ∧ Binds K fd ["self", f1] []
  n1 : PySem.W.findIn K (.ref C) f1 = some none
  xf : XfC K C
  self : PySem.W.exmOne K (.ref C) (.ref C) = some true
  ec : ExcC K C
/-- a method that may raise -/
structure MetX (P : Program) (w : World) (K : PySem.W.Frag) (mg : Str → Option Value) (base : Heap) (k : Nat) (C : Addr) (m : Str) (sp : Sp) : Prop where
  ex : ∃ (f : Addr) (fd : FuncData) (ps : List Str), Cls K C ∧ Meth K C m f ∧ FnOk P w K mg base (L2.CX P w) k f fd ps sp ∧ Binds K fd ps []
section
variable {X : Cx} {K : PySem.W.Frag} {C : Addr} {k j : Nat} {m : Str} {sp : Sp} {o : Expr} {ta : TE} {apos pos : Pos} {E : XK}
theorem pe_mtX0 {pl : Sem Bool} (tk : Takes X (fun cls d _ H => E cls d H)) (c : MetX X.prog X.w X.K X.mg X.base k C m sp) (hr : Room j X.A) (hk : k ≤ j) (he : PE X o ta)
    (ht : eval (.Call (.Attribute o m apos) [] [] pos) X.env = (do
      let ov ← eval o X.env
      standAt apos.atName
      let (f, first) ← holding [ov] (getMethod ov m pl)
      callWith pos f first (backTo pos (starEach [] X.env)) (backToKw pos (keywordEach [] X.env))) := by rfl) :
    PE X (.Call (.Attribute o m apos) [] [] pos) (tMeth C m sp [] E ta tNil) := by
  obtain ⟨f, fd, ps, hc, hm, F, b⟩ := c.ex
  exact pe_meth0 (pl := pl) he hc hm F (hr.mono hk) b .nil (passes_call tk fun _ _ _ _ h => h) ht
theorem metX_of {P : Program} {w : World} {mg : Str → Option Value} {base : Heap} {C : Addr} {m qual : Str} {st : Stmt} {ps : List Str} {k : Nat} {sp : Sp} (c : Cls K C) (D : DefM K C m qual st ps)
    (ok : ∀ f fd, Fun K m qual st f fd → FnOk P w K mg base (L2.CX P w) k f fd ps sp) : MetX P w K mg base k C m sp := by
  obtain ⟨f, fd, F, hm, b⟩ := D.ex
  exact ⟨f, fd, ps, c, hm, ok f fd F, b⟩
end
section
variable {K : PySem.W.Frag} {δ : DS} {M : Mu} {A : AEnds} {C : Addr} {W : WtX} {ta : TA} {i : Nat} {ts : Addr → Value → Option Addr → TS}
/-- try: f(..) except X as n: suite -/
def tTryD (K : PySem.W.Frag) (C : Addr) (W : WtX) (ta : TA) (i : Nat) (ts : Addr → Value → Option Addr → TS) : TS := fun D σ H => tDrop (tCallS (SpcX K C W) (WE (wAs K (.ref C) i ts (fun _ _ _ _ => False) D)) ta) D σ H
theorem as_tryD (te : PySem.W.exmOne K (.ref C) (.ref C) = some true) (h : AA K ta δ M fun ds M1 => ∃ Mc R kc kx, M1 = Mc ++ R ∧ W ds Mc kc kx ∧ (∀ d Mc', kc d Mc' → A.nx δ (Mc' ++ R)) ∧
      ∀ fs Mc' a d, kx fs Mc' → AS K (ts a (.ref C) (some d)) (δ.set i (some (.ref a))) ((Mc' ++ [(d, .xd fs)]) ++ R) { A with nx := fun δ' M' => A.nx (δ'.set i none) M', bk := fun δ' M' => A.bk (δ'.set i none) M', ct := fun δ' M' => A.ct (δ'.set i none) M' }) :
    AS K (tTryD K C W ta i ts) δ M A := fun σ G H E rs s f =>
  h σ G H _ rs s fun ds M1 vs G1 H1 ⟨Mc, R, kc, kx, e, hw, hn, hx⟩ s1 st1 r1 => by
    subst e
    refine ⟨G1, ds, Mc, kc, kx, r1, s1.sub, hw, fun d M' v G' H' hd s' st' rv => ?_, fun fs M' d G' H' hk s' st' => ?_⟩
    · obtain ⟨s2, st2⟩ := s1.join s' st'
      exact f.nx _ _ _ G' H' (hn d M' hd) (rs.mono (st1.trans st2).gg) s2 (st1.trans st2)
    · obtain ⟨s2, st2⟩ := s1.join s' st'
      have st := st1.trans st2
      have fg := f.go st
      refine ⟨true, te, fun _ a ha => ?_, fun q => nomatch q⟩
      refine hx fs M' a d hk (σ.set i (some (.ref a))) G' H' _ ((rs.mono st.gg).set i rep_of_ref) s2 ⟨?_, fg.rt, ?_, ?_, fg.xs⟩
      · intro δ' M2 σ' G2 H2 q r s3 st3
        exact fg.nx _ M2 _ G2 H2 q (r.drop i) s3 st3
      · intro δ' M2 σ' G2 H2 q r s3 st3
        exact fg.bk _ M2 _ G2 H2 q (r.drop i) s3 st3
      · intro δ' M2 σ' G2 H2 q r s3 st3
        exact fg.ct _ M2 _ G2 H2 q (r.drop i) s3 st3
end
end Tg

set_option Elab.async false
set_option linter.all false
set_option maxRecDepth 100000
set_option maxHeartbeats 4000000
namespace PK
open PySem L2 PyProof.Rows Tg
open C8 (Cal pe_c pe_mk)
def topS (i : Nat) : Stmt := PySem.Challenge.pw_tongues_k07_patterns_refused.main.body.getD i (.Pass ⟨0, 0, 0, 0⟩)
/-- a def of the top -/
structure DefT (K : PySem.W.Frag) (mg : Str → Option Value) (x : Str) (st : Stmt) (ps : List Str) : Prop where
  ex : ∃ f fd, Fun K x x st f fd ∧ mg x = some (.ref f) ∧ Binds K fd ps []
theorem cal_of {P : Program} {w : World} {K : PySem.W.Frag} {mg : Str → Option Value} {base : Heap} {x : Str} {st : Stmt} {ps : List Str} {k : Nat} {sp : Sp} (D : DefT K mg x st ps)
    (ok : ∀ f fd, Fun K x x st f fd → FnOk P w K mg base CX0 k f fd ps sp) : Cal P w K mg base k x sp [] := by
  obtain ⟨f, fd, F, m, b⟩ := D.ex
  exact ⟨f, fd, ps, [], ok f fd F, m, F.kp, b, .nil⟩

def cst_ALPHABET : List Nat := [10, 32, 33, 34, 35, 36, 38, 39, 40, 41, 42, 43, 44, 45, 46, 47, 48, 49, 50, 51, 52, 53, 54, 55, 56, 57, 58, 59, 60, 61, 62, 63, 64, 65, 66, 67, 68, 69, 70, 71, 72, 73, 74, 75, 76, 77, 78, 79, 80, 81, 82, 83, 84, 85, 86, 87, 88, 89, 90, 91, 92, 93, 94, 95, 96, 97, 98, 99, 100, 101, 102, 103, 104, 105, 106, 107, 108, 109, 110, 111, 112, 113, 114, 115, 116, 117, 118, 119, 120, 121, 122, 123, 124, 125, 126]
def cst_SIGNS : List Nat := [124, 42, 43, 63, 40, 41, 91, 93, 46, 92]
def cst_SET_SIGNS : List Nat := [93, 94, 45, 92]
def cst_ESCAPED : List Nat := [124, 42, 43, 63, 40, 41, 91, 93, 46, 92, 94, 45]
def cst_REPEATS : List (Str × Str) := [(tx [42], tx [115, 116, 97, 114]), (tx [43], tx [112, 108, 117, 115]), (tx [63], tx [109, 97, 121, 98, 101])]
def cst_SEQUENCE_ENDS : List Str := [tx [], tx [124], tx [41]]
abbrev s_PatternReader___init__ : Stmt := inClass (topS 11) 0
theorem sc_PatternReader___init__ : FnScope ["self", "pattern"] ["self", "pattern"] (defScope s_PatternReader___init__) := ⟨rfl, rfl, rfl, by decide +kernel, rfl, by decide +kernel, by decide +kernel⟩
abbrev s_PatternReader_ahead : Stmt := inClass (topS 11) 1
theorem sc_PatternReader_ahead : FnScope ["self"] ["self"] (defScope s_PatternReader_ahead) := ⟨rfl, rfl, rfl, by decide +kernel, rfl, by decide +kernel, by decide +kernel⟩
abbrev s_PatternReader_character : Stmt := inClass (topS 11) 2
theorem sc_PatternReader_character : FnScope ["self"] ["self"] (defScope s_PatternReader_character) := ⟨rfl, rfl, rfl, by decide +kernel, rfl, by decide +kernel, by decide +kernel⟩
abbrev s_PatternReader_alternatives : Stmt := inClass (topS 11) 3
theorem sc_PatternReader_alternatives : FnScope ["self", "trees"] ["self"] (defScope s_PatternReader_alternatives) := ⟨rfl, rfl, rfl, by decide +kernel, rfl, by decide +kernel, by decide +kernel⟩
abbrev s_PatternReader_sequence : Stmt := inClass (topS 11) 4
theorem sc_PatternReader_sequence : FnScope ["self", "trees"] ["self"] (defScope s_PatternReader_sequence) := ⟨rfl, rfl, rfl, by decide +kernel, rfl, by decide +kernel, by decide +kernel⟩
abbrev s_PatternReader_part : Stmt := inClass (topS 11) 5
theorem sc_PatternReader_part : FnScope ["self", "tree", "sort"] ["self"] (defScope s_PatternReader_part) := ⟨rfl, rfl, rfl, by decide +kernel, rfl, by decide +kernel, by decide +kernel⟩
abbrev s_PatternReader_element : Stmt := inClass (topS 11) 6
theorem sc_PatternReader_element : FnScope ["self", "character"] ["self"] (defScope s_PatternReader_element) := ⟨rfl, rfl, rfl, by decide +kernel, rfl, by decide +kernel, by decide +kernel⟩
abbrev s_PatternReader_group : Stmt := inClass (topS 11) 7
theorem sc_PatternReader_group : FnScope ["self", "tree"] ["self"] (defScope s_PatternReader_group) := ⟨rfl, rfl, rfl, by decide +kernel, rfl, by decide +kernel, by decide +kernel⟩
abbrev s_PatternReader_escape : Stmt := inClass (topS 11) 8
theorem sc_PatternReader_escape : FnScope ["self", "character"] ["self"] (defScope s_PatternReader_escape) := ⟨rfl, rfl, rfl, by decide +kernel, rfl, by decide +kernel, by decide +kernel⟩
abbrev s_PatternReader_set_characters : Stmt := inClass (topS 11) 9
theorem sc_PatternReader_set_characters : FnScope ["self", "is_excluding", "members", "matched", "character"] ["self"] (defScope s_PatternReader_set_characters) := ⟨rfl, rfl, rfl, by decide +kernel, rfl, by decide +kernel, by decide +kernel⟩
abbrev s_PatternReader_member : Stmt := inClass (topS 11) 10
theorem sc_PatternReader_member : FnScope ["self", "first", "written", "last"] ["self"] (defScope s_PatternReader_member) := ⟨rfl, rfl, rfl, by decide +kernel, rfl, by decide +kernel, by decide +kernel⟩
abbrev s_PatternReader_set_character : Stmt := inClass (topS 11) 11
theorem sc_PatternReader_set_character : FnScope ["self", "character"] ["self"] (defScope s_PatternReader_set_character) := ⟨rfl, rfl, rfl, by decide +kernel, rfl, by decide +kernel, by decide +kernel⟩
structure Cl_PatternReader (K : PySem.W.Frag) (mg : Str → Option Value) (C : Addr) : Prop where
  cl : Cls K C
  m : mg "PatternReader" = some (.ref C)
  n_pattern : NoAttr K C "pattern"
  n_at : NoAttr K C "at"
  d___init__ : DefM K C "__init__" "PatternReader.__init__" s_PatternReader___init__ ["self", "pattern"]
  d_ahead : DefM K C "ahead" "PatternReader.ahead" s_PatternReader_ahead ["self"]
  d_character : DefM K C "character" "PatternReader.character" s_PatternReader_character ["self"]
  d_alternatives : DefM K C "alternatives" "PatternReader.alternatives" s_PatternReader_alternatives ["self"]
  d_sequence : DefM K C "sequence" "PatternReader.sequence" s_PatternReader_sequence ["self"]
  d_part : DefM K C "part" "PatternReader.part" s_PatternReader_part ["self"]
  d_element : DefM K C "element" "PatternReader.element" s_PatternReader_element ["self"]
  d_group : DefM K C "group" "PatternReader.group" s_PatternReader_group ["self"]
  d_escape : DefM K C "escape" "PatternReader.escape" s_PatternReader_escape ["self"]
  d_set_characters : DefM K C "set_characters" "PatternReader.set_characters" s_PatternReader_set_characters ["self"]
  d_member : DefM K C "member" "PatternReader.member" s_PatternReader_member ["self"]
  d_set_character : DefM K C "set_character" "PatternReader.set_character" s_PatternReader_set_character ["self"]
  mk1 : PySem.W.makesIn K C = true
  mk2 : PySem.W.keepIn K (.ref C) = true

abbrev s_read_pattern : Stmt := topS 10
theorem sc_read_pattern : FnScope ["text", "reader", "tree"] ["text"] (defScope s_read_pattern) := ⟨rfl, rfl, rfl, by decide +kernel, rfl, by decide +kernel, by decide +kernel⟩
abbrev s_joined : Stmt := topS 12
theorem sc_joined : FnScope ["sort", "trees", "flat", "tree"] ["sort", "trees"] (defScope s_joined) := ⟨rfl, rfl, rfl, by decide +kernel, rfl, by decide +kernel, by decide +kernel⟩
abbrev s__law_pool : Stmt := topS 14
theorem sc__law_pool : FnScope ["script", "cell"] ["script"] (defScope s__law_pool) := ⟨rfl, rfl, rfl, by decide +kernel, rfl, by decide +kernel, by decide +kernel⟩
abbrev s__law_take : Stmt := topS 15
theorem sc__law_take : FnScope ["pool", "many", "digit", "cell", "mixed"] ["pool", "many"] (defScope s__law_take) := ⟨rfl, rfl, rfl, by decide +kernel, rfl, by decide +kernel, by decide +kernel⟩
abbrev s__law_chars : Stmt := topS 16
theorem sc__law_chars : FnScope ["pool", "signs", "kind", "low", "high", "other"] ["pool"] (defScope s__law_chars) := ⟨rfl, rfl, rfl, by decide +kernel, rfl, by decide +kernel, by decide +kernel⟩
abbrev s__law_flat : Stmt := topS 17
theorem sc__law_flat : FnScope ["head", "parts", "row", "part"] ["head", "parts"] (defScope s__law_flat) := ⟨rfl, rfl, rfl, by decide +kernel, rfl, by decide +kernel, by decide +kernel⟩
abbrev s__law_tree : Stmt := topS 18
theorem sc__law_tree : FnScope ["pool", "deep", "kind", "parts", "k"] ["pool", "deep"] (defScope s__law_tree) := ⟨rfl, rfl, rfl, by decide +kernel, rfl, by decide +kernel, by decide +kernel⟩
abbrev s__law_escaped : Stmt := topS 19
theorem sc__law_escaped : FnScope ["sign", "barred"] ["sign", "barred"] (defScope s__law_escaped) := ⟨rfl, rfl, rfl, by decide +kernel, rfl, by decide +kernel, by decide +kernel⟩
abbrev s__law_runs : Stmt := topS 20
theorem sc__law_runs : FnScope ["chars", "signs", "runs", "last", "k"] ["chars"] (defScope s__law_runs) := ⟨rfl, rfl, rfl, by decide +kernel, rfl, by decide +kernel, by decide +kernel⟩
abbrev s__law_set : Stmt := topS 21
theorem sc__law_set : FnScope ["chars", "texts", "first", "last"] ["chars"] (defScope s__law_set) := ⟨rfl, rfl, rfl, by decide +kernel, rfl, by decide +kernel, by decide +kernel⟩
abbrev s__law_canonical : Stmt := topS 22
theorem sc__law_canonical : FnScope ["tree", "head", "texts", "part", "inner"] ["tree"] (defScope s__law_canonical) := ⟨rfl, rfl, rfl, by decide +kernel, rfl, by decide +kernel, by decide +kernel⟩
abbrev s__law_ends : Stmt := topS 23
theorem sc__law_ends : FnScope ["rows"] [] (defScope s__law_ends) := ⟨rfl, rfl, rfl, by decide +kernel, rfl, by decide +kernel, by decide +kernel⟩
abbrev s__law_told : Stmt := topS 24
theorem sc__law_told : FnScope ["text", "e"] ["text"] (defScope s__law_told) := ⟨rfl, rfl, rfl, by decide +kernel, rfl, by decide +kernel, by decide +kernel⟩
abbrev s_law : Stmt := topS 25
theorem sc_law : FnScope ["script", "pool", "tree", "start", "opened", "rows", "end", "place", "rest", "text"] ["script"] (defScope s_law) := ⟨rfl, rfl, rfl, by decide +kernel, rfl, by decide +kernel, by decide +kernel⟩
abbrev s_BadPattern_init : Stmt := match topS 2 with
 | .ClassDef (body := b) .. => b.getD 0 (.Pass ⟨0, 0, 0, 0⟩)
 | s => s
theorem sc_BadPattern_init : FnScope ["self", "position"] ["self", "position"] (defScope s_BadPattern_init) := ⟨rfl, rfl, rfl, by decide +kernel, rfl, by decide +kernel, by decide +kernel⟩
abbrev ErrT_BadPattern (K : PySem.W.Frag) (mg : Str → Option Value) (C : Addr) : Prop := ErrC1 K mg "BadPattern" "BadPattern.__init__" s_BadPattern_init "position" C

structure Top (K : PySem.W.Frag) (mg : Str → Option Value) (w : World) : Prop where
  d_read_pattern : DefT K mg "read_pattern" s_read_pattern ["text"]
  d_joined : DefT K mg "joined" s_joined ["sort", "trees"]
  d__law_pool : DefT K mg "_law_pool" s__law_pool ["script"]
  d__law_take : DefT K mg "_law_take" s__law_take ["pool", "many"]
  d__law_chars : DefT K mg "_law_chars" s__law_chars ["pool"]
  d__law_flat : DefT K mg "_law_flat" s__law_flat ["head", "parts"]
  d__law_tree : DefT K mg "_law_tree" s__law_tree ["pool", "deep"]
  d__law_escaped : DefT K mg "_law_escaped" s__law_escaped ["sign", "barred"]
  d__law_runs : DefT K mg "_law_runs" s__law_runs ["chars"]
  d__law_set : DefT K mg "_law_set" s__law_set ["chars"]
  d__law_canonical : DefT K mg "_law_canonical" s__law_canonical ["tree"]
  d__law_ends : DefT K mg "_law_ends" s__law_ends []
  d__law_told : DefT K mg "_law_told" s__law_told ["text"]
  m_ValueError : mg "ValueError" = none
  m_int : mg "int" = none
  m_isinstance : mg "isinstance" = none
  m_len : mg "len" = none
  m_list : mg "list" = none
  m_min : mg "min" = none
  m_range : mg "range" = none
  m_tuple : mg "tuple" = none
  g_ALPHABET : ∃ t, mg "ALPHABET" = some (.str (tx cst_ALPHABET) t)
  g_SIGNS : ∃ t, mg "SIGNS" = some (.str (tx cst_SIGNS) t)
  g_SET_SIGNS : ∃ t, mg "SET_SIGNS" = some (.str (tx cst_SET_SIGNS) t)
  g_ESCAPED : ∃ t, mg "ESCAPED" = some (.str (tx cst_ESCAPED) t)
  g_REPEATS : ∃ a, mg "REPEATS" = some (.ref a) ∧ KTab K w a cst_REPEATS
  g_SEQUENCE_ENDS : ∃ a, mg "SEQUENCE_ENDS" = some (.ref a) ∧ ∀ G, Rep K G (.tup (cst_SEQUENCE_ENDS.map D.str)) (.ref a)
  k_PatternReader : ∃ C, Cl_PatternReader K mg C
  x_BadPattern : ∃ C CT, ErrT_BadPattern K mg C ∧ mg "TongueError" = some (.ref CT) ∧ PySem.W.kitOne K (.ref C) (.ref CT) = some true ∧ PySem.W.kitOne K (.ref C) (.type "ValueError") = some true


/-! ### the pool of drawn numbers -/
structure Pool where
  cells : List Int
  pos : Int
  big : Int
  seed : Int
def Pool.d (p : Pool) : List D := [.lst (p.cells.map D.int), .int p.pos, .int p.big, .int p.seed]
structure Pool.Ok (p : Pool) : Prop where
  cells : ∀ c ∈ p.cells, 0 ≤ c
  pos : 0 ≤ p.pos
  big : 0 ≤ p.big
  seed0 : 0 ≤ p.seed
  seed1 : p.seed < 2147483647
def W_pool : Wt := fun ds M k => ∃ ns : List Int, ds = [.lsk (ns.map D.int)] ∧ M = [] ∧ ns.length ≤ 63 ∧ ∀ (a : Addr) (p : Pool), p.Ok → k (.ref a) [(a, .lst p.d)]
/-- n calls, one in the other, are allowed -/
def W_take (n : Nat) : Wt := fun ds M k => ∃ (a : Addr) (p : Pool) (many : Int), ds = [.ref a, .int many] ∧ M = [(a, .lst p.d)] ∧ p.Ok ∧ 0 < many ∧ many < 1073741824 ∧ 1 ≤ n ∧ (0 < p.big ∨ 2 ≤ n) ∧
  ∀ (r : Int) (p' : Pool), p'.Ok → 0 ≤ r → r < many → k (.int r) [(a, .lst p'.d)]
/-- behind a draw below many -/
def takeK (a : Addr) (many : Int) : D → Mu → Prop := fun d M => ∃ (r : Int) (p' : Pool), p'.Ok ∧ 0 ≤ r ∧ r < many ∧ d = .int r ∧ M = [(a, .lst p'.d)]
theorem take_ok {n : Nat} {a : Addr} {p : Pool} {many : Int} (ok : p.Ok) (h0 : 0 < many) (h1 : many < 1073741824) (hn : 2 ≤ n) : W_take n [.ref a, .int many] [(a, .lst p.d)] (takeK a many) :=
  ⟨a, p, many, rfl, rfl, ok, h0, h1, by omega, .inr hn, fun r p' ok' r0 r1 => ⟨r, p', ok', r0, r1, rfl, rfl⟩⟩
/-- nothing is asked of it -/
theorem cal_none {P : Program} {w : World} {K : PySem.W.Frag} {mg : Str → Option Value} {base : Heap} {x : Str} {st : Stmt} {ps : List Str} {W : Wt} {n : Nat} (T : DefT K mg x st ps) (no : ∀ ds M k, ¬ W ds M k) : Cal P w K mg base n x (Spc K W) [] :=
  cal_of T fun f fd F => ⟨fun vs H Q E h => by
    obtain ⟨_, ds, M, k, _, _, hw, _⟩ := h
    exact absurd hw (no ds M k), fun A outer s H args us vs Q E _ _ _ _ h => by
    obtain ⟨_, ds, M, k, _, _, hw, _⟩ := h
    exact absurd hw (no ds M k)⟩

local macro_rules | `(tactic| walk_at "tg1") => `(tactic| first
  | with_reducible refine as_seq (t := tAsg _ _) ?_
  | with_reducible refine as_seq (t := tDrop _) ?_
  | with_reducible refine as_seq (t := tAug _ _ _) ?_
  | with_reducible refine as_seq (t := tFor _ _ _) ?_
  | with_reducible refine as_seq (t := tNext) ?_
  | with_reducible refine as_set ?_
  | with_reducible refine as_asg ?_
  | with_reducible refine as_if ?_
  | with_reducible refine as_ret ?_
  | with_reducible refine as_retN ?_
  | with_reducible refine as_drop ?_
  | with_reducible refine as_next ?_
  | with_reducible refine as_brk ?_
  | with_reducible refine as_cont ?_
  | with_reducible refine ae_int ?_
  | with_reducible refine ae_bl ?_
  | with_reducible refine ae_non ?_
  | with_reducible refine ae_str ?_
  | with_reducible refine ae_ty ?_
  | with_reducible refine ae_op ?_
  | with_reducible refine ae_un ?_
  | with_reducible refine ae_if ?_
  | with_reducible refine ae_andV ?_
  | with_reducible refine ae_orV ?_
  | with_reducible refine ae_notV ?_
  | with_reducible refine at_test ?_
  | with_reducible refine at_B ?_
  | with_reducible refine at_and ?_
  | with_reducible refine at_or ?_
  | with_reducible refine at_not ?_
  | with_reducible refine at_tru ?_
  | with_reducible refine aa_nil ?_
  | with_reducible refine aa_cons ?_
  | with_reducible refine ae_tup ?_
  | with_reducible refine ae_lst ?_
  | with_reducible refine ae_lstM ?_
  | with_reducible refine ae_cb ?_
  | with_reducible refine ae_call ?_
  | with_reducible refine ae_lm ?_
  | with_reducible refine ae_sm ?_
  | with_reducible refine ae_m1 ?_
  | with_reducible refine Tg.ae_sl ?_
  | with_reducible refine ao_none ?_
  | with_reducible refine ao_some ?_
  | with_reducible refine as_for ?_
  | with_reducible refine ai_seq ?_
  | with_reducible refine ai_enum ?_
  | with_reducible refine ai_range1 ?_
  | with_reducible refine ai_range2 ?_
  | with_reducible refine ag_name ?_
  | with_reducible refine ag_setL ?_
  | with_reducible refine ag_setU ?_
  | with_reducible refine ae_chain ?_
  | with_reducible refine ae_chain3 ?_
  | with_reducible refine ae_dnew ?_
  | with_reducible refine ae_dget2 ?_
  | with_reducible refine ae_listRg1 ?_
  | with_reducible refine ags_nil ?_
  | with_reducible refine ags_cons ?_
  | with_reducible refine ag_tup rfl ?_
  | with_reducible refine au_int ?_
  | with_reducible refine Tg.ai_int ?_
  | with_reducible refine ar_sub ?_
  | with_reducible refine ar_cmp ?_
  | with_reducible refine au_neg ?_
  | with_reducible refine ac_int ?_
  | with_reducible refine ac_min ?_
  | with_reducible refine at_yes ?_
  | with_reducible refine bcaseT ?_
  | with_reducible refine bcaseF ?_
  | with_reducible refine bcaseTR ?_
  | with_reducible refine bcaseFR ?_
  | ((with_reducible refine ar_intC ?c1 ?c2); (case c1 => first | omega | exact ⟨by omega, by omega⟩ | exact cmul_l (by omega) (by omega) | exact cmul_r (by omega) (by omega) | exact ⟨by omega, by omega, by decide⟩))
  | refine ae_var rfl ?_
  | refine aix0 rfl ?_
  | refine aix1 rfl ?_
  | refine put_l0 rfl ?_
  | refine put_l1 rfl ?_
  | refine ⟨lst0, ?_⟩
  | refine ⟨lst1, ?_⟩
  | refine ⟨lst2, ?_⟩
  | refine lenM0 ?_
  | refine lenM1 ?_
  | refine aix_T rfl ?_
  | refine as_aug rfl ?_
  | refine ar_eqD rfl ?_
  | refine ar_neD rfl ?_
  | refine ar_isN ?_
  | refine ar_notN ?_
  | refine ac_lenD rfl ?_
  | refine ac_lenS (by omega) ?_
  | refine ac_isiT rfl rfl ?_
  | refine ac_isiF rfl rfl ?_
  | refine ac_tupL ?_
  | refine ⟨tru_ok_bl, ?_⟩
  | refine caseT rfl ?_
  | refine caseF rfl ?_
  | refine caseTR rfl ?_
  | refine caseFR rfl ?_
  | refine ⟨⟨_, rfl⟩, ?_⟩
  | refine ⟨len_ok 0 rfl, ?_⟩
  | refine ⟨len_ok 1 rfl, ?_⟩
  | refine ⟨len_ok 2 rfl, ?_⟩
  | refine ⟨len_ok 3 rfl, ?_⟩
  | refine ⟨len_ok 4 rfl, ?_⟩
  | refine ⟨len_ok 5 rfl, ?_⟩
  | refine ⟨_, rfl, ?_⟩)
local macro_rules | `(tactic| walk_at "tg") => `(tactic| repeat walk_at "tg1")
local macro_rules | `(tactic| walk_at "take") => `(tactic| refine ⟨[_], _, takeK _ _, rfl, take_ok (by assumption) (by first | decide | omega) (by first | decide | omega) (by decide), ?_⟩)

/-! ### texts sign by sign -/
def ones (l : List Nat) : List (List Nat) := l.map fun c => [c]
theorem ones_flat (l : List Nat) : (ones l).flatten = l := by
  induction l with
  | nil => rfl
  | cons c r ih =>
    show ([c] :: ones r).flatten = c :: r
    rw [List.flatten_cons, ih]
    rfl
theorem ones_sum (l : List Nat) : ((ones l).map (·.length)).sum = l.length := by
  induction l with
  | nil => rfl
  | cons c r ih =>
    show ([c].length :: (ones r).map (·.length)).sum = r.length + 1
    rw [List.sum_cons, ih]
    show 1 + r.length = r.length + 1
    omega
def strsD (ls : List (List Nat)) : List D := ls.map fun z => .str (tx z)
theorem strsD_snoc (l : List Nat) (c : Nat) : strsD (ones l) ++ [.str (tx [c])] = strsD (ones (l ++ [c])) := by simp [strsD, ones]
theorem strsD_len (l : List Nat) : (strsD (ones l)).length = l.length := by simp [strsD, ones]

/-! ### patterns, in plain Lean -/
inductive Pt where
  | chars (cs : List Nat)
  | nd (e : Bool) (ps : List Pt)
  | rep (k : Nat) (p : Pt)
/-- the word of a row, of alternatives -/
def ndS : Bool → Str
  | false => Str.ofString "row"
  | true => Str.ofString "either"
def repS : Nat → Str
  | 0 => Str.ofString "star"
  | 1 => Str.ofString "plus"
  | _ => Str.ofString "maybe"
def repC : Nat → Nat
  | 0 => 42
  | 1 => 43
  | _ => 63
mutual
def Pt.d : Pt → D
  | .chars cs => .tup [.str (Str.ofString "chars"), .str (tx cs)]
  | .nd e ps => .tup [.str (ndS e), .tup (Pt.ds ps)]
  | .rep k p => .tup [.str (repS k), Pt.d p]
def Pt.ds : List Pt → List D
  | [] => []
  | p :: r => Pt.d p :: Pt.ds r
end
theorem Pt.ds_map : ∀ ps : List Pt, Pt.ds ps = ps.map Pt.d
  | [] => rfl
  | p :: r => by
    show Pt.d p :: Pt.ds r = _
    rw [Pt.ds_map r]
    rfl
/-- one level less -/
def kidsOf (e : Bool) : Pt → List Pt
  | .nd j ps => if j = e then ps else [.nd j ps]
  | .chars cs => [.chars cs]
  | .rep k p => [.rep k p]
def flatP (e : Bool) (ts : List Pt) : List Pt := ts.flatMap (kidsOf e)
def jn (e : Bool) : List Pt → Pt
  | [t] => t
  | ts => .nd e (flatP e ts)
/-- the rest of a text -/
def AtR (l : List Nat) (p : Nat) (r : List Nat) : Prop := l.drop p = r ∧ p ≤ l.length
theorem AtR.adv {l s r : List Nat} {p : Nat} (h : AtR l p (s ++ r)) : AtR l (p + s.length) r := by
  obtain ⟨h1, h2⟩ := h
  have e : l.drop (p + s.length) = r := by
    rw [← List.drop_drop, h1, List.drop_left]
  have e2 : (l.drop p).length = l.length - p := List.length_drop ..
  rw [h1, List.length_append] at e2
  exact ⟨e, by omega⟩
theorem AtR.nil {l r : List Nat} {p : Nat} (h : AtR l p r) : AtR l p ([] ++ r) := h
/-! a sign of a set -/
inductive CharS : Nat → List Nat → Prop
  | raw {c : Nat} : c ∈ cst_ALPHABET → c ∉ cst_SET_SIGNS → CharS c [c]
  | esc {c : Nat} : c ∈ cst_ESCAPED → CharS c [92, c]
  | nl : CharS 10 [92, 110]
def alix (c : Nat) : Nat := cst_ALPHABET.idxOf c
def seg (a b : Nat) : List Nat := (cst_ALPHABET.drop (alix a)).take (alix b + 1 - alix a)
inductive MemS : List Nat → List Nat → Prop
  | one {c : Nat} {s : List Nat} : CharS c s → MemS [c] s
  | run {a b : Nat} {s u : List Nat} : CharS a s → CharS b u → alix a ≤ alix b → MemS (seg a b) (s ++ 45 :: u)
inductive MemsS : List Nat → List Nat → Prop
  | one {cs s : List Nat} : MemS cs s → MemsS cs s
  | cons {cs s ds u : List Nat} : MemS cs s → MemsS ds u → MemsS (cs ++ ds) (s ++ u)
inductive SetS : List Nat → List Nat → Prop
  | pos {ms s cs : List Nat} : MemsS ms s → cs = cst_ALPHABET.filter (fun c => decide (c ∈ ms)) → cs ≠ [] → SetS cs s
  | neg {ms s cs : List Nat} : MemsS ms s → cs = cst_ALPHABET.filter (fun c => !decide (c ∈ ms)) → cs ≠ [] → SetS cs (94 :: s)
mutual
inductive El : Nat → Pt → List Nat → Prop
  | dot {n : Nat} : El n (.chars cst_ALPHABET) [46]
  | lit {n c : Nat} : c ∈ cst_ALPHABET → c ∉ cst_SIGNS → El n (.chars [c]) [c]
  | esc {n c : Nat} : c ∈ cst_ESCAPED → El n (.chars [c]) [92, c]
  | nl {n : Nat} : El n (.chars [10]) [92, 110]
  | set {n : Nat} {cs s : List Nat} : SetS cs s → El n (.chars cs) (91 :: (s ++ [93]))
  | grp {n : Nat} {ts : List Pt} {s : List Nat} : Al n ts s → El (n + 1) (jn true ts) (40 :: (s ++ [41]))
inductive Pa : Nat → Bool → Pt → List Nat → Prop
  | el {n : Nat} {t : Pt} {s : List Nat} : El n t s → Pa n false t s
  | rep {n k : Nat} {t : Pt} {s : List Nat} : El n t s → k < 3 → Pa n true (.rep k t) (s ++ [repC k])
inductive Sq : Nat → List Pt → List Nat → Prop
  | one {n : Nat} {b : Bool} {t : Pt} {s : List Nat} : Pa n b t s → Sq n [t] s
  | cons {n : Nat} {b : Bool} {t : Pt} {s : List Nat} {ts : List Pt} {u : List Nat} : Pa n b t s → Sq n ts u → Sq n (t :: ts) (s ++ u)
inductive Al : Nat → List Pt → List Nat → Prop
  | one {n : Nat} {ts : List Pt} {s : List Nat} : Sq n ts s → Al n [jn false ts] s
  | cons {n : Nat} {ts : List Pt} {s : List Nat} {us : List Pt} {u : List Nat} : Sq n ts s → Al n us u → Al n (jn false ts :: us) (s ++ 124 :: u)
end
/-- the signs that are nothing at the beginning of a part -/
def stops : List Nat := [42, 43, 63, 124, 41]
theorem El.head {n : Nat} {t : Pt} {s : List Nat} (h : El n t s) : ∃ c u, s = c :: u ∧ c ∉ stops ∧ c ≠ 93 := by
  cases h with
  | dot => exact ⟨46, [], rfl, by decide, by decide⟩
  | @lit n c h1 h2 => exact ⟨c, [], rfl, fun z => h2 (by
      have : ∀ c ∈ stops, c ∈ cst_SIGNS := by decide +kernel
      exact this c z), fun z => h2 (by rw [z]; decide +kernel)⟩
  | esc h1 => exact ⟨92, _, rfl, by decide, by decide⟩
  | nl => exact ⟨92, _, rfl, by decide, by decide⟩
  | set h1 => exact ⟨91, _, rfl, by decide, by decide⟩
  | grp h1 => exact ⟨40, _, rfl, by decide, by decide⟩
theorem Pa.head {n : Nat} {b : Bool} {t : Pt} {s : List Nat} (h : Pa n b t s) : ∃ c u, s = c :: u ∧ c ∉ stops := by
  cases h with
  | el h => obtain ⟨c, u, e, z, _⟩ := h.head; exact ⟨c, u, e, z⟩
  | rep h _ => obtain ⟨c, u, e, z, _⟩ := h.head; exact ⟨c, u ++ _, by rw [e]; rfl, z⟩
theorem Sq.head {n : Nat} {ts : List Pt} {s : List Nat} (h : Sq n ts s) : ∃ c u, s = c :: u ∧ c ∉ stops := by
  cases h with
  | one h => exact h.head
  | cons h _ => obtain ⟨c, u, e, z⟩ := h.head; exact ⟨c, u ++ _, by rw [e]; rfl, z⟩
theorem CharS.head {c : Nat} {s : List Nat} (h : CharS c s) : ∃ a u, s = a :: u ∧ a ≠ 45 ∧ a ≠ 93 ∧ a ≠ 94 := by
  cases h with
  | raw h1 h2 => exact ⟨c, [], rfl, fun z => h2 (by rw [z]; decide +kernel), fun z => h2 (by rw [z]; decide +kernel), fun z => h2 (by rw [z]; decide +kernel)⟩
  | esc h1 => exact ⟨92, _, rfl, by decide, by decide, by decide⟩
  | nl => exact ⟨92, _, rfl, by decide, by decide, by decide⟩
theorem CharS.mem {c : Nat} {s : List Nat} (h : CharS c s) : c ∈ cst_ALPHABET := by
  cases h with
  | raw h1 h2 => exact h1
  | esc h1 =>
    have : ∀ c ∈ cst_ESCAPED, c ∈ cst_ALPHABET := by decide +kernel
    exact this c h1
  | nl => decide +kernel
theorem MemS.head {cs s : List Nat} (h : MemS cs s) : ∃ a u, s = a :: u ∧ a ≠ 45 ∧ a ≠ 93 ∧ a ≠ 94 := by
  cases h with
  | one h => exact h.head
  | run h _ _ => obtain ⟨a, u, e, z⟩ := h.head; exact ⟨a, u ++ _, by rw [e]; rfl, z⟩
theorem MemsS.head {cs s : List Nat} (h : MemsS cs s) : ∃ a u, s = a :: u ∧ a ≠ 45 ∧ a ≠ 93 ∧ a ≠ 94 := by
  cases h with
  | one h => exact h.head
  | cons h _ => obtain ⟨a, u, e, z⟩ := h.head; exact ⟨a, u ++ _, by rw [e]; rfl, z⟩
theorem seg_len (a b : Nat) : (seg a b).length ≤ 95 := by
  unfold seg
  rw [List.length_take, List.length_drop]
  have e : cst_ALPHABET.length = 95 := by decide +kernel
  omega
theorem MemS.len {cs s : List Nat} (h : MemS cs s) : cs.length ≤ 95 * s.length := by
  cases h with
  | one h =>
    obtain ⟨a, u, e, _⟩ := h.head
    rw [e]
    simp
    omega
  | @run a b s u h _ _ =>
    obtain ⟨c, v, e, _⟩ := h.head
    have := seg_len a b
    rw [e]
    simp only [List.length_append, List.length_cons]
    omega
theorem MemsS.len {cs s : List Nat} (h : MemsS cs s) : cs.length ≤ 95 * s.length := by
  induction h with
  | one h => exact h.len
  | cons h _ ih =>
    have := h.len
    simp only [List.length_append]
    omega

def kids (e : Bool) (ts : List Pt) : Nat := (flatP e ts).length
theorem kids_jn {e b : Bool} {ts : List Pt} {n : Nat} (h1 : 1 ≤ n) (h : kids e ts ≤ n) : (kidsOf e (jn b ts)).length ≤ n := by
  match ts, h with
  | [t], h =>
    show (kidsOf e t).length ≤ n
    have e1 : kids e [t] = (kidsOf e t).length := by simp [kids, flatP]
    omega
  | [], h =>
    show (if b = e then [] else [.nd b []] : List Pt).length ≤ n
    split <;> simp <;> omega
  | t :: u :: r, h =>
    show (if b = e then flatP b (t :: u :: r) else [.nd b (flatP b (t :: u :: r))] : List Pt).length ≤ n
    split
    · rename_i z
      subst z
      exact h
    · simp
      omega
theorem kids_cons {e : Bool} {t : Pt} {ts : List Pt} : kids e (t :: ts) = (kidsOf e t).length + kids e ts := by simp [kids, flatP]
theorem kids_nil {e : Bool} : kids e [] = 0 := rfl
mutual
theorem El.kids (e : Bool) : ∀ {n : Nat} {t : Pt} {s : List Nat}, El n t s → (kidsOf e t).length ≤ s.length
  | _, _, _, .dot => by simp [kidsOf]
  | _, _, _, .lit _ _ => by simp [kidsOf]
  | _, _, _, .esc _ => by simp [kidsOf]
  | _, _, _, .nl => by simp [kidsOf]
  | _, _, _, .set _ => by simp [kidsOf]
  | _, _, _, .grp h => by
    have := h.kids e
    refine kids_jn (by simp) ?_
    simp
    omega
theorem Pa.kids (e : Bool) : ∀ {n : Nat} {b : Bool} {t : Pt} {s : List Nat}, Pa n b t s → (kidsOf e t).length ≤ s.length
  | _, _, _, _, .el h => h.kids e
  | _, _, _, _, .rep h _ => by simp [kidsOf]
theorem Sq.kids (e : Bool) : ∀ {n : Nat} {ts : List Pt} {s : List Nat}, Sq n ts s → PK.kids e ts ≤ s.length
  | _, _, _, .one h => by
    have := h.kids e
    rw [kids_cons, kids_nil]
    omega
  | _, _, _, .cons h g => by
    have h1 := h.kids e
    have h2 := g.kids e
    rw [kids_cons, List.length_append]
    omega
theorem Al.kids (e : Bool) : ∀ {n : Nat} {ts : List Pt} {s : List Nat}, Al n ts s → PK.kids e ts ≤ s.length
  | _, _, _, .one h => by
    have h1 := h.kids e
    obtain ⟨c, u, hu, _⟩ := h.head
    rw [kids_cons, kids_nil]
    exact kids_jn (by rw [hu]; simp) h1
  | _, _, _, .cons h g => by
    have h1 := h.kids e
    have h2 := g.kids e
    obtain ⟨c, u, hu, _⟩ := h.head
    rw [kids_cons, List.length_append, List.length_cons]
    have := kids_jn (b := false) (by rw [hu]; simp) h1
    omega
end

/-! ### the reader's methods -/
def RdO (C dx : Addr) (l : List Nat) (p : Nat) : MO := .ins C dx [("pattern", .str (tx l)), ("at", .int p)]
def isM (d0 : D) (M0 : Mu) : D → Mu → Prop := fun d M => d = d0 ∧ M = M0
/-- a method of the reader: it takes s off what is left, r is left then, d is its answer -/
def W_met (C : Addr) (Rel : List Nat → List Nat → D → Prop) : Wt := fun ds M k => ∃ (a dx : Addr) (l : List Nat) (p : Nat) (s r : List Nat) (d : D), ds = [.ref a] ∧ M = [(a, RdO C dx l p)] ∧ l.length ≤ 100000 ∧ AtR l p (s ++ r) ∧ Rel s r d ∧ k d [(a, RdO C dx l (p + s.length))]
section
variable {K : PySem.W.Frag} {mg : Str → Option Value} {δ : DS} {M R : Mu} {k : D → Mu → Prop} {A : AEnds} {a C dx : Addr} {l s r : List Nat} {p : Nat} {d : D} {m : Str} {Rel : List Nat → List Nat → D → Prop}
theorem ae_self_at (kC : Cl_PatternReader K mg C) (h : δ[0]? = some (some (.ref a))) (q : k (.int p) ((a, RdO C dx l p) :: R)) : AE K (tFld K (tVar 0) "at") δ ((a, RdO C dx l p) :: R) k :=
  ae_fld (ae_var h ⟨a, C, dx, _, .int p, [], R, rfl, rfl, kC.cl, kC.n_at, rfl, q⟩)
theorem ae_self_pattern (kC : Cl_PatternReader K mg C) (h : δ[0]? = some (some (.ref a))) (q : k (.str (tx l)) ((a, RdO C dx l p) :: R)) : AE K (tFld K (tVar 0) "pattern") δ ((a, RdO C dx l p) :: R) k :=
  ae_fld (ae_var h ⟨a, C, dx, _, .str (tx l), [], R, rfl, rfl, kC.cl, kC.n_pattern, rfl, q⟩)
theorem as_self_at (kC : Cl_PatternReader K mg C) (h : δ[0]? = some (some (.ref a))) (q : A.nx δ ((a, RdO C dx l (p + 1)) :: R)) : AS K (sFldAug K (tVar 0) (tC (.int 1)) rAdd "at") δ ((a, RdO C dx l p) :: R) A :=
  as_sfldaug (ae_var h ⟨a, C, dx, _, p, rfl, ⟨[], R, rfl⟩, kC.cl, kC.n_at, rfl, ae_int ⟨1, _, [], R, rfl, rfl, by show 2 < 1000; decide, q⟩⟩)
theorem ae_self_call (hm : ([("pattern", D.str (tx l)), ("at", D.int p)] : List (Str × D)).lookup m = none) (h : δ[0]? = some (some (.ref a))) (hl : l.length ≤ 100000) (at_ : AtR l p (s ++ r)) (rel : Rel s r d) (q : k d ((a, RdO C dx l (p + s.length)) :: R)) :
    AE K (tMeth C m (Spc K (W_met C Rel)) [] C8.E0 (tVar 0) tNil) δ ((a, RdO C dx l p) :: R) k :=
  ae_meth (ae_var h ⟨a, dx, _, rfl, ⟨[], R, rfl⟩, hm, aa_nil ⟨[_], R, isM d [(a, RdO C dx l (p + s.length))], rfl, ⟨a, dx, l, p, s, r, d, rfl, rfl, hl, at_, rel, rfl, rfl⟩, fun d' M' h => by obtain ⟨rfl, rfl⟩ := h; exact q⟩⟩)
end
def RelAhead (s r : List Nat) (d : D) : Prop := s = [] ∧ d = .str (tx (r.take 1))
def RelChr (s r : List Nat) (d : D) : Prop := ∃ c, s = [c] ∧ d = .str (tx [c])
def RelEsc (s r : List Nat) (d : D) : Prop := ∃ c, d = .str (tx [c]) ∧ ((s = [110] ∧ c = 10) ∨ (s = [c] ∧ c ∈ cst_ESCAPED))
def RelSetC (s r : List Nat) (d : D) : Prop := ∃ c, CharS c s ∧ d = .str (tx [c])
def RelMem (s r : List Nat) (d : D) : Prop := ∃ cs, MemS cs s ∧ r.head? ≠ some 45 ∧ d = .str (tx cs)
def RelSet (s r : List Nat) (d : D) : Prop := ∃ cs u, SetS cs u ∧ s = u ++ [93] ∧ d = .str (tx cs)
def RelEl (n : Nat) (s r : List Nat) (d : D) : Prop := ∃ t, El n t s ∧ d = t.d
def RelGrp (n : Nat) (s r : List Nat) (d : D) : Prop := ∃ ts u, Al n ts u ∧ s = u ++ [41] ∧ d = (jn true ts).d
/-- what may stand behind a part without a sign of repetition -/
def RelPa (n : Nat) (s r : List Nat) (d : D) : Prop := ∃ b t, Pa n b t s ∧ (b = false → ∀ c, r.head? = some c → c ∉ [42, 43, 63]) ∧ d = t.d
def RelSq (n : Nat) (s r : List Nat) (d : D) : Prop := ∃ ts, Sq n ts s ∧ (∀ c, r.head? = some c → c = 124 ∨ c = 41) ∧ d = (jn false ts).d
def RelAl (n : Nat) (s r : List Nat) (d : D) : Prop := ∃ ts, Al n ts s ∧ (∀ c, r.head? = some c → c = 41) ∧ d = (jn true ts).d
theorem take1_eq {r : List Nat} {c : Nat} : decide (tx (r.take 1) = tx [c]) = decide (r.head? = some c) := by
  rw [tx_eq]
  cases r with
  | nil => rfl
  | cons a r => simp
section
variable {P : Program} {w : World} {K : PySem.W.Frag} {mg : Str → Option Value} {base : Heap} {C : Addr}
theorem m_ahead (kC : Cl_PatternReader K mg C) : C8.Met P w K mg base 1 C "ahead" (Spc K (W_met C RelAhead)) [] := met_of kC.cl kC.d_ahead fun f fd F => by
  exact spc_ok F sc_PatternReader_ahead (fun ds M k h => by obtain ⟨a, dx, l, p, s, r, d, rfl, _⟩ := h; rfl) fun cdv A outer s H E hr => ⟨_, (pss_one (ps_ret (pe_slice (sl_K (K := K)) (fld_K (K := K) (pv 0)) (po_some (fld_K (K := K) (pv 0))) (po_some (pe_op (add_K (K := K)) (fld_K (K := K) (pv 0)) pe_int))))), fun ds M kk hw => by
    obtain ⟨a, dx, l, p, s, r, d, rfl, rfl, hl, at_, ⟨rfl, rfl⟩, q⟩ := hw
    have hsz := sizeLine_eq
    refine as_start (δ' := [some (.ref a)]) rfl ?_
    walk_at "tg"
    refine ae_self_pattern kC rfl ?_
    walk_at "tg"
    refine ae_self_at kC rfl ?_
    refine ⟨_, rfl, ?_⟩
    walk_at "tg"
    refine ae_self_at kC rfl ?_
    walk_at "tg"
    refine asl_str (by omega) ?_
    have e : Tg.cutD l (some (p : Int)) (some ((p : Int) + 1)) = r.take 1 := by
      unfold Tg.cutD
      obtain ⟨h1, h2⟩ := at_
      have e1 : ((p : Int) + 1) = ((p + 1 : Nat) : Int) := by omega
      rw [e1, HT.sIx_nat, HT.sIx_nat, Nat.min_eq_left h2, h1]
      by_cases c : p + 1 ≤ l.length
      · rw [Nat.min_eq_left c]
        have e2 : p + 1 - p = 1 := by omega
        rw [e2]
        rfl
      · have e3 : p = l.length := by omega
        subst e3
        have e4 : r = [] := by
          have : l.drop l.length = [] := List.drop_length
          rw [this] at h1
          exact h1.symm
        subst e4
        simp
    rw [e]
    exact q⟩
end

theorem at_end {kk : D → Mu → Prop} {d : D} {a C dx : Addr} {l : List Nat} {n n' : Nat} {R : Mu} (e : n = n') (q : kk d ((a, RdO C dx l n) :: R)) : kk d ((a, RdO C dx l n') :: R) := e ▸ q
theorem head_is {r : List Nat} {c : Nat} {z : Str} (e : z = tx [c]) : tx (r.take 1) = z ↔ r.head? = some c := by
  subst e
  cases r with
  | nil => exact ⟨fun h => (by cases tx_inj h), fun h => (by cases h)⟩
  | cons a r => exact ⟨fun h => by have := tx_inj h; simp at this; simp [this], fun h => by simp at h; simp [h]⟩
theorem head_no {r : List Nat} {c a : Nat} {u : List Nat} (e : r = a :: u) (h : a ≠ c) : ¬ r.head? = some c := fun z => h (by rw [e] at z; simpa using z)
theorem one_is {a c : Nat} {z : Str} (e : z = tx [c]) : tx [a] = z ↔ a = c := by
  subst e
  exact ⟨fun h => by have := tx_inj h; simpa using this, fun h => by rw [h]⟩
theorem al_find : ∀ c ∈ cst_ALPHABET, ∃ rest, Builtin.Str.occurrences (tx cst_ALPHABET) (tx [c]) 0 (tx cst_ALPHABET).length 1 = alix c :: rest := by
  have h : (cst_ALPHABET.all fun c => match Builtin.Str.occurrences (tx cst_ALPHABET) (tx [c]) 0 (tx cst_ALPHABET).length 1 with | a :: _ => decide (a = alix c) | [] => false) = true := by decide +kernel
  intro c hc
  have h2 := List.all_eq_true.mp h c hc
  cases e : Builtin.Str.occurrences (tx cst_ALPHABET) (tx [c]) 0 (tx cst_ALPHABET).length 1 with
  | nil => rw [e] at h2; cases h2
  | cons a rest =>
    rw [e] at h2
    have h3 : a = alix c := of_decide_eq_true h2
    exact ⟨rest, by rw [h3]⟩
theorem al_len : cst_ALPHABET.length = 95 := by decide +kernel
theorem alix_lt {c : Nat} (h : c ∈ cst_ALPHABET) : alix c < 95 := by
  have := List.idxOf_lt_length_iff.mpr h
  rw [al_len] at this
  exact this
theorem seg_cut (a b : Nat) (ha : alix a ≤ 95) (hb : alix b < 95) : Tg.cutD cst_ALPHABET (some (alix a : Int)) (some ((alix b : Int) + 1)) = seg a b := by
  unfold Tg.cutD seg
  have e1 : ((alix b : Int) + 1) = ((alix b + 1 : Nat) : Int) := by omega
  rw [e1, HT.sIx_nat, HT.sIx_nat, al_len, Nat.min_eq_left ha, Nat.min_eq_left (by omega)]
def MR (ds u : List Nat) : Prop := (u = [] ∧ ds = []) ∨ MemsS ds u
theorem mems_uncons {ms v : List Nat} (h : MemsS ms v) : ∃ cs s ds u, MemS cs s ∧ v = s ++ u ∧ ms = cs ++ ds ∧ MR ds u := by
  cases h with
  | @one cs s h => exact ⟨ms, v, [], [], h, by simp, by simp, .inl ⟨rfl, rfl⟩⟩
  | @cons cs s ds u h g => exact ⟨cs, s, ds, u, h, rfl, rfl, .inr g⟩
theorem MR.head {ds u r : List Nat} (h : MR ds u) : (u ++ 93 :: r).head? ≠ some 45 := by
  rcases h with ⟨rfl, _⟩ | h
  · simp
  · obtain ⟨a, v, e, z, _⟩ := h.head
    rw [e]
    simp [z]
theorem set_parts {cs u : List Nat} (h : SetS cs u) : ∃ (ex : Bool) (ms v : List Nat), MemsS ms v ∧ u = (if ex then [94] else []) ++ v ∧ cs = cst_ALPHABET.filter (fun c => decide (c ∈ ms) != ex) ∧ cs ≠ [] := by
  cases h with
  | @pos ms s cs h1 h2 h3 => exact ⟨false, ms, u, h1, rfl, by rw [h2]; congr 1; funext c; simp, h3⟩
  | @neg ms s cs h1 h2 h3 => exact ⟨true, ms, s, h1, rfl, by rw [h2]; congr 1; funext c; cases decide (c ∈ ms) <;> rfl, h3⟩

/-! ### trees joined -/
def Pt.hd : Pt → Str
  | .chars _ => Str.ofString "chars"
  | .nd e _ => ndS e
  | .rep k _ => repS k
def Pt.inn : Pt → D
  | .chars cs => .str (tx cs)
  | .nd _ ps => .tup (ps.map Pt.d)
  | .rep _ p => p.d
theorem Pt.d_eq (t : Pt) : t.d = .tup [.str t.hd, t.inn] := by
  cases t with
  | chars cs => unfold Pt.d; rfl
  | nd e ps =>
    unfold Pt.d
    rw [Pt.ds_map]
    rfl
  | rep k p => unfold Pt.d; rfl
theorem nd_inj {e j : Bool} : ndS j = ndS e ↔ j = e := by
  refine ⟨fun h => ?_, fun h => by rw [h]⟩
  cases e <;> cases j <;> first | rfl | (exact absurd h (by decide))
theorem hd_nd {t : Pt} {e : Bool} (h : t.hd = ndS e) : ∃ ps, t = .nd e ps := by
  cases t with
  | chars cs =>
    have h' : Str.ofString "chars" = ndS e := h
    cases e <;> exact absurd h' (by decide)
  | nd j ps =>
    have e1 := nd_inj.mp h
    subst e1
    exact ⟨ps, rfl⟩
  | rep k p =>
    have h' : repS k = ndS e := h
    match k with
    | 0 => cases e <;> exact absurd h' (by decide)
    | 1 => cases e <;> exact absurd h' (by decide)
    | k + 2 => 
      have h2 : Str.ofString "maybe" = ndS e := h'
      cases e <;> exact absurd h2 (by decide)
theorem kidsOf_one {t : Pt} {e : Bool} (h : ¬ t.hd = ndS e) : kidsOf e t = [t] := by
  cases t with
  | chars cs => rfl
  | nd j ps =>
    have : ¬ j = e := fun z => h (by rw [z]; rfl)
    show (if j = e then ps else [.nd j ps]) = _
    rw [if_neg this]
  | rep k p => rfl
theorem flatP_snoc {e : Bool} {ts : List Pt} {i : Nat} {t : Pt} (h : ts[i]? = some t) : flatP e (ts.take (i + 1)) = flatP e (ts.take i) ++ kidsOf e t := by
  rw [List.take_add_one, h]
  simp [flatP]
theorem flatP_le {e : Bool} {ts : List Pt} {i : Nat} : (flatP e (ts.take i)).length ≤ (flatP e ts).length := by
  have : ts = ts.take i ++ ts.drop i := (List.take_append_drop i ts).symm
  conv => rhs; rw [this]
  unfold flatP
  rw [List.flatMap_append, List.length_append]
  omega
def W_joined : Wt := fun ds M k => ∃ (e : Bool) (ts : List Pt), ds = [.str (ndS e), .lst (ts.map Pt.d)] ∧ M = [] ∧ ts ≠ [] ∧ ts.length ≤ 100000 ∧ (flatP e ts).length ≤ 100000 ∧ k (jn e ts).d []
section
variable {P : Program} {w : World} {K : PySem.W.Frag} {mg : Str → Option Value} {base : Heap} {C : Addr}
theorem c_joined (T : Top K mg w) : Cal P w K mg base 1 "joined" (Spc K W_joined) [] := cal_of T.d_joined fun f fd F => by
  exact spc_ok F sc_joined (fun ds M k h => by obtain ⟨e, ts, rfl, _⟩ := h; rfl) fun cdv A outer s H E hr => ⟨_, (pss_cons (ps_if (pt_cmpR op_eq (pe_callB (len_K (K := K)) (by rfl) T.m_len (by decide +kernel) (pa_cons (pv 1) pa_nil)) pe_int (nomark _))
      (pss_one (ps_ret (pe_ix (ix_K (K := K)) (pv 1) pe_int (fun _ _ => rfl))))
      pss_nil)
      (pss_cons (ps_set (i := 2) sc_joined.nd rfl (Or.inl rfl) (pe_lstM (pe_lst pa_nil)))
      (pss_cons (ps_for PassesOwn.never rfl (seq_K (K := K) (pv 1)) (pg_name (i := 3) sc_joined.nd rfl (Or.inl rfl))
      (pss_one (ps_if (pt_cmpR op_eq (pe_ix (ix_K (K := K)) (pv 3) pe_int (fun _ _ => rfl)) (pv 0) (nomark _))
      (pss_one (ps_expr (extU_K (K := K) (pe_bm PySem.F.plainAttrs_list PySem.F.slot_list_extend PySem.F.type_list_extend mt_extendU (pv 2) (pa_cons (pe_ix (ix_K (K := K)) (pv 3) pe_int (fun _ _ => rfl)) pa_nil)))))
      (pss_one (ps_expr (app_K (K := K) (pe_bm PySem.F.plainAttrs_list PySem.F.slot_list_append PySem.F.type_list_append mt_append (pv 2) (pa_cons (pv 3) pa_nil))))))))
      (pss_one (ps_ret (pe_tup (pa_cons (pv 0) (pa_cons (pe_callTy (tup_K (K := K)) (by rfl) T.m_tuple (by decide +kernel) (pa_cons (pv 2) pa_nil)) pa_nil)))))))), fun ds M kk hw => by
    obtain ⟨e, ts, rfl, rfl, hne, hl, hfl, q⟩ := hw
    have hsz := sizeLine_eq
    refine as_start (δ' := [some (.str (ndS e)), some (.lst (ts.map Pt.d)), none, none]) rfl ?_
    refine as_seq ?_
    walk_at "tg"
    rw [List.length_map]
    refine dcase (fun c1 => ?_) (fun c1 => ?_)
    · have c2 : ts.length = 1 := by omega
      obtain ⟨t, rfl⟩ := List.length_eq_one_iff.mp c2
      walk_at "tg"
      refine aix_L (d := t.d) rfl ?_
      exact q
    · walk_at "tg"
      intro ar
      walk_at "tg"
      refine ⟨fun i δ' M' => ∃ x : Option D, i ≤ ts.length ∧ δ' = [some (.str (ndS e)), some (.lst (ts.map Pt.d)), some (.ref ar), x] ∧ M' = [(ar, .lst ((flatP e (ts.take i)).map Pt.d))], ⟨none, Nat.zero_le _, rfl, rfl⟩, ?_, ?_⟩
      · rintro i d δ' M' hd ⟨x, hi, rfl, rfl⟩
        rw [List.getElem?_map] at hd
        cases hc : ts[i]? with
        | none => rw [hc] at hd; cases hd
        | some t =>
          rw [hc] at hd
          have e1 : t.d = d := by simpa using hd
          subst e1
          have hil := (List.getElem?_eq_some_iff.mp hc).1
          have hle := flatP_le (e := e) (ts := ts) (i := i + 1)
          rw [flatP_snoc hc, List.length_append] at hle
          walk_at "tg"
          rw [Pt.d_eq]
          walk_at "tg"
          refine dcase (fun c3 => ?_) (fun c3 => ?_)
          · obtain ⟨ps, rfl⟩ := hd_nd c3
            have hk : kidsOf e (.nd e ps) = ps := if_pos rfl
            rw [hk] at hle
            walk_at "tg"
            refine am_extU (M1 := []) rfl (es := ps.map Pt.d) (by rw [List.length_map, List.length_map]; omega) (.inr rfl) ?_
            refine ⟨_, hil, rfl, ?_⟩
            rw [flatP_snoc hc, hk, List.map_append]
            rfl
          · rw [kidsOf_one c3] at hle
            walk_at "tg"
            refine app0 (by rw [List.length_map]; omega) ?_
            refine ⟨_, hil, rfl, ?_⟩
            rw [flatP_snoc hc, kidsOf_one c3, List.map_append]
            show [(ar, MO.lst (List.map Pt.d (flatP e (List.take i ts)) ++ [D.tup [D.str t.hd, t.inn]]))] = _
            rw [← Pt.d_eq]
            rfl
      · rintro δ' M' ⟨x, hi, rfl, rfl⟩
        rw [List.length_map, List.take_length]
        refine frz0 (s := 2) rfl ?_
        walk_at "tg"
        have hj : jn e ts = .nd e (flatP e ts) := by
          match ts, hne, c1 with
          | [t], _, c1 => exact absurd rfl c1
          | t :: u :: r, _, _ => rfl
        rw [hj, Pt.d_eq] at q
        exact q⟩
end

/-! ### the parser's own methods, by the depth of parentheses -/
def RelGrp' : Nat → List Nat → List Nat → D → Prop
  | 0 => fun _ _ _ => False
  | n + 1 => RelGrp n
theorem lk_no {z k v : Str} {r : List (Str × Str)} (h : z ≠ k) : ((k, v) :: r).lookup z = r.lookup z := by
  have hb : (z == k) = false := beq_eq_false_iff_ne.mpr h
  simp [List.lookup, hb]
theorem lk_yes {k v : Str} {r : List (Str × Str)} : ((k, v) :: r).lookup k = some v := by
  have hb : (k == k) = true := beq_self_eq_true k
  simp [List.lookup, hb]
theorem reps_none {r : List Nat} (h : ∀ c, r.head? = some c → c ∉ [42, 43, 63]) : cst_REPEATS.lookup (tx (r.take 1)) = none := by
  cases r with
  | nil => decide +kernel
  | cons a r =>
    have ha := h a rfl
    have ne : ∀ c ∈ [42, 43, 63], tx (List.take 1 (a :: r)) ≠ tx [c] := fun c hc z => by
      have := tx_inj z
      simp at this
      exact ha (by rw [this]; exact hc)
    unfold cst_REPEATS
    rw [lk_no (ne 42 (by decide)), lk_no (ne 43 (by decide)), lk_no (ne 63 (by decide))]
    rfl
theorem reps_some {k : Nat} (h : k < 3) (r : List Nat) : cst_REPEATS.lookup (tx (([repC k] ++ r).take 1)) = some (repS k) := by
  have e : ([repC k] ++ r).take 1 = [repC k] := rfl
  rw [e]
  match k, h with
  | 0, _ => decide +kernel
  | 1, _ => decide +kernel
  | 2, _ => decide +kernel
theorem ends_iff {r : List Nat} : tx (r.take 1) ∈ cst_SEQUENCE_ENDS ↔ ∀ c, r.head? = some c → c = 124 ∨ c = 41 := by
  have e : cst_SEQUENCE_ENDS = [tx [], tx [124], tx [41]] := rfl
  rw [e]
  cases r with
  | nil => simp
  | cons a r =>
    simp only [List.take_succ_cons, List.take_zero, List.mem_cons, List.not_mem_nil, or_false, List.head?_cons, Option.some.injEq]
    constructor
    · rintro (h | h | h) c hc
      · have := tx_inj h; simp at this
      · have := tx_inj h; simp at this; left; omega
      · have := tx_inj h; simp at this; right; omega
    · intro h
      rcases h a rfl with z | z
      · right; left; rw [z]
      · right; right; rw [z]
def SqR (n : Nat) (ts : List Pt) (u : List Nat) : Prop := (u = [] ∧ ts = []) ∨ Sq n ts u
theorem sq_uncons {n : Nat} {ts : List Pt} {v : List Nat} (h : Sq n ts v) : ∃ b t s us u, Pa n b t s ∧ v = s ++ u ∧ ts = t :: us ∧ SqR n us u := by
  cases h with
  | @one n b t s h => exact ⟨b, t, v, [], [], h, by simp, rfl, .inl ⟨rfl, rfl⟩⟩
  | @cons n b t s us u h g => exact ⟨b, t, s, us, u, h, rfl, rfl, .inr g⟩
theorem SqR.head {n : Nat} {ts : List Pt} {u r : List Nat} (h : SqR n ts u) (hr : ∀ c, r.head? = some c → c = 124 ∨ c = 41) : ∀ c, (u ++ r).head? = some c → c ∉ [42, 43, 63] := by
  intro c hc
  rcases h with ⟨rfl, _⟩ | h
  · rcases hr c hc with z | z <;> subst z <;> decide
  · obtain ⟨a, v, e, z⟩ := h.head
    rw [e] at hc
    have e2 : a = c := by simpa using hc
    subst e2
    exact fun q => z (by
      have : ∀ x ∈ [42, 43, 63], x ∈ stops := by decide
      exact this a q)
theorem Sq.len {n : Nat} {ts : List Pt} {s : List Nat} (h : Sq n ts s) : ts.length ≤ s.length := by
  match h with
  | .one h =>
    obtain ⟨a, v, e, z⟩ := h.head
    rw [e]
    simp
  | .cons h g =>
    obtain ⟨a, v, e, z⟩ := h.head
    have := g.len
    rw [e]
    simp
    omega
def AlR (n : Nat) (ts : List Pt) (u : List Nat) : Prop := (u = [] ∧ ts = []) ∨ ∃ v, u = 124 :: v ∧ Al n ts v
theorem al_uncons {n : Nat} {ts : List Pt} {v : List Nat} (h : Al n ts v) : ∃ qs s us u, Sq n qs s ∧ v = s ++ u ∧ ts = jn false qs :: us ∧ AlR n us u := by
  cases h with
  | @one n qs s h => exact ⟨qs, v, [], [], h, by simp, rfl, .inl ⟨rfl, rfl⟩⟩
  | @cons n qs s us u h g => exact ⟨qs, s, us, 124 :: u, h, rfl, rfl, .inr ⟨u, rfl, g⟩⟩
theorem AlR.head {n : Nat} {ts : List Pt} {u r : List Nat} (h : AlR n ts u) (hr : ∀ c, r.head? = some c → c = 41) : ∀ c, (u ++ r).head? = some c → c = 124 ∨ c = 41 := by
  intro c hc
  rcases h with ⟨rfl, _⟩ | ⟨v, rfl, h⟩
  · exact .inr (hr c hc)
  · left
    simpa using hc.symm
theorem Al.len {n : Nat} {ts : List Pt} {s : List Nat} (h : Al n ts s) : ts.length ≤ s.length := by
  match h with
  | .one h =>
    obtain ⟨a, v, e, z⟩ := h.head
    rw [e]
    simp
  | .cons h g =>
    have := g.len
    simp
    omega

/-! ### the reader's methods, which may raise -/
section
variable {P : Program} {w : World} {K : PySem.W.Frag} {mg : Str → Option Value} {base : Heap}
theorem ok_init_BadPattern {C fI : Addr} {fd : FuncData} (e : ErrT_BadPattern K mg C) (F : Fun K "__init__" "BadPattern.__init__" s_BadPattern_init fI fd) : FnOk P w K mg base CX0 1 fI fd ["self", "position"] (spIni1 K C "position") := by
  refine F.ok sc_BadPattern_init (fun vs H Q E h => ?_) (fun cdv A outer s H vs Q E hr h => ?_)
  · obtain ⟨a, y, rfl, _⟩ := h
    rfl
  · obtain ⟨a, y, rfl, ha, q⟩ := h
    refine ⟨_, pss_one (ps_ost (pv 0) (pv 1)), ?_⟩
    exact ⟨y, rfl, .ref a, rfl, a, C, rfl, e.o, e.n1, .inl ⟨ha, fun dx hdx hne => q dx hdx hne⟩⟩
end
abbrev posF (n : Nat) : List (Str × D) := [("position", .int (n : Nat))]
/-- as W_met, but an error may come: Fl r j, of what is left, r, at j behind it -/
def W_metX (C : Addr) (Rel : List Nat → List Nat → D → Prop) (Fl : List Nat → Nat → Prop) : WtX := fun ds M k kx => ∃ (a dx : Addr) (l : List Nat) (p : Nat), ds = [.ref a] ∧ M = [(a, RdO C dx l p)] ∧ l.length ≤ 100000 ∧
  ((∃ s r d, AtR l p (s ++ r) ∧ Rel s r d ∧ k d [(a, RdO C dx l (p + s.length))]) ∨ ∃ r j, AtR l p r ∧ Fl r j ∧ ∀ M', kx (posF (p + j)) M')
theorem metX_len {C : Addr} {Rel : List Nat → List Nat → D → Prop} {Fl : List Nat → Nat → Prop} : ∀ ds M k kx, W_metX C Rel Fl ds M k kx → ds.length = ["self"].length := fun ds M k kx h => by
  obtain ⟨a, dx, l, p, rfl, _⟩ := h
  rfl
section
variable {K : PySem.W.Frag} {mg : Str → Option Value} {δ : DS} {M R : Mu} {k : D → Mu → Prop} {A : AEnds} {a C Ce dx : Addr} {l s r : List Nat} {p j : Nat} {d : D} {m : Str} {Rel : List Nat → List Nat → D → Prop} {Fl : List Nat → Nat → Prop} {E : XK} {xs : XS} {W : Addr → Hp → Prop}
theorem aex_call (hW : W = fun d H' => E (.ref Ce) (some d) H') (hm : ([("pattern", D.str (tx l)), ("at", D.int p)] : List (Str × D)).lookup m = none) (h : δ[0]? = some (some (.ref a))) (hl : l.length ≤ 100000) (at_ : AtR l p (s ++ r)) (rel : Rel s r d) (q : k d ((a, RdO C dx l (p + s.length)) :: R)) :
    AEX K (tMeth C m (SpcX K Ce (W_metX C Rel Fl)) [] E (tVar 0) tNil) δ ((a, RdO C dx l p) :: R) xs W k :=
  aex_meth hW (ae_var h ⟨a, dx, _, rfl, ⟨[], R, rfl⟩, hm, aa_nil ⟨[_], R, isM d [(a, RdO C dx l (p + s.length))], fun _ _ => False, rfl, ⟨a, dx, l, p, rfl, rfl, hl, .inl ⟨s, r, d, at_, rel, rfl, rfl⟩⟩, (fun d' M' h => by obtain ⟨rfl, rfl⟩ := h; exact q), fun _ _ h => h.elim⟩⟩)
theorem aex_fail (hW : W = fun d H' => E (.ref Ce) (some d) H') (hm : ([("pattern", D.str (tx l)), ("at", D.int p)] : List (Str × D)).lookup m = none) (h : δ[0]? = some (some (.ref a))) (hl : l.length ≤ 100000) (at_ : AtR l p r) (fl : Fl r j) (q : ∀ M', xs (posF (p + j)) M') :
    AEX K (tMeth C m (SpcX K Ce (W_metX C Rel Fl)) [] E (tVar 0) tNil) δ ((a, RdO C dx l p) :: R) xs W k :=
  aex_meth hW (ae_var h ⟨a, dx, _, rfl, ⟨[], R, rfl⟩, hm, aa_nil ⟨[_], R, (fun _ _ => False), fun fs M' => fs = posF (p + j), rfl, ⟨a, dx, l, p, rfl, rfl, hl, .inr ⟨r, j, at_, fl, fun _ => rfl⟩⟩, (fun _ _ h => h.elim), fun fs M' h => by subst h; exact q _⟩⟩)
theorem x_end {kx : XS} {i : Int} {M' : Mu} (qx : ∀ M', kx (posF (p + j)) M') (e : i = ((p + j : Nat) : Int)) : kx [("position", .int i)] M' := by
  rw [e]
  exact qx M'
theorem x_mv {kx : XS} {p2 j2 : Nat} (qx : ∀ M', kx (posF (p + j)) M') (e : p2 + j2 = p + j) : ∀ M', kx (posF (p2 + j2)) M' := by
  rw [e]
  exact qx
end
def FChr (r : List Nat) (j : Nat) : Prop := r = [] ∧ j = 0
def FEsc (r : List Nat) (j : Nat) : Prop := j = 0 ∧ (r = [] ∨ ∃ c r', r = c :: r' ∧ c ≠ 110 ∧ c ∉ cst_ESCAPED)
def FSetC (r : List Nat) (j : Nat) : Prop := (r = [] ∧ j = 0) ∨ (∃ r' j', r = 92 :: r' ∧ FEsc r' j' ∧ j = j' + 1) ∨ ∃ c r', r = c :: r' ∧ c ≠ 92 ∧ (c ∈ cst_SET_SIGNS ∨ c ∉ cst_ALPHABET) ∧ j = 0
/-- a member, whatever stands behind -/
inductive MemR : List Nat → List Nat → List Nat → Prop
  | one {c : Nat} {s r : List Nat} : CharS c s → r.head? ≠ some 45 → MemR [c] s r
  | run {a b : Nat} {s u r : List Nat} : CharS a s → CharS b u → alix a ≤ alix b → MemR (seg a b) (s ++ 45 :: u) r
def FMem (r : List Nat) (j : Nat) : Prop := FSetC r j ∨ ∃ c s r', r = s ++ 45 :: r' ∧ CharS c s ∧ ((∃ j', FSetC r' j' ∧ j = s.length + 1 + j') ∨ ∃ b u r'', r' = u ++ r'' ∧ CharS b u ∧ alix b < alix c ∧ j = s.length + 1)
def RelMemR (s r : List Nat) (d : D) : Prop := ∃ cs, MemR cs s r ∧ d = .str (tx cs)
theorem rest_nil {l : List Nat} {p : Nat} (h : AtR l p []) : p = l.length := by
  obtain ⟨h1, h2⟩ := h
  have e : (l.drop p).length = l.length - p := List.length_drop ..
  rw [h1] at e
  simp at e
  omega
section
variable {P : Program} {w : World} {K : PySem.W.Frag} {mg : Str → Option Value} {base : Heap} {C Ce : Addr}
theorem x_character (kC : Cl_PatternReader K mg C) (T : Top K mg w) (e_BadPattern : ErrT_BadPattern K mg Ce) : MetX P w K mg base 3 C "character" (SpcX K Ce (W_metX C RelChr FChr)) := metX_of kC.cl kC.d_character fun f fd F => by
  obtain ⟨fI, fdI, iA_BadPattern, iT_BadPattern, FI, iB_BadPattern⟩ := e_BadPattern.i
  have iF_BadPattern := ok_init_BadPattern (P := P) (w := w) (base := base) e_BadPattern FI
  exact spc_okX F sc_PatternReader_character metX_len fun cdv A outer s H E hr => ⟨_, (pss_cons (ps_if (pt_cmpR op_eq (fld_K (K := K) (pv 0)) (pe_callB (len_K (K := K)) (by rfl) T.m_len (by decide +kernel) (pa_cons (fld_K (K := K) (pv 0)) pa_nil)) (nomark _))
      (pss_one (ps_raise1 rfl (takes_of rfl rfl rfl rfl) e_BadPattern.o iA_BadPattern iT_BadPattern iF_BadPattern (hr.mono (by first | decide | omega)) iB_BadPattern pass0 (by rfl) e_BadPattern.m (pa_cons (fld_K (K := K) (pv 0)) pa_nil)))
      pss_nil)
      (pss_cons (sfldaug_K (K := K) (pv 0) pe_int)
      (pss_one (ps_ret (pe_ix (ix_K (K := K)) (fld_K (K := K) (pv 0)) (pe_op op_sub (fld_K (K := K) (pv 0)) pe_int) (fun _ _ => rfl)))))), fun ds M kk kx hw => by
    obtain ⟨a, dx, l, p, rfl, rfl, hl, hw⟩ := hw
    have hsz := sizeLine_eq
    refine as_start (δ' := [some (.ref a)]) rfl ?_
    rcases hw with ⟨s, r, d, at_, ⟨c, rfl, rfl⟩, q⟩ | ⟨r, j, at_, ⟨rfl, rfl⟩, qx⟩
    · have hp : l[p]? = some c ∧ p < l.length := by
        obtain ⟨h1, h2⟩ := at_
        have e : (l.drop p).length = l.length - p := List.length_drop ..
        rw [h1] at e
        simp at e
        refine ⟨?_, by omega⟩
        have : (l.drop p)[0]? = some c := by rw [h1]; rfl
        simpa using this
      refine as_seq ?_
      walk_at "tg"
      refine ae_self_at kC rfl ?_
      walk_at "tg"
      refine ae_self_pattern kC rfl ?_
      walk_at "tg"
      refine caseF (decide_eq_false (by omega)) ?_
      walk_at "tg"
      refine as_seq ?_
      refine as_self_at kC rfl ?_
      walk_at "tg"
      refine ae_self_pattern kC rfl ?_
      walk_at "tg"
      refine ae_self_at kC rfl ?_
      walk_at "tg"
      refine au_ixS (c := c) (by omega) ?_ q
      have e1 : ((p + 1 : Nat) : Int) - 1 = (p : Int) := by omega
      rw [e1]
      exact atI_nat hp.1
    · have hp := rest_nil at_
      refine as_seq ?_
      walk_at "tg"
      refine ae_self_at kC rfl ?_
      walk_at "tg"
      refine ae_self_pattern kC rfl ?_
      walk_at "tg"
      refine caseT (decide_eq_true (by omega)) ?_
      refine as_raise1 rfl ?_
      walk_at "tg"
      refine ae_self_at kC rfl ?_
      walk_at "tg"
      exact x_end qx (by omega)⟩
theorem x_escape (kC : Cl_PatternReader K mg C) (T : Top K mg w) (e_BadPattern : ErrT_BadPattern K mg Ce) : MetX P w K mg base 4 C "escape" (SpcX K Ce (W_metX C RelEsc FEsc)) := metX_of kC.cl kC.d_escape fun f fd F => by
  obtain ⟨fI, fdI, iA_BadPattern, iT_BadPattern, FI, iB_BadPattern⟩ := e_BadPattern.i
  have iF_BadPattern := ok_init_BadPattern (P := P) (w := w) (base := base) e_BadPattern FI
  have x_PatternReader_character := x_character (P := P) (w := w) (base := base) kC T e_BadPattern
  obtain ⟨t_ESCAPED, g_ESCAPED⟩ := T.g_ESCAPED
  exact spc_okX F sc_PatternReader_escape metX_len fun cdv A outer s H E hr => ⟨_, (pss_cons (ps_set (i := 1) sc_PatternReader_escape.nd rfl (Or.inl rfl) (pe_mtX0 (takes_of rfl rfl rfl rfl) x_PatternReader_character hr (by first | decide | omega) (pv 0)))
      (pss_cons (ps_if (pt_cmpR op_eq (pv 1) pe_str (nomark _))
      (pss_one (ps_ret pe_str))
      pss_nil)
      (pss_cons (ps_if (pt_cmpR (notin_K (K := K)) (pv 1) (pe_glob (v := V.str (tx cst_ESCAPED)) (by rfl) g_ESCAPED ⟨_, rfl⟩) (by rfl))
      (pss_one (ps_raise1 rfl (takes_of rfl rfl rfl rfl) e_BadPattern.o iA_BadPattern iT_BadPattern iF_BadPattern (hr.mono (by first | decide | omega)) iB_BadPattern pass0 (by rfl) e_BadPattern.m (pa_cons (pe_op op_sub (fld_K (K := K) (pv 0)) pe_int) pa_nil)))
      pss_nil)
      (pss_one (ps_ret (pv 1)))))), fun ds M kk kx hw => by
    obtain ⟨a, dx, l, p, rfl, rfl, hl, hw⟩ := hw
    have hsz := sizeLine_eq
    refine as_start (δ' := [some (.ref a), none]) rfl ?_
    refine as_seq (as_setX ?_)
    rcases hw with ⟨s, r, d, at_, ⟨c, rfl, hc⟩, q⟩ | ⟨r, j, at_, ⟨rfl, hf⟩, qx⟩
    · rcases hc with ⟨rfl, rfl⟩ | ⟨rfl, hc⟩
      · refine aex_call rfl rfl rfl hl at_ ⟨_, rfl, rfl⟩ ?_
        refine as_seq ?_
        walk_at "tg"
        exact q
      · refine aex_call rfl rfl rfl hl at_ ⟨_, rfl, rfl⟩ ?_
        have hn : c ≠ 110 := fun z => by
          have : (110 : Nat) ∉ cst_ESCAPED := by decide +kernel
          exact this (z ▸ hc)
        refine as_seq ?_
        walk_at "tg"
        refine caseF (decide_eq_false fun z => hn ((one_is rfl).mp z)) ?_
        walk_at "tg"
        refine as_seq ?_
        walk_at "tg"
        refine anin_sign ?_
        refine ⟨_, rfl, ?_⟩
        refine caseF (by rw [decide_eq_true hc]; rfl) ?_
        walk_at "tg"
        exact q
    · rcases hf with rfl | ⟨c, r', rfl, h1, h2⟩
      · exact aex_fail rfl rfl rfl hl at_ ⟨rfl, rfl⟩ qx
      · refine aex_call (s := [c]) (r := r') rfl rfl rfl hl at_ ⟨_, rfl, rfl⟩ ?_
        refine as_seq ?_
        walk_at "tg"
        refine caseF (decide_eq_false fun z => h1 ((one_is rfl).mp z)) ?_
        walk_at "tg"
        refine as_seq ?_
        walk_at "tg"
        refine anin_sign ?_
        refine ⟨_, rfl, ?_⟩
        refine caseT (by rw [decide_eq_false h2]; rfl) ?_
        refine as_raise1 rfl ?_
        walk_at "tg"
        refine ae_self_at kC rfl ?_
        walk_at "tg"
        exact x_end qx (by simp <;> omega)⟩
theorem x_set_character (kC : Cl_PatternReader K mg C) (T : Top K mg w) (e_BadPattern : ErrT_BadPattern K mg Ce) : MetX P w K mg base 5 C "set_character" (SpcX K Ce (W_metX C RelSetC FSetC)) := metX_of kC.cl kC.d_set_character fun f fd F => by
  obtain ⟨fI, fdI, iA_BadPattern, iT_BadPattern, FI, iB_BadPattern⟩ := e_BadPattern.i
  have iF_BadPattern := ok_init_BadPattern (P := P) (w := w) (base := base) e_BadPattern FI
  have x_PatternReader_character := x_character (P := P) (w := w) (base := base) kC T e_BadPattern
  have x_PatternReader_escape := x_escape (P := P) (w := w) (base := base) kC T e_BadPattern
  obtain ⟨t_SET_SIGNS, g_SET_SIGNS⟩ := T.g_SET_SIGNS; obtain ⟨t_ALPHABET, g_ALPHABET⟩ := T.g_ALPHABET
  exact spc_okX F sc_PatternReader_set_character metX_len fun cdv A outer s H E hr => ⟨_, (pss_cons (ps_set (i := 1) sc_PatternReader_set_character.nd rfl (Or.inl rfl) (pe_mtX0 (takes_of rfl rfl rfl rfl) x_PatternReader_character hr (by first | decide | omega) (pv 0)))
      (pss_cons (ps_if (pt_cmpR op_eq (pv 1) pe_str (nomark _))
      (pss_one (ps_ret (pe_mtX0 (takes_of rfl rfl rfl rfl) x_PatternReader_escape hr (by first | decide | omega) (pv 0))))
      pss_nil)
      (pss_cons (ps_if (pw_or (pt_cmpR (in_K (K := K)) (pv 1) (pe_glob (v := V.str (tx cst_SET_SIGNS)) (by rfl) g_SET_SIGNS ⟨_, rfl⟩) (by rfl)) (pw_or1 (pt_cmpR (notin_K (K := K)) (pv 1) (pe_glob (v := V.str (tx cst_ALPHABET)) (by rfl) g_ALPHABET ⟨_, rfl⟩) (by rfl)))).pt
      (pss_one (ps_raise1 rfl (takes_of rfl rfl rfl rfl) e_BadPattern.o iA_BadPattern iT_BadPattern iF_BadPattern (hr.mono (by first | decide | omega)) iB_BadPattern pass0 (by rfl) e_BadPattern.m (pa_cons (pe_op op_sub (fld_K (K := K) (pv 0)) pe_int) pa_nil)))
      pss_nil)
      (pss_one (ps_ret (pv 1)))))), fun ds M kk kx hw => by
    obtain ⟨a, dx, l, p, rfl, rfl, hl, hw⟩ := hw
    have hsz := sizeLine_eq
    refine as_start (δ' := [some (.ref a), none]) rfl ?_
    refine as_seq (as_setX ?_)
    rcases hw with ⟨s, r, d, at_, ⟨c, hc, rfl⟩, q⟩ | ⟨r, j, at_, hf, qx⟩
    · have hc' : (s = [c] ∧ c ∈ cst_ALPHABET ∧ c ∉ cst_SET_SIGNS) ∨ ∃ s1, s = 92 :: s1 ∧ ((s1 = [110] ∧ c = 10) ∨ (s1 = [c] ∧ c ∈ cst_ESCAPED)) := by
        cases hc with
        | raw h1 h2 => exact .inl ⟨rfl, h1, h2⟩
        | esc h1 => exact .inr ⟨[c], rfl, .inr ⟨rfl, h1⟩⟩
        | nl => exact .inr ⟨[110], rfl, .inl ⟨rfl, rfl⟩⟩
      rcases hc' with ⟨rfl, h1, h2⟩ | ⟨s1, rfl, he⟩
      · refine aex_call rfl rfl rfl hl at_ ⟨_, rfl, rfl⟩ ?_
        have hn : c ≠ 92 := fun z => by
          have : (92 : Nat) ∈ cst_SET_SIGNS := by decide +kernel
          exact h2 (z ▸ this)
        refine as_seq ?_
        walk_at "tg"
        refine caseF (decide_eq_false fun z => hn ((one_is rfl).mp z)) ?_
        walk_at "tg"
        refine as_seq ?_
        walk_at "tg"
        refine ain_sign ?_
        refine ⟨_, rfl, ?_⟩
        refine caseFR (decide_eq_false h2) ?_
        walk_at "tg"
        refine anin_sign ?_
        refine ⟨_, rfl, ?_⟩
        refine caseF (by rw [decide_eq_true h1]; rfl) ?_
        walk_at "tg"
        exact q
      · refine aex_call (s := [92]) (r := s1 ++ r) rfl rfl rfl hl at_ ⟨_, rfl, rfl⟩ ?_
        refine as_seq (as_if ?_)
        refine at_test (ae_op (ae_var rfl (ae_str (ar_eqD rfl ⟨_, rfl, ?_⟩))))
        refine caseT rfl ?_
        refine as_retX ?_
        refine aex_call (s := s1) (r := r) rfl rfl rfl hl (AtR.adv (s := [92]) at_) ⟨c, rfl, he⟩ ?_
        exact at_end (by simp; omega) q
    · rcases hf with ⟨rfl, rfl⟩ | ⟨r', j', rfl, hf, rfl⟩ | ⟨c, r', rfl, h1, h2, rfl⟩
      · exact aex_fail rfl rfl rfl hl at_ ⟨rfl, rfl⟩ qx
      · refine aex_call (s := [92]) (r := r') rfl rfl rfl hl at_ ⟨_, rfl, rfl⟩ ?_
        refine as_seq (as_if ?_)
        refine at_test (ae_op (ae_var rfl (ae_str (ar_eqD rfl ⟨_, rfl, ?_⟩))))
        refine caseT rfl ?_
        refine as_retX ?_
        exact aex_fail rfl rfl rfl hl (AtR.adv (s := [92]) at_) hf (x_mv qx (by simp; omega))
      · refine aex_call (s := [c]) (r := r') rfl rfl rfl hl at_ ⟨_, rfl, rfl⟩ ?_
        refine as_seq ?_
        walk_at "tg"
        refine caseF (decide_eq_false fun z => h1 ((one_is rfl).mp z)) ?_
        refine as_next ?_
        refine as_seq ?_
        have fin : ∀ N : DS → Mu → Prop, AS K (tRaise1 K Ce "position" E (tCons (tOp (rI0 fun i j => .int (i - j)) (tFld K (tVar 0) "at") (tC (.int 1))) tNil)) [some (.ref a), some (.str (tx [c]))] [(a, RdO C dx l (p + [c].length))] { nx := N, rt := kk, xs := kx, W := fun d H' => E (.ref Ce) (some d) H' } := fun N => by
          refine as_raise1 rfl ?_
          walk_at "tg"
          refine ae_self_at kC rfl ?_
          walk_at "tg"
          exact x_end qx (by simp <;> omega)
        walk_at "tg"
        refine ain_sign ?_
        refine ⟨_, rfl, ?_⟩
        by_cases z : c ∈ cst_SET_SIGNS
        · refine caseTR (decide_eq_true z) ?_
          exact ⟨fun _ => fin _, fun z => (nomatch z)⟩
        · refine caseFR (decide_eq_false z) ?_
          walk_at "tg"
          refine anin_sign ?_
          refine ⟨_, rfl, ?_⟩
          have h3 : c ∉ cst_ALPHABET := h2.resolve_left z
          refine caseT (by rw [decide_eq_false h3]; rfl) ?_
          exact fin _⟩
theorem x_member (kC : Cl_PatternReader K mg C) (T : Top K mg w) (e_BadPattern : ErrT_BadPattern K mg Ce) : MetX P w K mg base 6 C "member" (SpcX K Ce (W_metX C RelMemR FMem)) := metX_of kC.cl kC.d_member fun f fd F => by
  obtain ⟨fI, fdI, iA_BadPattern, iT_BadPattern, FI, iB_BadPattern⟩ := e_BadPattern.i
  have iF_BadPattern := ok_init_BadPattern (P := P) (w := w) (base := base) e_BadPattern FI
  have x_PatternReader_set_character := x_set_character (P := P) (w := w) (base := base) kC T e_BadPattern
  have c_PatternReader_ahead := m_ahead (P := P) (w := w) (base := base) kC
  obtain ⟨t_ALPHABET, g_ALPHABET⟩ := T.g_ALPHABET
  exact spc_okX F sc_PatternReader_member metX_len fun cdv A outer s H E hr => ⟨_, (pss_cons (ps_set (i := 1) sc_PatternReader_member.nd rfl (Or.inl rfl) (pe_mtX0 (takes_of rfl rfl rfl rfl) x_PatternReader_set_character hr (by first | decide | omega) (pv 0)))
      (pss_cons (ps_if (pt_cmpR op_ne (C8.pe_mt0 c_PatternReader_ahead hr (by first | decide | omega) (pv 0)) pe_str (nomark _))
      (pss_one (ps_ret (pv 1)))
      pss_nil)
      (pss_cons (sfldaug_K (K := K) (pv 0) pe_int)
      (pss_cons (ps_set (i := 2) sc_PatternReader_member.nd rfl (Or.inl rfl) (fld_K (K := K) (pv 0)))
      (pss_cons (ps_set (i := 3) sc_PatternReader_member.nd rfl (Or.inl rfl) (pe_mtX0 (takes_of rfl rfl rfl rfl) x_PatternReader_set_character hr (by first | decide | omega) (pv 0)))
      (pss_cons (ps_if (pt_cmpR op_lt (pe_m1 PySem.F.slot_str_index PySem.F.type_str_index mt_indexU (pe_glob (v := V.str (tx cst_ALPHABET)) (by rfl) g_ALPHABET ⟨_, rfl⟩) (pv 3)) (pe_m1 PySem.F.slot_str_index PySem.F.type_str_index mt_indexU (pe_glob (v := V.str (tx cst_ALPHABET)) (by rfl) g_ALPHABET ⟨_, rfl⟩) (pv 1)) (nomark _))
      (pss_one (ps_raise1 rfl (takes_of rfl rfl rfl rfl) e_BadPattern.o iA_BadPattern iT_BadPattern iF_BadPattern (hr.mono (by first | decide | omega)) iB_BadPattern pass0 (by rfl) e_BadPattern.m (pa_cons (pv 2) pa_nil)))
      pss_nil)
      (pss_one (ps_ret (pe_slice (sl_K (K := K)) (pe_glob (v := V.str (tx cst_ALPHABET)) (by rfl) g_ALPHABET ⟨_, rfl⟩) (po_some (pe_m1 PySem.F.slot_str_index PySem.F.type_str_index mt_indexU (pe_glob (v := V.str (tx cst_ALPHABET)) (by rfl) g_ALPHABET ⟨_, rfl⟩) (pv 1))) (po_some (pe_op (add_K (K := K)) (pe_m1 PySem.F.slot_str_index PySem.F.type_str_index mt_indexU (pe_glob (v := V.str (tx cst_ALPHABET)) (by rfl) g_ALPHABET ⟨_, rfl⟩) (pv 3)) pe_int))))))))))), fun ds M kk kx hw => by
    obtain ⟨a, dx, l, p, rfl, rfl, hl, hw⟩ := hw
    have hsz := sizeLine_eq
    refine as_start (δ' := [some (.ref a), none, none, none]) rfl ?_
    refine as_seq (as_setX ?_)
    have dash : ∀ {c : Nat} {s u : List Nat}, AtR l p (s ++ 45 :: u) → CharS c s → ∀ k : D → Mu → Prop, (AS K (tSeq (sFldAug K (tVar 0) (tC (.int 1)) rAdd "at") (tSeq (tAsg (tFld K (tVar 0) "at") (gName 2)) (tSeq (tAsg (tMeth C "set_character" (SpcX K Ce (W_metX C RelSetC FSetC)) [] E (tVar 0) tNil) (gName 3))
        (tSeq (tIfS (tTest (tOp (rI0 fun i j => .bl (decide (i < j))) (tM1 rIndex (tC (.str (tx cst_ALPHABET))) (tVar 3)) (tM1 rIndex (tC (.str (tx cst_ALPHABET))) (tVar 1)))) (tRaise1 K Ce "position" E (tCons (tVar 2) tNil)) tNext)
          (tRet (L2.tSl (rSlU K) (tC (.str (tx cst_ALPHABET))) (tPart (tM1 rIndex (tC (.str (tx cst_ALPHABET))) (tVar 1))) (tPart (tOp (rAddU K) (tM1 rIndex (tC (.str (tx cst_ALPHABET))) (tVar 3)) (tC (.int 1))))))))))
        [some (.ref a), some (.str (tx [c])), none, none] [(a, RdO C dx l (p + s.length))] { nx := fun x M' => kk D.non M', rt := kk, xs := kx, W := fun d H' => E (.ref Ce) (some d) H' }) →
        AS K (tSeq (tIfS (tTest (tOp rNe (tMeth C "ahead" (Spc K (W_met C RelAhead)) [] C8.E0 (tVar 0) tNil) (tC (.str (Str.ofString "-"))))) (tRet (tVar 1)) tNext) (tSeq (sFldAug K (tVar 0) (tC (.int 1)) rAdd "at") (tSeq (tAsg (tFld K (tVar 0) "at") (gName 2)) (tSeq (tAsg (tMeth C "set_character" (SpcX K Ce (W_metX C RelSetC FSetC)) [] E (tVar 0) tNil) (gName 3))
        (tSeq (tIfS (tTest (tOp (rI0 fun i j => .bl (decide (i < j))) (tM1 rIndex (tC (.str (tx cst_ALPHABET))) (tVar 3)) (tM1 rIndex (tC (.str (tx cst_ALPHABET))) (tVar 1)))) (tRaise1 K Ce "position" E (tCons (tVar 2) tNil)) tNext)
          (tRet (L2.tSl (rSlU K) (tC (.str (tx cst_ALPHABET))) (tPart (tM1 rIndex (tC (.str (tx cst_ALPHABET))) (tVar 1))) (tPart (tOp (rAddU K) (tM1 rIndex (tC (.str (tx cst_ALPHABET))) (tVar 3)) (tC (.int 1)))))))))))
        [some (.ref a), some (.str (tx [c])), none, none] [(a, RdO C dx l (p + s.length))] { nx := fun x M' => kk D.non M', rt := kk, xs := kx, W := fun d H' => E (.ref Ce) (some d) H' } := fun at_ _ _ h => by
      refine as_seq (as_if (at_test (ae_op ?_)))
      refine ae_self_call rfl rfl hl at_.adv.nil ⟨rfl, rfl⟩ ?_
      refine ae_str (ar_neD rfl ⟨_, rfl, ?_⟩)
      refine caseF rfl ?_
      exact as_next h
    rcases hw with ⟨s, r, d, at_, ⟨cs, hc, rfl⟩, q⟩ | ⟨r, j, at_, hf, qx⟩
    · cases hc with
      | @one c _ _ h hr1 =>
        refine aex_call rfl rfl rfl hl at_ ⟨c, h, rfl⟩ ?_
        refine as_seq (as_if (at_test (ae_op ?_)))
        refine ae_self_call rfl rfl hl at_.adv.nil ⟨rfl, rfl⟩ ?_
        refine ae_str (ar_neD rfl ⟨_, rfl, ?_⟩)
        refine dcaseN (fun _ => ?_) (fun c1 => absurd ((head_is rfl).mp c1) hr1)
        walk_at "tg"
        exact q
      | @run x b s u _ h1 h2 h3 =>
        rw [List.append_assoc] at at_
        refine aex_call rfl rfl rfl hl at_ ⟨x, h1, rfl⟩ ?_
        refine dash (u := u ++ r) at_ h1 kk ?_
        refine as_seq ?_
        refine as_self_at kC rfl ?_
        refine as_seq (as_set ?_)
        refine ae_self_at kC rfl ?_
        refine as_seq (as_setX ?_)
        have at2 : AtR l (p + s.length + 1) (u ++ r) := AtR.adv (s := [45]) (r := u ++ r) at_.adv
        refine aex_call rfl rfl rfl hl at2 ⟨b, h2, rfl⟩ ?_
        have m1 := h1.mem
        have m2 := h2.mem
        have i1 := alix_lt m1
        have i2 := alix_lt m2
        obtain ⟨r1, f1⟩ := al_find x m1
        obtain ⟨r2, f2⟩ := al_find b m2
        refine as_seq ?_
        walk_at "tg"
        refine am_index f2 ?_
        walk_at "tg"
        refine am_index f1 ?_
        walk_at "tg"
        refine caseF (decide_eq_false (by omega)) ?_
        walk_at "tg"
        refine am_index f1 ?_
        refine ⟨_, rfl, ?_⟩
        walk_at "tg"
        refine am_index f2 ?_
        walk_at "tg"
        refine asl_str (by rw [al_len]; omega) ?_
        rw [seg_cut x b (by omega) i2]
        exact at_end (by simp; omega) q
    · rcases hf with hf | ⟨c, s, r', rfl, hc, hf⟩
      · exact aex_fail rfl rfl rfl hl at_ hf qx
      · refine aex_call rfl rfl rfl hl at_ ⟨c, hc, rfl⟩ ?_
        refine dash at_ hc kk ?_
        refine as_seq ?_
        refine as_self_at kC rfl ?_
        refine as_seq (as_set ?_)
        refine ae_self_at kC rfl ?_
        refine as_seq (as_setX ?_)
        have at2 : AtR l (p + s.length + 1) r' := AtR.adv (s := [45]) (r := r') at_.adv
        rcases hf with ⟨j', hf, rfl⟩ | ⟨b, u, r'', rfl, hb, hlt, rfl⟩
        · exact aex_fail rfl rfl rfl hl at2 hf (x_mv qx (by omega))
        · refine aex_call rfl rfl rfl hl at2 ⟨b, hb, rfl⟩ ?_
          have m1 := hc.mem
          have m2 := hb.mem
          obtain ⟨r1, f1⟩ := al_find c m1
          obtain ⟨r2, f2⟩ := al_find b m2
          refine as_seq ?_
          walk_at "tg"
          refine am_index f2 ?_
          walk_at "tg"
          refine am_index f1 ?_
          walk_at "tg"
          refine caseT (decide_eq_true (by omega)) ?_
          refine as_raise1 rfl ?_
          walk_at "tg"
          exact x_end qx (by simp <;> omega)⟩
end

/-- members, and what stands behind them -/
inductive MemsR : List Nat → List Nat → List Nat → Prop
  | one {cs s r : List Nat} : MemR cs s r → MemsR cs s r
  | cons {cs s ds u r : List Nat} : MemR cs s (u ++ r) → MemsR ds u r → MemsR (cs ++ ds) (s ++ u) r
def setOf (ex : Bool) (ms : List Nat) : List Nat := cst_ALPHABET.filter fun c => decide (c ∈ ms) != ex
/-- behind a bracket: it is wrong -/
def FSet (r : List Nat) (j : Nat) : Prop := ∃ (ex : Bool) (v : List Nat) (j' : Nat), r = (if ex then [94] else []) ++ v ∧ (ex = false → v.head? ≠ some 94) ∧ j = (if ex then [94] else [] : List Nat).length + j' ∧
  (FMem v j' ∨ (∃ ms s v' i, v = s ++ v' ∧ MemsR ms s v' ∧ v'.head? ≠ some 93 ∧ FMem v' i ∧ j' = s.length + i) ∨ ∃ ms s v', v = s ++ 93 :: v' ∧ MemsR ms s (93 :: v') ∧ setOf ex ms = [] ∧ j' = s.length)
theorem mem_r {cs s r : List Nat} (h : MemS cs s) (hr : r.head? ≠ some 45) : MemR cs s r := by
  cases h with
  | one h => exact .one h hr
  | run h g l => exact .run h g l
theorem MemR.head {cs s r : List Nat} (h : MemR cs s r) : ∃ a u, s = a :: u ∧ a ≠ 45 ∧ a ≠ 93 ∧ a ≠ 94 := by
  cases h with
  | one h _ => exact h.head
  | run h _ _ => obtain ⟨a, u, e, z⟩ := h.head; exact ⟨a, u ++ _, by rw [e]; rfl, z⟩
theorem MemR.len {cs s r : List Nat} (h : MemR cs s r) : cs.length ≤ 95 * s.length := by
  cases h with
  | one h _ => exact (MemS.one h).len
  | run h g l => exact (MemS.run h g l).len
theorem mems_r {ms s r : List Nat} (h : MemsS ms s) (hr : r.head? ≠ some 45) : MemsR ms s r := by
  induction h with
  | one h => exact .one (mem_r h hr)
  | cons h g ih =>
    refine .cons (mem_r h ?_) ih
    obtain ⟨a, v, e, z, _⟩ := g.head
    rw [e]
    simp [z]
def MRR (ds u r : List Nat) : Prop := (u = [] ∧ ds = []) ∨ MemsR ds u r
theorem memsR_uncons {ms v r : List Nat} (h : MemsR ms v r) : ∃ cs s ds u, MemR cs s (u ++ r) ∧ v = s ++ u ∧ ms = cs ++ ds ∧ MRR ds u r := by
  cases h with
  | one h => exact ⟨ms, v, [], [], h, by simp, by simp, .inl ⟨rfl, rfl⟩⟩
  | @cons cs s ds u _ h g => exact ⟨cs, s, ds, u, h, rfl, rfl, .inr g⟩
theorem MemsR.len {cs s r : List Nat} (h : MemsR cs s r) : cs.length ≤ 95 * s.length := by
  induction h with
  | one h => exact h.len
  | cons h _ ih =>
    have := h.len
    simp only [List.length_append]
    omega
theorem MemsR.head {ms s r : List Nat} (h : MemsR ms s r) : ∃ a u, s = a :: u ∧ a ≠ 45 ∧ a ≠ 93 ∧ a ≠ 94 := by
  cases h with
  | one h => exact h.head
  | cons h _ => obtain ⟨a, u, e, z⟩ := h.head; exact ⟨a, u ++ _, by rw [e]; rfl, z⟩
section
variable {P : Program} {w : World} {K : PySem.W.Frag} {mg : Str → Option Value} {base : Heap} {C Ce : Addr}
theorem x_set_characters (kC : Cl_PatternReader K mg C) (T : Top K mg w) (e_BadPattern : ErrT_BadPattern K mg Ce) : MetX P w K mg base 7 C "set_characters" (SpcX K Ce (W_metX C RelSet FSet)) := metX_of kC.cl kC.d_set_characters fun f fd F => by
  obtain ⟨fI, fdI, iA_BadPattern, iT_BadPattern, FI, iB_BadPattern⟩ := e_BadPattern.i
  have iF_BadPattern := ok_init_BadPattern (P := P) (w := w) (base := base) e_BadPattern FI
  have x_PatternReader_member := x_member (P := P) (w := w) (base := base) kC T e_BadPattern
  have c_PatternReader_ahead := m_ahead (P := P) (w := w) (base := base) kC
  obtain ⟨t_ALPHABET, g_ALPHABET⟩ := T.g_ALPHABET
  exact spc_okX F sc_PatternReader_set_characters metX_len fun cdv A outer s H E hr => ⟨_, (pss_cons (ps_set (i := 1) sc_PatternReader_set_characters.nd rfl (Or.inr rfl) (pe_cmpR op_eq (C8.pe_mt0 c_PatternReader_ahead hr (by first | decide | omega) (pv 0)) pe_str (nomark _)))
      (pss_cons (ps_if (tru_K (K := K) (pv 1))
      (pss_one (sfldaug_K (K := K) (pv 0) pe_int))
      pss_nil)
      (pss_cons (ps_set (i := 2) sc_PatternReader_set_characters.nd rfl (Or.inr rfl) (pe_mtX0 (takes_of rfl rfl rfl rfl) x_PatternReader_member hr (by first | decide | omega) (pv 0)))
      (pss_cons (ps_while (passes_of rfl) (pt_cmpR op_ne (C8.pe_mt0 c_PatternReader_ahead hr (by first | decide | omega) (pv 0)) pe_str (nomark _))
      (pss_one (ps_aug (i := 2) sc_PatternReader_set_characters.nd rfl (Or.inr rfl) (pe_mtX0 (takes_of rfl rfl rfl rfl) x_PatternReader_member hr (by first | decide | omega) (pv 0)) ip_addU)))
      (pss_cons (sfldaug_K (K := K) (pv 0) pe_int)
      (pss_cons (ps_setLc (i := 3) (own := [("character", 4)]) (g := gName 4) rfl sc_PatternReader_set_characters.nd rfl rfl (sw_true rfl rfl rfl (by decide +kernel)) (seq_K (K := K) (pe_glob (v := V.str (tx cst_ALPHABET)) (by rfl) g_ALPHABET ⟨_, rfl⟩)) (blkOk_by (own := [("character", 4)]) (N := ["self", "is_excluding", "members", "matched", "character"]) (sc := defScope s_PatternReader_set_characters) (by decide +kernel)) (fun _ _ _ _ _ => (pg_name (i := 4) sc_PatternReader_set_characters.nd rfl (Or.inl rfl))) (fun _ _ _ _ _ => (pts_one (pt_cmpR op_ne (pe_cmpR (in_K (K := K)) (pv 4) (pv 2) (by rfl)) (pv 1) (nomark _)))) (fun _ _ _ _ _ => (pv 4)))
      (pss_cons (ps_if (pt_not (tru_K (K := K) (pv 3)))
      (pss_one (ps_raise1 rfl (takes_of rfl rfl rfl rfl) e_BadPattern.o iA_BadPattern iT_BadPattern iF_BadPattern (hr.mono (by first | decide | omega)) iB_BadPattern pass0 (by rfl) e_BadPattern.m (pa_cons (pe_op op_sub (fld_K (K := K) (pv 0)) pe_int) pa_nil)))
      pss_nil)
      (pss_one (ps_ret (join_K (K := K) (pe_join pe_str (pv 3)))))))))))), fun ds M kk kx hw => by
    obtain ⟨a, dx, l, p, rfl, rfl, hl, hw⟩ := hw
    have hsz := sizeLine_eq
    -- what is to be read: how many members, and what comes behind
    have hw2 : ∃ (ex : Bool) (v : List Nat), AtR l p ((if ex then [94] else []) ++ v) ∧ (ex = false → v.head? ≠ some 94) ∧
        ((∃ j', FMem v j' ∧ ∀ M', kx (posF (p + (if ex then [94] else [] : List Nat).length + j')) M') ∨
         ∃ ms s v', v = s ++ v' ∧ MemsR ms s v' ∧ ((v'.head? ≠ some 93 ∧ ∃ i, FMem v' i ∧ ∀ M', kx (posF (p + (if ex then [94] else [] : List Nat).length + s.length + i)) M') ∨
           ∃ r, v' = 93 :: r ∧ ((setOf ex ms = [] ∧ ∀ M', kx (posF (p + (if ex then [94] else [] : List Nat).length + s.length)) M') ∨
             (setOf ex ms ≠ [] ∧ kk (.str (tx (setOf ex ms))) [(a, RdO C dx l (p + (if ex then [94] else [] : List Nat).length + s.length + 1))])))) := by
      rcases hw with ⟨s, r, d, at_, ⟨cs, u0, hset, rfl, rfl⟩, q⟩ | ⟨r, j, at_, ⟨ex, v, j', rfl, hh, rfl, hf⟩, qx⟩
      · obtain ⟨ex, ms, v, hms, rfl, hcs, hne⟩ := set_parts hset
        refine ⟨ex, v ++ 93 :: r, by rw [List.append_assoc, List.append_assoc] at at_; exact at_, fun _ => ?_, .inr ⟨ms, v, 93 :: r, rfl, mems_r hms (by simp), .inr ⟨r, rfl, .inr ⟨?_, ?_⟩⟩⟩⟩
        · obtain ⟨b, y, e, _, _, z⟩ := hms.head
          rw [e]
          simp [z]
        · show cst_ALPHABET.filter _ ≠ []
          rw [← hcs]
          exact hne
        · have e : setOf ex ms = cs := hcs.symm
          rw [e]
          exact at_end (by simp; omega) q
      · refine ⟨ex, v, at_, hh, ?_⟩
        rcases hf with hf | ⟨ms, s, v', i, rfl, h1, h2, h3, rfl⟩ | ⟨ms, s, v', rfl, h1, h2, rfl⟩
        · exact .inl ⟨j', hf, fun p' => by have := qx p'; rw [← Nat.add_assoc] at this; exact this⟩
        · exact .inr ⟨ms, s, v', rfl, h1, .inl ⟨h2, i, h3, fun p' => by have := qx p'; rw [← Nat.add_assoc, ← Nat.add_assoc] at this; exact this⟩⟩
        · exact .inr ⟨ms, s, 93 :: v', rfl, h1, .inr ⟨v', rfl, .inl ⟨h2, fun p' => by have := qx p'; rw [← Nat.add_assoc] at this; exact this⟩⟩⟩
    clear hw
    obtain ⟨ex, v, at_, hh, hw⟩ := hw2
    refine as_start (δ' := [some (.ref a), none, none, none, none]) rfl ?_
    walk_at "tg"
    refine ae_self_call rfl rfl hl at_.nil ⟨rfl, rfl⟩ ?_
    walk_at "tg"
    have hb : decide (tx (List.take 1 ((if ex then [94] else []) ++ v)) = Str.ofString "^") = ex := by
      cases ex with
      | true => exact decide_eq_true rfl
      | false =>
        refine decide_eq_false fun z2 => ?_
        exact hh rfl ((head_is (c := 94) rfl).mp z2)
    rw [hb]
    refine as_cut (fun δ' M' => δ' = [some (.ref a), some (.bl ex), none, none, none] ∧ M' = [(a, RdO C dx l (p + (if ex then [94] else [] : List Nat).length))]) ?_ ?_
    · walk_at "tg"
      refine ⟨fun z => ?_, fun z => ?_⟩
      · have z' : ex = true := z
        subst z'
        refine as_self_at kC rfl ?_
        exact ⟨rfl, rfl⟩
      · have z' : ex = false := z
        subst z'
        walk_at "tg"
        exact ⟨rfl, rfl⟩
    · rintro δ' M' ⟨rfl, rfl⟩
      have at1 := at_.adv
      generalize hp1 : p + (if ex then [94] else [] : List Nat).length = p1 at at1 hw ⊢
      refine as_seq (as_setX ?_)
      rcases hw with ⟨j', hf, qx⟩ | ⟨ms, s, v', rfl, hms, hw⟩
      · exact aex_fail rfl rfl rfl hl at1 hf qx
      · have hlen := hms.len
        have hln : p1 + s.length ≤ l.length := at1.adv.2
        obtain ⟨cs1, s1, ds1, u1, hm1, rfl, rfl, hmr⟩ := memsR_uncons hms
        rw [List.append_assoc] at at1
        refine aex_call rfl rfl rfl hl at1 ⟨cs1, hm1, rfl⟩ ?_
        have at2 := at1.adv
        refine as_seq ?_
        simp only [List.length_append] at hln
        refine as_while (fun m δ' M' => ∃ (don ds u : List Nat) (p2 : Nat), m = u.length ∧ MRR ds u v' ∧ don ++ ds = cs1 ++ ds1 ∧ AtR l p2 (u ++ v') ∧ p2 + u.length = p1 + s1.length + u1.length ∧ δ' = [some (.ref a), some (.bl ex), some (.str (tx don)), none, none] ∧ M' = [(a, RdO C dx l p2)]) u1.length
          ⟨cs1, ds1, u1, p1 + s1.length, rfl, hmr, rfl, at2, rfl, rfl, rfl⟩ ?_
        rintro m δ' M' ⟨don, ds2, u2, p2, rfl, hmr2, hd, at3, hp2, rfl, rfl⟩
        have hdl : don.length ≤ (cs1 ++ ds1).length := by rw [← hd, List.length_append]; omega
        simp only [List.length_append] at hlen hdl
        walk_at "tg"
        refine ae_self_call rfl rfl hl at3.nil ⟨rfl, rfl⟩ ?_
        walk_at "tg"
        rcases hmr2 with ⟨rfl, rfl⟩ | hmr2
        · rw [List.append_nil] at hd
          subst hd
          simp only [List.length_nil, List.length_append] at hp2 hw
          rcases hw with ⟨h93, i, hf, qx⟩ | ⟨r, rfl, hw⟩
          · refine dcaseN (fun _ => ?_) (fun c1 => absurd ((head_is (c := 93) rfl).mp c1) h93)
            refine as_augX rfl ?_
            exact aex_fail rfl rfl rfl hl at3 hf (x_mv qx (by simp only [List.length_nil]; omega))
          · refine dcaseN (fun c1 => (c1 rfl).elim) (fun _ => ?_)
            refine as_seq ?_
            refine as_self_at kC rfl ?_
            refine as_seq (as_set ?_)
            refine ae_lc (ownG_name (by simp)) ?_
            walk_at "tg"
            rw [tx_signs]
            refine ⟨by rw [List.length_map, al_len]; omega, fun i acc M' => M' = [(a, RdO C dx l (p2 + 0 + 1))] ∧ acc = strsD (ones ((cst_ALPHABET.take i).filter (fun c => decide (c ∈ cs1 ++ ds1) != ex))), ⟨rfl, rfl⟩, ?_, ?_⟩
            · rintro i d acc M' hd ⟨rfl, rfl⟩
              rw [List.getElem?_map] at hd
              cases hc : cst_ALPHABET[i]? with
              | none => rw [hc] at hd; cases hd
              | some c =>
                rw [hc] at hd
                have e : D.str (tx [c]) = d := by simpa using hd
                subst e
                have step : strsD (ones ((cst_ALPHABET.take (i + 1)).filter (fun c => decide (c ∈ cs1 ++ ds1) != ex))) = strsD (ones ((cst_ALPHABET.take i).filter (fun c => decide (c ∈ cs1 ++ ds1) != ex))) ++ (if (decide (c ∈ cs1 ++ ds1) != ex) = true then [.str (tx [c])] else []) := by
                  rw [List.take_add_one, hc, List.filter_append]
                  simp only [Option.toList, List.filter_cons, List.filter_nil]
                  split <;> simp [strsD, ones]
                walk_at "tg"
                refine ain_sign ?_
                walk_at "tg"
                refine ⟨fun z => ?_, fun z => ?_⟩
                · have z' : (decide (c ∈ cs1 ++ ds1) != ex) = true := z
                  walk_at "tg"
                  exact ⟨rfl, by rw [step, if_pos z']⟩
                · have z' : (decide (c ∈ cs1 ++ ds1) != ex) = false := z
                  exact ⟨rfl, by rw [step, if_neg (by rw [z']; decide), List.append_nil]⟩
            · rintro acc M' ⟨rfl, rfl⟩
              rw [List.length_map, List.take_length]
              have es : cst_ALPHABET.filter (fun c => decide (c ∈ cs1 ++ ds1) != ex) = setOf ex (cs1 ++ ds1) := rfl
              rw [es]
              have hcl : (setOf ex (cs1 ++ ds1)).length ≤ 95 := by
                rw [← al_len]
                exact List.length_filter_le ..
              refine as_seq (as_if (at_not (at_tru (ae_var rfl ⟨True.intro, ?_⟩))))
              rcases hw with ⟨he, qx⟩ | ⟨hne, q⟩
              · rw [he]
                refine ⟨fun _ => ?_, fun z => (by cases z)⟩
                refine as_raise1 rfl ?_
                walk_at "tg"
                refine ae_self_at kC rfl ?_
                walk_at "tg"
                refine x_end (j := 0) (p := p1 + (s1.length + u1.length)) qx (by omega)
              · have hemp : (strsD (ones (setOf ex (cs1 ++ ds1)))).isEmpty = false := by
                  cases hq : setOf ex (cs1 ++ ds1) with
                  | nil => exact absurd hq hne
                  | cons c r => rfl
                show ((!(!(strsD (ones (setOf ex (cs1 ++ ds1)))).isEmpty)) = true → _) ∧ ((!(!(strsD (ones (setOf ex (cs1 ++ ds1)))).isEmpty)) = false → _)
                rw [hemp]
                refine ⟨fun z => (by cases z), fun _ => ?_⟩
                walk_at "tg"
                have e : tx [] = Str.ofString "" := rfl
                rw [← e]
                refine am_join (ls := ones (setOf ex (cs1 ++ ds1))) (by rw [ones_sum]; omega) ?_
                rw [ones_flat]
                exact at_end (by omega) q
        · obtain ⟨cs3, s3, ds3, u3, hm3, rfl, rfl, hmr3⟩ := memsR_uncons hmr2
          obtain ⟨c, z, ez, _, hz, _⟩ := hm3.head
          refine dcaseN (fun _ => ?_) (fun c1 => ?_)
          · rw [List.append_assoc] at at3
            have h3l := hm3.len
            have hd3 : (don ++ (cs3 ++ ds3)).length = (cs1 ++ ds1).length := by rw [hd]
            simp only [List.length_append] at hd3 hp2
            refine as_augX rfl ?_
            refine aex_call rfl rfl rfl hl at3 ⟨cs3, hm3, rfl⟩ ?_
            refine Tg.ai_str (by omega) ?_
            refine ⟨_, ?_, don ++ cs3, ds3, u3, _, rfl, hmr3, by rw [List.append_assoc]; exact hd, at3.adv, by simp only [List.length_append, List.length_nil] at *; omega, rfl, rfl⟩
            rw [List.length_append, ez]
            simp
          · have c2 := (head_is (c := 93) rfl).mp c1
            rw [ez] at c2
            simp at c2
            exact absurd c2 hz⟩
end

/-- parts in a row, and whether the last one has a sign of repetition -/
inductive SqB : Nat → Bool → List Pt → List Nat → Prop
  | one {n : Nat} {b : Bool} {t : Pt} {s : List Nat} : Pa n b t s → SqB n b [t] s
  | cons {n : Nat} {b b' : Bool} {t : Pt} {s : List Nat} {ts : List Pt} {u : List Nat} : Pa n b' t s → SqB n b ts u → SqB n b (t :: ts) (s ++ u)
theorem sqB_of {n : Nat} {ts : List Pt} {s : List Nat} : Sq n ts s → ∃ b, SqB n b ts s
  | .one h => ⟨_, .one h⟩
  | .cons h g => by
    obtain ⟨b, g'⟩ := sqB_of g
    exact ⟨b, .cons h g'⟩
theorem SqB.sq {n : Nat} {b : Bool} {ts : List Pt} {s : List Nat} (h : SqB n b ts s) : Sq n ts s := by
  induction h with
  | one h => exact .one h
  | cons h _ ih => exact .cons h ih
/-! what fails, at which place behind -/
mutual
inductive FEl : Nat → List Nat → Nat → Prop
  | nil {n : Nat} : FEl n [] 0
  | sign {n c : Nat} {r : List Nat} : c ≠ 40 → c ≠ 91 → c ≠ 46 → c ≠ 92 → c ∈ cst_SIGNS ∨ c ∉ cst_ALPHABET → FEl n (c :: r) 0
  | esc {n j : Nat} {r : List Nat} : FEsc r j → FEl n (92 :: r) (j + 1)
  | set {n j : Nat} {r : List Nat} : FSet r j → FEl n (91 :: r) (j + 1)
  | grp {n j : Nat} {r : List Nat} : FAl n r j → FEl (n + 1) (40 :: r) (j + 1)
  | opn {n : Nat} {ts : List Pt} {s : List Nat} : Al n ts s → FEl (n + 1) (40 :: s) (s.length + 1)
inductive FSq : Nat → List Nat → Nat → Prop
  | first {n j : Nat} {r : List Nat} : FEl n r j → FSq n r j
  | then_ {n j : Nat} {b : Bool} {ts : List Pt} {s r : List Nat} : SqB n b ts s → (b = false → ∀ c, r.head? = some c → c ∉ [42, 43, 63]) → (∃ c, r.head? = some c ∧ c ≠ 124 ∧ c ≠ 41) → FEl n r j → FSq n (s ++ r) (s.length + j)
inductive FAl : Nat → List Nat → Nat → Prop
  | first {n j : Nat} {r : List Nat} : FSq n r j → FAl n r j
  | then_ {n j : Nat} {us : List Pt} {s r : List Nat} : Al n us s → FSq n r j → FAl n (s ++ 124 :: r) (s.length + 1 + j)
end
def FGrp (n : Nat) (r : List Nat) (j : Nat) : Prop := FAl n r j ∨ ∃ ts, Al n ts r ∧ j = r.length
def FGrp' : Nat → List Nat → Nat → Prop
  | 0 => fun _ _ => False
  | n + 1 => FGrp n
theorem FEl.ne {n j : Nat} {r : List Nat} (h : FEl n r j) {c : Nat} {r' : List Nat} (e : r = c :: r') : True := True.intro
section
variable {P : Program} {w : World} {K : PySem.W.Frag} {mg : Str → Option Value} {base : Heap} {C Ce : Addr}
theorem metX_none (kC : Cls K C) {m qual : Str} {st : Stmt} {ps : List Str} {n : Nat} {W : WtX} (D : DefM K C m qual st ps) (no : ∀ ds M k kx, ¬ W ds M k kx) : MetX P w K mg base n C m (SpcX K Ce W) :=
  metX_of kC D fun f fd F => ⟨fun vs H Q E h => by
    obtain ⟨_, ds, M, k, kx, _, _, hw, _⟩ := h
    exact absurd hw (no ds M k kx), fun A outer s H args us vs Q E _ _ _ _ h => by
    obtain ⟨_, ds, M, k, kx, _, _, hw, _⟩ := h
    exact absurd hw (no ds M k kx)⟩
theorem x_element (kC : Cl_PatternReader K mg C) (T : Top K mg w) (e_BadPattern : ErrT_BadPattern K mg Ce) (n : Nat) (x_PatternReader_group : MetX P w K mg base (5 * n + 7) C "group" (SpcX K Ce (W_metX C (RelGrp' n) (FGrp' n)))) : MetX P w K mg base (5 * n + 8) C "element" (SpcX K Ce (W_metX C (RelEl n) (FEl n))) := metX_of kC.cl kC.d_element fun f fd F => by
  obtain ⟨fI, fdI, iA_BadPattern, iT_BadPattern, FI, iB_BadPattern⟩ := e_BadPattern.i
  have iF_BadPattern := ok_init_BadPattern (P := P) (w := w) (base := base) e_BadPattern FI
  have x_PatternReader_character := x_character (P := P) (w := w) (base := base) kC T e_BadPattern
  have x_PatternReader_escape := x_escape (P := P) (w := w) (base := base) kC T e_BadPattern
  have x_PatternReader_set_characters := x_set_characters (P := P) (w := w) (base := base) kC T e_BadPattern
  obtain ⟨t_ALPHABET, g_ALPHABET⟩ := T.g_ALPHABET; obtain ⟨t_SIGNS, g_SIGNS⟩ := T.g_SIGNS
  exact spc_okX F sc_PatternReader_element metX_len fun cdv A outer s H E hr => ⟨_, (pss_cons (ps_set (i := 1) sc_PatternReader_element.nd rfl (Or.inl rfl) (pe_mtX0 (takes_of rfl rfl rfl rfl) x_PatternReader_character hr (by first | decide | omega) (pv 0)))
      (pss_cons (ps_if (pt_cmpR op_eq (pv 1) pe_str (nomark _))
      (pss_one (ps_ret (pe_mtX0 (takes_of rfl rfl rfl rfl) x_PatternReader_group hr (by first | decide | omega) (pv 0))))
      pss_nil)
      (pss_cons (ps_if (pt_cmpR op_eq (pv 1) pe_str (nomark _))
      (pss_one (ps_ret (pe_tup (pa_cons pe_str (pa_cons (pe_mtX0 (takes_of rfl rfl rfl rfl) x_PatternReader_set_characters hr (by first | decide | omega) (pv 0)) pa_nil)))))
      pss_nil)
      (pss_cons (ps_if (pt_cmpR op_eq (pv 1) pe_str (nomark _))
      (pss_one (ps_ret (pe_tup (pa_cons pe_str (pa_cons (pe_glob (v := V.str (tx cst_ALPHABET)) (by rfl) g_ALPHABET ⟨_, rfl⟩) pa_nil)))))
      pss_nil)
      (pss_cons (ps_if (pt_cmpR op_eq (pv 1) pe_str (nomark _))
      (pss_one (ps_ret (pe_tup (pa_cons pe_str (pa_cons (pe_mtX0 (takes_of rfl rfl rfl rfl) x_PatternReader_escape hr (by first | decide | omega) (pv 0)) pa_nil)))))
      pss_nil)
      (pss_cons (ps_if (pw_or (pt_cmpR (in_K (K := K)) (pv 1) (pe_glob (v := V.str (tx cst_SIGNS)) (by rfl) g_SIGNS ⟨_, rfl⟩) (by rfl)) (pw_or1 (pt_cmpR (notin_K (K := K)) (pv 1) (pe_glob (v := V.str (tx cst_ALPHABET)) (by rfl) g_ALPHABET ⟨_, rfl⟩) (by rfl)))).pt
      (pss_one (ps_raise1 rfl (takes_of rfl rfl rfl rfl) e_BadPattern.o iA_BadPattern iT_BadPattern iF_BadPattern (hr.mono (by first | decide | omega)) iB_BadPattern pass0 (by rfl) e_BadPattern.m (pa_cons (pe_op op_sub (fld_K (K := K) (pv 0)) pe_int) pa_nil)))
      pss_nil)
      (pss_one (ps_ret (pe_tup (pa_cons pe_str (pa_cons (pv 1) pa_nil))))))))))), fun ds M kk kx hw => by
    obtain ⟨a, dx, l, p, rfl, rfl, hl, hw⟩ := hw
    have hsz := sizeLine_eq
    refine as_start (δ' := [some (.ref a), none]) rfl ?_
    refine as_seq (as_setX ?_)
    -- one test after another
    have tst : ∀ {c x : Nat} {z : Str} {u v w' : TS} {M : Mu} {A : AEnds}, z = tx [x] → (c = x → AS K u [some (.ref a), some (.str (tx [c]))] M { A with nx := fun δ' M' => AS K v δ' M' A }) → (c ≠ x → AS K v [some (.ref a), some (.str (tx [c]))] M A) →
        AS K (tSeq (tIfS (tTest (tOp rEq (tVar 1) (tC (.str z)))) u tNext) v) [some (.ref a), some (.str (tx [c]))] M A := fun {c x z u v w' M A} e h1 h2 => by
      refine as_seq (as_if (at_test (ae_op (ae_var rfl (ae_str (ar_eqD rfl ⟨_, rfl, ?_⟩))))))
      refine dcase (fun q => h1 ((one_is e).mp q)) (fun q => ?_)
      exact as_next (h2 fun y => q ((one_is e).mpr y))
    rcases hw with ⟨s, r, d, at_, ⟨t, ht, rfl⟩, q⟩ | ⟨r, j, at_, hf, qx⟩
    · obtain ⟨c, v, hs, _⟩ := ht.head
      subst hs
      refine aex_call (s := [c]) (r := v ++ r) rfl rfl rfl hl at_ ⟨c, rfl, rfl⟩ ?_
      have at2 : AtR l (p + [c].length) (v ++ r) := AtR.adv (s := [c]) at_
      refine tst (w' := tNext) (x := 40) rfl (fun e => ?_) (fun n40 => ?_)
      · subst e
        refine as_retX ?_
        cases ht with
        | lit h1 h2 => exact absurd (by decide +kernel : (40 : Nat) ∈ cst_SIGNS) h2
        | @grp n ts s h1 =>
          refine aex_call (s := s ++ [41]) (r := r) rfl rfl rfl hl at2 ⟨ts, s, h1, rfl, rfl⟩ ?_
          exact at_end (by simp; omega) q
      refine tst (w' := tNext) (x := 91) rfl (fun e => ?_) (fun n91 => ?_)
      · subst e
        refine as_retX (aex_tup (aax_cons (ae_str (aax_one ?_))))
        cases ht with
        | lit h1 h2 => exact absurd (by decide +kernel : (91 : Nat) ∈ cst_SIGNS) h2
        | @set _ cs s h1 =>
          refine aex_call (s := s ++ [93]) (r := r) rfl rfl rfl hl at2 ⟨cs, s, h1, rfl, rfl⟩ ?_
          refine ⟨by show 2 ≤ _; omega, ?_⟩
          unfold Pt.d at q
          exact at_end (by simp; omega) q
      refine tst (w' := tNext) (x := 46) rfl (fun e => ?_) (fun n46 => ?_)
      · subst e
        cases ht with
        | lit h1 h2 => exact absurd (by decide +kernel : (46 : Nat) ∈ cst_SIGNS) h2
        | dot =>
          walk_at "tg"
          unfold Pt.d at q
          exact q
      refine tst (w' := tNext) (x := 92) rfl (fun e => ?_) (fun n92 => ?_)
      · subst e
        refine as_retX (aex_tup (aax_cons (ae_str (aax_one ?_))))
        cases ht with
        | lit h1 h2 => exact absurd (by decide +kernel : (92 : Nat) ∈ cst_SIGNS) h2
        | @esc _ x h1 =>
          refine aex_call (s := [x]) (r := r) rfl rfl rfl hl at2 ⟨x, rfl, .inr ⟨rfl, h1⟩⟩ ?_
          refine ⟨by show 2 ≤ _; omega, ?_⟩
          unfold Pt.d at q
          exact q
        | nl =>
          refine aex_call (s := [110]) (r := r) rfl rfl rfl hl at2 ⟨10, rfl, .inl ⟨rfl, rfl⟩⟩ ?_
          refine ⟨by show 2 ≤ _; omega, ?_⟩
          unfold Pt.d at q
          exact q
      cases ht with
      | dot => exact absurd rfl n46
      | esc _ => exact absurd rfl n92
      | nl => exact absurd rfl n92
      | set _ => exact absurd rfl n91
      | grp _ => exact absurd rfl n40
      | lit h1 h2 =>
        refine as_seq ?_
        walk_at "tg"
        refine ain_sign ?_
        refine ⟨_, rfl, ?_⟩
        refine caseFR (decide_eq_false h2) ?_
        walk_at "tg"
        refine anin_sign ?_
        refine ⟨_, rfl, ?_⟩
        refine caseF (by rw [decide_eq_true h1]; rfl) ?_
        walk_at "tg"
        unfold Pt.d at q
        exact q
    · cases hf with
      | nil => exact aex_fail rfl rfl rfl hl at_ ⟨rfl, rfl⟩ qx
      | @sign _ c r n40 n91 n46 n92 hc =>
        refine aex_call (s := [c]) (r := r) rfl rfl rfl hl at_ ⟨c, rfl, rfl⟩ ?_
        refine tst (w' := tNext) (x := 40) rfl (fun e => absurd e n40) (fun _ => ?_)
        refine tst (w' := tNext) (x := 91) rfl (fun e => absurd e n91) (fun _ => ?_)
        refine tst (w' := tNext) (x := 46) rfl (fun e => absurd e n46) (fun _ => ?_)
        refine tst (w' := tNext) (x := 92) rfl (fun e => absurd e n92) (fun _ => ?_)
        have fin : ∀ N : DS → Mu → Prop, AS K (tRaise1 K Ce "position" E (tCons (tOp (rI0 fun i j => .int (i - j)) (tFld K (tVar 0) "at") (tC (.int 1))) tNil)) [some (.ref a), some (.str (tx [c]))] [(a, RdO C dx l (p + [c].length))] { nx := N, rt := kk, xs := kx, W := fun d H' => E (.ref Ce) (some d) H' } := fun N => by
          refine as_raise1 rfl ?_
          walk_at "tg"
          refine ae_self_at kC rfl ?_
          walk_at "tg"
          exact x_end qx (by simp <;> omega)
        refine as_seq ?_
        walk_at "tg"
        refine ain_sign ?_
        refine ⟨_, rfl, ?_⟩
        by_cases z : c ∈ cst_SIGNS
        · refine caseTR (decide_eq_true z) ?_
          exact ⟨fun _ => fin _, fun z => (nomatch z)⟩
        · refine caseFR (decide_eq_false z) ?_
          walk_at "tg"
          refine anin_sign ?_
          refine ⟨_, rfl, ?_⟩
          have h3 : c ∉ cst_ALPHABET := hc.resolve_left z
          refine caseT (by rw [decide_eq_false h3]; rfl) ?_
          exact fin _
      | @esc _ j r hf =>
        refine aex_call (s := [92]) (r := r) rfl rfl rfl hl at_ ⟨92, rfl, rfl⟩ ?_
        refine tst (w' := tNext) (x := 40) rfl (fun e => absurd e (by decide)) (fun _ => ?_)
        refine tst (w' := tNext) (x := 91) rfl (fun e => absurd e (by decide)) (fun _ => ?_)
        refine tst (w' := tNext) (x := 46) rfl (fun e => absurd e (by decide)) (fun _ => ?_)
        refine tst (w' := tNext) (x := 92) rfl (fun _ => ?_) (fun e => absurd rfl e)
        refine as_retX (aex_tup (aax_cons (ae_str (aax_one ?_))))
        exact aex_fail rfl rfl rfl hl (AtR.adv (s := [92]) at_) hf (x_mv qx (by simp; omega))
      | @set _ j r hf =>
        refine aex_call (s := [91]) (r := r) rfl rfl rfl hl at_ ⟨91, rfl, rfl⟩ ?_
        refine tst (w' := tNext) (x := 40) rfl (fun e => absurd e (by decide)) (fun _ => ?_)
        refine tst (w' := tNext) (x := 91) rfl (fun _ => ?_) (fun e => absurd rfl e)
        refine as_retX (aex_tup (aax_cons (ae_str (aax_one ?_))))
        exact aex_fail rfl rfl rfl hl (AtR.adv (s := [91]) at_) hf (x_mv qx (by simp; omega))
      | @grp n j r hf =>
        refine aex_call (s := [40]) (r := r) rfl rfl rfl hl at_ ⟨40, rfl, rfl⟩ ?_
        refine tst (w' := tNext) (x := 40) rfl (fun _ => ?_) (fun e => absurd rfl e)
        refine as_retX ?_
        exact aex_fail rfl rfl rfl hl (AtR.adv (s := [40]) at_) (.inl hf) (x_mv qx (by simp; omega))
      | @opn n ts s h1 =>
        refine aex_call (s := [40]) (r := s) rfl rfl rfl hl at_ ⟨40, rfl, rfl⟩ ?_
        refine tst (w' := tNext) (x := 40) rfl (fun _ => ?_) (fun e => absurd rfl e)
        refine as_retX ?_
        exact aex_fail rfl rfl rfl hl (AtR.adv (s := [40]) at_) (.inr ⟨ts, h1, rfl⟩) (x_mv qx (by simp; omega))⟩
end

theorem sqB_uncons {n : Nat} {b : Bool} {ts : List Pt} {v : List Nat} (h : SqB n b ts v) : ∃ b1 t s us u, Pa n b1 t s ∧ v = s ++ u ∧ ts = t :: us ∧ ((u = [] ∧ us = [] ∧ b1 = b) ∨ SqB n b us u) := by
  cases h with
  | one h => exact ⟨b, _, v, [], [], h, by simp, rfl, .inl ⟨rfl, rfl, rfl⟩⟩
  | @cons b' t s us u h g => exact ⟨b', t, s, us, u, h, rfl, rfl, .inr g⟩
theorem part_ok {n : Nat} {b b1 : Bool} {us : List Pt} {u r : List Nat} (h : (u = [] ∧ us = [] ∧ b1 = b) ∨ SqB n b us u) (hb : b = false → ∀ c, r.head? = some c → c ∉ [42, 43, 63]) : b1 = false → ∀ c, (u ++ r).head? = some c → c ∉ [42, 43, 63] := by
  intro e c hc
  rcases h with ⟨rfl, _, rfl⟩ | h
  · exact hb e c hc
  · obtain ⟨a, v, e1, z⟩ := h.sq.head
    rw [e1] at hc
    have e2 : a = c := by simpa using hc
    subst e2
    exact fun q => z (by
      have : ∀ x ∈ [42, 43, 63], x ∈ stops := by decide
      exact this a q)
theorem ends_stop {r : List Nat} (h : ∀ c, r.head? = some c → c = 124 ∨ c = 41) : ∀ c, r.head? = some c → c ∉ [42, 43, 63] := fun c hc => by
  rcases h c hc with z | z <;> subst z <;> decide
section
variable {P : Program} {w : World} {K : PySem.W.Frag} {mg : Str → Option Value} {base : Heap} {C Ce : Addr}
theorem x_part (kC : Cl_PatternReader K mg C) (T : Top K mg w) (e_BadPattern : ErrT_BadPattern K mg Ce) (n : Nat) (x_PatternReader_element : MetX P w K mg base (5 * n + 8) C "element" (SpcX K Ce (W_metX C (RelEl n) (FEl n)))) : MetX P w K mg base (5 * n + 9) C "part" (SpcX K Ce (W_metX C (RelPa n) (FEl n))) := metX_of kC.cl kC.d_part fun f fd F => by
  have c_PatternReader_ahead := m_ahead (P := P) (w := w) (base := base) kC
  obtain ⟨t_REPEATS, g_REPEATS, k_REPEATS⟩ := T.g_REPEATS
  exact spc_okX F sc_PatternReader_part metX_len fun cdv A outer s H E hr => ⟨_, (pss_cons (ps_set (i := 1) sc_PatternReader_part.nd rfl (Or.inl rfl) (pe_mtX0 (takes_of rfl rfl rfl rfl) x_PatternReader_element hr (by first | decide | omega) (pv 0)))
      (pss_cons (ps_set (i := 2) sc_PatternReader_part.nd rfl (Or.inl rfl) (kget1_K (K := K) (w := w) (pe_glob (v := V.ref t_REPEATS) (by rfl) g_REPEATS rfl) (C8.pe_mt0 c_PatternReader_ahead hr (by first | decide | omega) (pv 0)) ⟨rfl, rfl, rfl, rfl⟩))
      (pss_cons (ps_if (pt_cmpR op_isN1 (pv 2) pe_non (nomark _))
      (pss_one (ps_ret (pv 1)))
      pss_nil)
      (pss_cons (sfldaug_K (K := K) (pv 0) pe_int)
      (pss_one (ps_ret (pe_tup (pa_cons (pv 2) (pa_cons (pv 1) pa_nil))))))))), fun ds M kk kx hw => by
    obtain ⟨a, dx, l, p, rfl, rfl, hl, hw⟩ := hw
    have hsz := sizeLine_eq
    refine as_start (δ' := [some (.ref a), none, none]) rfl ?_
    refine as_seq (as_setX ?_)
    rcases hw with ⟨s, r, d, at_, ⟨b, t, ht, hb, rfl⟩, q⟩ | ⟨r, j, at_, hf, qx⟩
    · cases ht with
      | el h =>
        refine aex_call rfl rfl rfl hl at_ ⟨t, h, rfl⟩ ?_
        walk_at "tg"
        refine ae_kget1 (ae_ref ⟨_, _, rfl, k_REPEATS, ?_⟩)
        refine ae_self_call rfl rfl hl at_.adv.nil ⟨rfl, rfl⟩ ?_
        refine ⟨_, rfl, ?_⟩
        rw [reps_none (hb rfl)]
        refine as_seq ?_
        walk_at "tg"
        exact q
      | @rep _ k t s h hk =>
        rw [List.append_assoc] at at_
        refine aex_call rfl rfl rfl hl at_ ⟨t, h, rfl⟩ ?_
        walk_at "tg"
        refine ae_kget1 (ae_ref ⟨_, _, rfl, k_REPEATS, ?_⟩)
        refine ae_self_call rfl rfl hl at_.adv.nil ⟨rfl, rfl⟩ ?_
        refine ⟨_, rfl, ?_⟩
        rw [reps_some hk]
        refine as_seq ?_
        walk_at "tg"
        refine as_seq ?_
        refine as_self_at kC rfl ?_
        walk_at "tg"
        unfold Pt.d at q
        exact at_end (by simp; omega) q
    · exact aex_fail rfl rfl rfl hl at_ hf qx⟩
theorem x_sequence (kC : Cl_PatternReader K mg C) (T : Top K mg w) (n : Nat) (x_PatternReader_part : MetX P w K mg base (5 * n + 9) C "part" (SpcX K Ce (W_metX C (RelPa n) (FEl n)))) : MetX P w K mg base (5 * n + 10) C "sequence" (SpcX K Ce (W_metX C (RelSq n) (FSq n))) := metX_of kC.cl kC.d_sequence fun f fd F => by
  have c_PatternReader_ahead := m_ahead (P := P) (w := w) (base := base) kC
  have c_joined := c_joined (P := P) (w := w) (base := base) T
  obtain ⟨t_SEQUENCE_ENDS, g_SEQUENCE_ENDS, k_SEQUENCE_ENDS⟩ := T.g_SEQUENCE_ENDS
  exact spc_okX F sc_PatternReader_sequence metX_len fun cdv A outer s H E hr => ⟨_, (pss_cons (ps_set (i := 1) sc_PatternReader_sequence.nd rfl (Or.inl rfl) (pe_lstM (pe_lst (pa_cons (pe_mtX0 (takes_of rfl rfl rfl rfl) x_PatternReader_part hr (by first | decide | omega) (pv 0)) pa_nil))))
      (pss_cons (ps_while (passes_of rfl) (pt_cmpR (notin_K (K := K)) (C8.pe_mt0 c_PatternReader_ahead hr (by first | decide | omega) (pv 0)) (pe_glob (v := V.ref t_SEQUENCE_ENDS) (by rfl) g_SEQUENCE_ENDS rfl) (by rfl))
      (pss_one (ps_expr (app_K (K := K) (pe_bm PySem.F.plainAttrs_list PySem.F.slot_list_append PySem.F.type_list_append mt_append (pv 1) (pa_cons (pe_mtX0 (takes_of rfl rfl rfl rfl) x_PatternReader_part hr (by first | decide | omega) (pv 0)) pa_nil))))))
      (pss_one (ps_ret (pe_c c_joined hr (by first | decide | omega) (by rfl) (pa_cons pe_str (pa_cons (pv 1) pa_nil))))))), fun ds M kk kx hw => by
    obtain ⟨a, dx, l, p, rfl, rfl, hl, hw⟩ := hw
    have hsz := sizeLine_eq
    have hw2 : (∃ r j, AtR l p r ∧ FEl n r j ∧ ∀ M', kx (posF (p + j)) M') ∨ ∃ b ts v r, AtR l p (v ++ r) ∧ SqB n b ts v ∧ (b = false → ∀ c, r.head? = some c → c ∉ [42, 43, 63]) ∧
        (((∀ c, r.head? = some c → c = 124 ∨ c = 41) ∧ kk (jn false ts).d [(a, RdO C dx l (p + v.length))]) ∨ ((∃ c, r.head? = some c ∧ c ≠ 124 ∧ c ≠ 41) ∧ ∃ j, FEl n r j ∧ ∀ M', kx (posF (p + v.length + j)) M')) := by
      rcases hw with ⟨s, r, d, at_, ⟨ts, hts, hr1, rfl⟩, q⟩ | ⟨r, j, at_, hf, qx⟩
      · obtain ⟨b, hb⟩ := sqB_of hts
        exact .inr ⟨b, ts, s, r, at_, hb, fun _ => ends_stop hr1, .inl ⟨hr1, q⟩⟩
      · cases hf with
        | first h => exact .inl ⟨r, j, at_, h, qx⟩
        | @then_ _ j' b ts s r' h1 h2 h3 h4 => exact .inr ⟨b, ts, s, r', at_, h1, h2, .inr ⟨h3, j', h4, fun p' => by have := qx p'; rw [← Nat.add_assoc] at this; exact this⟩⟩
    clear hw
    refine as_start (δ' := [some (.ref a), none]) rfl ?_
    refine as_seq (as_setX (aex_lstM (aax_one ?_)))
    rcases hw2 with ⟨r, j, at_, hf, qx⟩ | ⟨b, ts, s, r, at_, hts, hb, hw⟩
    · exact aex_fail rfl rfl rfl hl at_ hf qx
    · have hlen := hts.sq.len
      have hkid := hts.sq.kids false
      have hln : p + s.length ≤ l.length := at_.adv.2
      obtain ⟨b1, t1, s1, us1, u1, h1, rfl, rfl, hR⟩ := sqB_uncons hts
      rw [List.append_assoc] at at_
      refine aex_call rfl rfl rfl hl at_ ⟨b1, t1, h1, part_ok hR hb, rfl⟩ ?_
      have at2 := at_.adv
      refine ⟨by show 1 ≤ _; omega, fun tr => ?_⟩
      refine as_seq ?_
      simp only [List.length_append] at hln hlen
      refine as_while (fun m δ' M' => ∃ (don us : List Pt) (u : List Nat) (p2 : Nat), m = u.length ∧ ((u = [] ∧ us = []) ∨ SqB n b us u) ∧ don ++ us = t1 :: us1 ∧ AtR l p2 (u ++ r) ∧ p2 + u.length = p + s1.length + u1.length ∧ δ' = [some (.ref a), some (.ref tr)] ∧ M' = [(a, RdO C dx l p2), (tr, .lst (don.map Pt.d))]) u1.length
        ⟨[t1], us1, u1, _, rfl, hR.imp (fun h => ⟨h.1, h.2.1⟩) id, rfl, at2, rfl, rfl, rfl⟩ ?_
      rintro m δ' M' ⟨don, us, u, p2, rfl, hR2, hd, at3, hp2, rfl, rfl⟩
      have hdl : don.length ≤ (t1 :: us1).length := by rw [← hd, List.length_append]; omega
      walk_at "tg"
      refine ae_self_call rfl rfl hl at3.nil ⟨rfl, rfl⟩ ?_
      refine ae_c k_SEQUENCE_ENDS ?_
      refine anin_tup ?_
      refine ⟨_, rfl, ?_⟩
      rcases hR2 with ⟨rfl, rfl⟩ | hR2
      · rw [List.append_nil] at hd
        subst hd
        simp only [List.length_append, List.length_nil] at hp2 hw hkid
        rcases hw with ⟨hr1, q⟩ | ⟨⟨c, hc, c1, c2⟩, j, hf, qx⟩
        · refine dcaseN (fun c1 => (c1 (ends_iff.mpr hr1)).elim) (fun _ => ?_)
          refine frz1 (s := 1) rfl ?_
          walk_at "tg"
          refine ⟨[], [_], isM _ [], rfl, ⟨false, _, rfl, rfl, by simp, by omega, by show PK.kids false _ ≤ _; omega, ⟨rfl, rfl⟩⟩, ?_⟩
          rintro _ _ ⟨rfl, rfl⟩
          exact at_end (by simp only [List.length_nil]; omega) q
        · refine dcaseN (fun _ => ?_) (fun z => ?_)
          · refine as_dropX (aex_lm (ae_var rfl ⟨lst1, aax_one ?_⟩))
            exact aex_fail rfl rfl rfl hl at3 hf (x_mv (p := p + (s1.length + u1.length)) (j := j) qx (by simp only [List.length_nil]; omega))
          · rcases ends_iff.mp z c hc with y | y
            · exact absurd y c1
            · exact absurd y c2
      · obtain ⟨b3, t3, s3, us3, u3, h3, rfl, rfl, hR3⟩ := sqB_uncons hR2
        obtain ⟨c, z, ez, hz⟩ := h3.head
        refine dcaseN (fun _ => ?_) (fun c1 => ?_)
        · rw [List.append_assoc] at at3
          refine as_dropX (aex_lm (ae_var rfl ⟨lst1, aax_one ?_⟩))
          refine aex_call rfl rfl rfl hl at3 ⟨b3, t3, h3, part_ok hR3 hb, rfl⟩ ?_
          refine app1 (by rw [List.length_map]; omega) ?_
          refine ⟨_, ?_, don ++ [t3], us3, u3, _, rfl, hR3.imp (fun h => ⟨h.1, h.2.1⟩) id, by rw [← hd]; simp, at3.adv, by simp only [List.length_append, List.length_nil] at *; omega, rfl, ?_⟩
          · rw [List.length_append, ez]
            simp
          · rw [List.map_append]
            rfl
        · have c2 := ends_iff.mp c1 c (by rw [ez]; rfl)
          have : c ∈ stops := by rcases c2 with z | z <;> subst z <;> decide
          exact (hz this).elim⟩
theorem x_alternatives (kC : Cl_PatternReader K mg C) (T : Top K mg w) (n : Nat) (x_PatternReader_sequence : MetX P w K mg base (5 * n + 10) C "sequence" (SpcX K Ce (W_metX C (RelSq n) (FSq n)))) : MetX P w K mg base (5 * n + 11) C "alternatives" (SpcX K Ce (W_metX C (RelAl n) (FAl n))) := metX_of kC.cl kC.d_alternatives fun f fd F => by
  have c_PatternReader_ahead := m_ahead (P := P) (w := w) (base := base) kC
  have c_joined := c_joined (P := P) (w := w) (base := base) T
  skip
  exact spc_okX F sc_PatternReader_alternatives metX_len fun cdv A outer s H E hr => ⟨_, (pss_cons (ps_set (i := 1) sc_PatternReader_alternatives.nd rfl (Or.inl rfl) (pe_lstM (pe_lst (pa_cons (pe_mtX0 (takes_of rfl rfl rfl rfl) x_PatternReader_sequence hr (by first | decide | omega) (pv 0)) pa_nil))))
      (pss_cons (ps_while (passes_of rfl) (pt_cmpR op_eq (C8.pe_mt0 c_PatternReader_ahead hr (by first | decide | omega) (pv 0)) pe_str (nomark _))
      (pss_cons (sfldaug_K (K := K) (pv 0) pe_int)
      (pss_one (ps_expr (app_K (K := K) (pe_bm PySem.F.plainAttrs_list PySem.F.slot_list_append PySem.F.type_list_append mt_append (pv 1) (pa_cons (pe_mtX0 (takes_of rfl rfl rfl rfl) x_PatternReader_sequence hr (by first | decide | omega) (pv 0)) pa_nil)))))))
      (pss_one (ps_ret (pe_c c_joined hr (by first | decide | omega) (by rfl) (pa_cons pe_str (pa_cons (pv 1) pa_nil))))))), fun ds M kk kx hw => by
    obtain ⟨a, dx, l, p, rfl, rfl, hl, hw⟩ := hw
    have hsz := sizeLine_eq
    have hw2 : (∃ r j, AtR l p r ∧ FSq n r j ∧ ∀ M', kx (posF (p + j)) M') ∨ ∃ ts v r, AtR l p (v ++ r) ∧ Al n ts v ∧ (∀ c, r.head? = some c → c = 124 ∨ c = 41) ∧
        (((∀ c, r.head? = some c → c = 41) ∧ kk (jn true ts).d [(a, RdO C dx l (p + v.length))]) ∨ (∃ r' j, r = 124 :: r' ∧ FSq n r' j ∧ ∀ M', kx (posF (p + v.length + 1 + j)) M')) := by
      rcases hw with ⟨s, r, d, at_, ⟨ts, hts, hr1, rfl⟩, q⟩ | ⟨r, j, at_, hf, qx⟩
      · exact .inr ⟨ts, s, r, at_, hts, fun c hc => .inr (hr1 c hc), .inl ⟨hr1, q⟩⟩
      · cases hf with
        | first h => exact .inl ⟨r, j, at_, h, qx⟩
        | @then_ _ j' us s r' h1 h2 => exact .inr ⟨us, s, 124 :: r', at_, h1, fun c hc => .inl (by simpa using hc.symm), .inr ⟨r', j', rfl, h2, fun p' => by have := qx p'; rw [← Nat.add_assoc, ← Nat.add_assoc] at this; exact this⟩⟩
    clear hw
    refine as_start (δ' := [some (.ref a), none]) rfl ?_
    refine as_seq (as_setX (aex_lstM (aax_one ?_)))
    rcases hw2 with ⟨r, j, at_, hf, qx⟩ | ⟨ts, s, r, at_, hts, hre, hw⟩
    · exact aex_fail rfl rfl rfl hl at_ hf qx
    · have hlen := hts.len
      have hkid := hts.kids true
      have hln : p + s.length ≤ l.length := at_.adv.2
      obtain ⟨qs1, s1, us1, u1, h1, rfl, rfl, hR⟩ := al_uncons hts
      have hd0 : ∀ {us : List Pt} {u : List Nat}, AlR n us u → ∀ c, (u ++ r).head? = some c → c = 124 ∨ c = 41 := fun {us u} h c hc => by
        rcases h with ⟨rfl, _⟩ | ⟨v, rfl, h⟩
        · exact hre c hc
        · left
          simpa using hc.symm
      rw [List.append_assoc] at at_
      refine aex_call rfl rfl rfl hl at_ ⟨qs1, h1, hd0 hR, rfl⟩ ?_
      have at2 := at_.adv
      refine ⟨by show 1 ≤ _; omega, fun tr => ?_⟩
      refine as_seq ?_
      simp only [List.length_append] at hln hlen
      refine as_while (fun m δ' M' => ∃ (don us : List Pt) (u : List Nat) (p2 : Nat), m = u.length ∧ AlR n us u ∧ don ++ us = jn false qs1 :: us1 ∧ AtR l p2 (u ++ r) ∧ p2 + u.length = p + s1.length + u1.length ∧ δ' = [some (.ref a), some (.ref tr)] ∧ M' = [(a, RdO C dx l p2), (tr, .lst (don.map Pt.d))]) u1.length
        ⟨[jn false qs1], us1, u1, _, rfl, hR, rfl, at2, rfl, rfl, rfl⟩ ?_
      rintro m δ' M' ⟨don, us, u, p2, rfl, hR2, hd, at3, hp2, rfl, rfl⟩
      have hdl : don.length ≤ (jn false qs1 :: us1).length := by rw [← hd, List.length_append]; omega
      walk_at "tg"
      refine ae_self_call rfl rfl hl at3.nil ⟨rfl, rfl⟩ ?_
      walk_at "tg"
      rcases hR2 with ⟨rfl, rfl⟩ | ⟨v, rfl, hR2⟩
      · rw [List.append_nil] at hd
        subst hd
        simp only [List.length_append, List.length_nil] at hp2 hw hkid
        rcases hw with ⟨hr1, q⟩ | ⟨r', j, rfl, hf, qx⟩
        · refine dcase (fun c1 => ?_) (fun _ => ?_)
          · have c2 := hr1 124 ((head_is (c := 124) rfl).mp c1)
            omega
          refine frz1 (s := 1) rfl ?_
          walk_at "tg"
          refine ⟨[], [_], isM _ [], rfl, ⟨true, _, rfl, rfl, by simp, by omega, by show PK.kids true _ ≤ _; omega, ⟨rfl, rfl⟩⟩, ?_⟩
          rintro _ _ ⟨rfl, rfl⟩
          exact at_end (by simp only [List.length_nil]; omega) q
        · refine dcase (fun _ => ?_) (fun z => (z rfl).elim)
          refine as_seq ?_
          refine as_self_at kC rfl ?_
          have at4 : AtR l (p2 + 0 + 1) r' := AtR.adv (s := [124]) (p := p2) at3
          refine as_dropX (aex_lm (ae_var rfl ⟨lst1, aax_one ?_⟩))
          exact aex_fail rfl rfl rfl hl at4 hf (x_mv (p := p + (s1.length + u1.length) + 1) (j := j) qx (by simp only [List.length_nil]; omega))
      · obtain ⟨qs3, s3, us3, u3, h3, rfl, rfl, hR3⟩ := al_uncons hR2
        refine dcase (fun _ => ?_) (fun z => (z rfl).elim)
        refine as_seq ?_
        refine as_self_at kC rfl ?_
        have at4 : AtR l (p2 + 0 + 1) (s3 ++ u3 ++ r) := AtR.adv (s := [124]) (p := p2) at3
        rw [List.append_assoc] at at4
        refine as_dropX (aex_lm (ae_var rfl ⟨lst1, aax_one ?_⟩))
        refine aex_call rfl rfl rfl hl at4 ⟨qs3, h3, hd0 hR3, rfl⟩ ?_
        refine app1 (by rw [List.length_map]; omega) ?_
        refine ⟨_, ?_, don ++ [jn false qs3], us3, u3, _, rfl, hR3, by rw [← hd]; simp, at4.adv, by simp only [List.length_append, List.length_nil, List.length_cons] at *; omega, rfl, ?_⟩
        · simp
          omega
        · rw [List.map_append]
          rfl⟩
theorem x_group (kC : Cl_PatternReader K mg C) (T : Top K mg w) (e_BadPattern : ErrT_BadPattern K mg Ce) (n : Nat) (x_PatternReader_alternatives : MetX P w K mg base (5 * n + 11) C "alternatives" (SpcX K Ce (W_metX C (RelAl n) (FAl n)))) : MetX P w K mg base (5 * n + 12) C "group" (SpcX K Ce (W_metX C (RelGrp n) (FGrp n))) := metX_of kC.cl kC.d_group fun f fd F => by
  obtain ⟨fI, fdI, iA_BadPattern, iT_BadPattern, FI, iB_BadPattern⟩ := e_BadPattern.i
  have iF_BadPattern := ok_init_BadPattern (P := P) (w := w) (base := base) e_BadPattern FI
  have c_PatternReader_ahead := m_ahead (P := P) (w := w) (base := base) kC
  skip
  exact spc_okX F sc_PatternReader_group metX_len fun cdv A outer s H E hr => ⟨_, (pss_cons (ps_set (i := 1) sc_PatternReader_group.nd rfl (Or.inl rfl) (pe_mtX0 (takes_of rfl rfl rfl rfl) x_PatternReader_alternatives hr (by first | decide | omega) (pv 0)))
      (pss_cons (ps_if (pt_cmpR op_ne (C8.pe_mt0 c_PatternReader_ahead hr (by first | decide | omega) (pv 0)) pe_str (nomark _))
      (pss_one (ps_raise1 rfl (takes_of rfl rfl rfl rfl) e_BadPattern.o iA_BadPattern iT_BadPattern iF_BadPattern (hr.mono (by first | decide | omega)) iB_BadPattern pass0 (by rfl) e_BadPattern.m (pa_cons (fld_K (K := K) (pv 0)) pa_nil)))
      pss_nil)
      (pss_cons (sfldaug_K (K := K) (pv 0) pe_int)
      (pss_one (ps_ret (pv 1)))))), fun ds M kk kx hw => by
    obtain ⟨a, dx, l, p, rfl, rfl, hl, hw⟩ := hw
    have hsz := sizeLine_eq
    refine as_start (δ' := [some (.ref a), none]) rfl ?_
    refine as_seq (as_setX ?_)
    rcases hw with ⟨s, r, d, at_, ⟨ts, u, hts, rfl, rfl⟩, q⟩ | ⟨r, j, at_, hf, qx⟩
    · rw [List.append_assoc] at at_
      refine aex_call rfl rfl rfl hl at_ ⟨ts, hts, fun c hc => by simpa using hc.symm, rfl⟩ ?_
      refine as_seq ?_
      walk_at "tg"
      refine ae_self_call rfl rfl hl at_.adv.nil ⟨rfl, rfl⟩ ?_
      walk_at "tg"
      refine as_seq ?_
      refine as_self_at kC rfl ?_
      walk_at "tg"
      exact at_end (by simp; omega) q
    · rcases hf with hf | ⟨ts, hts, rfl⟩
      · exact aex_fail rfl rfl rfl hl at_ hf qx
      · have at2 : AtR l p (r ++ []) := by rw [List.append_nil]; exact at_
        refine aex_call rfl rfl rfl hl at2 ⟨ts, hts, fun c hc => by simp at hc, rfl⟩ ?_
        refine as_seq ?_
        refine as_if (at_test (ae_op ?_))
        refine ae_self_call rfl rfl hl at2.adv.nil ⟨rfl, rfl⟩ ?_
        refine ae_str (ar_neD rfl ⟨_, rfl, ?_⟩)
        refine caseT rfl ?_
        refine as_raise1 rfl ?_
        walk_at "tg"
        refine ae_self_at kC rfl ?_
        walk_at "tg"
        exact x_end qx (by simp <;> omega)⟩
theorem x_alts (kC : Cl_PatternReader K mg C) (T : Top K mg w) (e : ErrT_BadPattern K mg Ce) : ∀ n : Nat, MetX P w K mg base (5 * n + 11) C "alternatives" (SpcX K Ce (W_metX C (RelAl n) (FAl n)))
  | 0 => x_alternatives kC T 0 (x_sequence kC T 0 (x_part kC T e 0 (x_element kC T e 0 (metX_none kC.cl kC.d_group fun ds M k kx h => by
    obtain ⟨_, _, _, _, _, _, _, h⟩ := h
    rcases h with ⟨_, _, _, _, h, _⟩ | ⟨_, _, _, h, _⟩ <;> exact h))))
  | n + 1 => x_alternatives kC T (n + 1) (x_sequence kC T (n + 1) (x_part kC T e (n + 1) (x_element kC T e (n + 1) (x_group kC T e n (x_alts kC T e n)))))
end

def W_init (C : Addr) : Wt := fun ds M k => ∃ (a dx : Addr) (l : List Nat), ds = [.ref a, .str (tx l)] ∧ M = [(a, .ins C dx [])] ∧ k .non [(a, RdO C dx l 0)]
def FRd (n : Nat) (s : List Nat) (j : Nat) : Prop := FAl n s j ∨ ∃ ts u r, Al n ts u ∧ s = u ++ 41 :: r ∧ j = u.length
def W_readX (n : Nat) : WtX := fun ds M k kx => ∃ s : List Nat, ds = [.str (tx s)] ∧ M = [] ∧ s.length ≤ 100000 ∧ ((∃ ts, Al n ts s ∧ ∀ M', k (jn true ts).d M') ∨ ∃ j, FRd n s j ∧ ∀ M', kx (posF j) M')
def W_told (n : Nat) : Wt := fun ds M k => ∃ s : List Nat, ds = [.str (tx s)] ∧ M = [] ∧ s.length ≤ 100000 ∧ ((∃ ts, Al n ts s ∧ ∀ M', k (.int (-1)) M') ∨ ∃ j, FRd n s j ∧ ∀ M', k (.int (j : Nat)) M')
section
variable {P : Program} {w : World} {K : PySem.W.Frag} {mg : Str → Option Value} {base : Heap} {C Ce : Addr}
theorem m_init (kC : Cl_PatternReader K mg C) : C8.Mak P w K mg base 1 "PatternReader" C (Spc K (W_init C)) [] := mak_of kC.m kC.mk1 kC.mk2 kC.d___init__ fun f fd F => by
  exact spc_ok F sc_PatternReader___init__ (fun ds M k h => by obtain ⟨a, dx, l, rfl, _⟩ := h; rfl) fun cdv A outer s H E hr => ⟨_, (pss_cons (sfld_K (K := K) (pv 0) (pv 1))
      (pss_one (sfld_K (K := K) (pv 0) pe_int))), fun ds M kk hw => by
    obtain ⟨a, dx, l, rfl, rfl, q⟩ := hw
    refine as_start (δ' := [some (.ref a), some (.str (tx l))]) rfl ?_
    refine as_seq ?_
    refine as_sfld (ae_var rfl (ae_var rfl ⟨a, C, dx, [], [], [], rfl, rfl, kC.cl, kC.n_pattern, by decide, ?_⟩))
    refine as_sfld (ae_int (ae_var rfl ⟨a, C, dx, _, [], [], rfl, rfl, kC.cl, kC.n_at, by show 1 < 1000; decide, ?_⟩))
    exact q⟩
theorem c_read_patternX (T : Top K mg w) (e_BadPattern : ErrT_BadPattern K mg Ce) (n : Nat) : CalX P w K mg base (5 * n + 12) "read_pattern" (SpcX K Ce (W_readX n)) := by
  obtain ⟨fI, fdI, iA_BadPattern, iT_BadPattern, FI, iB_BadPattern⟩ := e_BadPattern.i
  have iF_BadPattern := ok_init_BadPattern (P := P) (w := w) (base := base) e_BadPattern FI
  obtain ⟨C, kC⟩ := T.k_PatternReader
  have x_PatternReader_alternatives := x_alts (P := P) (w := w) (base := base) kC T e_BadPattern n
  have c_PatternReader := m_init (P := P) (w := w) (base := base) kC
  obtain ⟨f, fd, F, m, b⟩ := T.d_read_pattern.ex
  refine ⟨f, fd, ["text"], ?_, m, F.kp, b⟩
  exact spc_okX F sc_read_pattern (fun ds M k kx h => by obtain ⟨s, rfl, _⟩ := h; rfl) fun cdv A outer s H E hr => ⟨_, (pss_cons (ps_set (i := 1) sc_read_pattern.nd rfl (Or.inl rfl) (pe_mk c_PatternReader hr (by first | decide | omega) (by rfl) (pa_cons (pv 0) pa_nil)))
      (pss_cons (ps_set (i := 2) sc_read_pattern.nd rfl (Or.inl rfl) (pe_mtX0 (takes_of rfl rfl rfl rfl) x_PatternReader_alternatives hr (by first | decide | omega) (pv 1)))
      (pss_cons (ps_if (pt_cmpR op_lt (fld_K (K := K) (pv 1)) (pe_callB (len_K (K := K)) (by rfl) T.m_len (by decide +kernel) (pa_cons (pv 0) pa_nil)) (nomark _))
      (pss_one (ps_raise1 rfl (takes_of rfl rfl rfl rfl) e_BadPattern.o iA_BadPattern iT_BadPattern iF_BadPattern (hr.mono (by first | decide | omega)) iB_BadPattern pass0 (by rfl) e_BadPattern.m (pa_cons (fld_K (K := K) (pv 1)) pa_nil)))
      pss_nil)
      (pss_one (ps_ret (pv 2)))))), fun ds M kk kx hw => by
    obtain ⟨s, rfl, rfl, hl, hw⟩ := hw
    have hsz := sizeLine_eq
    have hw2 : (∃ j, FAl n s j ∧ ∀ M', kx (posF j) M') ∨ ∃ ts u r, s = u ++ r ∧ Al n ts u ∧ (∀ c, r.head? = some c → c = 41) ∧ ((r = [] ∧ ∀ M', kk (jn true ts).d M') ∨ (r ≠ [] ∧ ∀ M', kx (posF u.length) M')) := by
      rcases hw with ⟨ts, h, q⟩ | ⟨j, h | ⟨ts, u, r, h, rfl, rfl⟩, qx⟩
      · exact .inr ⟨ts, s, [], by simp, h, (fun c hc => by simp at hc), .inl ⟨rfl, q⟩⟩
      · exact .inl ⟨j, h, qx⟩
      · exact .inr ⟨ts, u, 41 :: r, rfl, h, (fun c hc => by simpa using hc.symm), .inr ⟨by simp, qx⟩⟩
    clear hw
    refine as_start (δ' := [some (.str (tx s)), none, none]) rfl ?_
    refine as_seq (as_set ?_)
    refine ae_make (aa_cons (ae_var rfl (aa_nil fun x dx => ⟨isM .non [(x, RdO C dx s 0)], ⟨x, dx, s, rfl, rfl, rfl, rfl⟩, fun d Mc' h => by
      obtain ⟨rfl, rfl⟩ := h
      refine ⟨rfl, ?_⟩
      refine as_seq (as_setX ?_)
      rcases hw2 with ⟨j, hf, qx⟩ | ⟨ts, u, r, rfl, hts, hr1, hw⟩
      · refine aex_meth rfl (ae_var rfl ⟨x, dx, _, rfl, ⟨[], [], rfl⟩, rfl, aa_nil ⟨[_], [], (fun _ _ => False), fun fs M' => fs = posF (0 + j), rfl, ⟨x, dx, s, 0, rfl, rfl, hl, .inr ⟨s, j, ⟨by simp, Nat.zero_le _⟩, hf, fun _ => rfl⟩⟩, (fun _ _ h => h.elim), fun fs M' h => ?_⟩⟩)
        subst h
        rw [Nat.zero_add]
        exact qx _
      · refine aex_meth rfl (ae_var rfl ⟨x, dx, _, rfl, ⟨[], [], rfl⟩, rfl, aa_nil ⟨[_], [], isM (jn true ts).d [(x, RdO C dx (u ++ r) (0 + u.length))], (fun _ _ => False), rfl, ⟨x, dx, u ++ r, 0, rfl, rfl, hl, .inl ⟨u, r, _, ⟨by simp, Nat.zero_le _⟩, ⟨ts, hts, hr1, rfl⟩, rfl, rfl⟩⟩, fun d' M' h => ?_, fun _ _ h => h.elim⟩⟩)
        obtain ⟨rfl, rfl⟩ := h
        have at_ : ∀ {k : D → Mu → Prop} {δ : DS}, δ[1]? = some (some (.ref x)) → k (.int ((0 + u.length : Nat))) [(x, RdO C dx (u ++ r) (0 + u.length))] → AE K (tFld K (tVar 1) "at") δ [(x, RdO C dx (u ++ r) (0 + u.length))] k := fun h q =>
          ae_fld (ae_var h ⟨x, C, dx, _, .int ((0 + u.length : Nat)), [], [], rfl, rfl, kC.cl, kC.n_at, rfl, q⟩)
        refine as_seq (as_if (at_test (ae_op ?_)))
        refine at_ rfl ?_
        walk_at "tg"
        rcases hw with ⟨rfl, q⟩ | ⟨hne, qx⟩
        · refine caseF (decide_eq_false (by simp)) ?_
          walk_at "tg"
          exact q _
        · have hr0 : 1 ≤ r.length := by
            cases r with
            | nil => exact absurd rfl hne
            | cons c y => simp
          refine caseT (decide_eq_true (by rw [List.length_append]; omega)) ?_
          refine as_raise1 rfl ?_
          refine aa_cons (at_ rfl (aa_nil ⟨_, rfl, ?_⟩))
          have := qx [(x, RdO C dx (u ++ r) (0 + u.length))]
          rw [Nat.zero_add]
          rw [Nat.zero_add] at this
          exact this⟩)))⟩
theorem c__law_told (T : Top K mg w) (n : Nat) : Cal P w K mg base (5 * n + 14) "_law_told" (Spc K (W_told n)) [] := cal_of T.d__law_told fun f fd F => by
  obtain ⟨C_BadPattern, C_TongueError, e_BadPattern, t_TongueError, i1, i2⟩ := T.x_BadPattern
  have c_read_pattern := c_read_patternX (P := P) (w := w) (base := base) T e_BadPattern n
  exact spc_ok F sc__law_told (fun ds M k h => by obtain ⟨s, rfl, _⟩ := h; rfl) fun cdv A outer s H E hr => ⟨_, (pss_cons (ps_try_as (i := 1) rfl rfl sc__law_told.nd rfl rfl ⟨by rfl, by decide, Or.inl e_BadPattern.m⟩ takes0 (fun W pn xe tk _ => (pss_one (ps_expr (pe_cX tk c_read_pattern hr (by first | decide | omega) (by rfl) (pa_cons (pv 0) pa_nil))))) (fun a oe cls d pn hz hf => (pss_cons (ps_if (pw_and (tru_K (K := K) (pe_callB (call_isX e_BadPattern.ec hz hf) (by rfl) T.m_isinstance (by decide +kernel) (pa_cons (pv 1) (pa_cons (pe_glob (v := .ref C_TongueError) (by rfl) t_TongueError rfl) pa_nil)))) (pw_and1 (tru_K (K := K) (pe_callB (call_isX e_BadPattern.ec hz hf) (by rfl) T.m_isinstance (by decide +kernel) (pa_cons (pv 1) (pa_cons (pe_bltn (v := .ty "ValueError") (by rfl) T.m_ValueError (by decide +kernel) rfl) pa_nil)))))).pt
      (pss_one (ps_ret (pe_xf e_BadPattern.xf e_BadPattern.n1 hz hf (pv 1))))
      pss_nil)
      (pss_one (ps_ret (pe_un un_neg pe_int))))))
      (pss_one (ps_ret (pe_un un_neg pe_int)))), fun ds M kk hw => by
    obtain ⟨s, rfl, rfl, hl, hw⟩ := hw
    have hsz := sizeLine_eq
    refine as_start (δ' := [some (.str (tx s)), none]) rfl ?_
    refine as_seq ?_
    refine as_tryD e_BadPattern.self ?_
    walk_at "tg"
    refine ⟨[], [], fun d M => ∃ ts, Al n ts s ∧ ∀ M', kk (.int (-1)) M', fun fs M => ∃ j : Nat, fs = posF j ∧ ∀ M', kk (.int (j : Nat)) M', rfl, ⟨s, rfl, rfl, hl, ?_⟩, ?_, ?_⟩
    · rcases hw with ⟨ts, h, q⟩ | ⟨j, h, q⟩
      · exact .inl ⟨ts, h, fun M' => ⟨ts, h, q⟩⟩
      · exact .inr ⟨j, h, fun M' => ⟨j, rfl, q⟩⟩
    · rintro _ Mc ⟨ts, h, q⟩
      walk_at "tg"
      exact q _
    · rintro _ Mc a d ⟨j, rfl, q⟩
      show AS K (tSeq (tIfS (tAnd (tTruU K (tCB (rIsX K C_BadPattern a (.ref C_BadPattern) (some d)) (tCons (tVar 1) (tCons (tC (.ref C_TongueError)) tNil)))) (tTruU K (tCB (rIsX K C_BadPattern a (.ref C_BadPattern) (some d)) (tCons (tVar 1) (tCons (tC (.ty "ValueError")) tNil))))) (tRet (tXf a (.ref C_BadPattern) (some d) C_BadPattern "position" (tVar 1))) tNext)
          (tRet (tUn (rU fun i => .int (-i)) (tC (.int 2))))) [some (D.str (tx s)), some (.ref a)] (Mc ++ [(d, MO.xd (posF j))] ++ []) _
      have hM : Mc ++ [(d, MO.xd (posF j))] ++ [] = Mc ++ (d, MO.xd (posF j)) :: [] := by simp
      rw [hM]
      refine as_seq ?_
      refine as_if (at_and (at_tru (ae_cb (aa_cons (ae_var rfl (aa_cons (ae_refC (aa_nil ?_))))))))
      refine ac_isXref Mc [] rfl i1 ?_
      refine ⟨True.intro, (fun _ => ?_), fun z => (nomatch z)⟩
      refine at_tru (ae_cb (aa_cons (ae_var rfl (aa_cons (ae_ty (aa_nil ?_))))))
      refine ac_isXty Mc [] rfl i2 ?_
      refine ⟨True.intro, (fun _ => ?_), fun z => (nomatch z)⟩
      refine as_ret (ae_xf ?_)
      exact ae_var rfl ⟨rfl, posF j, .int (j : Nat), Mc, [], rfl, rfl, q _⟩⟩
end

section
variable {P : Program} {w : World} {K : PySem.W.Frag} {mg : Str → Option Value} {base : Heap}
theorem cells_at {cs : List Int} {i : Int} (h0 : 0 ≤ i) (h : i < (cs.length : Int)) : ∃ c, c ∈ cs ∧ atI (cs.map D.int) i = some (.int c) := by
  obtain ⟨j, rfl⟩ : ∃ j : Nat, i = (j : Int) := ⟨i.toNat, by omega⟩
  have hj : j < cs.length := by omega
  refine ⟨cs[j], List.getElem_mem hj, ?_⟩
  exact atI_nat (by rw [List.getElem?_map, List.getElem?_eq_getElem hj]; rfl)
theorem c__law_pool (T : Top K mg w) : Cal P w K mg base 1 "_law_pool" (Spc K W_pool) [] := cal_of T.d__law_pool fun f fd F =>
  spc_ok F sc__law_pool (fun ds M k h => by obtain ⟨ns, rfl, _⟩ := h; rfl) fun cdv A outer s H E hr => ⟨_, (pss_one (ps_ret (pe_lstM (pe_lst (pa_cons (pe_lc (own := [("cell", 1)]) (g := gName 1) rfl sc__law_pool.nd (seq_K (K := K) (pv 0)) (blkOk_by (own := [("cell", 1)]) (N := ["script", "cell"]) (sc := defScope s__law_pool) (by decide +kernel)) (fun _ _ _ _ _ => (pg_name (i := 1) sc__law_pool.nd rfl (Or.inl rfl))) (fun _ _ _ _ _ => pts_nil) (fun _ _ _ _ _ => (pe_ifExp (pt_cmpR op_ge (pv 1) pe_int (nomark _)) (pe_op op_mul pe_int (pv 1)) (pe_op op_sub (pe_op op_mul (pe_un un_neg pe_int) (pv 1)) pe_int)))) (pa_cons pe_int (pa_cons pe_int (pa_cons pe_int pa_nil)))))))), fun ds M kk hw => by
    obtain ⟨ns, rfl, rfl, hl, q⟩ := hw
    refine as_start (δ' := [some (.lsk (ns.map D.int)), none]) rfl ?_
    walk_at "tg"
    refine ae_lc (ownG_name (by simp)) ?_
    walk_at "tg"
    refine ⟨by rw [List.length_map]; exact small1000 (by omega), fun i acc M' => M' = [] ∧ ∃ cs : List Int, acc = cs.map D.int ∧ ∀ c ∈ cs, 0 ≤ c, ⟨rfl, [], rfl, by simp⟩, ?_, ?_⟩
    · rintro i d acc M' hd ⟨rfl, cs, rfl, hc⟩
      obtain ⟨j, rfl⟩ : ∃ j, d = .int j := by
        rw [List.getElem?_map] at hd
        cases e : ns[i]? with
        | none => rw [e] at hd; cases hd
        | some j => rw [e] at hd; exact ⟨j, by simpa using hd.symm⟩
      walk_at "tg"
      refine dcase (fun c => ?_) (fun c => ?_)
      · walk_at "tg"
        exact ⟨rfl, cs ++ [2 * j], by simp, fun x hx => by
          rcases List.mem_append.mp hx with hx | hx
          · exact hc x hx
          · have e : x = 2 * j := by simpa using hx
            omega⟩
      · walk_at "tg"
        exact ⟨rfl, cs ++ [-2 * j - 1], by simp, fun x hx => by
          rcases List.mem_append.mp hx with hx | hx
          · exact hc x hx
          · have e : x = -2 * j - 1 := by simpa using hx
            omega⟩
    · rintro acc M' ⟨rfl, cs, rfl, hc⟩
      walk_at "tg"
      intro a
      exact q a ⟨cs, 0, 0, 17⟩ ⟨hc, Int.le_refl 0, Int.le_refl 0, by show (0 : Int) ≤ 17; decide, by show (17 : Int) < 2147483647; decide⟩⟩
theorem take_step (T : Top K mg w) (n : Nat) (c__law_take : Cal P w K mg base n "_law_take" (Spc K (W_take n)) []) : Cal P w K mg base (n + 1) "_law_take" (Spc K (W_take (n + 1))) [] := cal_of T.d__law_take fun f fd F =>
  spc_ok F sc__law_take (fun ds M k h => by obtain ⟨a, p, many, rfl, _⟩ := h; rfl) fun cdv A outer s H E hr => ⟨_, (pss_cons (ps_if (pt_cmpR op_gt (pe_ix (ix_K (K := K)) (pv 0) pe_int (fun _ _ => rfl)) pe_int (nomark _))
      (pss_cons (ps_set (i := 2) sc__law_take.nd rfl (Or.inl rfl) (pe_op op_mod (pe_callTy call_intU (by rfl) T.m_int (by decide +kernel) (pa_cons (pe_ix (ix_K (K := K)) (pv 0) pe_int (fun _ _ => rfl)) pa_nil)) (pv 1)))
      (pss_cons (ps_asg (pe_op op_fdiv (pe_ix (ix_K (K := K)) (pv 0) pe_int (fun _ _ => rfl)) (pv 1)) (pg_sub (pv 0) pe_int (set_any (hu_of hr))))
      (pss_one (ps_ret (pv 2)))))
      pss_nil)
      (pss_cons (ps_set (i := 3) sc__law_take.nd rfl (Or.inl rfl) pe_int)
      (pss_cons (ps_if (pt_cmpR op_lt (pe_ix (ix_K (K := K)) (pv 0) pe_int (fun _ _ => rfl)) (pe_callB (len_K (K := K)) (by rfl) T.m_len (by decide +kernel) (pa_cons (pe_ix (ix_K (K := K)) (pv 0) pe_int (fun _ _ => rfl)) pa_nil)) (nomark _))
      (pss_one (ps_set (i := 3) sc__law_take.nd rfl (Or.inl rfl) (pe_ix (ix_K (K := K)) (pe_ix (ix_K (K := K)) (pv 0) pe_int (fun _ _ => rfl)) (pe_ix (ix_K (K := K)) (pv 0) pe_int (fun _ _ => rfl)) (fun _ _ => rfl))))
      pss_nil)
      (pss_cons (ps_asg (pe_op (add_K (K := K)) (pe_ix (ix_K (K := K)) (pv 0) pe_int (fun _ _ => rfl)) pe_int) (pg_sub (pv 0) pe_int (set_any (hu_of hr))))
      (pss_cons (ps_if (pt_cmpR op_ge (pv 3) (pe_op op_pow pe_int pe_int) (nomark _))
      (pss_cons (ps_asg (pe_op op_fdiv (pv 3) pe_int) (pg_sub (pv 0) pe_int (set_any (hu_of hr))))
      (pss_one (ps_ret (pe_c c__law_take hr (by first | decide | omega) (by rfl) (pa_cons (pv 0) (pa_cons (pv 1) pa_nil))))))
      pss_nil)
      (pss_cons (ps_asg (pe_op op_mod (pe_callTy call_intU (by rfl) T.m_int (by decide +kernel) (pa_cons (pe_op (add_K (K := K)) (pe_op (add_K (K := K)) (pe_op op_mul (pe_ix (ix_K (K := K)) (pv 0) pe_int (fun _ _ => rfl)) pe_int) (pe_op op_mul (pv 3) pe_int)) (pe_op op_mul (pe_ix (ix_K (K := K)) (pv 0) pe_int (fun _ _ => rfl)) pe_int)) pa_nil)) pe_int) (pg_sub (pv 0) pe_int (set_any (hu_of hr))))
      (pss_cons (ps_set (i := 4) sc__law_take.nd rfl (Or.inl rfl) (pe_op op_mod (pe_callTy call_intU (by rfl) T.m_int (by decide +kernel) (pa_cons (pe_op (add_K (K := K)) (pe_op (add_K (K := K)) (pe_op op_mul (pe_ix (ix_K (K := K)) (pv 0) pe_int (fun _ _ => rfl)) (pe_ix (ix_K (K := K)) (pv 0) pe_int (fun _ _ => rfl))) (pe_op op_mul (pe_ix (ix_K (K := K)) (pv 0) pe_int (fun _ _ => rfl)) pe_int)) pe_int) pa_nil)) pe_int))
      (pss_one (ps_ret (pe_op op_mod (pe_callTy call_intU (by rfl) T.m_int (by decide +kernel) (pa_cons (pe_op op_fdiv (pv 4) pe_int) pa_nil)) (pv 1))))))))))), fun ds M kk hw => by
    obtain ⟨a, p, many, rfl, rfl, ok, h0, h1, hn, hb, q⟩ := hw
    have s0 := ok.seed0
    have s1 := ok.seed1
    have b0 := ok.big
    refine as_start (δ' := [some (.ref a), some (.int many), none, none, none]) rfl ?_
    refine as_seq ?_
    walk_at "tg"
    refine dcase (fun c => ?_) (fun c => ?_)
    · walk_at "tg"
      exact q _ { p with big := p.big / many } ⟨ok.cells, ok.pos, Int.ediv_nonneg b0 (by omega), s0, s1⟩ (Int.emod_nonneg _ (by omega)) (Int.emod_lt_of_pos _ h0)
    · have hn2 : 2 ≤ n + 1 := by rcases hb with z | z <;> omega
      walk_at "tg"
      refine as_cut (fun δ' M' => ∃ c : Int, 0 ≤ c ∧ δ' = [some (.ref a), some (.int many), none, some (.int c), none] ∧ M' = [(a, .lst p.d)]) ?_ ?_
      · walk_at "tg"
        refine dcase (fun c => ?_) (fun c => ?_)
        · have c' : p.pos < (p.cells.length : Int) := by rw [List.length_map] at c; exact c
          obtain ⟨x, hx, hat⟩ := cells_at ok.pos c'
          walk_at "tg"
          refine aix_L hat ?_
          walk_at "tg"
          exact ⟨x, ok.cells x hx, rfl, rfl⟩
        · walk_at "tg"
          exact ⟨0, Int.le_refl 0, rfl, rfl⟩
      · rintro δ' M' ⟨c, hc, rfl, rfl⟩
        walk_at "tg"
        refine as_seq ?_
        walk_at "tg"
        have p0 := ok.pos
        refine dcase (fun c1 => ?_) (fun c1 => ?_)
        · walk_at "tg"
          have e18 : (10 : Int) ^ Int.toNat 18 = 1000000000000000000 := by decide
          rw [e18] at c1
          exact ⟨[_], [], kk, rfl, ⟨a, { p with pos := p.pos + 1, big := c / 2 }, many, rfl, rfl, ⟨ok.cells, by show 0 ≤ p.pos + 1; omega, by show 0 ≤ c / 2; omega, s0, s1⟩, h0, h1, by omega, .inl (by show 0 < c / 2; omega), fun r p' ok' r0 r1 => q r p' ok' r0 r1⟩, fun d Mc' h => by rw [List.append_nil]; exact h⟩
        · walk_at "tg"
          exact q _ { p with pos := p.pos + 1, seed := (p.seed * 48271 + c * 69621 + (p.pos + 1) * 613) % 2147483647 } ⟨ok.cells, by show 0 ≤ p.pos + 1; omega, b0, Int.emod_nonneg _ (by decide), Int.emod_lt_of_pos _ (by decide)⟩ (Int.emod_nonneg _ (by omega)) (Int.emod_lt_of_pos _ h0)⟩
theorem c__law_take (T : Top K mg w) : ∀ n : Nat, Cal P w K mg base n "_law_take" (Spc K (W_take n)) []
  | 0 => cal_none T.d__law_take fun ds M k h => by
    obtain ⟨_, _, _, _, _, _, _, _, h, _⟩ := h
    omega
  | n + 1 => take_step T n (c__law_take T n)
end

/-! ### drawn trees; whether they can be empty -/
def Cset (cs : List Nat) : Prop := cs ≠ [] ∧ cs = cst_ALPHABET.filter (fun c => decide (c ∈ cs))
def notNd (e : Bool) : Pt → Prop
  | .nd j _ => j ≠ e
  | _ => True
def Wf : Nat → Pt → Prop
  | _, .chars cs => Cset cs
  | 0, .nd _ _ => False
  | 0, .rep _ _ => False
  | n + 1, .nd e ps => 2 ≤ ps.length ∧ ∀ p ∈ ps, Wf n p ∧ notNd e p
  | n + 1, .rep k p => k < 3 ∧ Wf n p
mutual
def em : Pt → Bool
  | .chars _ => false
  | .nd e ps => if e then emAny ps else emAll ps
  | .rep k p => if k = 1 then em p else true
def emAll : List Pt → Bool
  | [] => true
  | p :: r => em p && emAll r
def emAny : List Pt → Bool
  | [] => false
  | p :: r => em p || emAny r
end
theorem emAll_eq : ∀ ps : List Pt, emAll ps = (ps.map em).all id
  | [] => rfl
  | p :: r => by
    show (em p && emAll r) = _
    rw [emAll_eq r]
    rfl
theorem emAny_eq : ∀ ps : List Pt, emAny ps = (ps.map em).any id
  | [] => rfl
  | p :: r => by
    show (em p || emAny r) = _
    rw [emAny_eq r]
    rfl
mutual
def Pt.wt : Pt → Nat
  | .chars _ => 1
  | .nd _ ps => 1 + Pt.wts ps
  | .rep _ p => 1 + Pt.wt p
def Pt.wts : List Pt → Nat
  | [] => 0
  | p :: r => Pt.wt p + Pt.wts r
end
theorem Pt.wt_pos (t : Pt) : 1 ≤ t.wt := by
  cases t <;> (unfold Pt.wt; omega)
theorem Pt.wts_len : ∀ ps : List Pt, ps.length ≤ Pt.wts ps
  | [] => Nat.zero_le _
  | p :: r => by
    have := Pt.wts_len r
    have h1 := p.wt_pos
    show r.length + 1 ≤ p.wt + Pt.wts r
    omega
theorem Pt.wts_app : ∀ a b : List Pt, Pt.wts (a ++ b) = Pt.wts a + Pt.wts b
  | [], b => (Nat.zero_add _).symm
  | p :: r, b => by
    show p.wt + Pt.wts (r ++ b) = p.wt + Pt.wts r + Pt.wts b
    rw [Pt.wts_app r b]
    omega
theorem Pt.wt_mem {p : Pt} : ∀ {ps : List Pt}, p ∈ ps → p.wt ≤ Pt.wts ps
  | q :: r, h => by
    show _ ≤ q.wt + Pt.wts r
    rcases List.mem_cons.mp h with e | h
    · subst e; omega
    · have := Pt.wt_mem h; omega
theorem rep_cases {k : Nat} (h : k < 3) : k = 0 ∨ k = 1 ∨ k = 2 := by omega
theorem repS_chars (k : Nat) (z : Str) (h : z ≠ Str.ofString "star" := by decide) (h1 : z ≠ Str.ofString "plus" := by decide) (h2 : z ≠ Str.ofString "maybe" := by decide) : ¬ repS k = z := fun q => by
  match k with
  | 0 => exact h q.symm
  | 1 => exact h1 q.symm
  | k + 2 => exact h2 q.symm
theorem nd_row : ¬ ndS true = Str.ofString "row" := by decide
theorem rep_plus0 : ¬ repS 0 = Str.ofString "plus" := by decide
theorem rep_plus2 : ¬ repS 2 = Str.ofString "plus" := by decide
theorem dcaseNR {p : Prop} [Decidable p] {A B : Prop} (h1 : p → A) (h2 : ¬ p → B) : ((!decide p) = false → A) ∧ ((!decide p) = true → B) := by
  by_cases h : p
  · rw [decide_eq_true h]
    exact ⟨fun _ => h1 h, fun z => nomatch z⟩
  · rw [decide_eq_false h]
    exact ⟨fun z => (nomatch z), fun _ => h2 h⟩
def W_can (n : Nat) : Wt := fun ds M k => ∃ (m : Nat) (t : Pt), n = m + 1 ∧ ds = [t.d] ∧ M = [] ∧ Wf m t ∧ t.wt ≤ 100000 ∧ k (.bl (em t)) []
theorem wf_nd {m : Nat} {e : Bool} {ps : List Pt} (h : Wf m (.nd e ps)) (hw : (Pt.nd e ps).wt ≤ 100000) : 2 ≤ ps.length ∧ ps.length ≤ 100000 ∧ 1 ≤ m ∧ ∀ p ∈ ps, 1 ≤ m ∧ Wf (m - 1) p ∧ p.wt ≤ 100000 ∧ notNd e p := by
  unfold Pt.wt at hw
  cases m with
  | zero => exact h.elim
  | succ m =>
    obtain ⟨h1, h2⟩ := h
    have := Pt.wts_len ps
    refine ⟨h1, by omega, by omega, fun p hp => ?_⟩
    obtain ⟨g1, g2⟩ := h2 p hp
    have := Pt.wt_mem hp
    exact ⟨by omega, g1, by omega, g2⟩
theorem wf_rep {m k : Nat} {p : Pt} (h : Wf m (.rep k p)) (hw : (Pt.rep k p).wt ≤ 100000) : k < 3 ∧ 1 ≤ m ∧ Wf (m - 1) p ∧ p.wt ≤ 100000 := by
  unfold Pt.wt at hw
  cases m with
  | zero => exact h.elim
  | succ m => exact ⟨h.1, by omega, h.2, by omega⟩
section
variable {P : Program} {w : World} {K : PySem.W.Frag} {mg : Str → Option Value} {base : Heap} {C : Addr}
theorem parts_get {ps : List Pt} {i : Nat} {d : D} (hd : (ps.map Pt.d)[i]? = some d) : ∃ p, p ∈ ps ∧ ps[i]? = some p ∧ d = p.d := by
  rw [List.getElem?_map] at hd
  cases hq : ps[i]? with
  | none => rw [hq] at hd; cases hd
  | some p =>
    rw [hq] at hd
    exact ⟨p, List.mem_of_getElem? hq, rfl, by simpa using hd.symm⟩
end

/-! ### runs, canonical texts -/
theorem al_nodup : cst_ALPHABET.Nodup := by decide +kernel
theorem al_at {c : Nat} (h : c ∈ cst_ALPHABET) : cst_ALPHABET[alix c]? = some c := by
  have h1 := List.idxOf_lt_length_iff.mpr h
  unfold alix
  rw [List.getElem?_eq_getElem h1]
  simp
theorem al_ix {i c : Nat} (h : cst_ALPHABET[i]? = some c) : alix c = i := by
  obtain ⟨h1, h2⟩ := List.getElem?_eq_some_iff.mp h
  unfold alix
  rw [← h2]
  exact List.Nodup.idxOf_getElem al_nodup i h1
theorem alix_inj {a b : Nat} (ha : a ∈ cst_ALPHABET) (hb : b ∈ cst_ALPHABET) (h : alix a = alix b) : a = b := by
  have h1 := al_at ha
  have h2 := al_at hb
  rw [h, h2] at h1
  exact (Option.some.inj h1).symm
def RunOk (r : Nat × Nat) : Prop := r.1 ∈ cst_ALPHABET ∧ r.2 ∈ cst_ALPHABET ∧ alix r.1 ≤ alix r.2
def stepR (acc : List (Nat × Nat)) (c : Nat) : List (Nat × Nat) := match acc.getLast? with
  | some r => if alix c = alix r.2 + 1 then acc.dropLast ++ [(r.1, c)] else acc ++ [(c, c)]
  | none => acc ++ [(c, c)]
def rns (cs : List Nat) : List (Nat × Nat) := cs.foldl stepR []
theorem rns_snoc (cs : List Nat) (c : Nat) : rns (cs ++ [c]) = stepR (rns cs) c := by simp [rns]
theorem seg_len_eq {a b : Nat} (hb : b ∈ cst_ALPHABET) : (seg a b).length = alix b + 1 - alix a := by
  have h := alix_lt hb
  unfold seg
  rw [List.length_take, List.length_drop, al_len]
  omega
theorem seg_get {a b j : Nat} (hj : j < alix b + 1 - alix a) : (seg a b)[j]? = cst_ALPHABET[alix a + j]? := by
  unfold seg
  rw [List.getElem?_take, if_pos hj, List.getElem?_drop]
theorem seg_one {a : Nat} (h : a ∈ cst_ALPHABET) : seg a a = [a] := by
  have hl := seg_len_eq (a := a) h
  have h0 : (seg a a)[0]? = some a := by rw [seg_get (by omega)]; exact al_at h
  match hs : seg a a with
  | [] => rw [hs] at h0; cases h0
  | [x] => rw [hs] at h0; simpa using h0
  | x :: y :: r => rw [hs] at hl; simp at hl
theorem seg_next {a b c : Nat} (h : alix a ≤ alix b) (hc : c ∈ cst_ALPHABET) (e : alix c = alix b + 1) : seg a c = seg a b ++ [c] := by
  have h1 := al_at hc
  unfold seg
  have e1 : alix c + 1 - alix a = (alix b + 1 - alix a) + 1 := by omega
  rw [e1, List.take_add_one, List.getElem?_drop]
  have e2 : alix a + (alix b + 1 - alix a) = alix c := by omega
  rw [e2, h1]
  rfl
theorem step_ok {acc : List (Nat × Nat)} {c : Nat} (h : ∀ r ∈ acc, RunOk r) (hc : c ∈ cst_ALPHABET) :
    (∀ r ∈ stepR acc c, RunOk r) ∧ ∀ x, (∃ r ∈ stepR acc c, x ∈ seg r.1 r.2) ↔ ((∃ r ∈ acc, x ∈ seg r.1 r.2) ∨ x = c) := by
  have new : (∀ r ∈ acc ++ [(c, c)], RunOk r) ∧ ∀ x, (∃ r ∈ acc ++ [(c, c)], x ∈ seg r.1 r.2) ↔ ((∃ r ∈ acc, x ∈ seg r.1 r.2) ∨ x = c) := by
    constructor
    · intro r hr
      rcases List.mem_append.mp hr with hr | hr
      · exact h r hr
      · have e : r = (c, c) := by simpa using hr
        subst e
        exact ⟨hc, hc, Nat.le_refl _⟩
    · intro x
      constructor
      · rintro ⟨r, hr, hx⟩
        rcases List.mem_append.mp hr with hr | hr
        · exact .inl ⟨r, hr, hx⟩
        · have e : r = (c, c) := by simpa using hr
          subst e
          have hx' : x ∈ seg c c := hx
          rw [seg_one hc] at hx'
          exact .inr (by simpa using hx')
      · rintro (⟨r, hr, hx⟩ | rfl)
        · exact ⟨r, List.mem_append_left _ hr, hx⟩
        · exact ⟨(x, x), by simp, by show x ∈ seg x x; rw [seg_one hc]; simp⟩
  unfold stepR
  cases e : acc.getLast? with
  | none => exact new
  | some r0 =>
    dsimp only
    by_cases e1 : alix c = alix r0.2 + 1
    · rw [if_pos e1]
      obtain ⟨pre, rfl⟩ := List.getLast?_eq_some_iff.mp e
      rw [List.dropLast_concat]
      have h0 := h r0 (by simp)
      constructor
      · intro r hr
        rcases List.mem_append.mp hr with hr | hr
        · exact h r (List.mem_append_left _ hr)
        · have e2 : r = (r0.1, c) := by simpa using hr
          subst e2
          exact ⟨h0.1, hc, by have := h0.2.2; show alix r0.1 ≤ alix c; omega⟩
      · intro x
        have hn := seg_next h0.2.2 hc e1
        constructor
        · rintro ⟨r, hr, hx⟩
          rcases List.mem_append.mp hr with hr | hr
          · exact .inl ⟨r, List.mem_append_left _ hr, hx⟩
          · have e2 : r = (r0.1, c) := by simpa using hr
            subst e2
            have hx' : x ∈ seg r0.1 c := hx
            rw [hn] at hx'
            rcases List.mem_append.mp hx' with z | z
            · exact .inl ⟨r0, by simp, z⟩
            · exact .inr (by simpa using z)
        · rintro (⟨r, hr, hx⟩ | rfl)
          · rcases List.mem_append.mp hr with hr | hr
            · exact ⟨r, List.mem_append_left _ hr, hx⟩
            · have e2 : r = r0 := by simpa using hr
              subst e2
              exact ⟨(r.1, c), by simp, by show x ∈ seg r.1 c; rw [hn]; exact List.mem_append_left _ hx⟩
          · exact ⟨(r0.1, x), by simp, by show x ∈ seg r0.1 x; rw [hn]; simp⟩
    · rw [if_neg e1]
      exact new
theorem rns_ok : ∀ (cs : List Nat) (acc : List (Nat × Nat)), (∀ r ∈ acc, RunOk r) → (∀ c ∈ cs, c ∈ cst_ALPHABET) →
    (∀ r ∈ cs.foldl stepR acc, RunOk r) ∧ ∀ x, (∃ r ∈ cs.foldl stepR acc, x ∈ seg r.1 r.2) ↔ ((∃ r ∈ acc, x ∈ seg r.1 r.2) ∨ x ∈ cs)
  | [], acc, h, _ => ⟨h, fun x => by simp⟩
  | c :: cs, acc, h, hc => by
    obtain ⟨h1, h2⟩ := step_ok h (hc c (List.mem_cons_self ..))
    obtain ⟨h3, h4⟩ := rns_ok cs (stepR acc c) h1 fun x hx => hc x (List.mem_cons_of_mem _ hx)
    refine ⟨h3, fun x => ?_⟩
    rw [List.foldl_cons, h4, h2, List.mem_cons]
    constructor
    · rintro ((a | a) | a)
      · exact .inl a
      · exact .inr (.inl a)
      · exact .inr (.inr a)
    · rintro (a | a | a)
      · exact .inl (.inl a)
      · exact .inl (.inr a)
      · exact .inr a
theorem rns_run {cs : List Nat} (h : ∀ c ∈ cs, c ∈ cst_ALPHABET) : ∀ r ∈ rns cs, RunOk r := (rns_ok cs [] (fun _ z => nomatch z) h).1
theorem rns_mem {cs : List Nat} (h : ∀ c ∈ cs, c ∈ cst_ALPHABET) (x : Nat) : (∃ r ∈ rns cs, x ∈ seg r.1 r.2) ↔ x ∈ cs := by
  have := (rns_ok cs [] (fun _ z => nomatch z) h).2 x
  rw [show rns cs = cs.foldl stepR [] from rfl, this]
  simp
theorem step_len (acc : List (Nat × Nat)) (c : Nat) : (stepR acc c).length ≤ acc.length + 1 := by
  unfold stepR
  split
  · split
    · rw [List.length_append, List.length_dropLast]; simp
    · simp
  · simp
theorem rns_len : ∀ (cs : List Nat) (acc : List (Nat × Nat)), (cs.foldl stepR acc).length ≤ acc.length + cs.length
  | [], acc => by simp
  | c :: cs, acc => by
    have h1 := rns_len cs (stepR acc c)
    have h2 := step_len acc c
    rw [List.foldl_cons, List.length_cons]
    omega
theorem step_ne (acc : List (Nat × Nat)) (c : Nat) : stepR acc c ≠ [] := by
  unfold stepR
  split
  · split <;> simp
  · simp
theorem rns_ne : ∀ (cs : List Nat) (acc : List (Nat × Nat)), cs ≠ [] ∨ acc ≠ [] → cs.foldl stepR acc ≠ []
  | [], acc, h => by
    rcases h with h | h
    · exact absurd rfl h
    · exact h
  | c :: cs, acc, _ => rns_ne cs (stepR acc c) (.inr (step_ne acc c))
theorem Cset.mem {cs : List Nat} (h : Cset cs) : ∀ c ∈ cs, c ∈ cst_ALPHABET := fun c hc => by
  rw [h.2] at hc
  exact (List.mem_filter.mp hc).1
theorem Cset.len {cs : List Nat} (h : Cset cs) : cs.length ≤ 95 := by
  rw [h.2, ← al_len]
  exact List.length_filter_le ..
theorem Cset.all {cs : List Nat} (h : Cset cs) (hl : cs.length = 95) : cs = cst_ALPHABET := by
  have e := h.2
  have : (cst_ALPHABET.filter (fun c => decide (c ∈ cs))).length = cst_ALPHABET.length := by rw [← e, hl, al_len]
  rw [e]
  exact List.filter_eq_self.mpr fun a ha => (List.length_filter_eq_length_iff.mp this) a ha
theorem Cset.of_eq {cs ms : List Nat} (h : Cset cs) (e : ∀ x, x ∈ ms ↔ x ∈ cs) : cs = cst_ALPHABET.filter (fun c => decide (c ∈ ms)) := by
  have e1 : (fun c => decide (c ∈ ms)) = fun c => decide (c ∈ cs) := by
    funext c
    exact decide_eq_decide.mpr (e c)
  rw [e1]
  exact h.2
/-- a sign, with a backslash where it is wanted -/
def escC (b : List Nat) (c : Nat) : List Nat := if c = 10 then [92, 110] else if c ∈ b then [92, c] else [c]
theorem escC_len (b : List Nat) (c : Nat) : (escC b c).length ≤ 2 := by
  unfold escC
  split
  · simp
  · split <;> simp
theorem escC_set {c : Nat} (b : List Nat) (h : c ∈ cst_ALPHABET) (h1 : ∀ x ∈ b, x ∈ cst_ESCAPED) (h2 : ∀ x ∈ cst_SET_SIGNS, x ∈ b) : CharS c (escC b c) := by
  unfold escC
  split
  · rename_i z
    subst z
    exact .nl
  · split
    · rename_i z
      exact .esc (h1 c z)
    · rename_i z
      exact .raw h fun q => z (h2 c q)
theorem escC_el {c n : Nat} (b : List Nat) (h : c ∈ cst_ALPHABET) (h1 : ∀ x ∈ b, x ∈ cst_ESCAPED) (h2 : ∀ x ∈ cst_SIGNS, x ∈ b) : El n (.chars [c]) (escC b c) := by
  unfold escC
  split
  · rename_i z
    subst z
    exact .nl
  · split
    · rename_i z
      exact .esc (h1 c z)
    · rename_i z
      exact .lit h fun q => z (h2 c q)
def memT (r : Nat × Nat) : List Nat := if r.1 = r.2 then escC cst_SET_SIGNS r.1 else escC cst_SET_SIGNS r.1 ++ 45 :: escC cst_SET_SIGNS r.2
theorem memT_len (r : Nat × Nat) : (memT r).length ≤ 5 := by
  have h1 := escC_len cst_SET_SIGNS r.1
  have h2 := escC_len cst_SET_SIGNS r.2
  unfold memT
  split <;> simp <;> omega
theorem memT_ok {r : Nat × Nat} (h : RunOk r) : MemS (seg r.1 r.2) (memT r) := by
  have f1 : ∀ x ∈ cst_SET_SIGNS, x ∈ cst_ESCAPED := by decide +kernel
  unfold memT
  split
  · rename_i z
    rw [← z, seg_one h.1]
    exact .one (escC_set _ h.1 f1 fun _ q => q)
  · exact .run (escC_set _ h.1 f1 fun _ q => q) (escC_set _ h.2.1 f1 fun _ q => q) h.2.2
/-- texts of members, one behind the other -/
theorem mems_of : ∀ (ls : List (List Nat × List Nat)), ls ≠ [] → (∀ p ∈ ls, MemS p.1 p.2) → MemsS (ls.map (·.1)).flatten (ls.map (·.2)).flatten
  | [p], _, h => by
    have := h p (by simp)
    simpa using MemsS.one this
  | p :: q :: r, _, h => by
    have h1 := h p (by simp)
    have h2 := mems_of (q :: r) (by simp) fun x hx => h x (List.mem_cons_of_mem _ hx)
    exact .cons h1 h2
def setT (rs : List (Nat × Nat)) : List Nat := (rs.map memT).flatten
theorem setT_ok {cs : List Nat} (h : Cset cs) : SetS cs (setT (rns cs)) := by
  have h1 := rns_run h.mem
  have h2 := mems_of ((rns cs).map fun r => (seg r.1 r.2, memT r)) (by simpa [rns] using rns_ne cs [] (.inl h.1)) fun p hp => by
    obtain ⟨r, hr, rfl⟩ := List.mem_map.mp hp
    exact memT_ok (h1 r hr)
  rw [List.map_map, List.map_map] at h2
  refine .pos h2 (h.of_eq fun x => ?_) h.1
  rw [← rns_mem h.mem x, List.mem_flatten]
  constructor
  · rintro ⟨l, hl, hx⟩
    obtain ⟨r, hr, rfl⟩ := List.mem_map.mp hl
    exact ⟨r, hr, hx⟩
  · rintro ⟨r, hr, hx⟩
    exact ⟨_, List.mem_map.mpr ⟨r, hr, rfl⟩, hx⟩
def chT (cs : List Nat) : List Nat := if cs.length = 1 then escC cst_SIGNS (cs.headD 0) else if cs = cst_ALPHABET then [46] else 91 :: (setT (rns cs) ++ [93])
theorem chT_ok {cs : List Nat} {n : Nat} (h : Cset cs) : El n (.chars cs) (chT cs) := by
  unfold chT
  split
  · rename_i z
    obtain ⟨c, rfl⟩ := List.length_eq_one_iff.mp z
    exact escC_el _ (h.mem c (by simp)) (by decide +kernel) fun _ q => q
  · split
    · rename_i z
      rw [z]
      exact .dot
    · exact .set (setT_ok h)
theorem flat_len {f : Nat × Nat → List Nat} {m : Nat} (h : ∀ r, (f r).length ≤ m) : ∀ rs : List (Nat × Nat), (rs.map f).flatten.length ≤ m * rs.length
  | [] => by simp
  | r :: rs => by
    have := flat_len h rs
    have h1 := h r
    rw [List.map_cons, List.flatten_cons, List.length_append, List.length_cons, Nat.mul_succ]
    omega
theorem chT_len {cs : List Nat} (h : Cset cs) : (chT cs).length ≤ 490 := by
  have h1 := h.len
  have h2 := escC_len cst_SIGNS (cs.headD 0)
  have h3 := rns_len cs []
  have h4 := flat_len memT_len (rns cs)
  unfold chT setT
  split
  · omega
  · split
    · simp
    · have h5 : (rns cs).length ≤ 95 := by
        have e : rns cs = cs.foldl stepR [] := rfl
        rw [e]
        simpa using Nat.le_trans h3 (by simpa using h1)
      simp only [List.length_cons, List.length_append, List.length_nil]
      omega
/-! the canonical text -/
def isCh : Pt → Bool
  | .chars _ => true
  | _ => false
def isAlt : Pt → Bool
  | .nd true _ => true
  | _ => false
def wrI (b : Bool) (s : List Nat) : List Nat := if b then 40 :: (s ++ [41]) else s
mutual
def cn : Pt → List Nat
  | .chars cs => chT cs
  | .nd e ps => if e then joinL [124] (cnL ps) else (cnR ps).flatten
  | .rep k p => wrI (!isCh p) (cn p) ++ [repC k]
def cnL : List Pt → List (List Nat)
  | [] => []
  | p :: r => cn p :: cnL r
def cnR : List Pt → List (List Nat)
  | [] => []
  | p :: r => wrI (isAlt p) (cn p) :: cnR r
end
theorem cnL_map : ∀ ps : List Pt, cnL ps = ps.map cn
  | [] => rfl
  | p :: r => by
    show cn p :: cnL r = _
    rw [cnL_map r]
    rfl
theorem cnR_map : ∀ ps : List Pt, cnR ps = ps.map fun p => wrI (isAlt p) (cn p)
  | [] => rfl
  | p :: r => by
    show wrI (isAlt p) (cn p) :: cnR r = _
    rw [cnR_map r]
    rfl
/-- texts of a tree, not in parentheses -/
def Sp (d : Nat) : Pt → List Nat → Prop
  | .chars cs, s => El d (.chars cs) s
  | .nd false ps, s => ∃ ts, Sq d ts s ∧ jn false ts = .nd false ps
  | .nd true ps, s => ∃ us, Al d us s ∧ jn true us = .nd true ps
  | .rep k p, s => Pa d true (.rep k p) s
mutual
theorem El.up {m : Nat} : ∀ {n : Nat} {t : Pt} {s : List Nat}, El n t s → n ≤ m → El m t s
  | _, _, _, .dot, _ => .dot
  | _, _, _, .lit a b, _ => .lit a b
  | _, _, _, .esc a, _ => .esc a
  | _, _, _, .nl, _ => .nl
  | _, _, _, .set a, _ => .set a
  | n + 1, _, _, .grp h, q => by
    obtain ⟨m', rfl⟩ : ∃ m', m = m' + 1 := ⟨m - 1, by omega⟩
    exact .grp (Al.up h (by omega))
theorem Pa.up {m : Nat} : ∀ {n : Nat} {b : Bool} {t : Pt} {s : List Nat}, Pa n b t s → n ≤ m → Pa m b t s
  | _, _, _, _, .el h, q => .el (h.up q)
  | _, _, _, _, .rep h k, q => .rep (h.up q) k
theorem Sq.up {m : Nat} : ∀ {n : Nat} {ts : List Pt} {s : List Nat}, Sq n ts s → n ≤ m → Sq m ts s
  | _, _, _, .one h, q => .one (h.up q)
  | _, _, _, .cons h g, q => .cons (h.up q) (g.up q)
theorem Al.up {m : Nat} : ∀ {n : Nat} {ts : List Pt} {s : List Nat}, Al n ts s → n ≤ m → Al m ts s
  | _, _, _, .one h, q => .one (h.up q)
  | _, _, _, .cons h g, q => .cons (h.up q) (g.up q)
end
theorem Sp.up {m n : Nat} {t : Pt} {s : List Nat} (h : Sp n t s) (q : n ≤ m) : Sp m t s := by
  match t, h with
  | .chars cs, h => exact El.up h q
  | .nd false ps, ⟨ts, h1, h2⟩ => exact ⟨ts, h1.up q, h2⟩
  | .nd true ps, ⟨ts, h1, h2⟩ => exact ⟨ts, h1.up q, h2⟩
  | .rep k p, h => exact Pa.up h q
/-- as alternatives -/
theorem Sp.al {n : Nat} {t : Pt} {s : List Nat} (h : Sp n t s) : ∃ us, Al n us s ∧ jn true us = t := by
  match t, h with
  | .chars cs, h => exact ⟨[.chars cs], .one (.one (.el h)), rfl⟩
  | .nd false ps, ⟨ts, h1, h2⟩ => exact ⟨[jn false ts], .one h1, h2⟩
  | .nd true ps, ⟨ts, h1, h2⟩ => exact ⟨ts, h1, h2⟩
  | .rep k p, h => exact ⟨[.rep k p], .one (.one h), rfl⟩
theorem Sp.grp {n : Nat} {t : Pt} {s : List Nat} (h : Sp n t s) : El (n + 1) t (40 :: (s ++ [41])) := by
  obtain ⟨us, h1, h2⟩ := h.al
  rw [← h2]
  exact .grp h1
/-- as one of a row's parts -/
theorem Sp.pa {n : Nat} {t : Pt} {s : List Nat} (h : Sp n t s) (h1 : notNd false t) (h2 : notNd true t) : ∃ b, Pa n b t s := by
  match t, h, h1, h2 with
  | .chars cs, h, _, _ => exact ⟨false, .el h⟩
  | .nd false ps, h, h1, _ => exact absurd rfl h1
  | .nd true ps, h, _, h2 => exact absurd rfl h2
  | .rep k p, h, _, _ => exact ⟨true, h⟩
/-- as one of the alternatives -/
theorem Sp.sq {n : Nat} {t : Pt} {s : List Nat} (h : Sp n t s) (h2 : notNd true t) : ∃ ts, Sq n ts s ∧ jn false ts = t := by
  match t, h, h2 with
  | .chars cs, h, _ => exact ⟨[.chars cs], .one (.el h), rfl⟩
  | .nd false ps, h, _ => exact h
  | .nd true ps, h, h2 => exact absurd rfl h2
  | .rep k p, h, _ => exact ⟨[.rep k p], .one h, rfl⟩
theorem sq_of {n : Nat} : ∀ (ls : List (Pt × List Nat)), ls ≠ [] → (∀ p ∈ ls, ∃ b, Pa n b p.1 p.2) → Sq n (ls.map (·.1)) (ls.map (·.2)).flatten
  | [p], _, h => by
    obtain ⟨b, h⟩ := h p (by simp)
    simpa using Sq.one h
  | p :: q :: r, _, h => by
    obtain ⟨b, h1⟩ := h p (by simp)
    exact .cons h1 (sq_of (q :: r) (by simp) fun x hx => h x (List.mem_cons_of_mem _ hx))
theorem al_of {n : Nat} : ∀ (ls : List (Pt × List Nat)), ls ≠ [] → (∀ p ∈ ls, ∃ ts, Sq n ts p.2 ∧ jn false ts = p.1) → Al n (ls.map (·.1)) (joinL [124] (ls.map (·.2)))
  | [p], _, h => by
    obtain ⟨ts, h, e⟩ := h p (by simp)
    show Al n [p.1] p.2
    rw [← e]
    exact .one h
  | p :: q :: r, _, h => by
    obtain ⟨ts, h1, e⟩ := h p (by simp)
    have h2 := al_of (q :: r) (by simp) fun x hx => h x (List.mem_cons_of_mem _ hx)
    show Al n (p.1 :: (q :: r).map (·.1)) (p.2 ++ [124] ++ joinL [124] ((q :: r).map (·.2)))
    rw [← e, List.append_assoc]
    exact .cons h1 h2
theorem flat_id {e : Bool} : ∀ {ts : List Pt}, (∀ t ∈ ts, notNd e t) → flatP e ts = ts
  | [], _ => rfl
  | t :: r, h => by
    have h1 := h t (by simp)
    have ih := flat_id (ts := r) fun x hx => h x (List.mem_cons_of_mem _ hx)
    have e1 : kidsOf e t = [t] := by
      match t, h1 with
      | .chars _, _ => rfl
      | .nd j ps, h1 => exact if_neg h1
      | .rep _ _, _ => rfl
    show kidsOf e t ++ flatP e r = _
    rw [e1, ih]
    rfl
theorem jn_two {e : Bool} {ts : List Pt} (h : 2 ≤ ts.length) : jn e ts = .nd e (flatP e ts) := by
  match ts, h with
  | t :: u :: r, _ => rfl

/-! ### writing sets -/
def W_esc : Wt := fun ds M k => ∃ (c : Nat) (b : List Nat), ds = [.str (tx [c]), .str (tx b)] ∧ M = [] ∧ k (.str (tx (escC b c))) []
theorem at_last {α : Type} {pre : List α} {x : α} : atI (pre ++ [x]) (-1) = some x := by
  unfold atI ixN
  rw [if_neg (by omega), if_pos (by simp; omega)]
  have e : (-1 + ((pre ++ [x]).length : Int)).toNat = pre.length := by simp; omega
  show (pre ++ [x])[(-1 + ((pre ++ [x]).length : Int)).toNat]? = some x
  rw [e]
  simp
theorem ix_last {n : Nat} : ixN (n + 1) (-1) = some n := by
  unfold ixN
  rw [if_neg (by omega), if_pos (by omega)]
  congr 1
  omega
def rnD (r : Nat × Nat) : D := .str (tx (seg r.1 r.2))
def prD (r : Nat × Nat) : D := .tup [.str (tx [r.1]), .str (tx [r.2])]
theorem seg_find {a b c : Nat} (h : RunOk (a, b)) (hc : c ∈ cst_ALPHABET) : (!(Builtin.Str.occurrences (tx cst_ALPHABET) (tx (seg a b ++ [c])) 0 (tx cst_ALPHABET).length 1).isEmpty) = decide (alix c = alix b + 1) := by
  have ha : a ∈ cst_ALPHABET := h.1
  have hb : b ∈ cst_ALPHABET := h.2.1
  have hab : alix a ≤ alix b := h.2.2
  rw [Bool.eq_iff_iff, StrLaws.found_iff, decide_eq_true_iff]
  have l1 := alix_lt hb
  have l2 := alix_lt hc
  have hl := seg_len_eq (a := a) hb
  constructor
  · rintro ⟨i, h1, h2⟩
    rw [StrLaws.subAt_eq, tx_cps, tx_cps, tx_len] at h2
    rw [tx_len, tx_len, al_len] at h1
    have h3 : (cst_ALPHABET.drop i).take (seg a b ++ [c]).length = seg a b ++ [c] := by simpa using h2
    have g : ∀ j, j < (seg a b ++ [c]).length → cst_ALPHABET[i + j]? = (seg a b ++ [c])[j]? := fun j hj => by
      rw [← h3, List.getElem?_take, if_pos hj, List.getElem?_drop]
    have g0 := g 0 (by simp)
    have s0 : (seg a b ++ [c])[0]? = some a := by
      rw [List.getElem?_append_left (by omega), seg_get (by omega)]
      exact al_at ha
    rw [s0] at g0
    have e0 := al_ix g0
    have g1 := g (seg a b).length (by simp)
    have s1 : (seg a b ++ [c])[(seg a b).length]? = some c := by simp
    rw [s1] at g1
    have e1 := al_ix g1
    omega
  · intro e
    refine ⟨alix a, ?_, ?_⟩
    · rw [tx_len, tx_len, al_len, List.length_append, hl]
      simp
      omega
    · rw [StrLaws.subAt_eq, tx_cps, tx_cps, tx_len, ← seg_next hab hc e]
      have e2 : (seg a c).length = alix c + 1 - alix a := seg_len_eq hc
      rw [e2]
      show (seg a c == seg a c) = true
      simp
theorem rns_last {cs : List Nat} {c : Nat} {pre : List (Nat × Nat)} {r : Nat × Nat} (e : rns cs = pre ++ [r]) : rns (cs ++ [c]) = if alix c = alix r.2 + 1 then pre ++ [(r.1, c)] else pre ++ [r] ++ [(c, c)] := by
  rw [rns_snoc, e]
  unfold stepR
  rw [List.getLast?_concat]
  dsimp only
  rw [List.dropLast_concat]
theorem rns_first {cs : List Nat} {c : Nat} (e : rns cs = []) : rns (cs ++ [c]) = [(c, c)] := by
  rw [rns_snoc, e]
  rfl
def W_runs : Wt := fun ds M k => ∃ cs : List Nat, ds = [.str (tx cs)] ∧ M = [] ∧ cs.length ≤ 95 ∧ (∀ c ∈ cs, c ∈ cst_ALPHABET) ∧ k (.lst ((rns cs).map rnD)) []
def W_mem : Wt := fun ds M k => ∃ r : Nat × Nat, ds = [rnD r] ∧ M = [] ∧ RunOk r ∧ k (.str (tx (memT r))) []
def W_chs : Wt := fun ds M k => ∃ cs : List Nat, ds = [.str (tx cs)] ∧ M = [] ∧ Cset cs ∧ k (.str (tx (chT cs))) []
theorem snoc_cases {α : Type} (l : List α) : l = [] ∨ ∃ pre x, l = pre ++ [x] := by
  cases h : l.getLast? with
  | none => exact .inl (List.getLast?_eq_none_iff.mp h)
  | some x =>
    obtain ⟨pre, e⟩ := List.getLast?_eq_some_iff.mp h
    exact .inr ⟨pre, x, e⟩
theorem take_snoc {α : Type} {l : List α} {i : Nat} {x : α} (h : l[i]? = some x) : l.take (i + 1) = l.take i ++ [x] := by
  rw [List.take_add_one, h]
  rfl
section
variable {P : Program} {w : World} {K : PySem.W.Frag} {mg : Str → Option Value} {base : Heap} {C : Addr}
theorem c__law_escaped (T : Top K mg w) : Cal P w K mg base 1 "_law_escaped" (Spc K W_esc) [] := cal_of T.d__law_escaped fun f fd F => by
  exact spc_ok F sc__law_escaped (fun ds M k h => by obtain ⟨c, b, rfl, _⟩ := h; rfl) fun cdv A outer s H E hr => ⟨_, (pss_cons (ps_if (pt_cmpR op_eq (pv 0) pe_str (nomark _))
      (pss_one (ps_ret pe_str))
      pss_nil)
      (pss_cons (ps_if (pt_cmpR (in_K (K := K)) (pv 0) (pv 1) (by rfl))
      (pss_one (ps_ret (pe_op (add_K (K := K)) pe_str (pv 0))))
      pss_nil)
      (pss_one (ps_ret (pv 0))))), fun ds M kk hw => by
    obtain ⟨c, b, rfl, rfl, q⟩ := hw
    have hsz := sizeLine_eq
    refine as_start (δ' := [some (.str (tx [c])), some (.str (tx b))]) rfl ?_
    refine as_seq ?_
    walk_at "tg"
    unfold escC at q
    refine dcase (fun c1 => ?_) (fun c1 => ?_)
    · rw [if_pos ((one_is (c := 10) rfl).mp c1)] at q
      walk_at "tg"
      exact q
    · rw [if_neg fun z => c1 ((one_is (c := 10) rfl).mpr z)] at q
      walk_at "tg"
      refine as_seq ?_
      walk_at "tg"
      refine ain_sign ?_
      refine ⟨_, rfl, ?_⟩
      refine dcase (fun c2 => ?_) (fun c2 => ?_)
      · rw [if_pos c2] at q
        walk_at "tg"
        exact au_str (a := [92]) (b := [c]) (by simp; omega) q
      · rw [if_neg c2] at q
        walk_at "tg"
        exact q⟩
end

def W_lawruns : Wt := fun ds M k => ∃ cs : List Nat, ds = [.str (tx cs)] ∧ M = [] ∧ Cset cs ∧ k (.lst ((rns cs).map prD)) []
def lastI (rs : List (Nat × Nat)) : Int := match rs.getLast? with
  | some r => alix r.2
  | none => -5
theorem sig_eq : Str.ofString "\n !\"#$&'()*+,-./0123456789:;<=>?@ABCDEFGHIJKLMNOPQRSTUVWXYZ[\\]^_`abcdefghijklmnopqrstuvwxyz{|}~" = tx cst_ALPHABET := by decide +kernel
section
variable {P : Program} {w : World} {K : PySem.W.Frag} {mg : Str → Option Value} {base : Heap} {C : Addr}
theorem c__law_runs (T : Top K mg w) : Cal P w K mg base 1 "_law_runs" (Spc K W_lawruns) [] := cal_of T.d__law_runs fun f fd F => by
  exact spc_ok F sc__law_runs (fun ds M k h => by obtain ⟨cs, rfl, _⟩ := h; rfl) fun cdv A outer s H E hr => ⟨_, (pss_cons (ps_set (i := 1) sc__law_runs.nd rfl (Or.inl rfl) pe_str)
      (pss_cons (ps_set (i := 2) sc__law_runs.nd rfl (Or.inl rfl) (pe_lstM (pe_lst pa_nil)))
      (pss_cons (ps_set (i := 3) sc__law_runs.nd rfl (Or.inl rfl) (pe_un un_neg pe_int))
      (pss_cons (ps_for PassesOwn.never rfl (pi_range1 (by rfl) T.m_range (pa_cons pe_int pa_nil)) (pg_name (i := 4) sc__law_runs.nd rfl (Or.inl rfl))
      (pss_one (ps_if (pt_cmpR (in_K (K := K)) (pe_ix (ix_K (K := K)) (pv 1) (pv 4) (fun _ _ => rfl)) (pv 0) (by rfl))
      (pss_cons (ps_if (pt_cmpR op_eq (pv 3) (pe_op op_sub (pv 4) pe_int) (nomark _))
      (pss_one (ps_asg (pe_tup (pa_cons (pe_ix (ix_K (K := K)) (pe_ix (ix_K (K := K)) (pv 2) (pe_un un_neg pe_int) (fun _ _ => rfl)) pe_int (fun _ _ => rfl)) (pa_cons (pe_ix (ix_K (K := K)) (pv 1) (pv 4) (fun _ _ => rfl)) pa_nil))) (pg_sub (pv 2) (pe_un un_neg pe_int) (set_any (hu_of hr)))))
      (pss_one (ps_expr (app_K (K := K) (pe_bm PySem.F.plainAttrs_list PySem.F.slot_list_append PySem.F.type_list_append mt_append (pv 2) (pa_cons (pe_tup (pa_cons (pe_ix (ix_K (K := K)) (pv 1) (pv 4) (fun _ _ => rfl)) (pa_cons (pe_ix (ix_K (K := K)) (pv 1) (pv 4) (fun _ _ => rfl)) pa_nil))) pa_nil))))))
      (pss_one (ps_set (i := 3) sc__law_runs.nd rfl (Or.inl rfl) (pv 4))))
      pss_nil)))
      (pss_one (ps_ret (pv 2))))))), fun ds M kk hw => by
    obtain ⟨cs, rfl, rfl, hcs, q⟩ := hw
    have hsz := sizeLine_eq
    refine as_start (δ' := [some (.str (tx cs)), none, none, none, none]) rfl ?_
    walk_at "tg"
    rw [sig_eq]
    walk_at "tg"
    intro ar
    walk_at "tg"
    refine ⟨by omega, by omega, ?_⟩
    refine ⟨fun i δ' M' => ∃ x : Option D, i ≤ 95 ∧ δ' = [some (.str (tx cs)), some (.str (tx cst_ALPHABET)), some (.ref ar), some (.int (lastI (rns ((cst_ALPHABET.take i).filter fun c => decide (c ∈ cs))))), x] ∧ M' = [(ar, .lst ((rns ((cst_ALPHABET.take i).filter fun c => decide (c ∈ cs))).map prD))], ⟨none, by omega, rfl, rfl⟩, ?_, ?_⟩
    · rintro i d δ' M' hd ⟨x, hi, rfl, rfl⟩
      obtain ⟨hi2, rfl⟩ := rng_get hd
      have hi3 : i < 95 := hi2
      have hc0 : i < cst_ALPHABET.length := by rw [al_len]; exact hi3
      have hc : cst_ALPHABET[i]? = some cst_ALPHABET[i] := List.getElem?_eq_getElem hc0
      generalize hcc : cst_ALPHABET[i] = c at hc
      have hcm : c ∈ cst_ALPHABET := List.mem_of_getElem? hc
      have hix := al_ix hc
      have tk := take_snoc hc
      have hat : atI cst_ALPHABET (0 + (i : Nat)) = some c := by
        rw [Int.zero_add]
        exact atI_nat hc
      have hf : (cst_ALPHABET.take (i + 1)).filter (fun c => decide (c ∈ cs)) = (cst_ALPHABET.take i).filter (fun c => decide (c ∈ cs)) ++ (if c ∈ cs then [c] else []) := by
        rw [tk, List.filter_append]
        congr 1
        by_cases z : c ∈ cs <;> simp [z]
      generalize hpp : (cst_ALPHABET.take i).filter (fun c => decide (c ∈ cs)) = pp at hf ⊢
      have hpl : pp.length ≤ 95 := by
        rw [← hpp]
        have := List.length_filter_le (fun c => decide (c ∈ cs)) (cst_ALPHABET.take i)
        rw [List.length_take, al_len] at this
        omega
      have hrl : (rns pp).length ≤ 95 := by
        have := rns_len pp []
        have e1 : rns pp = pp.foldl stepR [] := rfl
        rw [e1]
        simp at this ⊢
        omega
      walk_at "tg"
      refine au_ixS (by rw [al_len]; omega) hat ?_
      walk_at "tg"
      refine ain_sign ?_
      refine ⟨_, rfl, ?_⟩
      refine dcase (fun c1 => ?_) (fun c1 => ?_)
      · rw [if_pos c1] at hf
        refine as_seq ?_
        walk_at "tg"
        rcases snoc_cases (rns pp) with e0 | ⟨pre, r, e0⟩
        · have hl0 : lastI (rns pp) = -5 := by rw [e0]; rfl
          rw [hl0]
          refine dcase (fun z => absurd z (by omega)) (fun _ => ?_)
          walk_at "tg"
          refine au_ixS (by rw [al_len]; omega) hat ?_
          walk_at "tg"
          refine au_ixS (by rw [al_len]; omega) hat ?_
          walk_at "tg"
          refine app0 (by rw [List.length_map]; omega) ?_
          walk_at "tg"
          refine ⟨some (.int (0 + (i : Nat))), hi3, ?_, ?_⟩
          · rw [hf, rns_first e0]
            show [_, _, _, some (D.int (0 + (i : Nat))), _] = [_, _, _, some (D.int (alix c : Int)), _]
            rw [hix, Int.zero_add]
          · rw [hf, rns_first e0, e0]
            rfl
        · have hl0 : lastI (rns pp) = alix r.2 := by rw [e0]; unfold lastI; rw [List.getLast?_concat]
          rw [hl0]
          have nx := rns_last (c := c) e0
          rw [← hf] at nx
          refine dcase (fun c2 => ?_) (fun c2 => ?_)
          · have c3 : alix c = alix r.2 + 1 := by omega
            rw [if_pos c3] at nx
            rw [e0, List.map_append]
            walk_at "tg"
            refine aix0 (at_last (pre := pre.map prD) (x := prD r)) ?_
            unfold prD
            walk_at "tg"
            refine au_ixS (by rw [al_len]; omega) hat ?_
            walk_at "tg"
            refine put_l (M1 := []) rfl (n := (pre.map prD).length) (by rw [List.length_append]; exact ix_last) ?_
            walk_at "tg"
            refine ⟨some (.int (0 + (i : Nat))), hi3, ?_, ?_⟩
            · have hl1 : lastI (pre ++ [(r.1, c)]) = alix c := by unfold lastI; rw [List.getLast?_concat]
              rw [nx, hl1]
              show [_, _, _, some (D.int (0 + (i : Nat))), _] = [_, _, _, some (D.int (alix c : Int)), _]
              rw [hix, Int.zero_add]
            · rw [nx, List.map_append]
              simp [prD]
          · have c3 : ¬ alix c = alix r.2 + 1 := by omega
            rw [if_neg c3] at nx
            walk_at "tg"
            refine au_ixS (by rw [al_len]; omega) hat ?_
            walk_at "tg"
            refine au_ixS (by rw [al_len]; omega) hat ?_
            walk_at "tg"
            refine app0 (by rw [List.length_map]; omega) ?_
            walk_at "tg"
            refine ⟨some (.int (0 + (i : Nat))), hi3, ?_, ?_⟩
            · have hl1 : lastI (pre ++ [r] ++ [(c, c)]) = alix c := by unfold lastI; rw [List.getLast?_concat]
              rw [nx, hl1]
              show [_, _, _, some (D.int (0 + (i : Nat))), _] = [_, _, _, some (D.int (alix c : Int)), _]
              rw [hix, Int.zero_add]
            · rw [nx, List.map_append, e0]
              rfl
      · rw [if_neg c1, List.append_nil] at hf
        walk_at "tg"
        refine ⟨some (.int (0 + (i : Nat))), hi3, ?_, ?_⟩
        · rw [hf]
          rfl
        · rw [hf]
    · rintro δ' M' ⟨x, hi, rfl, rfl⟩
      have e9 : (rng 0 (95 : Int).toNat).length = 95 := rng_len 0 95
      rw [e9]
      have e10 : cst_ALPHABET.take 95 = cst_ALPHABET := List.take_of_length_le (by rw [al_len]; omega)
      rw [e10, ← hcs.2]
      refine frz0 (s := 2) rfl ?_
      walk_at "tg"
      exact q⟩
theorem c__law_set (T : Top K mg w) : Cal P w K mg base 2 "_law_set" (Spc K W_chs) [] := cal_of T.d__law_set fun f fd F => by
  have c__law_escaped := c__law_escaped (P := P) (w := w) (base := base) T
  have c__law_runs := c__law_runs (P := P) (w := w) (base := base) T
  exact spc_ok F sc__law_set (fun ds M k h => by obtain ⟨cs, rfl, _⟩ := h; rfl) fun cdv A outer s H E hr => ⟨_, (pss_cons (ps_if (pt_cmpR op_eq (pe_callB (len_K (K := K)) (by rfl) T.m_len (by decide +kernel) (pa_cons (pv 0) pa_nil)) pe_int (nomark _))
      (pss_one (ps_ret (pe_c c__law_escaped hr (by first | decide | omega) (by rfl) (pa_cons (pv 0) (pa_cons pe_str pa_nil)))))
      pss_nil)
      (pss_cons (ps_if (pt_cmpR op_eq (pe_callB (len_K (K := K)) (by rfl) T.m_len (by decide +kernel) (pa_cons (pv 0) pa_nil)) pe_int (nomark _))
      (pss_one (ps_ret pe_str))
      pss_nil)
      (pss_cons (ps_set (i := 1) sc__law_set.nd rfl (Or.inl rfl) (pe_lstM (pe_lst pa_nil)))
      (pss_cons (ps_for PassesOwn.never rfl (seq_K (K := K) (pe_c c__law_runs hr (by first | decide | omega) (by rfl) (pa_cons (pv 0) pa_nil))) (gtup_K (K := K) (n := 2) rfl (pgs_cons (pg_name (i := 2) sc__law_set.nd rfl (Or.inl rfl)) (pgs_cons (pg_name (i := 3) sc__law_set.nd rfl (Or.inl rfl)) pgs_nil)))
      (pss_cons (ps_expr (app_K (K := K) (pe_bm PySem.F.plainAttrs_list PySem.F.slot_list_append PySem.F.type_list_append mt_append (pv 1) (pa_cons (pe_c c__law_escaped hr (by first | decide | omega) (by rfl) (pa_cons (pv 2) (pa_cons pe_str pa_nil))) pa_nil))))
      (pss_one (ps_if (pt_cmpR op_ne (pv 2) (pv 3) (nomark _))
      (pss_one (ps_expr (app_K (K := K) (pe_bm PySem.F.plainAttrs_list PySem.F.slot_list_append PySem.F.type_list_append mt_append (pv 1) (pa_cons (pe_op (add_K (K := K)) pe_str (pe_c c__law_escaped hr (by first | decide | omega) (by rfl) (pa_cons (pv 3) (pa_cons pe_str pa_nil)))) pa_nil)))))
      pss_nil))))
      (pss_one (ps_ret (pe_op (add_K (K := K)) (pe_op (add_K (K := K)) pe_str (join_K (K := K) (pe_join pe_str (pv 1)))) pe_str))))))), fun ds M kk hw => by
    obtain ⟨cs, rfl, rfl, hcs, q⟩ := hw
    have hsz := sizeLine_eq
    have hl := hcs.len
    have hrl : (rns cs).length ≤ 95 := by
      have := rns_len cs []
      have e1 : rns cs = cs.foldl stepR [] := rfl
      rw [e1]
      simp at this ⊢
      omega
    refine as_start (δ' := [some (.str (tx cs)), none, none, none]) rfl ?_
    refine as_seq ?_
    walk_at "tg"
    unfold chT at q
    refine dcase (fun c1 => ?_) (fun c1 => ?_)
    · have c2 : cs.length = 1 := by omega
      rw [if_pos c2] at q
      obtain ⟨c, rfl⟩ := List.length_eq_one_iff.mp c2
      walk_at "tg"
      refine ⟨[], [], isM _ [], rfl, ⟨c, cst_SIGNS, rfl, rfl, ⟨rfl, rfl⟩⟩, ?_⟩
      rintro _ _ ⟨rfl, rfl⟩
      exact q
    · rw [if_neg (by omega)] at q
      walk_at "tg"
      refine as_seq ?_
      walk_at "tg"
      refine dcase (fun c2 => ?_) (fun c2 => ?_)
      · rw [if_pos (hcs.all (by omega))] at q
        walk_at "tg"
        exact q
      · rw [if_neg fun z => c2 (by rw [z, al_len]; rfl)] at q
        walk_at "tg"
        intro ar
        walk_at "tg"
        refine ⟨[], [_], isM _ [], rfl, ⟨cs, rfl, rfl, hcs, ⟨rfl, rfl⟩⟩, ?_⟩
        rintro _ _ ⟨rfl, rfl⟩
        refine ⟨_, rfl, ?_⟩
        refine ⟨fun i δ' M' => ∃ (x2 x3 : Option D) (ls : List (List Nat)), i ≤ (rns cs).length ∧ ls.flatten = setT ((rns cs).take i) ∧ ls.length ≤ 2 * i ∧ δ' = [some (.str (tx cs)), some (.ref ar), x2, x3] ∧ M' = [(ar, .lst (strsD ls))], ⟨none, none, [], Nat.zero_le _, rfl, Nat.le_refl _, rfl, rfl⟩, ?_, ?_⟩
        · rintro i d δ' M' hd ⟨x2, x3, ls, hi, hfl, hll, rfl, rfl⟩
          rw [List.getElem?_map] at hd
          cases hc : (rns cs)[i]? with
          | none => rw [hc] at hd; cases hd
          | some r =>
            rw [hc] at hd
            have e : prD r = d := by simpa using hd
            subst e
            have hil := (List.getElem?_eq_some_iff.mp hc).1
            have hst : setT ((rns cs).take (i + 1)) = setT ((rns cs).take i) ++ memT r := by
              rw [take_snoc hc]
              simp [setT]
            have hsl : (strsD ls).length = ls.length := by simp [strsD]
            have l1 := escC_len cst_SET_SIGNS r.1
            have l2 := escC_len cst_SET_SIGNS r.2
            unfold prD
            unfold memT at hst
            walk_at "tg"
            refine ⟨[], [_], isM _ [], rfl, ⟨r.1, cst_SET_SIGNS, rfl, rfl, ⟨rfl, rfl⟩⟩, ?_⟩
            rintro _ _ ⟨rfl, rfl⟩
            walk_at "tg"
            refine app0 (by rw [hsl]; omega) ?_
            walk_at "tg"
            refine dcaseN (fun c3 => ?_) (fun c3 => ?_)
            · have c4 : ¬ r.1 = r.2 := fun z => c3 (by rw [z])
              rw [if_neg c4] at hst
              walk_at "tg"
              refine ⟨[], [_], isM _ [], rfl, ⟨r.2, cst_SET_SIGNS, rfl, rfl, ⟨rfl, rfl⟩⟩, ?_⟩
              rintro _ _ ⟨rfl, rfl⟩
              refine au_str (a := [45]) (by simp; omega) ?_
              walk_at "tg"
              refine app0 (by rw [List.length_append, hsl]; simp; omega) ?_
              refine ⟨_, _, ls ++ [escC cst_SET_SIGNS r.1] ++ [[45] ++ escC cst_SET_SIGNS r.2], hil, ?_, by rw [List.length_append, List.length_append]; simp; omega, rfl, by simp [strsD]⟩
              rw [hst, ← hfl]
              simp
            · have c4 : r.1 = r.2 := by
                have := tx_inj c3
                simpa using this
              rw [if_pos c4] at hst
              walk_at "tg"
              refine ⟨_, _, ls ++ [escC cst_SET_SIGNS r.1], hil, ?_, by rw [List.length_append]; simp; omega, rfl, by simp [strsD]⟩
              rw [hst, ← hfl]
              simp
        · rintro δ' M' ⟨x2, x3, ls, hi, hfl, hll, rfl, rfl⟩
          rw [List.length_map, List.take_length] at hfl
          have h4 := flat_len memT_len (rns cs)
          have h5 : (setT (rns cs)).length ≤ 475 := by unfold setT; omega
          refine frz0 (s := 1) rfl ?_
          walk_at "tg"
          have e : tx [] = Str.ofString "" := rfl
          rw [← e]
          refine am_join (ls := ls) (by rw [← List.length_flatten, hfl]; omega) ?_
          rw [hfl]
          refine au_str (a := [91]) (b := setT (rns cs)) (by simp; omega) ?_
          walk_at "tg"
          refine au_str (b := [93]) (by simp; omega) ?_
          rw [List.append_assoc]
          exact q⟩
end

/-! ### writing trees -/
theorem wrI_len (b : Bool) (s : List Nat) : (wrI b s).length ≤ s.length + 2 := by
  unfold wrI
  split <;> simp
theorem joinL_len (a : List Nat) : ∀ ls : List (List Nat), (joinL a ls).length ≤ (ls.map (·.length)).sum + ls.length * a.length
  | [] => by simp [joinL]
  | [l] => by simp [joinL]
  | l :: m :: r => by
    have ih := joinL_len a (m :: r)
    show (l ++ a ++ joinL a (m :: r)).length ≤ _
    rw [List.length_append, List.length_append, List.map_cons, List.sum_cons, List.length_cons, Nat.succ_mul]
    omega
theorem sum_le {f : Pt → List Nat} {c : Nat} : ∀ {ps : List Pt}, (∀ p ∈ ps, (f p).length ≤ c * p.wt) → ((ps.map f).map (·.length)).sum ≤ c * Pt.wts ps
  | [], _ => by simp [Pt.wts]
  | p :: r, h => by
    have h1 := h p (by simp)
    have h2 := sum_le (ps := r) fun x hx => h x (List.mem_cons_of_mem _ hx)
    rw [List.map_cons, List.map_cons, List.sum_cons]
    show _ ≤ c * (p.wt + Pt.wts r)
    rw [Nat.mul_add]
    omega
theorem cn_len : ∀ {m : Nat} {t : Pt}, Wf m t → (cn t).length + 3 ≤ 503 * t.wt
  | m, .chars cs, h => by
    have h' : Cset cs := by cases m <;> exact h
    have := chT_len h'
    unfold cn Pt.wt
    omega
  | 0, .nd _ _, h => h.elim
  | 0, .rep _ _, h => h.elim
  | m + 1, .nd e ps, h => by
    obtain ⟨h1, h2⟩ := h
    have hc : ∀ p ∈ ps, (cn p).length + 3 ≤ 503 * p.wt := fun p hp => cn_len (h2 p hp).1
    have l0 := Pt.wts_len ps
    unfold cn Pt.wt
    cases e with
    | false =>
      rw [if_neg Bool.false_ne_true, cnR_map]
      have h3 := sum_le (c := 503) (ps := ps) (f := fun p => wrI (isAlt p) (cn p)) fun p hp => by
        have a1 := wrI_len (isAlt p) (cn p)
        have a2 := hc p hp
        omega
      rw [List.length_flatten]
      have h5 : (List.map List.length (List.map (fun p => wrI (isAlt p) (cn p)) ps)).sum ≤ _ := h3
      omega
    | true =>
      rw [if_pos rfl, cnL_map]
      have h4 := joinL_len [124] (ps.map cn)
      have h3 : ((ps.map cn).map (·.length)).sum + ps.length ≤ 503 * Pt.wts ps := by
        have h5 : ∀ qs : List Pt, (∀ p ∈ qs, (cn p).length + 3 ≤ 503 * p.wt) → ((qs.map cn).map (·.length)).sum + qs.length ≤ 503 * Pt.wts qs := by
          intro qs
          induction qs with
          | nil => intro _; simp [Pt.wts]
          | cons p r ih =>
            intro hq
            have i1 := ih fun x hx => hq x (List.mem_cons_of_mem _ hx)
            have i2 := hq p (by simp)
            rw [List.map_cons, List.map_cons, List.sum_cons, List.length_cons]
            show _ ≤ 503 * (p.wt + Pt.wts r)
            omega
        exact h5 ps hc
      rw [List.length_map] at h4
      simp only [List.length_cons, List.length_nil] at h4
      omega
  | m + 1, .rep k p, h => by
    have h1 := cn_len h.2
    have h2 := wrI_len (!isCh p) (cn p)
    unfold cn Pt.wt
    rw [List.length_append]
    simp
    omega
theorem alt_hd (t : Pt) : decide (t.hd = Str.ofString "either") = isAlt t := by
  match t with
  | .chars cs => rfl
  | .nd false ps => rfl
  | .nd true ps => rfl
  | .rep 0 p => rfl
  | .rep 1 p => rfl
  | .rep (k + 2) p => rfl
theorem ch_hd (t : Pt) : decide (t.hd = Str.ofString "chars") = isCh t := by
  match t with
  | .chars cs => rfl
  | .nd false ps => rfl
  | .nd true ps => rfl
  | .rep 0 p => rfl
  | .rep 1 p => rfl
  | .rep (k + 2) p => rfl
theorem nd_either : ¬ ndS false = Str.ofString "either" := by decide
def five : List Str := [Str.ofString "either", Str.ofString "row", Str.ofString "star", Str.ofString "plus", Str.ofString "maybe"]
theorem five_hd (t : Pt) : decide (t.hd ∈ five) = !isCh t := by
  match t with
  | .chars cs => exact (by decide : decide (Str.ofString "chars" ∈ five) = false)
  | .nd false ps => exact (by decide : decide (Str.ofString "row" ∈ five) = true)
  | .nd true ps => exact (by decide : decide (Str.ofString "either" ∈ five) = true)
  | .rep 0 p => exact (by decide : decide (Str.ofString "star" ∈ five) = true)
  | .rep 1 p => exact (by decide : decide (Str.ofString "plus" ∈ five) = true)
  | .rep (k + 2) p => exact (by decide : decide (Str.ofString "maybe" ∈ five) = true)
def W_write (n : Nat) : Wt := fun ds M k => ∃ (m : Nat) (t : Pt), n = m + 1 ∧ ds = [t.d] ∧ M = [] ∧ Wf m t ∧ t.wt ≤ 1000 ∧ k (.str (tx (cn t))) []
def W_wgr (n : Nat) : Wt := fun ds M k => ∃ (m : Nat) (t : Pt) (ss : List Str), n = m + 1 ∧ ds = [t.d, .tup (ss.map D.str)] ∧ M = [] ∧ Wf m t ∧ t.wt ≤ 1000 ∧ k (.str (tx (wrI (decide (t.hd ∈ ss)) (cn t)))) []

theorem ch_ne (t : Pt) : decide (t.hd = Str.ofString "chars") = isCh t := ch_hd t
section
variable {P : Program} {w : World} {K : PySem.W.Frag} {mg : Str → Option Value} {base : Heap} {C : Addr}
theorem canon_step (T : Top K mg w) (n : Nat) (c__law_canonical : Cal P w K mg base (n + 3) "_law_canonical" (Spc K (W_write n)) []) : Cal P w K mg base (n + 4) "_law_canonical" (Spc K (W_write (n + 1))) [] := cal_of T.d__law_canonical fun f fd F => by
  have c__law_set := c__law_set (P := P) (w := w) (base := base) T
  exact spc_ok F sc__law_canonical (fun ds M k h => by obtain ⟨m, t, _, rfl, _⟩ := h; rfl) fun cdv A outer s H E hr => ⟨_, (pss_cons (ps_set (i := 1) sc__law_canonical.nd rfl (Or.inl rfl) (pe_ix (ix_K (K := K)) (pv 0) pe_int (fun _ _ => rfl)))
      (pss_cons (ps_if (pt_cmpR op_eq (pv 1) pe_str (nomark _))
      (pss_one (ps_ret (pe_c c__law_set hr (by first | decide | omega) (by rfl) (pa_cons (pe_ix (ix_K (K := K)) (pv 0) pe_int (fun _ _ => rfl)) pa_nil))))
      pss_nil)
      (pss_cons (ps_if (pt_cmpR op_eq (pv 1) pe_str (nomark _))
      (pss_cons (ps_set (i := 2) sc__law_canonical.nd rfl (Or.inl rfl) (pe_lstM (pe_lst pa_nil)))
      (pss_cons (ps_for PassesOwn.never rfl (seq_K (K := K) (pe_ix (ix_K (K := K)) (pv 0) pe_int (fun _ _ => rfl))) (pg_name (i := 3) sc__law_canonical.nd rfl (Or.inl rfl))
      (pss_one (ps_expr (app_K (K := K) (pe_bm PySem.F.plainAttrs_list PySem.F.slot_list_append PySem.F.type_list_append mt_append (pv 2) (pa_cons (pe_ifExp (pt_cmpR op_eq (pe_ix (ix_K (K := K)) (pv 3) pe_int (fun _ _ => rfl)) pe_str (nomark _)) (pe_op (add_K (K := K)) (pe_op (add_K (K := K)) pe_str (pe_c c__law_canonical hr (by first | decide | omega) (by rfl) (pa_cons (pv 3) pa_nil))) pe_str) (pe_c c__law_canonical hr (by first | decide | omega) (by rfl) (pa_cons (pv 3) pa_nil))) pa_nil))))))
      (pss_one (ps_ret (join_K (K := K) (pe_join pe_str (pv 2)))))))
      pss_nil)
      (pss_cons (ps_if (pt_cmpR op_eq (pv 1) pe_str (nomark _))
      (pss_one (ps_ret (join_K (K := K) (pe_join pe_str (pe_lc (own := [("part", 3)]) (g := gName 3) rfl sc__law_canonical.nd (seq_K (K := K) (pe_ix (ix_K (K := K)) (pv 0) pe_int (fun _ _ => rfl))) (blkOk_by (own := [("part", 3)]) (N := ["tree", "head", "texts", "part", "inner"]) (sc := defScope s__law_canonical) (by decide +kernel)) (fun _ _ _ _ _ => (pg_name (i := 3) sc__law_canonical.nd rfl (Or.inl rfl))) (fun _ _ _ _ _ => pts_nil) (fun _ _ _ _ _ => (pe_c c__law_canonical hr (by first | decide | omega) (by rfl) (pa_cons (pv 3) pa_nil))))))))
      pss_nil)
      (pss_cons (ps_set (i := 4) sc__law_canonical.nd rfl (Or.inl rfl) (pe_c c__law_canonical hr (by first | decide | omega) (by rfl) (pa_cons (pe_ix (ix_K (K := K)) (pv 0) pe_int (fun _ _ => rfl)) pa_nil)))
      (pss_cons (ps_if (pt_cmpR op_ne (pe_ix (ix_K (K := K)) (pe_ix (ix_K (K := K)) (pv 0) pe_int (fun _ _ => rfl)) pe_int (fun _ _ => rfl)) pe_str (nomark _))
      (pss_one (ps_set (i := 4) sc__law_canonical.nd rfl (Or.inl rfl) (pe_op (add_K (K := K)) (pe_op (add_K (K := K)) pe_str (pv 4)) pe_str)))
      pss_nil)
      (pss_one (ps_ret (pe_op (add_K (K := K)) (pv 4) (dispGet_K (hu_of hr) (pe_disp (pps_cons pe_str pe_str (pps_cons pe_str pe_str (pps_cons pe_str pe_str pps_nil))) (by rfl) (by rfl) (fun z => by cases z) (by decide)) (pv 1))))))))))), fun ds M kk hw => by
    obtain ⟨m, t, hm, rfl, rfl, wf, hwt, q⟩ := hw
    have hm : m = n := by omega
    subst hm
    have hsz := sizeLine_eq
    have hcl := cn_len wf
    rw [Pt.d_eq]
    refine as_start (δ' := [some (.tup [.str t.hd, t.inn]), none, none, none, none]) rfl ?_
    walk_at "tg"
    refine as_seq ?_
    walk_at "tg"
    cases t with
    | chars cs =>
      have h' : Cset cs := by cases m <;> exact wf
      refine dcase (fun _ => ?_) (fun z => (z rfl).elim)
      walk_at "tg"
      refine ⟨[], [], isM _ [], rfl, ⟨cs, rfl, rfl, h', ⟨rfl, rfl⟩⟩, ?_⟩
      rintro _ _ ⟨rfl, rfl⟩
      unfold cn at q
      exact q
    | nd e ps =>
      obtain ⟨h2, hl, _, hp⟩ := wf_nd wf (by omega)
      have hw0 : Pt.wts ps ≤ 1000 := by unfold Pt.wt at hwt; omega
      have hpl := Pt.wts_len ps
      have hch : ∀ p ∈ ps, (cn p).length + 3 ≤ 503 * p.wt := fun p h => cn_len (hp p h).2.1
      refine dcase (fun z => absurd z (by show ¬ ndS e = _; cases e <;> decide)) (fun _ => ?_)
      walk_at "tg"
      refine as_seq ?_
      walk_at "tg"
      unfold cn at q
      cases e with
      | true =>
        rw [if_pos rfl, cnL_map] at q
        refine dcase (fun z => absurd z nd_row) (fun _ => ?_)
        walk_at "tg"
        refine as_seq ?_
        walk_at "tg"
        refine ae_lc (ownG_name (by simp)) ?_
        walk_at "tg"
        refine ⟨by rw [List.length_map]; omega, fun i acc M' => M' = [] ∧ acc = ((ps.take i).map cn).map fun l => .str (tx l), ⟨rfl, rfl⟩, ?_, ?_⟩
        · rintro i d acc M' hd ⟨rfl, rfl⟩
          obtain ⟨p, hp1, hp2, rfl⟩ := parts_get hd
          obtain ⟨g1, g2, g3, _⟩ := hp p hp1
          have := Pt.wt_mem hp1
          walk_at "tg"
          refine ⟨[], [], isM _ [], rfl, ⟨m - 1, p, by omega, rfl, rfl, g2, by omega, ⟨rfl, rfl⟩⟩, ?_⟩
          rintro _ _ ⟨rfl, rfl⟩
          refine ⟨rfl, ?_⟩
          rw [take_snoc hp2]
          simp
        · rintro acc M' ⟨rfl, rfl⟩
          rw [List.length_map, List.take_length]
          have h3 := sum_le (c := 503) (ps := ps) (f := cn) fun p h => by have := hch p h; omega
          exact am_joinS (a := [124]) (by rw [List.length_map]; simp only [List.length_cons, List.length_nil]; omega) q
      | false =>
        rw [if_neg Bool.false_ne_true, cnR_map] at q
        refine dcase (fun _ => ?_) (fun z => (z rfl).elim)
        walk_at "tg"
        intro ar
        walk_at "tg"
        refine ⟨fun i δ' M' => ∃ (x : Option D) (y : Option D), i ≤ ps.length ∧ δ' = [some (.tup [.str (ndS false), .tup (ps.map Pt.d)]), some (.str (ndS false)), some (.ref ar), x, y] ∧ M' = [(ar, .lst (((ps.take i).map fun p => wrI (isAlt p) (cn p)).map fun l => .str (tx l)))], ⟨none, none, Nat.zero_le _, rfl, rfl⟩, ?_, ?_⟩
        · rintro i d δ' M' hd ⟨x, y, hi, rfl, rfl⟩
          obtain ⟨p, hp1, hp2, rfl⟩ := parts_get hd
          obtain ⟨g1, g2, g3, _⟩ := hp p hp1
          have := Pt.wt_mem hp1
          have hil := (List.getElem?_eq_some_iff.mp hp2).1
          have hpc := hch p hp1
          have stp : ((ps.take (i + 1)).map fun p => wrI (isAlt p) (cn p)).map (fun l => D.str (tx l)) = (((ps.take i).map fun p => wrI (isAlt p) (cn p)).map fun l => .str (tx l)) ++ [.str (tx (wrI (isAlt p) (cn p)))] := by
            rw [take_snoc hp2, List.map_append, List.map_append]
            rfl
          have lt0 : ((((ps.take i).map fun p => wrI (isAlt p) (cn p)).map fun l => D.str (tx l)) : List D).length < sizeLine := by
            rw [List.length_map, List.length_map, List.length_take]
            omega
          rw [Pt.d_eq p]
          walk_at "tg"
          have ha := alt_hd p
          refine dcase (fun c1 => ?_) (fun c1 => ?_)
          · rw [decide_eq_true c1] at ha
            rw [← ha] at stp
            walk_at "tg"
            refine ⟨[], [_], isM (.str (tx (cn p))) [], rfl, ⟨m - 1, p, by omega, by rw [Pt.d_eq], rfl, g2, by omega, ⟨rfl, rfl⟩⟩, ?_⟩
            rintro _ _ ⟨rfl, rfl⟩
            refine au_str (a := [40]) (by simp; omega) ?_
            walk_at "tg"
            refine au_str (b := [41]) (by simp; omega) ?_
            walk_at "tg"
            refine app0 lt0 ?_
            refine ⟨_, _, hil, rfl, ?_⟩
            rw [stp]
            rfl
          · rw [decide_eq_false c1] at ha
            rw [← ha] at stp
            walk_at "tg"
            refine ⟨[], [_], isM (.str (tx (cn p))) [], rfl, ⟨m - 1, p, by omega, by rw [Pt.d_eq], rfl, g2, by omega, ⟨rfl, rfl⟩⟩, ?_⟩
            rintro _ _ ⟨rfl, rfl⟩
            walk_at "tg"
            refine app0 lt0 ?_
            refine ⟨_, _, hil, rfl, ?_⟩
            rw [stp]
            rfl
        · rintro δ' M' ⟨x, y, hi, rfl, rfl⟩
          rw [List.length_map, List.take_length]
          have h3 := sum_le (c := 503) (ps := ps) (f := fun p => wrI (isAlt p) (cn p)) fun p h => by
            have a1 := wrI_len (isAlt p) (cn p)
            have := hch p h
            omega
          refine frz0 (s := 2) rfl ?_
          walk_at "tg"
          have e : tx [] = Str.ofString "" := rfl
          rw [← e]
          exact am_join (by omega) q
    | rep k p =>
      obtain ⟨hk, g1, g2, g3⟩ := wf_rep wf (by omega)
      have hw0 : p.wt ≤ 1000 := by unfold Pt.wt at hwt; omega
      have hpc := cn_len g2
      have hwl := wrI_len (!isCh p) (cn p)
      refine dcase (fun z => absurd z (repS_chars k _)) (fun _ => ?_)
      walk_at "tg"
      refine as_seq ?_
      walk_at "tg"
      refine dcase (fun z => absurd z (repS_chars k _)) (fun _ => ?_)
      walk_at "tg"
      refine as_seq ?_
      walk_at "tg"
      refine dcase (fun z => absurd z (repS_chars k _)) (fun _ => ?_)
      walk_at "tg"
      refine ⟨[], [], isM (.str (tx (cn p))) [], rfl, ⟨m - 1, p, by omega, rfl, rfl, g2, hw0, ⟨rfl, rfl⟩⟩, ?_⟩
      rintro _ _ ⟨rfl, rfl⟩
      unfold cn at q
      have ends : ∀ (s : List Nat), s = wrI (!isCh p) (cn p) → AS K (tRet (tOp (rAddU K) (tVar 4) (tDispGet [(tC (.str (Str.ofString "star")), tC (.str (Str.ofString "*"))), (tC (.str (Str.ofString "plus")), tC (.str (Str.ofString "+"))), (tC (.str (Str.ofString "maybe")), tC (.str (Str.ofString "?")))] (tVar 1))))
          [some (.tup [.str (repS k), p.d]), some (.str (repS k)), none, none, some (.str (tx s))] [] { nx := fun x M' => kk D.non M', rt := kk } := fun s e => by
        subst e
        walk_at "tg"
        refine ae_dispGet (kvs := [(Str.ofString "star", Str.ofString "*"), (Str.ofString "plus", Str.ofString "+"), (Str.ofString "maybe", Str.ofString "?")]) (by decide) ?_
        walk_at "tg"
        refine ⟨repS k, tx [repC k], rfl, by rcases rep_cases hk with rfl | rfl | rfl <;> rfl, ?_⟩
        exact au_str (b := [repC k]) (by simp; omega) q
      refine as_cut (fun δ' M' => δ' = [some (.tup [.str (repS k), p.d]), some (.str (repS k)), none, none, some (.str (tx (wrI (!isCh p) (cn p))))] ∧ M' = []) ?_ ?_
      · walk_at "tg"
        have e1 : (Pt.rep k p).inn = .tup [.str p.hd, p.inn] := Pt.d_eq p
        rw [e1]
        walk_at "tg"
        have hc := ch_hd p
        unfold wrI
        refine dcaseN (fun c1 => ?_) (fun c1 => ?_)
        · rw [decide_eq_false c1] at hc
          rw [← hc]
          walk_at "tg"
          refine au_str (a := [40]) (by simp; omega) ?_
          walk_at "tg"
          refine au_str (b := [41]) (by simp; omega) ?_
          exact ⟨by rw [Pt.d_eq p]; rfl, rfl⟩
        · rw [decide_eq_true c1] at hc
          rw [← hc]
          walk_at "tg"
          exact ⟨by rw [Pt.d_eq p]; rfl, rfl⟩
      · rintro δ' M' ⟨rfl, rfl⟩
        exact ends _ rfl⟩
theorem c__law_canonical (T : Top K mg w) : ∀ n : Nat, Cal P w K mg base (n + 3) "_law_canonical" (Spc K (W_write n)) []
  | 0 => cal_none T.d__law_canonical fun ds M k h => by
    obtain ⟨_, _, h, _⟩ := h
    omega
  | n + 1 => canon_step T n (c__law_canonical T n)
end

/-! ### the canonical text is one of the tree's texts -/
theorem isAlt_no {t : Pt} (h : isAlt t = false) : notNd true t := by
  match t, h with
  | .chars _, _ => exact True.intro
  | .nd false _, _ => exact Bool.false_ne_true
  | .rep _ _, _ => exact True.intro
theorem row_text {n : Nat} {ps : List Pt} {f : Pt → List Nat} (h2 : 2 ≤ ps.length) (hn : ∀ p ∈ ps, notNd false p) (h : ∀ p ∈ ps, ∃ b, Pa n b p (f p)) : Sp n (.nd false ps) (ps.map f).flatten := by
  have h1 := sq_of (n := n) (ps.map fun p => (p, f p)) (by intro z; simp at z; subst z; simp at h2) fun q hq => by
    obtain ⟨p, hp, rfl⟩ := List.mem_map.mp hq
    exact h p hp
  rw [List.map_map, List.map_map] at h1
  have e : ps.map ((fun x : Pt × List Nat => x.1) ∘ fun p => (p, f p)) = ps := by
    have : ((fun x : Pt × List Nat => x.1) ∘ fun p => (p, f p)) = id := rfl
    rw [this, List.map_id]
  rw [e] at h1
  exact ⟨ps, h1, by rw [jn_two h2, flat_id hn]⟩
theorem alt_text {n : Nat} {ps : List Pt} {f : Pt → List Nat} (h2 : 2 ≤ ps.length) (hn : ∀ p ∈ ps, notNd true p) (h : ∀ p ∈ ps, ∃ ts, Sq n ts (f p) ∧ jn false ts = p) : Sp n (.nd true ps) (joinL [124] (ps.map f)) := by
  have h1 := al_of (n := n) (ps.map fun p => (p, f p)) (by intro z; simp at z; subst z; simp at h2) fun q hq => by
    obtain ⟨p, hp, rfl⟩ := List.mem_map.mp hq
    exact h p hp
  rw [List.map_map, List.map_map] at h1
  have e : ps.map ((fun x : Pt × List Nat => x.1) ∘ fun p => (p, f p)) = ps := by
    have : ((fun x : Pt × List Nat => x.1) ∘ fun p => (p, f p)) = id := rfl
    rw [this, List.map_id]
  rw [e] at h1
  exact ⟨ps, h1, by rw [jn_two h2, flat_id hn]⟩
theorem cn_sp : ∀ {m : Nat} {t : Pt}, Wf m t → Sp m t (cn t)
  | m, .chars cs, h => by
    have h' : Cset cs := by cases m <;> exact h
    unfold cn
    exact chT_ok h'
  | 0, .nd _ _, h => h.elim
  | 0, .rep _ _, h => h.elim
  | m + 1, .nd false ps, h => by
    obtain ⟨h1, h2⟩ := h
    unfold cn
    rw [if_neg Bool.false_ne_true, cnR_map]
    refine row_text h1 (fun p hp => (h2 p hp).2) fun p hp => ?_
    have ih := cn_sp (h2 p hp).1
    unfold wrI
    cases e : isAlt p with
    | true => exact ⟨false, .el ih.grp⟩
    | false => exact (ih.up (Nat.le_succ m)).pa (h2 p hp).2 (isAlt_no e)
  | m + 1, .nd true ps, h => by
    obtain ⟨h1, h2⟩ := h
    unfold cn
    rw [if_pos rfl, cnL_map]
    exact alt_text h1 (fun p hp => (h2 p hp).2) fun p hp => ((cn_sp (h2 p hp).1).up (Nat.le_succ m)).sq (h2 p hp).2
  | m + 1, .rep k p, h => by
    have ih := cn_sp h.2
    unfold cn wrI
    show Pa (m + 1) true (.rep k p) _
    refine .rep ?_ h.1
    match p, ih with
    | .chars cs, ih => exact El.up ih (Nat.le_succ m)
    | .nd e ps, ih => exact ih.grp
    | .rep j q, ih => exact ih.grp
/-! ### what is drawn -/
theorem sub_filter {l l' : List Nat} (h : l'.Sublist l) : l.Nodup → l.filter (fun c => decide (c ∈ l')) = l' := by
  induction h with
  | slnil => intro _; rfl
  | @cons l1 l2 a h ih =>
    intro hn
    obtain ⟨n1, n2⟩ := List.nodup_cons.mp hn
    have : a ∉ l1 := fun z => n1 (h.subset z)
    rw [List.filter_cons_of_neg (by simpa using this)]
    exact ih n2
  | @cons_cons l1 l2 a h ih =>
    intro hn
    obtain ⟨n1, n2⟩ := List.nodup_cons.mp hn
    rw [List.filter_cons_of_pos (by simp)]
    congr 1
    rw [← ih n2]
    refine List.filter_congr fun x hx => ?_
    rw [ih n2]
    have hxa : x ≠ a := fun z => n1 (z ▸ hx)
    simp [hxa]
theorem Cset.sub {l : List Nat} (h : l.Sublist cst_ALPHABET) (hne : l ≠ []) : Cset l := ⟨hne, (sub_filter h al_nodup).symm⟩
theorem al_cut {lo hi : Nat} (h : lo ≤ hi) (h2 : hi < 95) : Tg.cutD cst_ALPHABET (some (lo : Int)) (some ((hi : Int) + 1)) = (cst_ALPHABET.drop lo).take (hi + 1 - lo) ∧ (cst_ALPHABET.drop lo).take (hi + 1 - lo) ≠ [] := by
  refine ⟨?_, ?_⟩
  · unfold Tg.cutD
    have e1 : ((hi : Int) + 1) = ((hi + 1 : Nat) : Int) := by omega
    rw [e1, HT.sIx_nat, HT.sIx_nat, al_len, Nat.min_eq_left (by omega), Nat.min_eq_left (by omega)]
  · intro z
    have : ((cst_ALPHABET.drop lo).take (hi + 1 - lo)).length = 0 := by rw [z]; rfl
    rw [List.length_take, List.length_drop, al_len] at this
    omega
theorem seg_sub (lo n : Nat) : ((cst_ALPHABET.drop lo).take n).Sublist cst_ALPHABET := (List.take_sublist _ _).trans (List.drop_sublist _ _)
theorem sub_low {lo hi o c : Nat} (ho : o < lo) (hc : cst_ALPHABET[o]? = some c) : ([c] ++ (cst_ALPHABET.drop lo).take (hi + 1 - lo)).Sublist cst_ALPHABET := by
  have e : cst_ALPHABET = cst_ALPHABET.take lo ++ cst_ALPHABET.drop lo := (List.take_append_drop lo _).symm
  rw [e]
  conv => lhs; rw [← e]
  refine List.Sublist.append ?_ (List.take_sublist _ _)
  refine List.singleton_sublist.mpr (List.mem_of_getElem? (i := o) ?_)
  rw [List.getElem?_take, if_pos ho]
  exact hc
theorem sub_high {lo hi o c : Nat} (hlo : lo ≤ hi) (ho : hi < o) (hc : cst_ALPHABET[o]? = some c) : ((cst_ALPHABET.drop lo).take (hi + 1 - lo) ++ [c]).Sublist cst_ALPHABET := by
  have e : cst_ALPHABET = cst_ALPHABET.take (hi + 1) ++ cst_ALPHABET.drop (hi + 1) := (List.take_append_drop (hi + 1) _).symm
  have e2 : (cst_ALPHABET.drop lo).take (hi + 1 - lo) = (cst_ALPHABET.take (hi + 1)).drop lo := by rw [List.drop_take]
  rw [e2]
  conv => rhs; rw [e]
  refine List.Sublist.append (List.drop_sublist _ _) ?_
  refine List.singleton_sublist.mpr (List.mem_of_getElem? (i := o - (hi + 1)) ?_)
  rw [List.getElem?_drop]
  have e3 : hi + 1 + (o - (hi + 1)) = o := by omega
  rw [e3]
  exact hc
/-! how long a text of a tree may be -/
mutual
def Pt.sb : Pt → Nat
  | .chars _ => 970
  | .nd _ ps => 10 + Pt.sbs ps
  | .rep _ p => 18 + Pt.sb p
def Pt.sbs : List Pt → Nat
  | [] => 0
  | p :: r => Pt.sb p + 8 + Pt.sbs r
end
theorem Pt.sbs_app : ∀ a b : List Pt, Pt.sbs (a ++ b) = Pt.sbs a + Pt.sbs b
  | [], b => (Nat.zero_add _).symm
  | p :: r, b => by
    show p.sb + 8 + Pt.sbs (r ++ b) = p.sb + 8 + Pt.sbs r + Pt.sbs b
    rw [Pt.sbs_app r b]
    omega
def sB : Nat → Nat
  | 0 => 970
  | n + 1 => 10 + 3 * (sB n + 8)
def wB : Nat → Nat
  | 0 => 1
  | n + 1 => 1 + 3 * wB n
theorem sB_le (n : Nat) : 970 ≤ sB n ∧ 18 + sB n ≤ sB (n + 1) := by
  induction n with
  | zero => decide
  | succ n ih =>
    have e1 : sB (n + 1) = 10 + 3 * (sB n + 8) := rfl
    have e2 : sB (n + 1 + 1) = 10 + 3 * (sB (n + 1) + 8) := rfl
    omega
theorem wB_le (n : Nat) : 1 ≤ wB n ∧ 1 + wB n ≤ wB (n + 1) := by
  induction n with
  | zero => decide
  | succ n ih =>
    have e1 : wB (n + 1) = 1 + 3 * wB n := rfl
    have e2 : wB (n + 1 + 1) = 1 + 3 * wB (n + 1) := rfl
    omega
structure Drawn (n : Nat) (t : Pt) : Prop where
  wf : Wf n t
  wt : t.wt ≤ wB n
  sb : t.sb ≤ sB n
theorem Wf.up : ∀ {n : Nat} {t : Pt}, Wf n t → Wf (n + 1) t
  | n, .chars cs, h => by cases n <;> exact h
  | 0, .nd _ _, h => h.elim
  | 0, .rep _ _, h => h.elim
  | n + 1, .nd e ps, h => ⟨h.1, fun p hp => ⟨(h.2 p hp).1.up, (h.2 p hp).2⟩⟩
  | n + 1, .rep k p, h => ⟨h.1, h.2.up⟩
theorem flat_wts {e : Bool} : ∀ {ts : List Pt}, Pt.wts (flatP e ts) ≤ Pt.wts ts ∧ Pt.sbs (flatP e ts) ≤ Pt.sbs ts
  | [] => ⟨Nat.le_refl _, Nat.le_refl _⟩
  | t :: r => by
    obtain ⟨h1, h2⟩ := flat_wts (e := e) (ts := r)
    have e0 : flatP e (t :: r) = kidsOf e t ++ flatP e r := rfl
    have hk : Pt.wts (kidsOf e t) ≤ t.wt ∧ Pt.sbs (kidsOf e t) ≤ t.sb + 8 := by
      match t with
      | .chars cs => exact ⟨Nat.le_refl _, Nat.le_refl _⟩
      | .rep k p => exact ⟨Nat.le_refl _, Nat.le_refl _⟩
      | .nd j ps =>
        show Pt.wts (if j = e then ps else [.nd j ps]) ≤ _ ∧ Pt.sbs (if j = e then ps else [.nd j ps]) ≤ _
        split
        · unfold Pt.wt Pt.sb
          omega
        · exact ⟨Nat.le_refl _, Nat.le_refl _⟩
    rw [e0, Pt.wts_app, Pt.sbs_app]
    show _ ≤ t.wt + Pt.wts r ∧ _ ≤ t.sb + 8 + Pt.sbs r
    omega
theorem flat_two {e : Bool} {n : Nat} : ∀ {ts : List Pt}, (∀ t ∈ ts, Wf n t) → ts.length ≤ (flatP e ts).length ∧ ∀ p ∈ flatP e ts, Wf n p ∧ notNd e p
  | [], _ => ⟨Nat.le_refl _, fun _ h => nomatch h⟩
  | t :: r, h => by
    obtain ⟨h1, h2⟩ := flat_two (e := e) (ts := r) fun x hx => h x (List.mem_cons_of_mem _ hx)
    have e0 : flatP e (t :: r) = kidsOf e t ++ flatP e r := rfl
    have ht := h t (by simp)
    have hk : 1 ≤ (kidsOf e t).length ∧ ∀ p ∈ kidsOf e t, Wf n p ∧ notNd e p := by
      match n, t, ht with
      | n, .chars cs, ht => exact ⟨Nat.le_refl _, fun p hp => by
          have e1 : p = .chars cs := by simpa [kidsOf] using hp
          subst e1
          exact ⟨ht, True.intro⟩⟩
      | 0, .nd _ _, ht => exact ht.elim
      | 0, .rep _ _, ht => exact ht.elim
      | n + 1, .rep k q, ht => exact ⟨Nat.le_refl _, fun p hp => by
          have e1 : p = .rep k q := by simpa [kidsOf] using hp
          subst e1
          exact ⟨ht, True.intro⟩⟩
      | n + 1, .nd j ps, ht =>
        show 1 ≤ (if j = e then ps else [.nd j ps]).length ∧ ∀ p ∈ (if j = e then ps else [.nd j ps]), Wf (n + 1) p ∧ notNd e p
        by_cases hj : j = e
        · rw [if_pos hj]
          exact ⟨by have := ht.1; omega, fun p hp => ⟨(ht.2 p hp).1.up, hj ▸ (ht.2 p hp).2⟩⟩
        · rw [if_neg hj]
          exact ⟨Nat.le_refl _, fun p hp => by
            have e1 : p = .nd j ps := by simpa using hp
            subst e1
            exact ⟨ht, hj⟩⟩
    rw [e0]
    refine ⟨by rw [List.length_append, List.length_cons]; omega, fun p hp => ?_⟩
    rcases List.mem_append.mp hp with hp | hp
    · exact hk.2 p hp
    · exact h2 p hp
theorem Drawn.nd {n : Nat} {e : Bool} {ts : List Pt} (h : ∀ t ∈ ts, Drawn n t) (h2 : 2 ≤ ts.length) (h3 : ts.length ≤ 3) : Drawn (n + 1) (.nd e (flatP e ts)) := by
  obtain ⟨g1, g2⟩ := flat_two (e := e) fun t ht => (h t ht).wf
  obtain ⟨g3, g4⟩ := flat_wts (e := e) (ts := ts)
  have hs : ∀ qs : List Pt, (∀ t ∈ qs, Drawn n t) → Pt.wts qs ≤ qs.length * wB n ∧ Pt.sbs qs ≤ qs.length * (sB n + 8) := by
    intro qs
    induction qs with
    | nil => intro _; exact ⟨Nat.zero_le _, Nat.zero_le _⟩
    | cons t r ih =>
      intro hq
      obtain ⟨i1, i2⟩ := ih fun x hx => hq x (List.mem_cons_of_mem _ hx)
      have ht := hq t (by simp)
      have a1 := ht.wt
      have a2 := ht.sb
      show t.wt + Pt.wts r ≤ (r.length + 1) * wB n ∧ t.sb + 8 + Pt.sbs r ≤ (r.length + 1) * (sB n + 8)
      rw [Nat.succ_mul, Nat.succ_mul]
      omega
  obtain ⟨s1, s2⟩ := hs ts h
  have m1 : ts.length * wB n ≤ 3 * wB n := Nat.mul_le_mul_right _ h3
  have m2 : ts.length * (sB n + 8) ≤ 3 * (sB n + 8) := Nat.mul_le_mul_right _ h3
  refine ⟨⟨by omega, g2⟩, ?_, ?_⟩
  · show 1 + Pt.wts (flatP e ts) ≤ 1 + 3 * wB n
    omega
  · show 10 + Pt.sbs (flatP e ts) ≤ 10 + 3 * (sB n + 8)
    omega
theorem Drawn.rep {n k : Nat} {t : Pt} (h : Drawn n t) (hk : k < 3) : Drawn (n + 1) (.rep k t) := by
  have a1 := h.wt
  have a2 := h.sb
  have b1 := (wB_le n).2
  have b2 := (sB_le n).2
  refine ⟨⟨hk, h.wf⟩, ?_, ?_⟩
  · show 1 + t.wt ≤ _
    omega
  · show 18 + t.sb ≤ _
    omega
theorem Drawn.chars {n : Nat} {cs : List Nat} (h : Cset cs) : Drawn n (.chars cs) := ⟨by cases n <;> exact h, (wB_le n).1, (sB_le n).1⟩
/-- parentheses around a text -/
def wr (m : Nat) (s : List Nat) : List Nat := repL m [40] ++ s ++ repL m [41]
theorem repL_len (m c : Nat) : (repL m [c]).length = m := by
  induction m with
  | zero => rfl
  | succ m ih =>
    have e : repL (m + 1) [c] = [c] ++ repL m [c] := by simp [repL, List.replicate_succ]
    rw [e, List.length_append, ih]
    simp
    omega
theorem repL_end (m c : Nat) : [c] ++ repL m [c] = repL m [c] ++ [c] := by
  induction m with
  | zero => rfl
  | succ m ih =>
    have e : repL (m + 1) [c] = [c] ++ repL m [c] := by simp [repL, List.replicate_succ]
    rw [e, List.append_assoc, ← ih]
theorem wr_zero (s : List Nat) : wr 0 s = s := by simp [wr, repL]
theorem wr_succ (m : Nat) (s : List Nat) : wr (m + 1) s = 40 :: (wr m s ++ [41]) := by
  unfold wr
  have e : ∀ c, repL (m + 1) [c] = [c] ++ repL m [c] := fun c => by simp [repL, List.replicate_succ]
  rw [e 40, e 41, repL_end m 41]
  simp
theorem wr_len (m : Nat) (s : List Nat) : (wr m s).length = s.length + 2 * m := by
  unfold wr
  rw [List.length_append, List.length_append, repL_len, repL_len]
  omega
theorem El.sp {n : Nat} {t : Pt} {s : List Nat} (h : El n t s) : ∃ us, Al n us s ∧ jn true us = t := ⟨[t], .one (ts := [t]) (.one (.el h)), rfl⟩
theorem wr_el {n : Nat} {t : Pt} {s : List Nat} (h : Sp n t s) : ∀ m : Nat, El (n + (m + 1)) t (wr (m + 1) s)
  | 0 => by
    rw [wr_succ, wr_zero]
    exact h.grp
  | m + 1 => by
    rw [wr_succ]
    obtain ⟨us, h1, h2⟩ := (wr_el h m).sp
    rw [← h2]
    exact .grp h1
theorem wr_sp {n m : Nat} {t : Pt} {s : List Nat} (h : Sp n t s) (hm : m ≤ 3) : Sp n t (wr m s) ∧ m = 0 ∨ El (n + 3) t (wr m s) := by
  cases m with
  | zero => left; rw [wr_zero]; exact ⟨h, rfl⟩
  | succ m => right; exact (wr_el h m).up (by omega)

/-! ### drawing trees -/
section
variable {K : PySem.W.Frag} {δ : DS} {M M' M1 M2 : Mu} {k : D → Mu → Prop} {A : AEnds} {t : TS}
theorem step_sub {X X' Y : List Addr} {G H G' H' : Hp} (st : Step X' G H Y G' H') (h : ∀ b ∈ X', b ∈ X) : Step X G H Y G' H' :=
  ⟨st.gg, fun b hb n => st.fr b hb fun z => n (h b z), fun b o n e => st.keep b o (fun z => n (h b z)) e, st.alive, fun b hb => (st.own b hb).imp (h b) id⟩
/-- some of what may change is forgotten -/
theorem as_sub (hs : M'.Sublist M) (h : AS K t δ M' A) : AS K t δ M A := fun σ G H E rs s ft => by
  have sub : ∀ b ∈ ads M', b ∈ ads M := fun b hb => (hs.map (·.1)).subset hb
  exact h σ G H E rs ⟨s.same, fun p hp => s.mu p (hs.subset hp), (hs.map (·.1)).nodup s.nd⟩
    ⟨fun δ' M2 σ' G2 H2 a r s st => ft.nx δ' M2 σ' G2 H2 a r s (step_sub st sub), fun d M2 v G2 H2 a s st r => ft.rt d M2 v G2 H2 a s (step_sub st sub) r,
     fun δ' M2 σ' G2 H2 a r s st => ft.bk δ' M2 σ' G2 H2 a r s (step_sub st sub), fun δ' M2 σ' G2 H2 a r s st => ft.ct δ' M2 σ' G2 H2 a r s (step_sub st sub),
     fun fs M2 d G2 H2 a s st => ft.xs fs M2 d G2 H2 a s (step_sub st sub)⟩
/-- a list that may change, and another one: a new list that may change -/
theorem au_lstM {a : Addr} {ds es : List D} (e : M = M1 ++ (a, .lst ds) :: M2) (h : ds.length + es.length ≤ sizeLine) (q : ∀ p, k (.ref p) (M ++ [(p, .lst (ds ++ es))])) : AR K (rAddU K) (.ref a) (.lst es) M k := ar_or2 (ar_or2 (ar_or1 fun vx vy G H Q rx ry s f => by
  obtain ⟨b, ys, rfl, hb, r2⟩ := rep_lst ry
  obtain ⟨g0, o, ho, r⟩ := s.mu (a, .lst ds) (by rw [e]; simp)
  obtain ⟨xs, rfl, rs⟩ := r
  refine ⟨a, b, xs, ys, rep_ref rx, rfl, ho, s.same _ _ hb, by rw [rs.len, r2.len]; exact h, fun p hp => ?_⟩
  obtain ⟨s2, st2⟩ := s.fresh (m := .lst (ds ++ es)) (o := .lst (xs ++ ys)) hp ⟨_, rfl, rs.append r2⟩
  exact f _ _ _ _ _ (q p) s2 st2 rep_of_ref))
end
def W_chars : Wt := fun ds M k => ∃ (a : Addr) (p : Pool), ds = [.ref a] ∧ M = [(a, .lst p.d)] ∧ p.Ok ∧ ∀ (cs : List Nat) (p' : Pool), p'.Ok → Cset cs → k (.str (tx cs)) [(a, .lst p'.d)]
def W_flat : Wt := fun ds M k => ∃ (e : Bool) (ts : List Pt), ds = [.str (ndS e), .lst (ts.map Pt.d)] ∧ M = [] ∧ ts.length ≤ 100000 ∧ (flatP e ts).length ≤ 100000 ∧ k (Pt.nd e (flatP e ts)).d []
def W_tree (n : Nat) : Wt := fun ds M k => ∃ (a : Addr) (p : Pool) (m : Nat), m + 1 ≤ n ∧ m ≤ 4 ∧ ds = [.ref a, .int m] ∧ M = [(a, .lst p.d)] ∧ p.Ok ∧ ∀ (t : Pt) (p' : Pool), p'.Ok → Drawn m t → k t.d [(a, .lst p'.d)]
def treeK (a : Addr) (m : Nat) : D → Mu → Prop := fun d M => ∃ (t : Pt) (p' : Pool), p'.Ok ∧ Drawn m t ∧ d = t.d ∧ M = [(a, .lst p'.d)]
def charsK (a : Addr) : D → Mu → Prop := fun d M => ∃ (cs : List Nat) (p' : Pool), p'.Ok ∧ Cset cs ∧ d = .str (tx cs) ∧ M = [(a, .lst p'.d)]
theorem al_get {j : Int} (h0 : 0 ≤ j) (h1 : j < 95) : ∃ c, cst_ALPHABET[j.toNat]? = some c ∧ atI cst_ALPHABET j = some c := by
  obtain ⟨i, rfl⟩ : ∃ i : Nat, j = (i : Int) := ⟨j.toNat, by omega⟩
  have hi : i < cst_ALPHABET.length := by rw [al_len]; omega
  refine ⟨cst_ALPHABET[i], by rw [Int.toNat_natCast]; exact List.getElem?_eq_getElem hi, atI_nat (List.getElem?_eq_getElem hi)⟩
theorem one_set {c : Nat} {j : Nat} (h : cst_ALPHABET[j]? = some c) : Cset [c] := Cset.sub (List.singleton_sublist.mpr (List.mem_of_getElem? h)) (by simp)
theorem abc_get {j : Int} (h0 : 0 ≤ j) (h1 : j < 3) : ∃ c, atI [97, 98, 99] j = some c ∧ Cset [c] := by
  have h : j = 0 ∨ j = 1 ∨ j = 2 := by omega
  have m : ∀ c ∈ [97, 98, 99], c ∈ cst_ALPHABET := by decide +kernel
  rcases h with rfl | rfl | rfl
  · exact ⟨97, rfl, Cset.sub (List.singleton_sublist.mpr (m 97 (by simp))) (by simp)⟩
  · exact ⟨98, rfl, Cset.sub (List.singleton_sublist.mpr (m 98 (by simp))) (by simp)⟩
  · exact ⟨99, rfl, Cset.sub (List.singleton_sublist.mpr (m 99 (by simp))) (by simp)⟩
section
variable {P : Program} {w : World} {K : PySem.W.Frag} {mg : Str → Option Value} {base : Heap} {C : Addr}
theorem c__law_chars (T : Top K mg w) : Cal P w K mg base 3 "_law_chars" (Spc K W_chars) [] := cal_of T.d__law_chars fun f fd F => by
  have c__law_take := c__law_take (P := P) (w := w) (base := base) T 2
  exact spc_ok F sc__law_chars (fun ds M k h => by obtain ⟨a, p, rfl, _⟩ := h; rfl) fun cdv A outer s H E hr => ⟨_, (pss_cons (ps_set (i := 1) sc__law_chars.nd rfl (Or.inl rfl) pe_str)
      (pss_cons (ps_set (i := 2) sc__law_chars.nd rfl (Or.inl rfl) (pe_c c__law_take hr (by first | decide | omega) (by rfl) (pa_cons (pv 0) (pa_cons pe_int pa_nil))))
      (pss_cons (ps_if (pt_cmpR op_eq (pv 2) pe_int (nomark _))
      (pss_one (ps_ret (pv 1)))
      pss_nil)
      (pss_cons (ps_if (pt_cmpR op_lt (pv 2) pe_int (nomark _))
      (pss_one (ps_ret (pe_ix (ix_K (K := K)) pe_str (pe_c c__law_take hr (by first | decide | omega) (by rfl) (pa_cons (pv 0) (pa_cons pe_int pa_nil))) (fun _ _ => rfl))))
      pss_nil)
      (pss_cons (ps_if (pt_cmpR op_eq (pv 2) pe_int (nomark _))
      (pss_one (ps_ret (pe_ix (ix_K (K := K)) (pv 1) (pe_c c__law_take hr (by first | decide | omega) (by rfl) (pa_cons (pv 0) (pa_cons pe_int pa_nil))) (fun _ _ => rfl))))
      pss_nil)
      (pss_cons (ps_set (i := 3) sc__law_chars.nd rfl (Or.inl rfl) (pe_c c__law_take hr (by first | decide | omega) (by rfl) (pa_cons (pv 0) (pa_cons pe_int pa_nil))))
      (pss_cons (ps_set (i := 4) sc__law_chars.nd rfl (Or.inl rfl) (pe_op (add_K (K := K)) (pv 3) (pe_c c__law_take hr (by first | decide | omega) (by rfl) (pa_cons (pv 0) (pa_cons (pe_callB (call_minU rfl) (by rfl) T.m_min (by decide +kernel) (pa_cons (pe_op op_sub pe_int (pv 3)) (pa_cons pe_int pa_nil))) pa_nil)))))
      (pss_cons (ps_if (pt_cmpR op_eq (pv 2) pe_int (nomark _))
      (pss_one (ps_ret (pe_slice (sl_K (K := K)) (pv 1) (po_some (pv 3)) (po_some (pe_op (add_K (K := K)) (pv 4) pe_int)))))
      pss_nil)
      (pss_cons (ps_set (i := 5) sc__law_chars.nd rfl (Or.inl rfl) (pe_c c__law_take hr (by first | decide | omega) (by rfl) (pa_cons (pv 0) (pa_cons pe_int pa_nil))))
      (pss_cons (ps_if (pt_chain op_le op_le (pv 3) (pv 5) (pv 4))
      (pss_one (ps_ret (pe_slice (sl_K (K := K)) (pv 1) (po_some (pv 3)) (po_some (pe_op (add_K (K := K)) (pv 4) pe_int)))))
      pss_nil)
      (pss_cons (ps_if (pt_cmpR op_lt (pv 5) (pv 3) (nomark _))
      (pss_one (ps_ret (pe_op (add_K (K := K)) (pe_ix (ix_K (K := K)) (pv 1) (pv 5) (fun _ _ => rfl)) (pe_slice (sl_K (K := K)) (pv 1) (po_some (pv 3)) (po_some (pe_op (add_K (K := K)) (pv 4) pe_int))))))
      pss_nil)
      (pss_one (ps_ret (pe_op (add_K (K := K)) (pe_slice (sl_K (K := K)) (pv 1) (po_some (pv 3)) (po_some (pe_op (add_K (K := K)) (pv 4) pe_int))) (pe_ix (ix_K (K := K)) (pv 1) (pv 5) (fun _ _ => rfl)))))))))))))))), fun ds M kk hw => by
    obtain ⟨a, p0, rfl, rfl, ok0, q⟩ := hw
    have hsz := sizeLine_eq
    refine as_start (δ' := [some (.ref a), none, none, none, none, none]) rfl ?_
    walk_at "tg"
    rw [sig_eq]
    walk_at "take"
    rintro _ _ ⟨r1, p1, ok1, k0, k1, rfl, rfl⟩
    refine as_seq ?_
    walk_at "tg"
    refine dcase (fun c1 => ?_) (fun c1 => ?_)
    · walk_at "tg"
      exact q _ p1 ok1 (Cset.sub (List.Sublist.refl _) (by decide +kernel))
    · walk_at "tg"
      refine as_seq ?_
      walk_at "tg"
      refine dcase (fun c2 => ?_) (fun c2 => ?_)
      · walk_at "tg"
        walk_at "take"
        rintro _ _ ⟨r2, p2, ok2, j0, j1, rfl, rfl⟩
        obtain ⟨c, hc, hset⟩ := abc_get j0 j1
        refine au_ixS (l := [97, 98, 99]) (by simp; omega) hc ?_
        exact q _ p2 ok2 hset
      · walk_at "tg"
        refine as_seq ?_
        walk_at "tg"
        refine dcase (fun c3 => ?_) (fun c3 => ?_)
        · walk_at "tg"
          walk_at "take"
          rintro _ _ ⟨r2, p2, ok2, j0, j1, rfl, rfl⟩
          obtain ⟨c, hc, hat⟩ := al_get j0 j1
          refine au_ixS (by rw [al_len]; omega) hat ?_
          exact q _ p2 ok2 (one_set hc)
        · walk_at "tg"
          walk_at "take"
          rintro _ _ ⟨low, p2, ok2, l0, l1, rfl, rfl⟩
          walk_at "tg"
          refine ⟨[_], _, takeK a (if (12 : Int) < 95 - low then 12 else 95 - low), rfl, take_ok ok2 (by split <;> omega) (by split <;> omega) (by decide), ?_⟩
          rintro _ _ ⟨r3, p3, ok3, h0, h1, rfl, rfl⟩
          have h2 : low + r3 < 95 := by
            split at h1 <;> omega
          obtain ⟨lo, rfl⟩ : ∃ i : Nat, low = (i : Int) := ⟨low.toNat, by omega⟩
          obtain ⟨hi, hhi⟩ : ∃ i : Nat, (lo : Int) + r3 = (i : Int) := ⟨((lo : Int) + r3).toNat, by omega⟩
          walk_at "tg"
          rw [hhi]
          obtain ⟨cut, hne⟩ := al_cut (lo := lo) (hi := hi) (by omega) (by omega)
          refine as_seq ?_
          walk_at "tg"
          refine dcase (fun c4 => ?_) (fun c4 => ?_)
          · walk_at "tg"
            refine asl_str (by rw [al_len]; omega) ?_
            rw [cut]
            exact q _ p3 ok3 (Cset.sub (seg_sub _ _) hne)
          · walk_at "tg"
            walk_at "take"
            rintro _ _ ⟨r4, p4, ok4, o0, o1, rfl, rfl⟩
            obtain ⟨o, rfl⟩ : ∃ i : Nat, r4 = (i : Int) := ⟨r4.toNat, by omega⟩
            obtain ⟨c, hc, hat⟩ := al_get (j := (o : Int)) (by omega) (by omega)
            rw [Int.toNat_natCast] at hc
            have hlen : ((cst_ALPHABET.drop lo).take (hi + 1 - lo)).length ≤ 95 := by
              have := (seg_sub lo (hi + 1 - lo)).length_le
              rw [al_len] at this
              exact this
            have mid : ∀ N : DS → Mu → Prop, AS K (tRet (L2.tSl (rSlU K) (tVar 1) (tPart (tVar 3)) (tPart (tOp (rAddU K) (tVar 4) (tC (.int 1)))))) [some (.ref a), some (.str (tx cst_ALPHABET)), some (.int r1), some (.int lo), some (.int hi), some (.int o)] [(a, .lst p4.d)] { nx := N, rt := kk } := fun N => by
              walk_at "tg"
              refine asl_str (by rw [al_len]; omega) ?_
              rw [cut]
              exact q _ p4 ok4 (Cset.sub (seg_sub _ _) hne)
            refine as_seq ?_
            walk_at "tg"
            refine dcase (fun c5 => ?_) (fun c5 => ?_)
            · walk_at "tg"
              refine dcase (fun c6 => ?_) (fun c6 => ?_)
              · exact mid _
              · walk_at "tg"
                refine as_seq ?_
                walk_at "tg"
                refine dcase (fun c7 => absurd c7 (by omega)) (fun _ => ?_)
                walk_at "tg"
                refine asl_str (by rw [al_len]; omega) ?_
                rw [cut]
                walk_at "tg"
                refine au_ixS (by rw [al_len]; omega) hat ?_
                refine au_str (b := [c]) (by simp; omega) ?_
                exact q _ p4 ok4 (Cset.sub (sub_high (by omega) (by omega) hc) (by simp))
            · walk_at "tg"
              refine as_seq ?_
              walk_at "tg"
              refine dcase (fun c7 => ?_) (fun c7 => absurd c7 (by omega))
              walk_at "tg"
              refine au_ixS (by rw [al_len]; omega) hat ?_
              walk_at "tg"
              refine asl_str (by rw [al_len]; omega) ?_
              rw [cut]
              refine au_str (a := [c]) (by simp; omega) ?_
              exact q _ p4 ok4 (Cset.sub (sub_low (by omega) hc) (by simp))⟩
theorem c__law_flat (T : Top K mg w) : Cal P w K mg base 1 "_law_flat" (Spc K W_flat) [] := cal_of T.d__law_flat fun f fd F => by
  exact spc_ok F sc__law_flat (fun ds M k h => by obtain ⟨e, ts, rfl, _⟩ := h; rfl) fun cdv A outer s H E hr => ⟨_, (pss_cons (ps_set (i := 2) sc__law_flat.nd rfl (Or.inl rfl) (pe_lstM (pe_lst pa_nil)))
      (pss_cons (ps_for PassesOwn.never rfl (seq_K (K := K) (pv 1)) (pg_name (i := 3) sc__law_flat.nd rfl (Or.inl rfl))
      (pss_one (ps_if (pt_cmpR op_eq (pe_ix (ix_K (K := K)) (pv 3) pe_int (fun _ _ => rfl)) (pv 0) (nomark _))
      (pss_one (ps_set (i := 2) sc__law_flat.nd rfl (Or.inl rfl) (pe_op (add_K (K := K)) (pv 2) (pe_callTy (list_K (K := K)) (by rfl) T.m_list (by decide +kernel) (pa_cons (pe_ix (ix_K (K := K)) (pv 3) pe_int (fun _ _ => rfl)) pa_nil)))))
      (pss_one (ps_expr (app_K (K := K) (pe_bm PySem.F.plainAttrs_list PySem.F.slot_list_append PySem.F.type_list_append mt_append (pv 2) (pa_cons (pv 3) pa_nil))))))))
      (pss_one (ps_ret (pe_tup (pa_cons (pv 0) (pa_cons (pe_callTy (tup_K (K := K)) (by rfl) T.m_tuple (by decide +kernel) (pa_cons (pv 2) pa_nil)) pa_nil))))))), fun ds M kk hw => by
    obtain ⟨e, ts, rfl, rfl, hl, hfl, q⟩ := hw
    have hsz := sizeLine_eq
    refine as_start (δ' := [some (.str (ndS e)), some (.lst (ts.map Pt.d)), none, none]) rfl ?_
    walk_at "tg"
    intro ar0
    walk_at "tg"
    refine ⟨fun i δ' M' => ∃ (x : Option D) (g : Mu) (ar : Addr), i ≤ ts.length ∧ δ' = [some (.str (ndS e)), some (.lst (ts.map Pt.d)), some (.ref ar), x] ∧ M' = g ++ [(ar, .lst ((flatP e (ts.take i)).map Pt.d))], ⟨none, [], ar0, Nat.zero_le _, rfl, rfl⟩, ?_, ?_⟩
    · rintro i d δ' M' hd ⟨x, g, ar, hi, rfl, rfl⟩
      obtain ⟨t, ht1, ht2, rfl⟩ := parts_get hd
      have hil := (List.getElem?_eq_some_iff.mp ht2).1
      have hle := flatP_le (e := e) (ts := ts) (i := i + 1)
      rw [flatP_snoc ht2, List.length_append] at hle
      rw [Pt.d_eq t]
      walk_at "tg"
      refine dcase (fun c3 => ?_) (fun c3 => ?_)
      · obtain ⟨ps, rfl⟩ := hd_nd c3
        have hk : kidsOf e (.nd e ps) = ps := if_pos rfl
        rw [hk] at hle
        walk_at "tg"
        refine ac_list (ds := ps.map Pt.d) (.inr (.inl rfl)) ?_
        refine au_lstM (M1 := g) (M2 := []) rfl (by rw [List.length_map, List.length_map]; omega) ?_
        intro p2
        refine ⟨_, g ++ [(ar, .lst ((flatP e (ts.take i)).map Pt.d))], p2, hil, rfl, ?_⟩
        rw [flatP_snoc ht2, hk, List.map_append]
      · rw [kidsOf_one c3] at hle
        refine as_drop ?_
        refine ae_lm (ae_var rfl ⟨lstM_ref (N1 := g) (N2 := []) rfl, ?_⟩)
        walk_at "tg"
        refine am_append (M1 := g) (M2 := []) rfl (by rw [List.length_map]; omega) ?_
        refine ⟨_, g, ar, hil, rfl, ?_⟩
        rw [flatP_snoc ht2, kidsOf_one c3, List.map_append, ← Pt.d_eq t]
        rfl
    · rintro δ' M' ⟨x, g, ar, hi, rfl, rfl⟩
      rw [List.length_map, List.take_length]
      refine as_freeze (M1 := g) (M2 := []) (i := 2) rfl rfl ?_
      refine as_sub (M' := []) (List.nil_sublist _) ?_
      walk_at "tg"
      rw [Pt.d_eq] at q
      exact q⟩
theorem tree_step (T : Top K mg w) (n : Nat) (c__law_tree : Cal P w K mg base (n + 4) "_law_tree" (Spc K (W_tree n)) []) : Cal P w K mg base (n + 5) "_law_tree" (Spc K (W_tree (n + 1))) [] := cal_of T.d__law_tree fun f fd F => by
  have c__law_take := c__law_take (P := P) (w := w) (base := base) T 2
  have c__law_chars := c__law_chars (P := P) (w := w) (base := base) T
  have c__law_flat := c__law_flat (P := P) (w := w) (base := base) T
  exact spc_ok F sc__law_tree (fun ds M k h => by obtain ⟨a, p, m, _, _, rfl, _⟩ := h; rfl) fun cdv A outer s H E hr => ⟨_, (pss_cons (ps_set (i := 2) sc__law_tree.nd rfl (Or.inl rfl) (pe_c c__law_take hr (by first | decide | omega) (by rfl) (pa_cons (pv 0) (pa_cons pe_int pa_nil))))
      (pss_cons (ps_if (pw_or (pt_cmpR op_lt (pv 1) pe_int (nomark _)) (pw_or1 (pt_cmpR op_lt (pv 2) pe_int (nomark _)))).pt
      (pss_one (ps_ret (pe_tup (pa_cons pe_str (pa_cons (pe_c c__law_chars hr (by first | decide | omega) (by rfl) (pa_cons (pv 0) pa_nil)) pa_nil)))))
      pss_nil)
      (pss_cons (ps_if (pt_cmpR op_lt (pv 2) pe_int (nomark _))
      (pss_cons (ps_setLc (i := 3) (own := [("k", 4)]) (g := gName 4) rfl sc__law_tree.nd rfl rfl (sw_true rfl rfl rfl (by decide +kernel)) (pi_range1 (by rfl) T.m_range (pa_cons (pe_op (add_K (K := K)) pe_int (pe_c c__law_take hr (by first | decide | omega) (by rfl) (pa_cons (pv 0) (pa_cons pe_int pa_nil)))) pa_nil)) (blkOk_by (own := [("k", 4)]) (N := ["pool", "deep", "kind", "parts", "k"]) (sc := defScope s__law_tree) (by decide +kernel)) (fun _ _ _ _ _ => (pg_name (i := 4) sc__law_tree.nd rfl (Or.inl rfl))) (fun _ _ _ _ _ => pts_nil) (fun _ _ _ _ _ => (pe_c c__law_tree hr (by first | decide | omega) (by rfl) (pa_cons (pv 0) (pa_cons (pe_op op_sub (pv 1) pe_int) pa_nil)))))
      (pss_one (ps_ret (pe_c c__law_flat hr (by first | decide | omega) (by rfl) (pa_cons (pe_ix (ix_K (K := K)) (pe_tup (pa_cons pe_str (pa_cons pe_str (pa_cons pe_str pa_nil)))) (pe_op op_sub (pv 2) pe_int) (fun _ _ => rfl)) (pa_cons (pv 3) pa_nil))))))
      pss_nil)
      (pss_one (ps_ret (pe_tup (pa_cons (pe_ix (ix_K (K := K)) (pe_tup (pa_cons pe_str (pa_cons pe_str (pa_cons pe_str pa_nil)))) (pe_c c__law_take hr (by first | decide | omega) (by rfl) (pa_cons (pv 0) (pa_cons pe_int pa_nil))) (fun _ _ => rfl)) (pa_cons (pe_c c__law_tree hr (by first | decide | omega) (by rfl) (pa_cons (pv 0) (pa_cons (pe_op op_sub (pv 1) pe_int) pa_nil))) pa_nil)))))))), fun ds M kk hw => by
    obtain ⟨a, p0, m, hm, hm4, rfl, rfl, ok0, q⟩ := hw
    have hsz := sizeLine_eq
    refine as_start (δ' := [some (.ref a), some (.int m), none, none, none]) rfl ?_
    walk_at "tg"
    walk_at "take"
    rintro _ _ ⟨r1, p1, ok1, k0, k1, rfl, rfl⟩
    have leaf : ∀ N : DS → Mu → Prop, AS K (tRet (tTup (tCons (tC (.str (Str.ofString "chars"))) (tCons (tCall (Spc K W_chars) [] C8.E0 (tCons (tVar 0) tNil)) tNil)))) [some (.ref a), some (.int m), some (.int r1), none, none] [(a, .lst p1.d)] { nx := N, rt := kk } := fun N => by
      walk_at "tg"
      refine ⟨[_], [], charsK a, rfl, ⟨a, p1, rfl, rfl, ok1, fun cs p' ok' h => ⟨cs, p', ok', h, rfl, rfl⟩⟩, ?_⟩
      rintro _ _ ⟨cs, p2, ok2, hcs, rfl, rfl⟩
      walk_at "tg"
      have := q (.chars cs) p2 ok2 (.chars hcs)
      rw [Pt.d_eq] at this
      exact this
    refine as_seq ?_
    walk_at "tg"
    refine dcaseR (fun c1 => ?_) (fun c1 => ?_)
    · walk_at "tg"
      refine dcase (fun c2 => ?_) (fun c2 => ?_)
      · exact leaf _
      · have hm1 : 1 ≤ m := by omega
        walk_at "tg"
        refine as_seq ?_
        walk_at "tg"
        refine dcase (fun c3 => ?_) (fun c3 => ?_)
        · walk_at "tg"
          refine ae_lc (ownG_name (by simp)) ?_
          walk_at "tg"
          walk_at "take"
          rintro _ _ ⟨r2, p2, ok2, j0, j1, rfl, rfl⟩
          walk_at "tg"
          refine ⟨by omega, by omega, ?_⟩
          refine ⟨by rw [rng_len]; omega, fun i acc M' => ∃ (ts : List Pt) (p' : Pool), p'.Ok ∧ ts.length = i ∧ (∀ t ∈ ts, Drawn (m - 1) t) ∧ acc = ts.map Pt.d ∧ M' = [(a, .lst p'.d)], ⟨[], p2, ok2, rfl, (fun _ h => nomatch h), rfl, rfl⟩, ?_, ?_⟩
          · rintro i d acc M' hd ⟨ts, p3, ok3, hl, hdr, rfl, rfl⟩
            walk_at "tg"
            have e1 : (m : Int) - 1 = ((m - 1 : Nat) : Int) := by omega
            rw [e1]
            refine ⟨[_], [], treeK a (m - 1), rfl, ⟨a, p3, m - 1, by omega, by omega, rfl, rfl, ok3, fun t p' ok' h => ⟨t, p', ok', h, rfl, rfl⟩⟩, ?_⟩
            rintro _ _ ⟨t, p4, ok4, ht, rfl, rfl⟩
            refine ⟨ts ++ [t], p4, ok4, by rw [List.length_append, hl]; rfl, fun x hx => ?_, by rw [List.map_append]; rfl, rfl⟩
            rcases List.mem_append.mp hx with hx | hx
            · exact hdr x hx
            · have e2 : x = t := by simpa using hx
              subst e2
              exact ht
          · rintro acc M' ⟨ts, p3, ok3, hl, hdr, rfl, rfl⟩
            rw [rng_len] at hl
            have hl2 : 2 ≤ ts.length ∧ ts.length ≤ 3 := by omega
            have e0 : m = m - 1 + 1 := by omega
            have fin : ∀ e : Bool, Drawn m (.nd e (flatP e ts)) := fun e => by
              rw [e0]
              exact Drawn.nd hdr hl2.1 hl2.2
            have fl : ∀ e : Bool, (flatP e ts).length ≤ 100000 := fun e => by
              have h1 := (fin e).wt
              have h2 := Pt.wts_len (flatP e ts)
              unfold Pt.wt at h1
              have h3 : wB m ≤ 121 := by
                have : m = 1 ∨ m = 2 ∨ m = 3 ∨ m = 4 := by omega
                rcases this with rfl | rfl | rfl | rfl <;> decide
              omega
            walk_at "tg"
            have hk : r1 - 2 = 0 ∨ r1 - 2 = 1 ∨ r1 - 2 = 2 := by omega
            have row : atI [D.str (Str.ofString "row"), D.str (Str.ofString "row"), D.str (Str.ofString "either")] (r1 - 2) = some (.str (ndS (decide (r1 = 4)))) := by
              rcases hk with h | h | h
              · have : ¬ r1 = 4 := by omega
                rw [h, decide_eq_false this]
                rfl
              · have : ¬ r1 = 4 := by omega
                rw [h, decide_eq_false this]
                rfl
              · have : r1 = 4 := by omega
                rw [h, decide_eq_true this]
                rfl
            refine aix_T row ?_
            walk_at "tg"
            refine ⟨[], [_], isM _ [], rfl, ⟨decide (r1 = 4), ts, rfl, rfl, by omega, fl _, ⟨rfl, rfl⟩⟩, ?_⟩
            rintro _ _ ⟨rfl, rfl⟩
            exact q _ p3 ok3 (fin _)
        · walk_at "tg"
          walk_at "take"
          rintro _ _ ⟨r2, p2, ok2, j0, j1, rfl, rfl⟩
          have row : atI [D.str (Str.ofString "star"), D.str (Str.ofString "plus"), D.str (Str.ofString "maybe")] r2 = some (.str (repS r2.toNat)) := by
            have : r2 = 0 ∨ r2 = 1 ∨ r2 = 2 := by omega
            rcases this with rfl | rfl | rfl <;> rfl
          refine aix_T row ?_
          walk_at "tg"
          have e1 : (m : Int) - 1 = ((m - 1 : Nat) : Int) := by omega
          rw [e1]
          refine ⟨[_], [], treeK a (m - 1), rfl, ⟨a, p2, m - 1, by omega, by omega, rfl, rfl, ok2, fun t p' ok' h => ⟨t, p', ok', h, rfl, rfl⟩⟩, ?_⟩
          rintro _ _ ⟨t, p4, ok4, ht, rfl, rfl⟩
          walk_at "tg"
          have e0 : m = m - 1 + 1 := by omega
          have hd : Drawn m (.rep r2.toNat t) := by
            rw [e0]
            exact ht.rep (by omega)
          have := q _ p4 ok4 hd
          rw [Pt.d_eq] at this
          exact this
    · exact ⟨fun _ => leaf _, fun z => (nomatch z)⟩⟩
theorem c__law_tree (T : Top K mg w) : ∀ n : Nat, Cal P w K mg base (n + 4) "_law_tree" (Spc K (W_tree n)) []
  | 0 => cal_none T.d__law_tree fun ds M k h => by
    obtain ⟨_, _, _, h, _⟩ := h
    omega
  | n + 1 => tree_step T n (c__law_tree T n)
end

/-! ### texts that are wrong -/
theorem SqB.app {n : Nat} {b b' : Bool} {ts us : List Pt} {s u : List Nat} (h : SqB n b ts s) (g : SqB n b' us u) : SqB n b' (ts ++ us) (s ++ u) := by
  induction h with
  | one h => exact .cons h g
  | cons h _ ih => rw [List.append_assoc]; exact .cons h ih
theorem Sq.app {n : Nat} {ts us : List Pt} {s u : List Nat} (h : Sq n ts s) (g : Sq n us u) : Sq n (ts ++ us) (s ++ u) := by
  obtain ⟨_, h'⟩ := sqB_of h
  obtain ⟨_, g'⟩ := sqB_of g
  exact (h'.app g').sq
theorem Al.app {n : Nat} : ∀ {ts : List Pt} {s : List Nat}, Al n ts s → ∀ {us : List Pt} {u : List Nat}, Al n us u → ∃ ws, Al n ws (s ++ u)
  | _, _, .one h, _, _, .one g => ⟨_, .one (h.app g)⟩
  | _, _, .one h, _, _, .cons g g2 => ⟨_, by rw [← List.append_assoc]; exact .cons (h.app g) g2⟩
  | _, _, .cons h h2, _, _, g => by
    obtain ⟨ws, hw⟩ := Al.app h2 g
    exact ⟨_, by rw [List.append_assoc]; exact .cons h hw⟩
theorem FAl.cons {n j : Nat} {ts : List Pt} {s z : List Nat} (h : Sq n ts s) (g : FAl n z j) : FAl n (s ++ 124 :: z) (s.length + 1 + j) := by
  cases g with
  | first g => exact .then_ (.one h) g
  | @then_ _ j' us u r g1 g2 =>
    have e : s ++ 124 :: (u ++ 124 :: r) = (s ++ 124 :: u) ++ 124 :: r := by simp
    have e2 : s.length + 1 + (u.length + 1 + j') = (s ++ 124 :: u).length + 1 + j' := by simp; omega
    rw [e, e2]
    exact .then_ (.cons h g1) g2
theorem FSq.pre {n j : Nat} {ts : List Pt} {s z : List Nat} (h : Sq n ts s) (hz : z.head? = some 97) (g : FSq n z j) : FSq n (s ++ z) (s.length + j) := by
  obtain ⟨b, h'⟩ := sqB_of h
  cases g with
  | first g =>
    refine .then_ h' (fun _ c hc => ?_) ⟨97, hz, by decide, by decide⟩ g
    rw [hz] at hc
    obtain rfl : 97 = c := Option.some.inj hc
    decide
  | @then_ _ j' b' us u r g1 g2 g3 g4 =>
    have e2 : s.length + (u.length + j') = (s ++ u).length + j' := by simp; omega
    rw [← List.append_assoc, e2]
    exact .then_ (h'.app g1) g2 g3 g4
theorem FAl.pre {n : Nat} : ∀ {us : List Pt} {y : List Nat}, Al n us y → ∀ {z : List Nat} {j : Nat}, z.head? = some 97 → FAl n z j → FAl n (y ++ z) (y.length + j)
  | _, _, .one h, _, _, hz, .first g => .first (g.pre h hz)
  | _, _, @Al.one _ _ s h, _, _, _, @FAl.then_ _ j' us u r g1 g2 => by
    obtain ⟨ws, hw⟩ := (Al.one h).app g1
    have e2 : s.length + (u.length + 1 + j') = (s ++ u).length + 1 + j' := by simp; omega
    rw [← List.append_assoc, e2]
    exact .then_ hw g2
  | _, _, @Al.cons _ _ s _ u h h2, z, j, hz, g => by
    have := FAl.cons h (FAl.pre h2 hz g)
    have e2 : (s ++ 124 :: u).length + j = s.length + 1 + (u.length + j) := by simp; omega
    rw [List.append_assoc, e2]
    exact this
/-- behind some opening parentheses -/
theorem FAl.open {n j : Nat} {x : List Nat} (h : FAl n x j) : ∀ k : Nat, FAl (n + k) (repL k [40] ++ x) (k + j)
  | 0 => by simpa [repL] using h
  | k + 1 => by
    have e : repL (k + 1) [40] = 40 :: repL k [40] := by simp [repL, List.replicate_succ]
    have e2 : k + 1 + j = k + j + 1 := by omega
    rw [e, e2]
    exact .first (.first (.grp (h.open k)))
/-- they are not closed -/
theorem FAl.unclosed {n : Nat} {us : List Pt} {x : List Nat} (h : Al n us x) (k : Nat) : FAl (n + (k + 1)) (repL (k + 1) [40] ++ x) (k + 1 + x.length) := by
  have h1 : FAl (n + 1) (40 :: x) (x.length + 1) := .first (.first (.opn h))
  have h2 := h1.open k
  have e : repL (k + 1) [40] ++ x = repL k [40] ++ 40 :: x := by
    have e0 : repL (k + 1) [40] = [40] ++ repL k [40] := by simp [repL, List.replicate_succ]
    rw [e0, repL_end k 40]
    simp
  have e2 : k + 1 + x.length = k + (x.length + 1) := by omega
  have e3 : n + (k + 1) = n + 1 + k := by omega
  rw [e, e2, e3]
  exact h2
theorem Al.closed {n : Nat} {us : List Pt} {x : List Nat} (h : Al n us x) : ∀ k : Nat, ∃ ws, Al (n + k) ws (wr k x)
  | 0 => ⟨us, by rw [wr_zero]; exact h⟩
  | k + 1 => by
    obtain ⟨ws, hw⟩ := h.closed k
    exact ⟨_, by rw [wr_succ]; exact .one (.one (.el (.grp hw)))⟩
/-! the ends -/
theorem in_al {c : Nat} (h : (decide (c ∈ cst_ALPHABET) && decide (c ∉ cst_SIGNS)) = true) (n : Nat) : SqB n false [.chars [c]] [c] := by
  have h1 := (Bool.and_eq_true _ _).mp h
  exact .one (.el (.lit (of_decide_eq_true h1.1) (of_decide_eq_true h1.2)))
theorem in_rep (k : Nat) (hk : k < 3) (n : Nat) : SqB n true [.rep k (.chars [97])] ([97] ++ [repC k]) := .one (.rep (.lit (by decide +kernel) (by decide +kernel)) hk)
theorem raw_c {c : Nat} (h : (decide (c ∈ cst_ALPHABET) && decide (c ∉ cst_SET_SIGNS)) = true) : CharS c [c] := by
  have h1 := (Bool.and_eq_true _ _).mp h
  exact .raw (of_decide_eq_true h1.1) (of_decide_eq_true h1.2)
theorem sign_at {n c : Nat} (r : List Nat) (h : (decide (c ∈ cst_SIGNS) && decide (c ≠ 40 ∧ c ≠ 91 ∧ c ≠ 46 ∧ c ≠ 92)) = true) : FEl n (c :: r) 0 := by
  have h1 := (Bool.and_eq_true _ _).mp h
  obtain ⟨a1, a2, a3, a4⟩ := of_decide_eq_true h1.2
  exact .sign a1 a2 a3 a4 (.inl (of_decide_eq_true h1.1))
theorem set_sign {c : Nat} (r : List Nat) (h : (decide (c ∈ cst_SET_SIGNS) && decide (c ≠ 92)) = true) : FSetC (c :: r) 0 := by
  have h1 := (Bool.and_eq_true _ _).mp h
  exact .inr (.inr ⟨c, r, rfl, of_decide_eq_true h1.2, .inl (of_decide_eq_true h1.1), rfl⟩)
theorem set_q (r : List Nat) : FSetC (92 :: 113 :: r) 1 := .inr (.inl ⟨_, 0, rfl, ⟨rfl, .inr ⟨113, r, rfl, by decide, by decide +kernel⟩⟩, rfl⟩)
theorem set_nil : FSetC [] 0 := .inl ⟨rfl, rfl⟩
/-- behind the letter a -/
theorem a_el {n c j : Nat} {r : List Nat} (h1 : (decide (c ∉ [42, 43, 63, 124, 41])) = true) (h : FEl n (c :: r) j) : FAl n (97 :: c :: r) (1 + j) := by
  have h2 := of_decide_eq_true h1
  exact .first (.then_ (s := [97]) (in_al (by decide +kernel) n) (fun _ x hx => by
    obtain rfl : c = x := Option.some.inj hx
    intro z
    exact h2 (by simp at z ⊢; omega)) ⟨c, rfl, fun z => h2 (by simp [z]), fun z => h2 (by simp [z])⟩ h)
theorem a_rep {n c j k : Nat} {r : List Nat} (hk : k < 3) (h1 : (decide (c ≠ 124 ∧ c ≠ 41)) = true) (h : FEl n (c :: r) j) : FAl n (97 :: repC k :: c :: r) (2 + j) := by
  obtain ⟨h2, h3⟩ := of_decide_eq_true h1
  exact .first (.then_ (in_rep k hk n) (fun z => nomatch z) ⟨c, rfl, h2, h3⟩ h)
theorem a_bar {n j : Nat} {r : List Nat} (h : FEl n r j) : FAl n (97 :: 124 :: r) (2 + j) := .then_ (s := [97]) (.one (in_al (c := 97) (by decide +kernel) n).sq) (.first h)
theorem a_grp {n j : Nat} {r : List Nat} (h : FEl n r j) : FAl (n + 1) (97 :: 40 :: r) (1 + (j + 1)) := a_el (by decide) (.grp (.first (.first h)))
theorem a_set {n j : Nat} {r : List Nat} (h : FSet r j) : FAl n (97 :: 91 :: r) (1 + (j + 1)) := a_el (by decide) (.set h)
/-- the first member is wrong; a later one; the set is empty -/
theorem s_mem {r : List Nat} {j : Nat} (h0 : r.head? ≠ some 94) (h : FMem r j) : FSet r j := ⟨false, r, j, rfl, fun _ => h0, by simp, .inl h⟩
theorem s_not {r : List Nat} {j : Nat} (h : FMem r j) : FSet (94 :: r) (1 + j) := ⟨true, r, j, rfl, (fun z => nomatch z), rfl, .inl h⟩
theorem s_more {ms s v : List Nat} {i : Nat} (h0 : (s ++ v).head? ≠ some 94) (h : MemsR ms s v) (hv : v.head? ≠ some 93) (g : FMem v i) : FSet (s ++ v) (s.length + i) := ⟨false, s ++ v, s.length + i, rfl, fun _ => h0, by simp, .inr (.inl ⟨ms, s, v, i, rfl, h, hv, g, rfl⟩)⟩
theorem run_bad {a b : Nat} {r : List Nat} (ha : CharS a [a]) (hb : CharS b [b]) (h : alix b < alix a) : FMem (a :: 45 :: b :: r) 2 := .inr ⟨a, [a], b :: r, rfl, ha, .inr ⟨b, [b], r, rfl, hb, h, rfl⟩⟩
theorem run_set {a j : Nat} {r : List Nat} (ha : CharS a [a]) (h : FSetC r j) : FMem (a :: 45 :: r) (1 + 1 + j) := .inr ⟨a, [a], r, rfl, ha, .inl ⟨j, h, rfl⟩⟩
def ends : List (List Nat × Nat) := [([42, 42], 1), ([42, 43, 98], 1), ([43, 63, 41], 1), ([124, 42], 1), ([124, 124, 98], 1), ([124], 1), ([40], 1), ([40, 41], 1), ([40, 124, 97, 41], 1),
  ([91, 93], 1), ([91, 94, 93], 2), ([91, 98, 45, 97, 93, 99], 3), ([91, 99, 92, 110, 93, 42, 91, 100, 45, 97], 9), ([92, 97], 1), ([92], 1), ([91, 97, 98], 3),
  ([91, 97, 45], 3), ([91, 97, 45, 93], 3), ([91, 45, 97, 93], 1), ([91, 97, 94, 93], 2), ([91, 92, 113, 93], 2), ([93], 0), ([91, 97, 45, 92, 113, 93], 4), ([91], 1),
  ([91, 94], 2), ([40, 98, 124, 41], 3), ([91, 94, 92, 110, 45, 126, 93], 6), ([40, 63, 98, 41], 1), ([91, 97, 45, 99, 45, 101, 93], 4), ([91, 94, 94, 93], 2)]
def EOk (n : Nat) (q : List Nat × Nat) : Prop := ∀ rest : List Nat, (q.2 < q.1.length ∨ rest = []) → FAl (n + 1) (97 :: (q.1 ++ rest)) (1 + q.2)
theorem fc {n : Nat} {q : List Nat × Nat} {l : List (List Nat × Nat)} (h : EOk n q) (t : ∀ x ∈ l, EOk n x) : ∀ x ∈ q :: l, EOk n x := fun x hx => by
  rcases List.mem_cons.mp hx with rfl | hx
  · exact h
  · exact t x hx
theorem end0 {n : Nat} {e : List Nat} {p : Nat} (h0 : ¬ p < e.length) (h : FAl (n + 1) (97 :: (e ++ [])) (1 + p)) : EOk n (e, p) := fun rest hr => by
  rcases hr with hr | rfl
  · exact absurd hr h0
  · exact h
theorem cn_set : SqB n true [.chars [97], .rep 0 (.chars (cst_ALPHABET.filter fun c => decide (c ∈ [99] ++ [10])))] [97, 91, 99, 92, 110, 93, 42] := by
  refine .cons (s := [97]) (.el (.lit (by decide +kernel) (by decide +kernel))) (.one (.rep (s := [91, 99, 92, 110, 93]) (k := 0) ?_ (by decide)))
  exact El.set (s := [99, 92, 110]) (.pos (.cons (s := [99]) (.one (raw_c (by decide +kernel))) (.one (.one .nl))) rfl (by decide +kernel))
theorem ends_bad (n : Nat) : ∀ q ∈ ends, EOk n q := by
  have A : CharS 97 [97] := raw_c (by decide +kernel)
  have S : ∀ {c : Nat} (r : List Nat), (decide (c ∈ cst_SIGNS) && decide (c ≠ 40 ∧ c ≠ 91 ∧ c ≠ 46 ∧ c ≠ 92)) = true → ∀ m, FEl m (c :: r) 0 := fun r h m => sign_at r h
  refine fc (fun r _ => a_rep (k := 0) (by decide) (by decide) (S _ (by decide +kernel) _)) ?_
  refine fc (fun r _ => a_rep (k := 0) (by decide) (by decide) (S _ (by decide +kernel) _)) ?_
  refine fc (fun r _ => a_rep (k := 1) (by decide) (by decide) (S _ (by decide +kernel) _)) ?_
  refine fc (fun r _ => a_bar (S _ (by decide +kernel) _)) ?_
  refine fc (fun r _ => a_bar (S _ (by decide +kernel) _)) ?_
  refine fc (end0 (by decide) (a_bar .nil)) ?_
  refine fc (end0 (by decide) (a_grp .nil)) ?_
  refine fc (fun r _ => a_grp (S _ (by decide +kernel) _)) ?_
  refine fc (fun r _ => a_grp (S _ (by decide +kernel) _)) ?_
  refine fc (fun r _ => a_set (s_mem (by simp) (.inl (set_sign _ (by decide +kernel))))) ?_
  refine fc (fun r _ => a_set (s_not (j := 0) (.inl (set_sign _ (by decide +kernel))))) ?_
  refine fc (fun r _ => a_set (s_mem (by simp) (run_bad (raw_c (by decide +kernel)) A (by decide +kernel)))) ?_
  refine fc (fun r _ => .first (.then_ (r := 91 :: ([100, 45, 97] ++ r)) (j := 3) cn_set (fun z => nomatch z) ⟨91, rfl, by decide, by decide⟩ (.set (j := 2) (s_mem (by simp) (run_bad (raw_c (by decide +kernel)) A (by decide +kernel)))))) ?_
  refine fc (fun r _ => a_el (by decide) (.esc ⟨rfl, .inr ⟨97, r, rfl, by decide, by decide +kernel⟩⟩)) ?_
  refine fc (end0 (by decide) (a_el (by decide) (.esc ⟨rfl, .inl rfl⟩))) ?_
  refine fc (end0 (by decide) (a_set (s_more (s := [97, 98]) (v := []) (i := 0) (by simp) (.cons (s := [97]) (.one A (by simp)) (.one (.one (raw_c (c := 98) (by decide +kernel)) (by simp)))) (by simp) (.inl set_nil)))) ?_
  refine fc (end0 (by decide) (a_set (s_mem (by simp) (run_set A set_nil)))) ?_
  refine fc (fun r _ => a_set (s_mem (by simp) (run_set A (set_sign _ (by decide +kernel))))) ?_
  refine fc (fun r _ => a_set (s_mem (by simp) (.inl (set_sign _ (by decide +kernel))))) ?_
  refine fc (fun r _ => a_set (s_more (s := [97]) (v := 94 :: 93 :: r) (i := 0) (by simp) (.one (.one A (by simp))) (by simp) (.inl (set_sign _ (by decide +kernel))))) ?_
  refine fc (fun r _ => a_set (s_mem (by simp) (.inl (set_q _)))) ?_
  refine fc (fun r _ => a_el (by decide) (S _ (by decide +kernel) _)) ?_
  refine fc (fun r _ => a_set (s_mem (by simp) (run_set A (set_q _)))) ?_
  refine fc (end0 (by decide) (a_set (s_mem (by simp) (.inl set_nil)))) ?_
  refine fc (end0 (by decide) (a_set (s_not (j := 0) (.inl set_nil)))) ?_
  refine fc (fun r _ => a_el (by decide) (.grp (j := 2) (.then_ (s := [98]) (j := 0) (.one (in_al (c := 98) (by decide +kernel) n).sq) (.first (S _ (by decide +kernel) _))))) ?_
  refine fc (fun r _ => a_set (j := 5) ⟨true, [92, 110, 45, 126, 93] ++ r, 4, rfl, (fun z => nomatch z), rfl, .inr (.inr ⟨seg 10 126, [92, 110, 45, 126], r, rfl, .one (.run (s := [92, 110]) (u := [126]) .nl (raw_c (by decide +kernel)) (by decide +kernel)), by decide +kernel, rfl⟩)⟩) ?_
  refine fc (fun r _ => a_grp (S _ (by decide +kernel) _)) ?_
  refine fc (fun r _ => a_set (s_more (s := [97, 45, 99]) (v := 45 :: 101 :: 93 :: r) (i := 0) (by simp) (.one (.run (s := [97]) (u := [99]) A (raw_c (by decide +kernel)) (by decide +kernel))) (by simp) (.inl (set_sign _ (by decide +kernel))))) ?_
  refine fc (fun r _ => a_set (s_not (j := 0) (.inl (set_sign _ (by decide +kernel))))) ?_
  exact fun _ h => nomatch h

/-! ### the law -/
theorem pe_c0 {X : Cx} {k j : Nat} {x : Str} {sp : _} {dvs : List V} {p pos : Pos} (c : Cal X.prog X.w X.K X.mg X.base k x sp dvs) (hr : Room j X.A) (hk : k ≤ j) (hg : Gl X x)
    (hdb : (x == ("__debug__" : Str)) = false := by decide) : PE X (.Call (.Name x p) [] [] pos) (tCall sp dvs C8.E0 tNil) := by
  obtain ⟨f, fd, ps, ds, F, hm, kp, b, d⟩ := c.ex
  exact pe_call0 F (hr.mono hk) hg hm kp b d C8.pass0 hdb
def enD (q : List Nat × Nat) : D := .tup [.str (tx q.1), .int (q.2 : Nat)]
def W_ends : Wt := fun ds M k => ds = [] ∧ M = [] ∧ k (.lst (ends.map enD)) []
def W_law : Wt := fun ds M k => ∃ ns : List Int, ds = [.lsk (ns.map D.int)] ∧ M = [] ∧ ns.length ≤ 63 ∧ ∀ M', k (.bl true) M'
theorem law_asks {K : PySem.W.Frag} {H : Hp} {a : Addr} {ns : List Int} (hS : SqL K H a (ns.map V.int)) (hl : ns.length ≤ 63) : Spc K W_law [.ref a] H (fun v _ => v = .bl true) (fun _ _ _ => False) := by
  refine ⟨H, [.lsk (ns.map D.int)], [], fun d _ => d = .bl true, Reps.one (rep_mk_lsk hS Reps.ofInts), ⟨Same.refl H, (fun p hp => nomatch hp), List.nodup_nil⟩, ⟨ns, rfl, rfl, hl, fun M' => rfl⟩, ?_⟩
  rintro d M' v G' H' rfl _ _ r
  exact rep_bl r
def poolK (a : Addr) : D → Mu → Prop := fun d M => ∃ p : Pool, p.Ok ∧ d = .ref a ∧ M = [(a, .lst p.d)]
def isK (d0 : D) : D → Mu → Prop := fun d M => d = d0 ∧ M = []
def isD (d0 : D) : D → Mu → Prop := fun d _ => d = d0
def BadAt (k : Nat) (s e rest : List Nat) (pl : Nat) : Prop := e.length ≤ 10 ∧ rest.length ≤ 2 ∧ (e ≠ [] ∨ 0 < k) ∧ FRd 7 (repL k [40] ++ s ++ e ++ rest) (k + s.length + pl)
theorem ends_len : ∀ q ∈ ends, q.1.length ≤ 10 ∧ q.1 ≠ [] := by decide +kernel
theorem with_a {n : Nat} {us : List Pt} {y : List Nat} (h : Al n us y) : ∃ ws, Al n ws (y ++ [97]) := h.app (.one (in_al (c := 97) (by decide +kernel) n).sq)
theorem bad_end {us : List Pt} {y rest : List Nat} {k : Nat} {q : List Nat × Nat} (h : Al 4 us y) (hk : k ≤ 3) (hq : q ∈ ends) (hr : q.2 < q.1.length ∨ rest = []) (hl : rest.length ≤ 2) : BadAt k (y ++ [97]) q.1 rest q.2 := by
  obtain ⟨l1, l2⟩ := ends_len q hq
  refine ⟨l1, hl, .inl l2, .inl ?_⟩
  have h1 := ends_bad (6 - k) q hq rest hr
  have h2 := (FAl.pre (h.up (show 4 ≤ 6 - k + 1 by omega)) rfl h1).open k
  have e1 : 6 - k + 1 + k = 7 := by omega
  have e2 : repL k [40] ++ (y ++ [97]) ++ q.1 ++ rest = repL k [40] ++ (y ++ 97 :: (q.1 ++ rest)) := by simp
  have e3 : k + (y ++ [97]).length + q.2 = k + (y.length + (1 + q.2)) := by rw [List.length_append]; simp; omega
  rw [e1] at h2
  rw [e2, e3]
  exact h2
theorem bad_open {us : List Pt} {y : List Nat} {k : Nat} (h : Al 4 us y) (hk : k ≤ 3) (h0 : 0 < k) : BadAt k (y ++ [97]) [] [] 0 := by
  refine ⟨by simp, by simp, .inr h0, .inl ?_⟩
  obtain ⟨ws, hw⟩ := with_a h
  obtain ⟨m, rfl⟩ : ∃ m, k = m + 1 := ⟨k - 1, by omega⟩
  have h2 := FAl.unclosed (hw.up (show 4 ≤ 6 - m by omega)) m
  have e1 : 6 - m + (m + 1) = 7 := by omega
  rw [e1] at h2
  rw [List.append_nil, List.append_nil, Nat.add_zero]
  exact h2
theorem bad_close {us : List Pt} {y rest : List Nat} (h : Al 4 us y) (hl : rest.length ≤ 2) : BadAt 0 (y ++ [97]) [41] rest 0 := by
  refine ⟨by simp, hl, .inl (by simp), .inr ?_⟩
  obtain ⟨ws, hw⟩ := with_a (h.up (show 4 ≤ 7 by decide))
  exact ⟨ws, y ++ [97], rest, hw, by simp [repL], by simp⟩
theorem good_all {us : List Pt} {y : List Nat} {k : Nat} (h : Al 4 us y) (hk : k ≤ 3) : ∃ ws, Al 7 ws (repL k [40] ++ (y ++ [97]) ++ repL k [41]) := by
  obtain ⟨ws, hw⟩ := with_a h
  obtain ⟨vs, hv⟩ := hw.closed k
  exact ⟨vs, hv.up (by omega)⟩
theorem ends_get {r : Int} (h0 : 0 ≤ r) (h1 : r < 30) : ∃ q ∈ ends, atI (ends.map enD) r = some (enD q) := by
  obtain ⟨i, rfl⟩ : ∃ i : Nat, r = (i : Int) := ⟨r.toNat, by omega⟩
  have hl : ends.length = 30 := rfl
  have hi : i < ends.length := by omega
  exact ⟨ends[i], List.getElem_mem hi, atI_nat (by rw [List.getElem?_map, List.getElem?_eq_getElem hi]; rfl)⟩
theorem six_get {r : Int} (h0 : 0 ≤ r) (h1 : r < 6) : ∃ l : List Nat, l.length ≤ 2 ∧ atI [D.str (Str.ofString ""), D.str (Str.ofString "a"), D.str (Str.ofString "*)"), D.str (Str.ofString "]"), D.str (Str.ofString "\\"), D.str (Str.ofString "|[")] r = some (.str (tx l)) := by
  have h : r = 0 ∨ r = 1 ∨ r = 2 ∨ r = 3 ∨ r = 4 ∨ r = 5 := by omega
  rcases h with rfl | rfl | rfl | rfl | rfl | rfl
  · exact ⟨[], by decide, rfl⟩
  · exact ⟨[97], by decide, rfl⟩
  · exact ⟨[42, 41], by decide, rfl⟩
  · exact ⟨[93], by decide, rfl⟩
  · exact ⟨[92], by decide, rfl⟩
  · exact ⟨[124, 91], by decide, rfl⟩
theorem four_get {r : Int} (h0 : 0 ≤ r) (h1 : r < 4) : ∃ l : List Nat, l.length ≤ 2 ∧ atI [D.str (Str.ofString ""), D.str (Str.ofString "a"), D.str (Str.ofString "*"), D.str (Str.ofString "(")] r = some (.str (tx l)) := by
  have h : r = 0 ∨ r = 1 ∨ r = 2 ∨ r = 3 := by omega
  rcases h with rfl | rfl | rfl | rfl
  · exact ⟨[], by decide, rfl⟩
  · exact ⟨[97], by decide, rfl⟩
  · exact ⟨[42], by decide, rfl⟩
  · exact ⟨[40], by decide, rfl⟩
theorem sB_mono {m : Nat} : ∀ d : Nat, sB m ≤ sB (m + d) ∧ wB m ≤ wB (m + d)
  | 0 => ⟨Nat.le_refl _, Nat.le_refl _⟩
  | d + 1 => by
    obtain ⟨h1, h2⟩ := sB_mono (m := m) d
    have h3 := (sB_le (m + d)).2
    have h4 := (wB_le (m + d)).2
    have e : m + (d + 1) = m + d + 1 := by omega
    rw [e]
    omega
theorem Wf.up' {m : Nat} {t : Pt} (h : Wf m t) : ∀ d : Nat, Wf (m + d) t
  | 0 => h
  | d + 1 => (h.up' d).up
theorem Drawn.four {m : Nat} {t : Pt} (h : Drawn m t) (hm : m ≤ 4) : Drawn 4 t := by
  obtain ⟨d, hd⟩ : ∃ d, 4 = m + d := ⟨4 - m, by omega⟩
  obtain ⟨h1, h2⟩ := sB_mono (m := m) d
  rw [hd]
  exact ⟨h.wf.up' d, Nat.le_trans h.wt h2, Nat.le_trans h.sb h1⟩
abbrev lawLevel : Nat := 52
section
variable {P : Program} {w : World} {K : PySem.W.Frag} {mg : Str → Option Value} {base : Heap}
theorem c__law_ends (T : Top K mg w) : Cal P w K mg base 1 "_law_ends" (Spc K W_ends) [] := cal_of T.d__law_ends fun f fd F => by
  exact spc_ok F sc__law_ends (fun ds M k h => by obtain ⟨rfl, _⟩ := h; rfl) fun cdv A outer s H E hr => ⟨_, (pss_cons (ps_set (i := 0) sc__law_ends.nd rfl (Or.inl rfl) (pe_lst (pa_cons (pe_tup (pa_cons pe_str (pa_cons pe_int pa_nil))) (pa_cons (pe_tup (pa_cons pe_str (pa_cons pe_int pa_nil))) (pa_cons (pe_tup (pa_cons pe_str (pa_cons pe_int pa_nil))) (pa_cons (pe_tup (pa_cons pe_str (pa_cons pe_int pa_nil))) (pa_cons (pe_tup (pa_cons pe_str (pa_cons pe_int pa_nil))) (pa_cons (pe_tup (pa_cons pe_str (pa_cons pe_int pa_nil))) (pa_cons (pe_tup (pa_cons pe_str (pa_cons pe_int pa_nil))) (pa_cons (pe_tup (pa_cons pe_str (pa_cons pe_int pa_nil))) (pa_cons (pe_tup (pa_cons pe_str (pa_cons pe_int pa_nil))) pa_nil)))))))))))
      (pss_cons (ps_set (i := 0) sc__law_ends.nd rfl (Or.inl rfl) (pe_op (add_K (K := K)) (pv 0) (pe_lst (pa_cons (pe_tup (pa_cons pe_str (pa_cons pe_int pa_nil))) (pa_cons (pe_tup (pa_cons pe_str (pa_cons pe_int pa_nil))) (pa_cons (pe_tup (pa_cons pe_str (pa_cons pe_int pa_nil))) (pa_cons (pe_tup (pa_cons pe_str (pa_cons pe_int pa_nil))) (pa_cons (pe_tup (pa_cons pe_str (pa_cons pe_int pa_nil))) (pa_cons (pe_tup (pa_cons pe_str (pa_cons pe_int pa_nil))) (pa_cons (pe_tup (pa_cons pe_str (pa_cons pe_int pa_nil))) pa_nil))))))))))
      (pss_cons (ps_set (i := 0) sc__law_ends.nd rfl (Or.inl rfl) (pe_op (add_K (K := K)) (pv 0) (pe_lst (pa_cons (pe_tup (pa_cons pe_str (pa_cons pe_int pa_nil))) (pa_cons (pe_tup (pa_cons pe_str (pa_cons pe_int pa_nil))) (pa_cons (pe_tup (pa_cons pe_str (pa_cons pe_int pa_nil))) (pa_cons (pe_tup (pa_cons pe_str (pa_cons pe_int pa_nil))) (pa_cons (pe_tup (pa_cons pe_str (pa_cons pe_int pa_nil))) (pa_cons (pe_tup (pa_cons pe_str (pa_cons pe_int pa_nil))) (pa_cons (pe_tup (pa_cons pe_str (pa_cons pe_int pa_nil))) (pa_cons (pe_tup (pa_cons pe_str (pa_cons pe_int pa_nil))) pa_nil)))))))))))
      (pss_cons (ps_set (i := 0) sc__law_ends.nd rfl (Or.inl rfl) (pe_op (add_K (K := K)) (pv 0) (pe_lst (pa_cons (pe_tup (pa_cons pe_str (pa_cons pe_int pa_nil))) (pa_cons (pe_tup (pa_cons pe_str (pa_cons pe_int pa_nil))) (pa_cons (pe_tup (pa_cons pe_str (pa_cons pe_int pa_nil))) (pa_cons (pe_tup (pa_cons pe_str (pa_cons pe_int pa_nil))) (pa_cons (pe_tup (pa_cons pe_str (pa_cons pe_int pa_nil))) (pa_cons (pe_tup (pa_cons pe_str (pa_cons pe_int pa_nil))) pa_nil)))))))))
      (pss_one (ps_ret (pv 0))))))), fun ds M kk hw => by
    obtain ⟨rfl, rfl, q⟩ := hw
    have hsz := sizeLine_eq
    refine as_start (δ' := [none]) rfl ?_
    walk_at "tg"
    refine ⟨by rw [hsz]; exact (by decide : 9 ≤ 16777216), ?_⟩
    walk_at "tg"
    refine ⟨by rw [hsz]; exact (by decide : 7 ≤ 16777216), ?_⟩
    refine au_lst (by rw [hsz]; exact (by decide : 9 + 7 ≤ 16777216)) ?_
    walk_at "tg"
    refine ⟨by rw [hsz]; exact (by decide : 8 ≤ 16777216), ?_⟩
    refine au_lst (by rw [hsz]; exact (by decide : 16 + 8 ≤ 16777216)) ?_
    walk_at "tg"
    refine ⟨by rw [hsz]; exact (by decide : 6 ≤ 16777216), ?_⟩
    refine au_lst (by rw [hsz]; exact (by decide : 24 + 6 ≤ 16777216)) ?_
    walk_at "tg"
    exact q⟩
theorem ok_law (T : Top K mg w) {f : Addr} {fd : FuncData} (F : Fun K "law" "law" s_law f fd) : FnOk P w K mg base CX0 lawLevel f fd ["script"] (Spc K W_law) := by
  have c__law_pool := c__law_pool (P := P) (w := w) (base := base) T
  have c__law_take := c__law_take (P := P) (w := w) (base := base) T 2
  have c__law_tree := c__law_tree (P := P) (w := w) (base := base) T 5
  have c__law_canonical := c__law_canonical (P := P) (w := w) (base := base) T 5
  have c__law_ends := c__law_ends (P := P) (w := w) (base := base) T
  have c__law_told := c__law_told (P := P) (w := w) (base := base) T 7
  exact spc_ok F sc_law (fun ds M k h => by obtain ⟨ns, rfl, _⟩ := h; rfl) fun cdv A outer s H E hr => ⟨_, (pss_cons (ps_set (i := 1) sc_law.nd rfl (Or.inl rfl) (pe_c c__law_pool hr (by first | decide | omega) (by rfl) (pa_cons (pv 0) pa_nil)))
      (pss_cons (ps_set (i := 2) sc_law.nd rfl (Or.inl rfl) (pe_c c__law_tree hr (by first | decide | omega) (by rfl) (pa_cons (pv 1) (pa_cons (pe_op (add_K (K := K)) pe_int (pe_c c__law_take hr (by first | decide | omega) (by rfl) (pa_cons (pv 1) (pa_cons pe_int pa_nil)))) pa_nil))))
      (pss_cons (ps_set (i := 3) sc_law.nd rfl (Or.inl rfl) (pe_op (add_K (K := K)) (pe_c c__law_canonical hr (by first | decide | omega) (by rfl) (pa_cons (pv 2) pa_nil)) pe_str))
      (pss_cons (ps_set (i := 4) sc_law.nd rfl (Or.inl rfl) (pe_c c__law_take hr (by first | decide | omega) (by rfl) (pa_cons (pv 1) (pa_cons pe_int pa_nil))))
      (pss_cons (ps_set (i := 5) sc_law.nd rfl (Or.inl rfl) (pe_c0 c__law_ends hr (by first | decide | omega) (by rfl)))
      (pss_cons (ps_asg (pe_ix (ix_K (K := K)) (pv 5) (pe_c c__law_take hr (by first | decide | omega) (by rfl) (pa_cons (pv 1) (pa_cons (pe_callB (len_K (K := K)) (by rfl) T.m_len (by decide +kernel) (pa_cons (pv 5) pa_nil)) pa_nil))) (fun _ _ => rfl)) (gtup_K (K := K) (n := 2) rfl (pgs_cons (pg_name (i := 6) sc_law.nd rfl (Or.inl rfl)) (pgs_cons (pg_name (i := 7) sc_law.nd rfl (Or.inl rfl)) pgs_nil))))
      (pss_cons (ps_set (i := 8) sc_law.nd rfl (Or.inl rfl) pe_str)
      (pss_cons (ps_if (pt_cmpR op_lt (pv 7) (pe_callB (len_K (K := K)) (by rfl) T.m_len (by decide +kernel) (pa_cons (pv 6) pa_nil)) (nomark _))
      (pss_one (ps_set (i := 8) sc_law.nd rfl (Or.inl rfl) (pe_ix (ix_K (K := K)) (pe_tup (pa_cons pe_str (pa_cons pe_str (pa_cons pe_str (pa_cons pe_str (pa_cons pe_str (pa_cons pe_str pa_nil))))))) (pe_c c__law_take hr (by first | decide | omega) (by rfl) (pa_cons (pv 1) (pa_cons pe_int pa_nil))) (fun _ _ => rfl))))
      pss_nil)
      (pss_cons (ps_if (pw_and (pt_cmpR op_gt (pv 4) pe_int (nomark _)) (pw_and1 (pt_cmpR op_eq (pe_c c__law_take hr (by first | decide | omega) (by rfl) (pa_cons (pv 1) (pa_cons pe_int pa_nil))) pe_int (nomark _)))).pt
      (pss_cons (ps_set (i := 6) sc_law.nd rfl (Or.inl rfl) pe_str)
      (pss_cons (ps_set (i := 7) sc_law.nd rfl (Or.inl rfl) pe_int)
      (pss_one (ps_set (i := 8) sc_law.nd rfl (Or.inl rfl) pe_str))))
      pss_nil)
      (pss_cons (ps_if (pw_and (pt_cmpR op_eq (pv 4) pe_int (nomark _)) (pw_and1 (pt_cmpR op_eq (pe_c c__law_take hr (by first | decide | omega) (by rfl) (pa_cons (pv 1) (pa_cons pe_int pa_nil))) pe_int (nomark _)))).pt
      (pss_cons (ps_set (i := 6) sc_law.nd rfl (Or.inl rfl) pe_str)
      (pss_cons (ps_set (i := 7) sc_law.nd rfl (Or.inl rfl) pe_int)
      (pss_one (ps_set (i := 8) sc_law.nd rfl (Or.inl rfl) (pe_ix (ix_K (K := K)) (pe_tup (pa_cons pe_str (pa_cons pe_str (pa_cons pe_str (pa_cons pe_str pa_nil))))) (pe_c c__law_take hr (by first | decide | omega) (by rfl) (pa_cons (pv 1) (pa_cons pe_int pa_nil))) (fun _ _ => rfl))))))
      pss_nil)
      (pss_cons (ps_set (i := 9) sc_law.nd rfl (Or.inl rfl) (pe_op (add_K (K := K)) (pe_op (add_K (K := K)) (pe_op (add_K (K := K)) (pe_op op_mulS pe_str (pv 4)) (pv 3)) (pv 6)) (pv 8)))
      (pss_cons (ps_if (pw_or (pt_cmpR op_ne (pv 6) pe_str (nomark _)) (pw_or1 (pt_cmpR op_gt (pv 4) pe_int (nomark _)))).pt
      (pss_one (ps_if (pt_cmpR op_ne (pe_c c__law_told hr (by first | decide | omega) (by rfl) (pa_cons (pv 9) pa_nil)) (pe_op (add_K (K := K)) (pe_op (add_K (K := K)) (pv 4) (pe_callB (len_K (K := K)) (by rfl) T.m_len (by decide +kernel) (pa_cons (pv 3) pa_nil))) (pv 7)) (nomark _))
      (pss_one (ps_ret pe_bl))
      pss_nil))
      pss_nil)
      (pss_one (ps_ret (pe_cmpR op_eq (pe_c c__law_told hr (by first | decide | omega) (by rfl) (pa_cons (pe_op (add_K (K := K)) (pe_op (add_K (K := K)) (pe_op op_mulS pe_str (pv 4)) (pv 3)) (pe_op op_mulS pe_str (pv 4))) pa_nil)) (pe_un un_neg pe_int) (nomark _)))))))))))))))), fun ds M kk hw => by
    obtain ⟨ns, rfl, rfl, hl, q⟩ := hw
    have hsz := sizeLine_eq
    refine as_start (δ' := [some (.lsk (ns.map D.int)), none, none, none, none, none, none, none, none, none]) rfl ?_
    walk_at "tg"
    refine ⟨[], [], fun d M => ∃ (a : Addr) (p : Pool), p.Ok ∧ d = .ref a ∧ M = [(a, .lst p.d)], rfl, ⟨ns, rfl, rfl, hl, fun a p ok => ⟨a, p, ok, rfl, rfl⟩⟩, ?_⟩
    rintro _ _ ⟨a, p0, ok0, rfl, rfl⟩
    walk_at "tg"
    walk_at "take"
    rintro _ _ ⟨r1, p1, ok1, k0, k1, rfl, rfl⟩
    obtain ⟨m, hm⟩ : ∃ m : Nat, 1 + r1 = (m : Int) := ⟨(1 + r1).toNat, by omega⟩
    walk_at "tg"
    rw [hm]
    refine ⟨[_], [], treeK a m, rfl, ⟨a, p1, m, by omega, by omega, rfl, rfl, ok1, fun t p' ok' h => ⟨t, p', ok', h, rfl, rfl⟩⟩, ?_⟩
    rintro _ _ ⟨t, p2, ok2, ht0, rfl, rfl⟩
    have ht := ht0.four (by omega)
    have hwt : t.wt ≤ 121 := ht.wt
    have hcl := cn_len ht.wf
    obtain ⟨us, hus, _⟩ := (cn_sp ht.wf).al
    walk_at "tg"
    refine ⟨[], _, isK _, rfl, ⟨4, t, rfl, rfl, rfl, ht.wf, by omega, ⟨rfl, rfl⟩⟩, ?_⟩
    rintro _ _ ⟨rfl, rfl⟩
    walk_at "tg"
    refine au_str (a := cn t) (b := [97]) (by simp; omega) ?_
    walk_at "tg"
    walk_at "take"
    rintro _ _ ⟨r2, p3, ok3, j0, j1, rfl, rfl⟩
    obtain ⟨k, rfl⟩ : ∃ k : Nat, r2 = (k : Int) := ⟨r2.toNat, by omega⟩
    walk_at "tg"
    refine ⟨[], [_], isK (.lst (ends.map enD)), rfl, ⟨rfl, rfl, ⟨rfl, rfl⟩⟩, ?_⟩
    rintro _ _ ⟨rfl, rfl⟩
    walk_at "tg"
    have e30 : (((ends.map enD).length : Nat) : Int) = 30 := rfl
    rw [e30]
    walk_at "take"
    rintro _ _ ⟨r3, p4, ok4, i0, i1, rfl, rfl⟩
    obtain ⟨e, he, hat⟩ := ends_get i0 i1
    have hel := (ends_len e he).1
    refine aix_L hat ?_
    unfold enD
    walk_at "tg"
    refine as_cut (fun δ' M' => ∃ (p' : Pool) (rest : List Nat), p'.Ok ∧ rest.length ≤ 2 ∧ (e.2 < e.1.length ∨ rest = []) ∧ δ' = [some (.lsk (ns.map D.int)), some (.ref a), some t.d, some (.str (tx (cn t ++ [97]))), some (.int (k : Nat)), some (.lst (ends.map enD)), some (.str (tx e.1)), some (.int (e.2 : Nat)), some (.str (tx rest)), none] ∧ M' = [(a, .lst p'.d)]) ?_ ?_
    · walk_at "tg"
      refine dcase (fun c1 => ?_) (fun c1 => ?_)
      · walk_at "tg"
        refine ⟨by rw [hsz]; exact (by decide : 6 ≤ 16777216), ?_⟩
        walk_at "tg"
        walk_at "take"
        rintro _ _ ⟨r4, p5, ok5, h0, h1, rfl, rfl⟩
        obtain ⟨l, hll, hla⟩ := six_get h0 h1
        refine aix_T hla ?_
        walk_at "tg"
        exact ⟨p5, l, ok5, hll, .inl (by omega), rfl, rfl⟩
      · walk_at "tg"
        exact ⟨p4, [], ok4, by simp, .inr rfl, rfl, rfl⟩
    · rintro δ' M' ⟨p5, rest, ok5, hrl, hrr, rfl, rfl⟩
      have b0 := bad_end (k := k) hus (by omega) he hrr hrl
      refine as_cut (fun δ' M' => ∃ (p' : Pool) (e rest : List Nat) (pl : Nat), p'.Ok ∧ BadAt k (cn t ++ [97]) e rest pl ∧ δ' = [some (.lsk (ns.map D.int)), some (.ref a), some t.d, some (.str (tx (cn t ++ [97]))), some (.int (k : Nat)), some (.lst (ends.map enD)), some (.str (tx e)), some (.int (pl : Nat)), some (.str (tx rest)), none] ∧ M' = [(a, .lst p'.d)]) ?_ ?_
      · walk_at "tg"
        refine dcase (fun c1 => ?_) (fun c1 => ?_)
        · walk_at "tg"
          walk_at "take"
          rintro _ _ ⟨r5, p6, ok6, h0, h1, rfl, rfl⟩
          walk_at "tg"
          refine dcase (fun c2 => ?_) (fun c2 => ?_)
          · walk_at "tg"
            exact ⟨p6, [], [], 0, ok6, bad_open hus (by omega) (by omega), rfl, rfl⟩
          · walk_at "tg"
            exact ⟨p6, e.1, rest, e.2, ok6, b0, rfl, rfl⟩
        · walk_at "tg"
          exact ⟨p5, e.1, rest, e.2, ok5, b0, rfl, rfl⟩
      · rintro δ' M' ⟨p6, e1, rest1, pl, ok6, b1, rfl, rfl⟩
        refine as_cut (fun δ' M' => ∃ (p' : Pool) (e rest : List Nat) (pl : Nat), p'.Ok ∧ BadAt k (cn t ++ [97]) e rest pl ∧ δ' = [some (.lsk (ns.map D.int)), some (.ref a), some t.d, some (.str (tx (cn t ++ [97]))), some (.int (k : Nat)), some (.lst (ends.map enD)), some (.str (tx e)), some (.int (pl : Nat)), some (.str (tx rest)), none] ∧ M' = [(a, .lst p'.d)]) ?_ ?_
        · walk_at "tg"
          refine dcase (fun c1 => ?_) (fun c1 => ?_)
          · obtain rfl : k = 0 := by omega
            walk_at "tg"
            walk_at "take"
            rintro _ _ ⟨r5, p7, ok7, h0, h1, rfl, rfl⟩
            walk_at "tg"
            refine dcase (fun c2 => ?_) (fun c2 => ?_)
            · walk_at "tg"
              walk_at "take"
              rintro _ _ ⟨r6, p8, ok8, g0, g1, rfl, rfl⟩
              obtain ⟨l, hll, hla⟩ := four_get g0 g1
              refine aix_T hla ?_
              walk_at "tg"
              exact ⟨p8, [41], l, 0, ok8, bad_close hus hll, rfl, rfl⟩
            · walk_at "tg"
              exact ⟨p7, e1, rest1, pl, ok7, b1, rfl, rfl⟩
          · walk_at "tg"
            exact ⟨p6, e1, rest1, pl, ok6, b1, rfl, rfl⟩
        · rintro δ' M' ⟨p7, e2, rest2, pl2, ok7, b2, rfl, rfl⟩
          clear b1 b0
          obtain ⟨l1, l2, ne, fr⟩ := b2
          obtain ⟨ws, hws⟩ := good_all (k := k) hus (by omega)
          have hkl := repL_len k 40
          have hkr := repL_len k 41
          walk_at "tg"
          refine ar_mulS (l := [40]) (by simp) (by omega) ?_
          walk_at "tg"
          refine au_str (by simp; omega) ?_
          walk_at "tg"
          refine au_str (by simp; omega) ?_
          walk_at "tg"
          refine au_str (by simp; omega) ?_
          walk_at "tg"
          refine as_cut (fun δ' M' => ∃ z : Str, δ' = [some (.lsk (ns.map D.int)), some (.ref a), some t.d, some (.str (tx (cn t ++ [97]))), some (.int (k : Nat)), some (.lst (ends.map enD)), some (.str (tx e2)), some (.int (pl2 : Nat)), some (.str (tx rest2)), some (.str z)]) ?_ ?_
          · have asks : ∀ (N : DS → Mu → Prop) (rt : D → Mu → Prop) (z : List Nat), z = repL k [40] ++ (cn t ++ [97]) ++ e2 ++ rest2 → (∀ M', N [some (.lsk (ns.map D.int)), some (.ref a), some t.d, some (.str (tx (cn t ++ [97]))), some (.int (k : Nat)), some (.lst (ends.map enD)), some (.str (tx e2)), some (.int (pl2 : Nat)), some (.str (tx rest2)), some (.str (tx z))] M') →
                AS K (tIfS (tTest (tOp rNe (tCall (Spc K (W_told 7)) [] C8.E0 (tCons (tVar 9) tNil)) (tOp (rAddU K) (tOp (rAddU K) (tVar 4) (tCB (rLenU K) (tCons (tVar 3) tNil))) (tVar 7)))) (tRet (tC (V.bl false))) tNext) [some (.lsk (ns.map D.int)), some (.ref a), some t.d, some (.str (tx (cn t ++ [97]))), some (.int (k : Nat)), some (.lst (ends.map enD)), some (.str (tx e2)), some (.int (pl2 : Nat)), some (.str (tx rest2)), some (.str (tx z))] [(a, .lst p7.d)] { nx := N, rt := rt } := fun N rt z hz qN => by
              walk_at "tg"
              refine ⟨[], [_], isD (.int ((k + (cn t ++ [97]).length + pl2 : Nat) : Int)), rfl, ⟨z, rfl, rfl, by rw [hz]; simp; omega, .inr ⟨_, hz ▸ fr, fun M' => rfl⟩⟩, ?_⟩
              rintro _ M1 rfl
              walk_at "tg"
              refine ac_lenS (by simp; omega) ?_
              walk_at "tg"
              refine dcaseN (fun c3 => absurd (by omega) c3) (fun c3 => ?_)
              walk_at "tg"
              exact qN _
            walk_at "tg"
            refine dcaseNR (fun c1 => ?_) (fun c1 => ?_)
            · have c2 : e2 = [] := tx_inj (b := []) c1
              have c4 : 0 < k := ne.resolve_left fun z => z c2
              walk_at "tg"
              refine dcase (fun c5 => ?_) (fun c5 => absurd (by omega) c5)
              exact asks _ _ _ rfl fun M' => ⟨_, rfl⟩
            · exact ⟨fun _ => asks _ _ _ rfl fun M' => ⟨_, rfl⟩, fun z => nomatch z⟩
          · rintro δ' M' ⟨z, rfl⟩
            walk_at "tg"
            refine ar_mulS (l := [40]) (by simp) (by omega) ?_
            walk_at "tg"
            refine au_str (by simp; omega) ?_
            walk_at "tg"
            refine ar_mulS (l := [41]) (by simp) (by omega) ?_
            refine au_str (by simp; omega) ?_
            walk_at "tg"
            refine ⟨[], _, isD (.int (-1)), rfl, ⟨_, rfl, rfl, by simp; omega, .inl ⟨ws, hws, fun M' => rfl⟩⟩, ?_⟩
            rintro _ M1 rfl
            walk_at "tg"
            exact q _⟩
end

theorem all_mk {l : PySem.W.OpenLaw} {w : World} {K : PySem.W.Frag} {h : Heap} {mg : Str → Option Value} {fa f0 f1 f2 f3 f4 f5 f6 f7 f8 f9 f10 f11 f12 f13 : Addr} (X : K.In h) (G : h.Ns mainGlobals mg) (hfa : mg "law" = some (.ref fa))
    {od0 an0 od1 an1 od2 an2 od3 an3 od4 an4 od5 an5 od6 an6 od7 an7 od8 an8 od9 an9 od10 an10 od11 an11 od12 an12 od13 an13 : Option Addr} {sl0 sl1 sl2 sl3 sl4 sl5 sl6 sl7 sl8 sl9 sl10 sl11 sl12 sl13 : Array (Option Value)} {oc0 kV0 dc0 pm0 cd0 ct0 oc1 kV1 dc1 pm1 cd1 ct1 oc2 kV2 dc2 pm2 cd2 ct2 oc3 kV3 dc3 pm3 cd3 ct3 oc4 kV4 dc4 pm4 cd4 ct4 oc5 kV5 dc5 pm5 cd5 ct5 oc6 kV6 dc6 pm6 cd6 ct6 oc7 kV7 dc7 pm7 cd7 ct7 oc8 kV8 dc8 pm8 cd8 ct8 oc9 kV9 dc9 pm9 cd9 ct9 oc10 kV10 dc10 pm10 cd10 ct10 oc11 kV11 dc11 pm11 cd11 ct11 oc12 kV12 dc12 pm12 cd12 ct12 oc13 kV13 dc13 pm13 cd13 ct13 : Value}
    {CT : Addr} {C0 N0 fI0 : Addr} {nm0 q0 : Str} {bs0 sub0 : List Value} {sn0 : List Str} {ab0 : Bool} {col0 : Option Bool} {dd0 odI0 anI0 : Option Addr} {jj0_0 jj1_0 jj2_0 jj3_0 jj5_0 : Option Value} {slI0 : Array (Option Value)} {ocI0 kVI0 dcI0 pmI0 cdI0 ctI0 : Value}
    (a0 : PySem.W.nsIn K mainGlobals "read_pattern" = some (some (.ref f0))) (l0 : K.lookup f0 = some ⟨oc0, od0, .func (PySem.W.fnOf "read_pattern" "read_pattern" (defArgs s_read_pattern) (defBody s_read_pattern) (defScope s_read_pattern) .none kV0 dc0 pm0 an0 cd0 ct0), sl0⟩) (c0 : PySem.W.codeIn K cd0 "read_pattern" = true) (k0 : PySem.W.keepIn K (.ref f0) = true)
    (a1 : PySem.W.nsIn K mainGlobals "joined" = some (some (.ref f1))) (l1 : K.lookup f1 = some ⟨oc1, od1, .func (PySem.W.fnOf "joined" "joined" (defArgs s_joined) (defBody s_joined) (defScope s_joined) .none kV1 dc1 pm1 an1 cd1 ct1), sl1⟩) (c1 : PySem.W.codeIn K cd1 "joined" = true) (k1 : PySem.W.keepIn K (.ref f1) = true)
    (a2 : PySem.W.nsIn K mainGlobals "_law_pool" = some (some (.ref f2))) (l2 : K.lookup f2 = some ⟨oc2, od2, .func (PySem.W.fnOf "_law_pool" "_law_pool" (defArgs s__law_pool) (defBody s__law_pool) (defScope s__law_pool) .none kV2 dc2 pm2 an2 cd2 ct2), sl2⟩) (c2 : PySem.W.codeIn K cd2 "_law_pool" = true) (k2 : PySem.W.keepIn K (.ref f2) = true)
    (a3 : PySem.W.nsIn K mainGlobals "_law_take" = some (some (.ref f3))) (l3 : K.lookup f3 = some ⟨oc3, od3, .func (PySem.W.fnOf "_law_take" "_law_take" (defArgs s__law_take) (defBody s__law_take) (defScope s__law_take) .none kV3 dc3 pm3 an3 cd3 ct3), sl3⟩) (c3 : PySem.W.codeIn K cd3 "_law_take" = true) (k3 : PySem.W.keepIn K (.ref f3) = true)
    (a4 : PySem.W.nsIn K mainGlobals "_law_chars" = some (some (.ref f4))) (l4 : K.lookup f4 = some ⟨oc4, od4, .func (PySem.W.fnOf "_law_chars" "_law_chars" (defArgs s__law_chars) (defBody s__law_chars) (defScope s__law_chars) .none kV4 dc4 pm4 an4 cd4 ct4), sl4⟩) (c4 : PySem.W.codeIn K cd4 "_law_chars" = true) (k4 : PySem.W.keepIn K (.ref f4) = true)
    (a5 : PySem.W.nsIn K mainGlobals "_law_flat" = some (some (.ref f5))) (l5 : K.lookup f5 = some ⟨oc5, od5, .func (PySem.W.fnOf "_law_flat" "_law_flat" (defArgs s__law_flat) (defBody s__law_flat) (defScope s__law_flat) .none kV5 dc5 pm5 an5 cd5 ct5), sl5⟩) (c5 : PySem.W.codeIn K cd5 "_law_flat" = true) (k5 : PySem.W.keepIn K (.ref f5) = true)
    (a6 : PySem.W.nsIn K mainGlobals "_law_tree" = some (some (.ref f6))) (l6 : K.lookup f6 = some ⟨oc6, od6, .func (PySem.W.fnOf "_law_tree" "_law_tree" (defArgs s__law_tree) (defBody s__law_tree) (defScope s__law_tree) .none kV6 dc6 pm6 an6 cd6 ct6), sl6⟩) (c6 : PySem.W.codeIn K cd6 "_law_tree" = true) (k6 : PySem.W.keepIn K (.ref f6) = true)
    (a7 : PySem.W.nsIn K mainGlobals "_law_escaped" = some (some (.ref f7))) (l7 : K.lookup f7 = some ⟨oc7, od7, .func (PySem.W.fnOf "_law_escaped" "_law_escaped" (defArgs s__law_escaped) (defBody s__law_escaped) (defScope s__law_escaped) .none kV7 dc7 pm7 an7 cd7 ct7), sl7⟩) (c7 : PySem.W.codeIn K cd7 "_law_escaped" = true) (k7 : PySem.W.keepIn K (.ref f7) = true)
    (a8 : PySem.W.nsIn K mainGlobals "_law_runs" = some (some (.ref f8))) (l8 : K.lookup f8 = some ⟨oc8, od8, .func (PySem.W.fnOf "_law_runs" "_law_runs" (defArgs s__law_runs) (defBody s__law_runs) (defScope s__law_runs) .none kV8 dc8 pm8 an8 cd8 ct8), sl8⟩) (c8 : PySem.W.codeIn K cd8 "_law_runs" = true) (k8 : PySem.W.keepIn K (.ref f8) = true)
    (a9 : PySem.W.nsIn K mainGlobals "_law_set" = some (some (.ref f9))) (l9 : K.lookup f9 = some ⟨oc9, od9, .func (PySem.W.fnOf "_law_set" "_law_set" (defArgs s__law_set) (defBody s__law_set) (defScope s__law_set) .none kV9 dc9 pm9 an9 cd9 ct9), sl9⟩) (c9 : PySem.W.codeIn K cd9 "_law_set" = true) (k9 : PySem.W.keepIn K (.ref f9) = true)
    (a10 : PySem.W.nsIn K mainGlobals "_law_canonical" = some (some (.ref f10))) (l10 : K.lookup f10 = some ⟨oc10, od10, .func (PySem.W.fnOf "_law_canonical" "_law_canonical" (defArgs s__law_canonical) (defBody s__law_canonical) (defScope s__law_canonical) .none kV10 dc10 pm10 an10 cd10 ct10), sl10⟩) (c10 : PySem.W.codeIn K cd10 "_law_canonical" = true) (k10 : PySem.W.keepIn K (.ref f10) = true)
    (a11 : PySem.W.nsIn K mainGlobals "_law_ends" = some (some (.ref f11))) (l11 : K.lookup f11 = some ⟨oc11, od11, .func (PySem.W.fnOf "_law_ends" "_law_ends" (defArgs s__law_ends) (defBody s__law_ends) (defScope s__law_ends) .none kV11 dc11 pm11 an11 cd11 ct11), sl11⟩) (c11 : PySem.W.codeIn K cd11 "_law_ends" = true) (k11 : PySem.W.keepIn K (.ref f11) = true)
    (a12 : PySem.W.nsIn K mainGlobals "_law_told" = some (some (.ref f12))) (l12 : K.lookup f12 = some ⟨oc12, od12, .func (PySem.W.fnOf "_law_told" "_law_told" (defArgs s__law_told) (defBody s__law_told) (defScope s__law_told) .none kV12 dc12 pm12 an12 cd12 ct12), sl12⟩) (c12 : PySem.W.codeIn K cd12 "_law_told" = true) (k12 : PySem.W.keepIn K (.ref f12) = true)
    (a13 : PySem.W.nsIn K mainGlobals "law" = some (some (.ref f13))) (l13 : K.lookup f13 = some ⟨oc13, od13, .func (PySem.W.fnOf "law" "law" (defArgs s_law) (defBody s_law) (defScope s_law) .none kV13 dc13 pm13 an13 cd13 ct13), sl13⟩) (c13 : PySem.W.codeIn K cd13 "law" = true) (k13 : PySem.W.keepIn K (.ref f13) = true)
    (z0 : PySem.W.nsIn K mainGlobals "ValueError" = some none)    (z1 : PySem.W.nsIn K mainGlobals "int" = some none)    (z2 : PySem.W.nsIn K mainGlobals "isinstance" = some none)    (z3 : PySem.W.nsIn K mainGlobals "len" = some none)    (z4 : PySem.W.nsIn K mainGlobals "list" = some none)    (z5 : PySem.W.nsIn K mainGlobals "min" = some none)    (z6 : PySem.W.nsIn K mainGlobals "range" = some none)    (z7 : PySem.W.nsIn K mainGlobals "tuple" = some none)    {zs0 : Str} {zt0 : Tok} (gs0 : PySem.W.nsIn K mainGlobals "ALPHABET" = some (some (.str zs0 zt0))) (ge0 : zs0 = tx cst_ALPHABET)
    {zs1 : Str} {zt1 : Tok} (gs1 : PySem.W.nsIn K mainGlobals "SIGNS" = some (some (.str zs1 zt1))) (ge1 : zs1 = tx cst_SIGNS)
    {zs2 : Str} {zt2 : Tok} (gs2 : PySem.W.nsIn K mainGlobals "SET_SIGNS" = some (some (.str zs2 zt2))) (ge2 : zs2 = tx cst_SET_SIGNS)
    {zs3 : Str} {zt3 : Tok} (gs3 : PySem.W.nsIn K mainGlobals "ESCAPED" = some (some (.str zs3 zt3))) (ge3 : zs3 = tx cst_ESCAPED)
    {ga4 : Addr} {gn4 : Nat} {gh4_0 gh4_1 gh4_2 : Int} {gz4_0 gv4_0 gz4_1 gv4_1 gz4_2 gv4_2 : Str} {gt4_0 gu4_0 gt4_1 gu4_1 gt4_2 gu4_2 : Tok} (gs4 : PySem.W.nsIn K mainGlobals "REPEATS" = some (some (.ref ga4))) (gk4 : K.lookup ga4 = some ⟨.type "dict", none, .dict #[⟨gh4_0, .str gz4_0 gt4_0, .str gv4_0 gu4_0⟩, ⟨gh4_1, .str gz4_1 gt4_1, .str gv4_1 gu4_1⟩, ⟨gh4_2, .str gz4_2 gt4_2, .str gv4_2 gu4_2⟩] gn4, #[]⟩) (ge4 : [(gz4_0, gv4_0), (gz4_1, gv4_1), (gz4_2, gv4_2)] = cst_REPEATS) (gb4 : (ga4 == sysModules) = false)
    (gq4_0 : gh4_0 = PyData.keyHash w.params gz4_0)
    (gq4_1 : gh4_1 = PyData.keyHash w.params gz4_1)
    (gq4_2 : gh4_2 = PyData.keyHash w.params gz4_2)
    {ga5 : Addr} {gd5 : Option Addr} {gn5 : Nat} {gl5 : Array (Option Value)} {gz5_0 gz5_1 gz5_2 : Str} {gt5_0 gt5_1 gt5_2 : Tok} (gs5 : PySem.W.nsIn K mainGlobals "SEQUENCE_ENDS" = some (some (.ref ga5))) (gk5 : K.lookup ga5 = some ⟨.type "tuple", gd5, .seq #[.str gz5_0 gt5_0, .str gz5_1 gt5_1, .str gz5_2 gt5_2] gn5, gl5⟩) (ge5 : [gz5_0, gz5_1, gz5_2] = cst_SEQUENCE_ENDS)
    {qC0 : Addr} (ke0 : PySem.W.nsIn K mainGlobals "PatternReader" = some (some (.ref qC0))) (kp0 : PySem.W.plainGet K qC0 Str.empty = true) (kh0 : PySem.W.hasDictIn K qC0 = true) (ko0 : PySem.W.plainOver K qC0 = true) (ks0 : PySem.W.findIn K (.ref qC0) "__setattr__" = some (some (.builtin "object.__setattr__"))) (km0 : PySem.W.makesIn K qC0 = true) (kk0 : PySem.W.keepIn K (.ref qC0) = true)
    (kf0_0 : PySem.W.findIn K (.ref qC0) "pattern" = some none)
    (kf0_1 : PySem.W.findIn K (.ref qC0) "at" = some none)
    {mf0_0 : Addr} {mod0_0 man0_0 : Option Addr} {msl0_0 : Array (Option Value)} {moc0_0 mkV0_0 mdc0_0 mpm0_0 mcd0_0 mct0_0 : Value} (ma0_0 : PySem.W.findIn K (.ref qC0) "__init__" = some (some (.ref mf0_0))) (mi0_0 : PySem.W.isFn K (.ref mf0_0) = true) (mk0_0 : PySem.W.keepIn K (.ref mf0_0) = true) (ml0_0 : K.lookup mf0_0 = some ⟨moc0_0, mod0_0, .func (PySem.W.fnOf "__init__" "PatternReader.__init__" (defArgs s_PatternReader___init__) (defBody s_PatternReader___init__) (defScope s_PatternReader___init__) .none mkV0_0 mdc0_0 mpm0_0 man0_0 mcd0_0 mct0_0), msl0_0⟩) (mc0_0 : PySem.W.codeIn K mcd0_0 "PatternReader.__init__" = true)
    {mf0_1 : Addr} {mod0_1 man0_1 : Option Addr} {msl0_1 : Array (Option Value)} {moc0_1 mkV0_1 mdc0_1 mpm0_1 mcd0_1 mct0_1 : Value} (ma0_1 : PySem.W.findIn K (.ref qC0) "ahead" = some (some (.ref mf0_1))) (mi0_1 : PySem.W.isFn K (.ref mf0_1) = true) (mk0_1 : PySem.W.keepIn K (.ref mf0_1) = true) (ml0_1 : K.lookup mf0_1 = some ⟨moc0_1, mod0_1, .func (PySem.W.fnOf "ahead" "PatternReader.ahead" (defArgs s_PatternReader_ahead) (defBody s_PatternReader_ahead) (defScope s_PatternReader_ahead) .none mkV0_1 mdc0_1 mpm0_1 man0_1 mcd0_1 mct0_1), msl0_1⟩) (mc0_1 : PySem.W.codeIn K mcd0_1 "PatternReader.ahead" = true)
    {mf0_2 : Addr} {mod0_2 man0_2 : Option Addr} {msl0_2 : Array (Option Value)} {moc0_2 mkV0_2 mdc0_2 mpm0_2 mcd0_2 mct0_2 : Value} (ma0_2 : PySem.W.findIn K (.ref qC0) "character" = some (some (.ref mf0_2))) (mi0_2 : PySem.W.isFn K (.ref mf0_2) = true) (mk0_2 : PySem.W.keepIn K (.ref mf0_2) = true) (ml0_2 : K.lookup mf0_2 = some ⟨moc0_2, mod0_2, .func (PySem.W.fnOf "character" "PatternReader.character" (defArgs s_PatternReader_character) (defBody s_PatternReader_character) (defScope s_PatternReader_character) .none mkV0_2 mdc0_2 mpm0_2 man0_2 mcd0_2 mct0_2), msl0_2⟩) (mc0_2 : PySem.W.codeIn K mcd0_2 "PatternReader.character" = true)
    {mf0_3 : Addr} {mod0_3 man0_3 : Option Addr} {msl0_3 : Array (Option Value)} {moc0_3 mkV0_3 mdc0_3 mpm0_3 mcd0_3 mct0_3 : Value} (ma0_3 : PySem.W.findIn K (.ref qC0) "alternatives" = some (some (.ref mf0_3))) (mi0_3 : PySem.W.isFn K (.ref mf0_3) = true) (mk0_3 : PySem.W.keepIn K (.ref mf0_3) = true) (ml0_3 : K.lookup mf0_3 = some ⟨moc0_3, mod0_3, .func (PySem.W.fnOf "alternatives" "PatternReader.alternatives" (defArgs s_PatternReader_alternatives) (defBody s_PatternReader_alternatives) (defScope s_PatternReader_alternatives) .none mkV0_3 mdc0_3 mpm0_3 man0_3 mcd0_3 mct0_3), msl0_3⟩) (mc0_3 : PySem.W.codeIn K mcd0_3 "PatternReader.alternatives" = true)
    {mf0_4 : Addr} {mod0_4 man0_4 : Option Addr} {msl0_4 : Array (Option Value)} {moc0_4 mkV0_4 mdc0_4 mpm0_4 mcd0_4 mct0_4 : Value} (ma0_4 : PySem.W.findIn K (.ref qC0) "sequence" = some (some (.ref mf0_4))) (mi0_4 : PySem.W.isFn K (.ref mf0_4) = true) (mk0_4 : PySem.W.keepIn K (.ref mf0_4) = true) (ml0_4 : K.lookup mf0_4 = some ⟨moc0_4, mod0_4, .func (PySem.W.fnOf "sequence" "PatternReader.sequence" (defArgs s_PatternReader_sequence) (defBody s_PatternReader_sequence) (defScope s_PatternReader_sequence) .none mkV0_4 mdc0_4 mpm0_4 man0_4 mcd0_4 mct0_4), msl0_4⟩) (mc0_4 : PySem.W.codeIn K mcd0_4 "PatternReader.sequence" = true)
    {mf0_5 : Addr} {mod0_5 man0_5 : Option Addr} {msl0_5 : Array (Option Value)} {moc0_5 mkV0_5 mdc0_5 mpm0_5 mcd0_5 mct0_5 : Value} (ma0_5 : PySem.W.findIn K (.ref qC0) "part" = some (some (.ref mf0_5))) (mi0_5 : PySem.W.isFn K (.ref mf0_5) = true) (mk0_5 : PySem.W.keepIn K (.ref mf0_5) = true) (ml0_5 : K.lookup mf0_5 = some ⟨moc0_5, mod0_5, .func (PySem.W.fnOf "part" "PatternReader.part" (defArgs s_PatternReader_part) (defBody s_PatternReader_part) (defScope s_PatternReader_part) .none mkV0_5 mdc0_5 mpm0_5 man0_5 mcd0_5 mct0_5), msl0_5⟩) (mc0_5 : PySem.W.codeIn K mcd0_5 "PatternReader.part" = true)
    {mf0_6 : Addr} {mod0_6 man0_6 : Option Addr} {msl0_6 : Array (Option Value)} {moc0_6 mkV0_6 mdc0_6 mpm0_6 mcd0_6 mct0_6 : Value} (ma0_6 : PySem.W.findIn K (.ref qC0) "element" = some (some (.ref mf0_6))) (mi0_6 : PySem.W.isFn K (.ref mf0_6) = true) (mk0_6 : PySem.W.keepIn K (.ref mf0_6) = true) (ml0_6 : K.lookup mf0_6 = some ⟨moc0_6, mod0_6, .func (PySem.W.fnOf "element" "PatternReader.element" (defArgs s_PatternReader_element) (defBody s_PatternReader_element) (defScope s_PatternReader_element) .none mkV0_6 mdc0_6 mpm0_6 man0_6 mcd0_6 mct0_6), msl0_6⟩) (mc0_6 : PySem.W.codeIn K mcd0_6 "PatternReader.element" = true)
    {mf0_7 : Addr} {mod0_7 man0_7 : Option Addr} {msl0_7 : Array (Option Value)} {moc0_7 mkV0_7 mdc0_7 mpm0_7 mcd0_7 mct0_7 : Value} (ma0_7 : PySem.W.findIn K (.ref qC0) "group" = some (some (.ref mf0_7))) (mi0_7 : PySem.W.isFn K (.ref mf0_7) = true) (mk0_7 : PySem.W.keepIn K (.ref mf0_7) = true) (ml0_7 : K.lookup mf0_7 = some ⟨moc0_7, mod0_7, .func (PySem.W.fnOf "group" "PatternReader.group" (defArgs s_PatternReader_group) (defBody s_PatternReader_group) (defScope s_PatternReader_group) .none mkV0_7 mdc0_7 mpm0_7 man0_7 mcd0_7 mct0_7), msl0_7⟩) (mc0_7 : PySem.W.codeIn K mcd0_7 "PatternReader.group" = true)
    {mf0_8 : Addr} {mod0_8 man0_8 : Option Addr} {msl0_8 : Array (Option Value)} {moc0_8 mkV0_8 mdc0_8 mpm0_8 mcd0_8 mct0_8 : Value} (ma0_8 : PySem.W.findIn K (.ref qC0) "escape" = some (some (.ref mf0_8))) (mi0_8 : PySem.W.isFn K (.ref mf0_8) = true) (mk0_8 : PySem.W.keepIn K (.ref mf0_8) = true) (ml0_8 : K.lookup mf0_8 = some ⟨moc0_8, mod0_8, .func (PySem.W.fnOf "escape" "PatternReader.escape" (defArgs s_PatternReader_escape) (defBody s_PatternReader_escape) (defScope s_PatternReader_escape) .none mkV0_8 mdc0_8 mpm0_8 man0_8 mcd0_8 mct0_8), msl0_8⟩) (mc0_8 : PySem.W.codeIn K mcd0_8 "PatternReader.escape" = true)
    {mf0_9 : Addr} {mod0_9 man0_9 : Option Addr} {msl0_9 : Array (Option Value)} {moc0_9 mkV0_9 mdc0_9 mpm0_9 mcd0_9 mct0_9 : Value} (ma0_9 : PySem.W.findIn K (.ref qC0) "set_characters" = some (some (.ref mf0_9))) (mi0_9 : PySem.W.isFn K (.ref mf0_9) = true) (mk0_9 : PySem.W.keepIn K (.ref mf0_9) = true) (ml0_9 : K.lookup mf0_9 = some ⟨moc0_9, mod0_9, .func (PySem.W.fnOf "set_characters" "PatternReader.set_characters" (defArgs s_PatternReader_set_characters) (defBody s_PatternReader_set_characters) (defScope s_PatternReader_set_characters) .none mkV0_9 mdc0_9 mpm0_9 man0_9 mcd0_9 mct0_9), msl0_9⟩) (mc0_9 : PySem.W.codeIn K mcd0_9 "PatternReader.set_characters" = true)
    {mf0_10 : Addr} {mod0_10 man0_10 : Option Addr} {msl0_10 : Array (Option Value)} {moc0_10 mkV0_10 mdc0_10 mpm0_10 mcd0_10 mct0_10 : Value} (ma0_10 : PySem.W.findIn K (.ref qC0) "member" = some (some (.ref mf0_10))) (mi0_10 : PySem.W.isFn K (.ref mf0_10) = true) (mk0_10 : PySem.W.keepIn K (.ref mf0_10) = true) (ml0_10 : K.lookup mf0_10 = some ⟨moc0_10, mod0_10, .func (PySem.W.fnOf "member" "PatternReader.member" (defArgs s_PatternReader_member) (defBody s_PatternReader_member) (defScope s_PatternReader_member) .none mkV0_10 mdc0_10 mpm0_10 man0_10 mcd0_10 mct0_10), msl0_10⟩) (mc0_10 : PySem.W.codeIn K mcd0_10 "PatternReader.member" = true)
    {mf0_11 : Addr} {mod0_11 man0_11 : Option Addr} {msl0_11 : Array (Option Value)} {moc0_11 mkV0_11 mdc0_11 mpm0_11 mcd0_11 mct0_11 : Value} (ma0_11 : PySem.W.findIn K (.ref qC0) "set_character" = some (some (.ref mf0_11))) (mi0_11 : PySem.W.isFn K (.ref mf0_11) = true) (mk0_11 : PySem.W.keepIn K (.ref mf0_11) = true) (ml0_11 : K.lookup mf0_11 = some ⟨moc0_11, mod0_11, .func (PySem.W.fnOf "set_character" "PatternReader.set_character" (defArgs s_PatternReader_set_character) (defBody s_PatternReader_set_character) (defScope s_PatternReader_set_character) .none mkV0_11 mdc0_11 mpm0_11 man0_11 mcd0_11 mct0_11), msl0_11⟩) (mc0_11 : PySem.W.codeIn K mcd0_11 "PatternReader.set_character" = true)
    (aT : PySem.W.nsIn K mainGlobals "TongueError" = some (some (.ref CT))) (iT : PySem.W.isClsIn K CT = true) (yT : PySem.W.typeIn K (.ref CT) = some (.type "type"))
    (eC0 : PySem.W.nsIn K mainGlobals "BadPattern" = some (some (.ref C0)))
    (xL0 : K.lookup C0 = some (excClassObj nm0 q0 C0 N0 bs0 [.ref CT, .type "ValueError", .type "Exception", .type "BaseException", .type "object"] true sn0 sub0 ab0 col0 dd0 jj0_0 jj1_0 jj2_0 jj3_0 jj5_0 "ValueError.__new__"))
    (sa0 : PySem.W.findIn K (.ref C0) "__setattr__" = some (some (.builtin "object.__setattr__")))
    (ga0 : PySem.W.findIn K (.ref C0) "__getattribute__" = some (some (.builtin "BaseException.__getattribute__")))
    (gg0 : PySem.W.findIn K (.ref C0) "__getattr__" = some none)
    (n1_0 : PySem.W.findIn K (.ref C0) "position" = some none)
    (iI0 : PySem.W.findIn K (.ref C0) "__init__" = some (some (.ref fI0)))
    (tI0 : PySem.W.typeIn K (.ref fI0) = some (.type "function"))
    (lI0 : K.lookup fI0 = some ⟨ocI0, odI0, .func (PySem.W.fnOf "__init__" "BadPattern.__init__" (defArgs s_BadPattern_init) (defBody s_BadPattern_init) (defScope s_BadPattern_init) .none kVI0 dcI0 pmI0 anI0 cdI0 ctI0), slI0⟩)
    (cI0 : PySem.W.codeIn K cdI0 "BadPattern.__init__" = true)
    (kI0 : PySem.W.keepIn K (.ref fI0) = true)
    (kC0 : PySem.W.keepIn K (.ref C0) = true)
    (xC0 : PySem.W.subIn K (.ref C0) (.type "BaseException") = some true)
    (tC0 : PySem.W.typeIn K (.ref C0) = some (.type "type"))
    (hC0 : PySem.W.hasDictIn K C0 = true)
    (jC0 : PySem.W.isClsIn K C0 = true)
    (sC0 : PySem.W.subIn K (.ref C0) (.ref C0) = some true)
    (uC0 : PySem.W.subIn K (.ref C0) (.ref CT) = some true)
    (vC0 : PySem.W.subIn K (.ref C0) (.type "ValueError") = some true)
    (gC0 : PySem.W.findIn K (.ref C0) "__class__" = some (some (.builtin "object.__class__")))
    (oC0 : PySem.W.specialIn K (.builtin "object.__class__") "__get__" = some (some (.builtin "getset_descriptor.__get__")))
    (wC0 : PySem.W.takesIn K (.builtin "object.__class__") = some true)
    (mC0 : PySem.W.mroIn K C0 (.type "object") = some true)
 :
    ∃ fd : FuncData, (∀ (s : Shared) (v : Value), BindsTo s fd ⟨[v], []⟩ [("script", v)]) ∧ ∀ base : Heap, K.In base → base.Ns mainGlobals mg → FnOk l.prog w K mg base CX0 lawLevel fa fd ["script"] (Spc K W_law) := by
  have e := hfa.symm.trans (PySem.W.mg_of X G a13)
  cases e
  have T : Top K mg w := ⟨⟨f0, _, fun_mk (st := s_read_pattern) l0 c0 k0, PySem.W.mg_of X G a0, (fun_mk (st := s_read_pattern) l0 c0 k0).binds (ps := ["text"]) fun _ _ _ _ _ _ us hl => match us, hl with | [_], _ => rfl⟩, ⟨f1, _, fun_mk (st := s_joined) l1 c1 k1, PySem.W.mg_of X G a1, (fun_mk (st := s_joined) l1 c1 k1).binds (ps := ["sort", "trees"]) fun _ _ _ _ _ _ us hl => match us, hl with | [_, _], _ => rfl⟩, ⟨f2, _, fun_mk (st := s__law_pool) l2 c2 k2, PySem.W.mg_of X G a2, (fun_mk (st := s__law_pool) l2 c2 k2).binds (ps := ["script"]) fun _ _ _ _ _ _ us hl => match us, hl with | [_], _ => rfl⟩, ⟨f3, _, fun_mk (st := s__law_take) l3 c3 k3, PySem.W.mg_of X G a3, (fun_mk (st := s__law_take) l3 c3 k3).binds (ps := ["pool", "many"]) fun _ _ _ _ _ _ us hl => match us, hl with | [_, _], _ => rfl⟩, ⟨f4, _, fun_mk (st := s__law_chars) l4 c4 k4, PySem.W.mg_of X G a4, (fun_mk (st := s__law_chars) l4 c4 k4).binds (ps := ["pool"]) fun _ _ _ _ _ _ us hl => match us, hl with | [_], _ => rfl⟩, ⟨f5, _, fun_mk (st := s__law_flat) l5 c5 k5, PySem.W.mg_of X G a5, (fun_mk (st := s__law_flat) l5 c5 k5).binds (ps := ["head", "parts"]) fun _ _ _ _ _ _ us hl => match us, hl with | [_, _], _ => rfl⟩, ⟨f6, _, fun_mk (st := s__law_tree) l6 c6 k6, PySem.W.mg_of X G a6, (fun_mk (st := s__law_tree) l6 c6 k6).binds (ps := ["pool", "deep"]) fun _ _ _ _ _ _ us hl => match us, hl with | [_, _], _ => rfl⟩, ⟨f7, _, fun_mk (st := s__law_escaped) l7 c7 k7, PySem.W.mg_of X G a7, (fun_mk (st := s__law_escaped) l7 c7 k7).binds (ps := ["sign", "barred"]) fun _ _ _ _ _ _ us hl => match us, hl with | [_, _], _ => rfl⟩, ⟨f8, _, fun_mk (st := s__law_runs) l8 c8 k8, PySem.W.mg_of X G a8, (fun_mk (st := s__law_runs) l8 c8 k8).binds (ps := ["chars"]) fun _ _ _ _ _ _ us hl => match us, hl with | [_], _ => rfl⟩, ⟨f9, _, fun_mk (st := s__law_set) l9 c9 k9, PySem.W.mg_of X G a9, (fun_mk (st := s__law_set) l9 c9 k9).binds (ps := ["chars"]) fun _ _ _ _ _ _ us hl => match us, hl with | [_], _ => rfl⟩, ⟨f10, _, fun_mk (st := s__law_canonical) l10 c10 k10, PySem.W.mg_of X G a10, (fun_mk (st := s__law_canonical) l10 c10 k10).binds (ps := ["tree"]) fun _ _ _ _ _ _ us hl => match us, hl with | [_], _ => rfl⟩, ⟨f11, _, fun_mk (st := s__law_ends) l11 c11 k11, PySem.W.mg_of X G a11, (fun_mk (st := s__law_ends) l11 c11 k11).binds (ps := []) fun _ _ _ _ _ _ us hl => match us, hl with | [], _ => rfl⟩, ⟨f12, _, fun_mk (st := s__law_told) l12 c12 k12, PySem.W.mg_of X G a12, (fun_mk (st := s__law_told) l12 c12 k12).binds (ps := ["text"]) fun _ _ _ _ _ _ us hl => match us, hl with | [_], _ => rfl⟩, PySem.W.mg_none_of X G z0, PySem.W.mg_none_of X G z1, PySem.W.mg_none_of X G z2, PySem.W.mg_none_of X G z3, PySem.W.mg_none_of X G z4, PySem.W.mg_none_of X G z5, PySem.W.mg_none_of X G z6, PySem.W.mg_none_of X G z7, ⟨zt0, by rw [← ge0]; exact PySem.W.mg_of X G gs0⟩, ⟨zt1, by rw [← ge1]; exact PySem.W.mg_of X G gs1⟩, ⟨zt2, by rw [← ge2]; exact PySem.W.mg_of X G gs2⟩, ⟨zt3, by rw [← ge3]; exact PySem.W.mg_of X G gs3⟩, ⟨ga4, PySem.W.mg_of X G gs4, by rw [← ge4]; exact ⟨⟨_, _, gk4, ⟨⟨_, _, rfl, gq4_0⟩, ⟨_, _, rfl, gq4_1⟩, ⟨_, _, rfl, gq4_2⟩, True.intro⟩, ⟨_, _, _, _, _, rfl, rfl, rfl, ⟨_, _, _, _, _, rfl, rfl, rfl, ⟨_, _, _, _, _, rfl, rfl, rfl, rfl⟩⟩⟩⟩, gb4⟩⟩, ⟨ga5, PySem.W.mg_of X G gs5, by rw [← ge5]; exact rep_gtup (its := [.str gz5_0 gt5_0, .str gz5_1 gt5_1, .str gz5_2 gt5_2]) gk5 ⟨⟨_, rfl⟩, ⟨_, rfl⟩, ⟨_, rfl⟩, True.intro⟩ (by show 3 ≤ sizeLine; decide)⟩, ⟨qC0, ⟨kp0, kh0, ko0, ks0⟩, PySem.W.mg_of X G ke0, kf0_0, kf0_1, ⟨mf0_0, _, fun_mk (st := s_PatternReader___init__) ml0_0 mc0_0 mk0_0, ⟨ma0_0, mi0_0, mk0_0⟩, (fun_mk (st := s_PatternReader___init__) ml0_0 mc0_0 mk0_0).binds (ps := ["self", "pattern"]) fun _ _ _ _ _ _ us hl => match us, hl with | [_, _], _ => rfl⟩, ⟨mf0_1, _, fun_mk (st := s_PatternReader_ahead) ml0_1 mc0_1 mk0_1, ⟨ma0_1, mi0_1, mk0_1⟩, (fun_mk (st := s_PatternReader_ahead) ml0_1 mc0_1 mk0_1).binds (ps := ["self"]) fun _ _ _ _ _ _ us hl => match us, hl with | [_], _ => rfl⟩, ⟨mf0_2, _, fun_mk (st := s_PatternReader_character) ml0_2 mc0_2 mk0_2, ⟨ma0_2, mi0_2, mk0_2⟩, (fun_mk (st := s_PatternReader_character) ml0_2 mc0_2 mk0_2).binds (ps := ["self"]) fun _ _ _ _ _ _ us hl => match us, hl with | [_], _ => rfl⟩, ⟨mf0_3, _, fun_mk (st := s_PatternReader_alternatives) ml0_3 mc0_3 mk0_3, ⟨ma0_3, mi0_3, mk0_3⟩, (fun_mk (st := s_PatternReader_alternatives) ml0_3 mc0_3 mk0_3).binds (ps := ["self"]) fun _ _ _ _ _ _ us hl => match us, hl with | [_], _ => rfl⟩, ⟨mf0_4, _, fun_mk (st := s_PatternReader_sequence) ml0_4 mc0_4 mk0_4, ⟨ma0_4, mi0_4, mk0_4⟩, (fun_mk (st := s_PatternReader_sequence) ml0_4 mc0_4 mk0_4).binds (ps := ["self"]) fun _ _ _ _ _ _ us hl => match us, hl with | [_], _ => rfl⟩, ⟨mf0_5, _, fun_mk (st := s_PatternReader_part) ml0_5 mc0_5 mk0_5, ⟨ma0_5, mi0_5, mk0_5⟩, (fun_mk (st := s_PatternReader_part) ml0_5 mc0_5 mk0_5).binds (ps := ["self"]) fun _ _ _ _ _ _ us hl => match us, hl with | [_], _ => rfl⟩, ⟨mf0_6, _, fun_mk (st := s_PatternReader_element) ml0_6 mc0_6 mk0_6, ⟨ma0_6, mi0_6, mk0_6⟩, (fun_mk (st := s_PatternReader_element) ml0_6 mc0_6 mk0_6).binds (ps := ["self"]) fun _ _ _ _ _ _ us hl => match us, hl with | [_], _ => rfl⟩, ⟨mf0_7, _, fun_mk (st := s_PatternReader_group) ml0_7 mc0_7 mk0_7, ⟨ma0_7, mi0_7, mk0_7⟩, (fun_mk (st := s_PatternReader_group) ml0_7 mc0_7 mk0_7).binds (ps := ["self"]) fun _ _ _ _ _ _ us hl => match us, hl with | [_], _ => rfl⟩, ⟨mf0_8, _, fun_mk (st := s_PatternReader_escape) ml0_8 mc0_8 mk0_8, ⟨ma0_8, mi0_8, mk0_8⟩, (fun_mk (st := s_PatternReader_escape) ml0_8 mc0_8 mk0_8).binds (ps := ["self"]) fun _ _ _ _ _ _ us hl => match us, hl with | [_], _ => rfl⟩, ⟨mf0_9, _, fun_mk (st := s_PatternReader_set_characters) ml0_9 mc0_9 mk0_9, ⟨ma0_9, mi0_9, mk0_9⟩, (fun_mk (st := s_PatternReader_set_characters) ml0_9 mc0_9 mk0_9).binds (ps := ["self"]) fun _ _ _ _ _ _ us hl => match us, hl with | [_], _ => rfl⟩, ⟨mf0_10, _, fun_mk (st := s_PatternReader_member) ml0_10 mc0_10 mk0_10, ⟨ma0_10, mi0_10, mk0_10⟩, (fun_mk (st := s_PatternReader_member) ml0_10 mc0_10 mk0_10).binds (ps := ["self"]) fun _ _ _ _ _ _ us hl => match us, hl with | [_], _ => rfl⟩, ⟨mf0_11, _, fun_mk (st := s_PatternReader_set_character) ml0_11 mc0_11 mk0_11, ⟨ma0_11, mi0_11, mk0_11⟩, (fun_mk (st := s_PatternReader_set_character) ml0_11 mc0_11 mk0_11).binds (ps := ["self"]) fun _ _ _ _ _ _ us hl => match us, hl with | [_], _ => rfl⟩, km0, kk0⟩, ⟨C0, CT, ⟨⟨⟨nm0, q0, N0, bs0, _, sn0, sub0, ab0, col0, dd0, jj0_0, jj1_0, jj2_0, jj3_0, jj5_0, xL0, rfl⟩, sa0, xC0, tC0, kC0⟩, PySem.W.mg_of X G eC0, ⟨fI0, _, iI0, tI0, fun_mk (st := s_BadPattern_init) lI0 cI0 kI0, (fun_mk (st := s_BadPattern_init) lI0 cI0 kI0).binds (ps := ["self", "position"]) fun _ _ _ _ _ _ us hl => match us, hl with | [_, _], _ => rfl⟩, n1_0, ⟨ga0, gg0, xC0, hC0⟩, exm_self xC0 jC0 tC0 sC0, ⟨ga0, gg0, xC0, hC0, gC0, oC0, wC0, mC0⟩⟩, PySem.W.mg_of X G aT, kit_ref iT yT uC0, kit_ty (by decide +kernel) vC0⟩⟩
  exact ⟨PySem.W.fnOf "law" "law" (defArgs s_law) (defBody s_law) (defScope s_law) .none kV13 dc13 pm13 an13 cd13 ct13, fun s v => .of_eq rfl, fun base _ _ => ok_law T (fun_mk (st := s_law) l13 c13 k13)⟩


end PK

open PySem PySem.W PyProof.Rows
set_option maxHeartbeats 0 in
theorem PySem.Challenge.cw_tongues_k07_patterns_refused_holds : PySem.Challenge.rw_tongues_k07_patterns_refused.Holds := by
  w_on; o_law; k_head; (case hw => w_witness2)
  k_fill
  refine L2.walk_ofK (l := PySem.Challenge.rw_tongues_k07_patterns_refused) (n := 63) (k := PK.lawLevel) (x := "script") (CX := L2.CX0) (sp := fun K => Tg.Spc K PK.W_law) rfl (by decide) rfl ⟨rfl, by decide, by decide⟩ (fun w h Y => PySem.W.kIn_of Y) ?F (fun K H a ns hl _ hS => PK.law_asks hS hl) (fun _ _ _ _ h => h)
  case F =>
    intro w mg fa h KX G hmg
    refine' PK.all_mk KX G hmg ?a0 ?l0 ?c0 ?k0 ?a1 ?l1 ?c1 ?k1 ?a2 ?l2 ?c2 ?k2 ?a3 ?l3 ?c3 ?k3 ?a4 ?l4 ?c4 ?k4 ?a5 ?l5 ?c5 ?k5 ?a6 ?l6 ?c6 ?k6 ?a7 ?l7 ?c7 ?k7 ?a8 ?l8 ?c8 ?k8 ?a9 ?l9 ?c9 ?k9 ?a10 ?l10 ?c10 ?k10 ?a11 ?l11 ?c11 ?k11 ?a12 ?l12 ?c12 ?k12 ?a13 ?l13 ?c13 ?k13 ?z0 ?z1 ?z2 ?z3 ?z4 ?z5 ?z6 ?z7 ?gs0 ?ge0 ?gs1 ?ge1 ?gs2 ?ge2 ?gs3 ?ge3 ?gs4 ?gk4 ?ge4 ?gb4 ?gq4_0 ?gq4_1 ?gq4_2 ?gs5 ?gk5 ?ge5 ?ke0 ?kp0 ?kh0 ?ko0 ?ks0 ?km0 ?kk0 ?kf0_0 ?kf0_1 ?ma0_0 ?mi0_0 ?mk0_0 ?ml0_0 ?mc0_0 ?ma0_1 ?mi0_1 ?mk0_1 ?ml0_1 ?mc0_1 ?ma0_2 ?mi0_2 ?mk0_2 ?ml0_2 ?mc0_2 ?ma0_3 ?mi0_3 ?mk0_3 ?ml0_3 ?mc0_3 ?ma0_4 ?mi0_4 ?mk0_4 ?ml0_4 ?mc0_4 ?ma0_5 ?mi0_5 ?mk0_5 ?ml0_5 ?mc0_5 ?ma0_6 ?mi0_6 ?mk0_6 ?ml0_6 ?mc0_6 ?ma0_7 ?mi0_7 ?mk0_7 ?ml0_7 ?mc0_7 ?ma0_8 ?mi0_8 ?mk0_8 ?ml0_8 ?mc0_8 ?ma0_9 ?mi0_9 ?mk0_9 ?ml0_9 ?mc0_9 ?ma0_10 ?mi0_10 ?mk0_10 ?ml0_10 ?mc0_10 ?ma0_11 ?mi0_11 ?mk0_11 ?ml0_11 ?mc0_11 ?aT ?iT ?yT ?eC0 ?xL0 ?sa0 ?ga0 ?gg0 ?n1_0 ?iI0 ?tI0 ?lI0 ?cI0 ?kI0 ?kC0 ?xC0 ?tC0 ?hC0 ?jC0 ?sC0 ?uC0 ?vC0 ?gC0 ?oC0 ?wC0 ?mC0
    (case a0 => k_is); (case l0 => k_is); (case c0 => k_is); (case k0 => k_is); (case a1 => k_is); (case l1 => k_is); (case c1 => k_is); (case k1 => k_is); (case a2 => k_is); (case l2 => k_is); (case c2 => k_is); (case k2 => k_is); (case a3 => k_is); (case l3 => k_is); (case c3 => k_is); (case k3 => k_is); (case a4 => k_is); (case l4 => k_is); (case c4 => k_is); (case k4 => k_is); (case a5 => k_is); (case l5 => k_is); (case c5 => k_is); (case k5 => k_is); (case a6 => k_is); (case l6 => k_is); (case c6 => k_is); (case k6 => k_is); (case a7 => k_is); (case l7 => k_is); (case c7 => k_is); (case k7 => k_is); (case a8 => k_is); (case l8 => k_is); (case c8 => k_is); (case k8 => k_is); (case a9 => k_is); (case l9 => k_is); (case c9 => k_is); (case k9 => k_is); (case a10 => k_is); (case l10 => k_is); (case c10 => k_is); (case k10 => k_is); (case a11 => k_is); (case l11 => k_is); (case c11 => k_is); (case k11 => k_is); (case a12 => k_is); (case l12 => k_is); (case c12 => k_is); (case k12 => k_is); (case a13 => k_is); (case l13 => k_is); (case c13 => k_is); (case k13 => k_is); (case z0 => k_is); (case z1 => k_is); (case z2 => k_is); (case z3 => k_is); (case z4 => k_is); (case z5 => k_is); (case z6 => k_is); (case z7 => k_is); (case gs0 => k_is); (case ge0 => first | rfl | decide +kernel); (case gs1 => k_is); (case ge1 => first | rfl | decide +kernel); (case gs2 => k_is); (case ge2 => first | rfl | decide +kernel); (case gs3 => k_is); (case ge3 => first | rfl | decide +kernel); (case gs4 => k_is); (case gk4 => k_is); (case ge4 => first | rfl | decide +kernel); (case gb4 => first | rfl | decide +kernel); (case gq4_0 => first | rfl | decide +kernel); (case gq4_1 => first | rfl | decide +kernel); (case gq4_2 => first | rfl | decide +kernel); (case gs5 => k_is); (case gk5 => k_is); (case ge5 => first | rfl | decide +kernel); (case ke0 => k_is); (case kp0 => k_is); (case kh0 => k_is); (case ko0 => k_is); (case ks0 => k_is); (case km0 => k_is); (case kk0 => k_is); (case kf0_0 => k_is); (case kf0_1 => k_is); (case ma0_0 => k_is); (case mi0_0 => k_is); (case mk0_0 => k_is); (case ml0_0 => k_is); (case mc0_0 => k_is); (case ma0_1 => k_is); (case mi0_1 => k_is); (case mk0_1 => k_is); (case ml0_1 => k_is); (case mc0_1 => k_is); (case ma0_2 => k_is); (case mi0_2 => k_is); (case mk0_2 => k_is); (case ml0_2 => k_is); (case mc0_2 => k_is); (case ma0_3 => k_is); (case mi0_3 => k_is); (case mk0_3 => k_is); (case ml0_3 => k_is); (case mc0_3 => k_is); (case ma0_4 => k_is); (case mi0_4 => k_is); (case mk0_4 => k_is); (case ml0_4 => k_is); (case mc0_4 => k_is); (case ma0_5 => k_is); (case mi0_5 => k_is); (case mk0_5 => k_is); (case ml0_5 => k_is); (case mc0_5 => k_is); (case ma0_6 => k_is); (case mi0_6 => k_is); (case mk0_6 => k_is); (case ml0_6 => k_is); (case mc0_6 => k_is); (case ma0_7 => k_is); (case mi0_7 => k_is); (case mk0_7 => k_is); (case ml0_7 => k_is); (case mc0_7 => k_is); (case ma0_8 => k_is); (case mi0_8 => k_is); (case mk0_8 => k_is); (case ml0_8 => k_is); (case mc0_8 => k_is); (case ma0_9 => k_is); (case mi0_9 => k_is); (case mk0_9 => k_is); (case ml0_9 => k_is); (case mc0_9 => k_is); (case ma0_10 => k_is); (case mi0_10 => k_is); (case mk0_10 => k_is); (case ml0_10 => k_is); (case mc0_10 => k_is); (case ma0_11 => k_is); (case mi0_11 => k_is); (case mk0_11 => k_is); (case ml0_11 => k_is); (case mc0_11 => k_is); (case aT => k_is); (case iT => k_is); (case yT => k_is); (case eC0 => k_is); (case xL0 => k_is); (case sa0 => k_is); (case ga0 => k_is); (case gg0 => k_is); (case n1_0 => k_is); (case iI0 => k_is); (case tI0 => k_is); (case lI0 => k_is); (case cI0 => k_is); (case kI0 => k_is); (case kC0 => k_is); (case xC0 => k_is); (case tC0 => k_is); (case hC0 => k_is); (case jC0 => k_is); (case sC0 => k_is); (case uC0 => k_is); (case vC0 => k_is); (case gC0 => k_is); (case oC0 => k_is); (case wC0 => k_is); (case mC0 => k_is)
