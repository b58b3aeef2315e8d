import PyProof.Rows.All
import Wide.All
import OpenK.AllK
import Wide.FinOn
import HandS.ForMost
import HandS.IsInst
import HandS.Codes
import HandS.Steps
import HandS.Exc
import HandS.TupAny
import HandS.StrMore
import HandS.Flow
import HandS.Small
import HandS.Conv
import PyProof.Rows.RegReprOcc
import PyProof.StrLawsLast
import KE.GoesEnum
import HandS.ForExc
import HandS.ExcInit
import HandS.ExcField
import HandS.ExcIs
import KE.KExcIs
import PyProof.ReprLen
import PyProof.ReprRoads
import PyProof.StrLawsRepr
import PyProof.FitsInt
import HandS.Ends
import Wide.All
import OpenK.AllK
import Wide.FinOn
import PySem.Challenge.RW_tongues_k01_changes
set_option Elab.async false
set_option linter.all false
set_option maxRecDepth 100000
set_option maxHeartbeats 1000000
/-! Tg: readings over deep data: what a reading asks, said of values without addresses. -/
namespace Tg
open PySem L2

/-! ### deep data -/
inductive D where
  | non | bl (b : Bool) | int (i : Int) | str (s : Str) | ty (n : String) | ref (a : Addr)
  | tup (ds : List D) | lst (ds : List D) | lsk (ds : List D)

mutual
def Rep (K : PySem.W.Frag) (G : Hp) : D → V → Prop
  | .non, v => v = .non
  | .bl b, v => v = .bl b
  | .int i, v => v = .int i
  | .str s, v => v = .str s
  | .ty n, v => v = .ty n
  | .ref a, v => v = .ref a
  | .tup ds, v => ∃ a xs, v = .ref a ∧ SqT K G a xs ∧ Reps K G ds xs
  | .lst ds, v => ∃ a xs, v = .ref a ∧ G a = some (.lst xs) ∧ Reps K G ds xs
  | .lsk ds, v => ∃ a xs, v = .ref a ∧ SqL K G a xs ∧ Reps K G ds xs
def Reps (K : PySem.W.Frag) (G : Hp) : List D → List V → Prop
  | [], xs => xs = []
  | d :: ds, xs => ∃ x r, xs = x :: r ∧ Rep K G d x ∧ Reps K G ds r
end

section
variable {K : PySem.W.Frag} {G G' H H' : Hp}
theorem Same.seqT {a : Addr} {xs : List V} (e : Same G G') (h : SqT K G a xs) : SqT K G' a xs := by
  rcases h with (h | ⟨o, h⟩) | h
  · exact .inl (.inl (e _ _ h))
  · exact .inl (.inr ⟨o, e _ _ h⟩)
  · exact .inr h
mutual
theorem Rep.mono (e : Same G G') : ∀ (d : D) (v : V), Rep K G d v → Rep K G' d v
  | .non, _, h => h
  | .bl _, _, h => h
  | .int _, _, h => h
  | .str _, _, h => h
  | .ty _, _, h => h
  | .ref _, _, h => h
  | .tup ds, _, h => by
    unfold Rep at h ⊢
    obtain ⟨a, xs, r, q, s⟩ := h
    exact ⟨a, xs, r, Same.seqT e q, Reps.mono e ds xs s⟩
  | .lst ds, _, h => by
    unfold Rep at h ⊢
    obtain ⟨a, xs, r, q, s⟩ := h
    exact ⟨a, xs, r, e _ _ q, Reps.mono e ds xs s⟩
  | .lsk ds, _, h => by
    unfold Rep at h ⊢
    obtain ⟨a, xs, r, q, s⟩ := h
    exact ⟨a, xs, r, e.seq q, Reps.mono e ds xs s⟩
theorem Reps.mono (e : Same G G') : ∀ (ds : List D) (xs : List V), Reps K G ds xs → Reps K G' ds xs
  | [], _, h => h
  | d :: ds, _, h => by
    unfold Reps at h ⊢
    obtain ⟨x, r, q, s, t⟩ := h
    exact ⟨x, r, q, Rep.mono e d x s, Reps.mono e ds r t⟩
end
theorem Reps.len : ∀ {ds : List D} {xs : List V}, Reps K G ds xs → xs.length = ds.length
  | [], _, h => by
    unfold Reps at h
    rw [h]
    rfl
  | d :: ds, _, h => by
    unfold Reps at h
    obtain ⟨x, r, q, _, t⟩ := h
    rw [q, List.length_cons, List.length_cons, Reps.len t]
theorem Reps.get : ∀ {ds : List D} {xs : List V} {i : Nat} {d : D}, Reps K G ds xs → ds[i]? = some d → ∃ x, xs[i]? = some x ∧ Rep K G d x
  | [], _, i, d, _, e => by simp at e
  | d :: ds, _, i, d', h, e => by
    unfold Reps at h
    obtain ⟨x, r, q, s, t⟩ := h
    subst q
    cases i with
    | zero =>
      have e1 : d = d' := by simpa using e
      subst e1
      exact ⟨x, rfl, s⟩
    | succ i =>
      have e1 : ds[i]? = some d' := by simpa using e
      obtain ⟨y, e2, s2⟩ := Reps.get t e1
      exact ⟨y, by simpa using e2, s2⟩
theorem Reps.get' : ∀ {ds : List D} {xs : List V} {i : Nat} {x : V}, Reps K G ds xs → xs[i]? = some x → ∃ d, ds[i]? = some d ∧ Rep K G d x
  | [], _, i, x, h, e => by
    unfold Reps at h
    rw [h] at e
    simp at e
  | d :: ds, _, i, x', h, e => by
    unfold Reps at h
    obtain ⟨x, r, q, s, t⟩ := h
    subst q
    cases i with
    | zero =>
      have e1 : x = x' := by simpa using e
      subst e1
      exact ⟨d, rfl, s⟩
    | succ i =>
      have e1 : r[i]? = some x' := by simpa using e
      obtain ⟨y, e2, s2⟩ := Reps.get' t e1
      exact ⟨y, by simpa using e2, s2⟩
theorem Reps.append : ∀ {ds es : List D} {xs ys : List V}, Reps K G ds xs → Reps K G es ys → Reps K G (ds ++ es) (xs ++ ys)
  | [], es, xs, ys, h, g => by
    unfold Reps at h
    rw [h]
    exact g
  | d :: ds, es, xs, ys, h, g => by
    unfold Reps at h
    obtain ⟨x, r, q, s, t⟩ := h
    subst q
    show Reps K G (d :: (ds ++ es)) (x :: (r ++ ys))
    unfold Reps
    exact ⟨x, _, rfl, s, Reps.append t g⟩
theorem Reps.one {d : D} {x : V} (h : Rep K G d x) : Reps K G [d] [x] := by
  unfold Reps
  exact ⟨x, [], rfl, h, by unfold Reps; rfl⟩
theorem Reps.nil : Reps K G [] [] := by
  unfold Reps
  rfl
theorem Reps.cons {d : D} {x : V} {ds : List D} {xs : List V} (h : Rep K G d x) (t : Reps K G ds xs) : Reps K G (d :: ds) (x :: xs) := by
  unfold Reps
  exact ⟨x, xs, rfl, h, t⟩
theorem Reps.uncons {d : D} {ds : List D} {xs : List V} (h : Reps K G (d :: ds) xs) : ∃ x r, xs = x :: r ∧ Rep K G d x ∧ Reps K G ds r := by
  unfold Reps at h
  exact h
theorem Reps.set : ∀ {ds : List D} {xs : List V} {i : Nat} {d : D} {x : V}, Reps K G ds xs → Rep K G d x → Reps K G (ds.set i d) (xs.set i x)
  | [], _, i, d, x, h, g => by
    unfold Reps at h
    rw [h]
    simp only [List.set_nil]
    exact Reps.nil
  | c :: ds, _, i, d, x, h, g => by
    obtain ⟨y, r, q, s, t⟩ := Reps.uncons h
    subst q
    cases i with
    | zero => exact Reps.cons g t
    | succ i => exact Reps.cons s (Reps.set t g)
theorem Reps.drop : ∀ {ds : List D} {xs : List V} (n : Nat), Reps K G ds xs → Reps K G (ds.drop n) (xs.drop n)
  | _, _, 0, h => h
  | [], _, n + 1, h => by
    unfold Reps at h
    rw [h]
    exact Reps.nil
  | c :: ds, _, n + 1, h => by
    obtain ⟨y, r, q, s, t⟩ := Reps.uncons h
    subst q
    exact Reps.drop n t
theorem Reps.take : ∀ {ds : List D} {xs : List V} (n : Nat), Reps K G ds xs → Reps K G (ds.take n) (xs.take n)
  | _, _, 0, h => Reps.nil
  | [], _, n + 1, h => by
    unfold Reps at h
    rw [h]
    exact Reps.nil
  | c :: ds, _, n + 1, h => by
    obtain ⟨y, r, q, s, t⟩ := Reps.uncons h
    subst q
    exact Reps.cons s (Reps.take n t)
theorem Reps.ints : ∀ {is : List Int} {xs : List V}, Reps K G (is.map D.int) xs → xs = is.map V.int
  | [], xs, h => by
    unfold Reps at h
    rw [h]
    rfl
  | i :: is, xs, h => by
    obtain ⟨x, r, q, s, t⟩ := Reps.uncons h
    unfold Rep at s
    rw [q, s, Reps.ints t]
    rfl
theorem Reps.ofInts : ∀ {is : List Int}, Reps K G (is.map D.int) (is.map V.int)
  | [] => Reps.nil
  | i :: is => Reps.cons (by unfold Rep; rfl) Reps.ofInts
theorem Reps.bls : ∀ {is : List Bool} {xs : List V}, Reps K G (is.map D.bl) xs → xs = is.map V.bl
  | [], xs, h => by
    unfold Reps at h
    rw [h]
    rfl
  | i :: is, xs, h => by
    obtain ⟨x, r, q, s, t⟩ := Reps.uncons h
    unfold Rep at s
    rw [q, s, Reps.bls t]
    rfl
theorem Reps.strs : ∀ {is : List Str} {xs : List V}, Reps K G (is.map D.str) xs → xs = is.map V.str
  | [], xs, h => by
    unfold Reps at h
    rw [h]
    rfl
  | i :: is, xs, h => by
    obtain ⟨x, r, q, s, t⟩ := Reps.uncons h
    unfold Rep at s
    rw [q, s, Reps.strs t]
    rfl
theorem rep_int {i : Int} {v : V} (h : Rep K G (.int i) v) : v = .int i := by
  unfold Rep at h
  exact h
theorem rep_str {i : Str} {v : V} (h : Rep K G (.str i) v) : v = .str i := by
  unfold Rep at h
  exact h
theorem rep_bl {i : Bool} {v : V} (h : Rep K G (.bl i) v) : v = .bl i := by
  unfold Rep at h
  exact h
theorem rep_non {v : V} (h : Rep K G .non v) : v = .non := by
  unfold Rep at h
  exact h
theorem rep_ref {a : Addr} {v : V} (h : Rep K G (.ref a) v) : v = .ref a := by
  unfold Rep at h
  exact h
theorem rep_ty {n : String} {v : V} (h : Rep K G (.ty n) v) : v = .ty n := by
  unfold Rep at h
  exact h
theorem rep_tup {ds : List D} {v : V} (h : Rep K G (.tup ds) v) : ∃ a xs, v = .ref a ∧ SqT K G a xs ∧ Reps K G ds xs := by
  unfold Rep at h
  exact h
theorem rep_lst {ds : List D} {v : V} (h : Rep K G (.lst ds) v) : ∃ a xs, v = .ref a ∧ G a = some (.lst xs) ∧ Reps K G ds xs := by
  unfold Rep at h
  exact h
theorem rep_lsk {ds : List D} {v : V} (h : Rep K G (.lsk ds) v) : ∃ a xs, v = .ref a ∧ SqL K G a xs ∧ Reps K G ds xs := by
  unfold Rep at h
  exact h
theorem rep_mk_tup {ds : List D} {a : Addr} {xs : List V} (h : SqT K G a xs) (r : Reps K G ds xs) : Rep K G (.tup ds) (.ref a) := by
  unfold Rep
  exact ⟨a, xs, rfl, h, r⟩
theorem rep_mk_lst {ds : List D} {a : Addr} {xs : List V} (h : G a = some (.lst xs)) (r : Reps K G ds xs) : Rep K G (.lst ds) (.ref a) := by
  unfold Rep
  exact ⟨a, xs, rfl, h, r⟩
theorem rep_mk_lsk {ds : List D} {a : Addr} {xs : List V} (h : SqL K G a xs) (r : Reps K G ds xs) : Rep K G (.lsk ds) (.ref a) := by
  unfold Rep
  exact ⟨a, xs, rfl, h, r⟩
theorem rep_of_int {i : Int} : Rep K G (.int i) (.int i) := by unfold Rep; rfl
theorem rep_of_str {i : Str} : Rep K G (.str i) (.str i) := by unfold Rep; rfl
theorem rep_of_bl {i : Bool} : Rep K G (.bl i) (.bl i) := by unfold Rep; rfl
theorem rep_of_non : Rep K G .non .non := by unfold Rep; rfl
theorem rep_of_ref {a : Addr} : Rep K G (.ref a) (.ref a) := by unfold Rep; rfl
theorem rep_of_ty {n : String} : Rep K G (.ty n) (.ty n) := by unfold Rep; rfl
end

/-! ### what may change: lists, dicts with int and text keys, instances -/
inductive MO where
  | lst (ds : List D)
  | dK (kvs : List (Key × D))
  | ins (C dx : Addr) (fs : List (Str × D))
  | xd (fs : List (Str × D))
abbrev Mu := List (Addr × MO)
def RepKV (K : PySem.W.Frag) (G : Hp) {κ : Type} : List (κ × D) → List (κ × V) → Prop
  | [], xs => xs = []
  | (k, d) :: ds, xs => ∃ x r, xs = (k, x) :: r ∧ Rep K G d x ∧ RepKV K G ds r
def RepM (K : PySem.W.Frag) (G : Hp) : MO → HO → Prop
  | .lst ds, o => ∃ xs, o = .lst xs ∧ Reps K G ds xs
  | .dK kvs, o => ∃ ps, o = .dK ps ∧ RepKV K G kvs ps
  | .ins C dx fs, o => ∃ ps, o = .ins C dx ps ∧ RepKV K G fs ps
  | .xd fs, o => ∃ ps, o = .xd ps ∧ RepKV K G fs ps
section
variable {K : PySem.W.Frag} {G G' H H' : Hp}
theorem RepKV.mono {κ : Type} (e : Same G G') : ∀ {ds : List (κ × D)} {xs : List (κ × V)}, RepKV K G ds xs → RepKV K G' ds xs
  | [], _, h => h
  | (k, d) :: ds, _, h => by
    unfold RepKV at h ⊢
    obtain ⟨x, r, q, s, t⟩ := h
    exact ⟨x, r, q, Rep.mono e _ _ s, RepKV.mono e t⟩
theorem RepM.mono (e : Same G G') {m : MO} {o : HO} (h : RepM K G m o) : RepM K G' m o := by
  cases m with
  | lst ds =>
    obtain ⟨xs, r, s⟩ := h
    exact ⟨xs, r, Reps.mono e _ _ s⟩
  | dK kvs =>
    obtain ⟨xs, r, s⟩ := h
    exact ⟨xs, r, RepKV.mono e s⟩
  | ins C dx fs =>
    obtain ⟨xs, r, s⟩ := h
    exact ⟨xs, r, RepKV.mono e s⟩
  | xd fs =>
    obtain ⟨xs, r, s⟩ := h
    exact ⟨xs, r, RepKV.mono e s⟩
end

/-- the state: G the part of the heap that stays, M what may change -/
structure S (K : PySem.W.Frag) (G H : Hp) (M : Mu) : Prop where
  same : Same G H
  mu : ∀ p ∈ M, G p.1 = none ∧ ∃ o, H p.1 = some o ∧ RepM K G p.2 o
  nd : (M.map (·.1)).Nodup
/-- from (G, H) with what may change at A, to (G', H') with what may change at A' -/
structure Step (A : List Addr) (G H : Hp) (A' : List Addr) (G' H' : Hp) : Prop where
  gg : Same G G'
  fr : ∀ b, H b ≠ none → b ∉ A → G' b = G b
  keep : ∀ b o, b ∉ A → H b = some o → H' b = some o
  alive : ∀ b, H b ≠ none → H' b ≠ none
  own : ∀ b ∈ A', b ∈ A ∨ H b = none
abbrev ads (M : Mu) : List Addr := M.map (·.1)

section
variable {K : PySem.W.Frag} {G G' G1 G2 H H' H1 H2 : Hp} {A A1 A2 : List Addr} {M M' M1 M2 : Mu}
theorem Step.refl : Step A G H A G H := ⟨Same.refl G, fun _ _ _ => rfl, fun _ _ _ h => h, fun _ h => h, fun _ h => .inl h⟩
theorem Step.trans (a : Step A G H A1 G1 H1) (b : Step A1 G1 H1 A2 G2 H2) : Step A G H A2 G2 H2 := by
  have no : ∀ c, H c ≠ none → c ∉ A → c ∉ A1 := fun c h n z => by
    rcases a.own c z with q | q
    · exact n q
    · exact h q
  refine ⟨a.gg.trans b.gg, fun c h n => ?_, fun c o n h => ?_, fun c h => b.alive c (a.alive c h), fun c h => ?_⟩
  · rw [b.fr c (a.alive c h) (no c h n), a.fr c h n]
  · exact b.keep c o (no c (by rw [h]; exact fun z => nomatch z) n) (a.keep c o n h)
  · rcases b.own c h with q | q
    · exact a.own c q
    · right
      cases e : H c with
      | none => rfl
      | some o => exact absurd q (a.alive c (by rw [e]; exact fun z => nomatch z))
/-- forgetting some of what may change -/
theorem S.sub (s : S K G H (M1 ++ M2)) : S K G H M1 := ⟨s.same, fun p hp => s.mu p (List.mem_append_left _ hp), by
  have h := s.nd
  rw [List.map_append] at h
  exact (List.nodup_append.mp h).1⟩
/-- a new frozen object -/
theorem S.frozen (s : S K G H M) {p : Addr} {o : HO} (hp : H p = none) : S K (upd G p o) (upd H p o) M ∧ Step (ads M) G H (ads M) (upd G p o) (upd H p o) ∧ Same G (upd G p o) := by
  have gp : G p = none := s.same.free hp
  have gs : Same G (upd G p o) := fun b u e => by
    rw [upd_ne (ne_of_none e gp)]
    exact e
  refine ⟨⟨fun b u e => ?_, fun q hq => ?_, s.nd⟩, ⟨gs, fun b hb _ => ?_, fun b u _ e => ?_, fun b e => ?_, fun b hb => .inl hb⟩, gs⟩
  · by_cases hb : b = p
    · subst hb
      rw [upd_same] at e ⊢
      exact e
    · rw [upd_ne hb] at e ⊢
      exact s.same b u e
  · obtain ⟨g1, o1, h1, r1⟩ := s.mu q hq
    have ne : q.1 ≠ p := ne_of_none h1 hp
    exact ⟨by rw [upd_ne ne]; exact g1, o1, by rw [upd_ne ne]; exact h1, r1.mono gs⟩
  · rw [upd_ne (fun z => hb (by rw [z]; exact hp))]
  · rw [upd_ne (ne_of_none e hp)]
    exact e
  · by_cases hb : b = p
    · subst hb
      rw [upd_same]
      exact fun z => nomatch z
    · rw [upd_ne hb]
      exact e
/-- a new object that may change -/
theorem S.fresh (s : S K G H M) {p : Addr} {o : HO} {m : MO} (hp : H p = none) (r : RepM K G m o) : S K G (upd H p o) (M ++ [(p, m)]) ∧ Step (ads M) G H (ads (M ++ [(p, m)])) G (upd H p o) := by
  have gp : G p = none := s.same.free hp
  refine ⟨⟨fun b u e => ?_, fun q hq => ?_, ?_⟩, ⟨Same.refl G, fun b hb _ => rfl, fun b u _ e => ?_, fun b e => ?_, fun b hb => ?_⟩⟩
  · rw [upd_ne (ne_of_none e gp)]
    exact s.same b u e
  · rcases List.mem_append.mp hq with hq | hq
    · obtain ⟨g1, o1, h1, r1⟩ := s.mu q hq
      exact ⟨g1, o1, by rw [upd_ne (ne_of_none h1 hp)]; exact h1, r1⟩
    · have e : q = (p, m) := by simpa using hq
      subst e
      exact ⟨gp, o, upd_same, r⟩
  · rw [List.map_append, List.nodup_append]
    refine ⟨s.nd, by simp, fun a ha b hb => ?_⟩
    have e : b = p := by simpa using hb
    subst e
    obtain ⟨q, hq, rfl⟩ := List.mem_map.mp ha
    obtain ⟨_, o1, h1, _⟩ := s.mu q hq
    exact ne_of_none h1 hp
  · rw [upd_ne (ne_of_none e hp)]
    exact e
  · by_cases hb : b = p
    · subst hb
      rw [upd_same]
      exact fun z => nomatch z
    · rw [upd_ne hb]
      exact e
  · have hb' : b ∈ M.map (·.1) ++ [p] := by simpa [ads] using hb
    rcases List.mem_append.mp hb' with hb | hb
    · exact .inl hb
    · have e : b = p := by simpa using hb
      subst e
      exact .inr hp
/-- what may change is changed -/
theorem S.write (s : S K G H (M1 ++ (p, m) :: M2)) {o : HO} {m' : MO} (r : RepM K G m' o) : S K G (upd H p o) (M1 ++ (p, m') :: M2) ∧ Step (ads (M1 ++ (p, m) :: M2)) G H (ads (M1 ++ (p, m') :: M2)) G (upd H p o) := by
  obtain ⟨gp, o0, hp, r0⟩ := s.mu (p, m) (by simp)
  have nd := s.nd
  have ads_eq : ads (M1 ++ (p, m') :: M2) = ads (M1 ++ (p, m) :: M2) := by simp [ads]
  have nd' : (M1.map (·.1) ++ p :: M2.map (·.1)).Nodup := by simpa using nd
  have out : ∀ q, q ∈ M1 ∨ q ∈ M2 → q.1 ≠ p := fun q hq z => by
    rw [List.nodup_append] at nd'
    obtain ⟨_, h2, h3⟩ := nd'
    rcases hq with hq | hq
    · exact h3 q.1 (List.mem_map.mpr ⟨q, hq, rfl⟩) p (by simp) z
    · exact (List.nodup_cons.mp h2).1 (List.mem_map.mpr ⟨q, hq, z⟩)
  refine ⟨⟨fun b u e => ?_, fun q hq => ?_, by rw [show (M1 ++ (p, m') :: M2).map (·.1) = (M1 ++ (p, m) :: M2).map (·.1) from ads_eq]; exact nd⟩, ⟨Same.refl G, fun b hb _ => rfl, fun b u hb e => ?_, fun b e => ?_, fun b hb => .inl (by rw [← ads_eq]; exact hb)⟩⟩
  · rw [upd_ne (ne_of_none e gp)]
    exact s.same b u e
  · have old : ∀ q, q ∈ M1 ∨ q ∈ M2 → G q.1 = none ∧ ∃ o1, upd H p o q.1 = some o1 ∧ RepM K G q.2 o1 := fun q hq => by
      obtain ⟨g1, o1, h1, r1⟩ := s.mu q (by rcases hq with hq | hq <;> simp [hq])
      exact ⟨g1, o1, by rw [upd_ne (out q hq)]; exact h1, r1⟩
    rcases List.mem_append.mp hq with hq | hq
    · exact old q (.inl hq)
    · rcases List.mem_cons.mp hq with e | hq
      · subst e
        exact ⟨gp, o, upd_same, r⟩
      · exact old q (.inr hq)
  · have ne : b ≠ p := fun z => hb (by simp [ads, z])
    rw [upd_ne ne]
    exact e
  · by_cases hb : b = p
    · subst hb
      rw [upd_same]
      exact fun z => nomatch z
    · rw [upd_ne hb]
      exact e
/-- what may change is frozen -/
theorem S.freeze {p : Addr} {ds : List D} (s : S K G H (M1 ++ (p, .lst ds) :: M2)) : ∃ xs, S K (upd G p (.lst xs)) H (M1 ++ M2) ∧ Step (ads (M1 ++ (p, .lst ds) :: M2)) G H (ads (M1 ++ M2)) (upd G p (.lst xs)) H ∧ Same G (upd G p (.lst xs)) ∧ Rep K (upd G p (.lst xs)) (.lst ds) (.ref p) := by
  obtain ⟨gp, o0, hp, r0⟩ := s.mu (p, .lst ds) (by simp)
  obtain ⟨xs, rfl, rx⟩ := r0
  have gs : Same G (upd G p (.lst xs)) := fun b u e => by
    rw [upd_ne (ne_of_none e gp)]
    exact e
  have nd := s.nd
  have nd' : (M1.map (·.1) ++ p :: M2.map (·.1)).Nodup := by simpa using nd
  have out : ∀ q, q ∈ M1 ∨ q ∈ M2 → q.1 ≠ p := fun q hq z => by
    rw [List.nodup_append] at nd'
    obtain ⟨_, h2, h3⟩ := nd'
    rcases hq with hq | hq
    · exact h3 q.1 (List.mem_map.mpr ⟨q, hq, rfl⟩) p (by simp) z
    · exact (List.nodup_cons.mp h2).1 (List.mem_map.mpr ⟨q, hq, z⟩)
  refine ⟨xs, ⟨fun b u e => ?_, fun q hq => ?_, ?_⟩, ⟨gs, fun b hb hn => ?_, fun b u hb e => e, fun b e => e, fun b hb => .inl ?_⟩, gs, ?_⟩
  · by_cases hb : b = p
    · subst hb
      rw [upd_same] at e
      rw [← e]
      exact hp
    · rw [upd_ne hb] at e
      exact s.same b u e
  · have hq' := List.mem_append.mp hq
    obtain ⟨g1, o1, h1, r1⟩ := s.mu q (by rcases hq' with z | z <;> simp [z])
    exact ⟨by rw [upd_ne (out q hq')]; exact g1, o1, h1, r1.mono gs⟩
  · rw [List.map_append]
    rw [List.nodup_append] at nd' ⊢
    obtain ⟨h1, h2, h3⟩ := nd'
    exact ⟨h1, (List.nodup_cons.mp h2).2, fun a ha b hb => h3 a ha b (List.mem_cons_of_mem _ hb)⟩
  · rw [upd_ne]
    intro z
    exact hn (by simp [ads, z])
  · simp only [ads, List.map_append, List.mem_append, List.map_cons, List.mem_cons] at hb ⊢
    rcases hb with z | z
    · exact .inl z
    · exact .inr (.inr z)
  · exact rep_mk_lst upd_same (Reps.mono gs _ _ rx)
end

/-! ### slots -/
abbrev DS := List (Option D)
structure RelS (K : PySem.W.Frag) (G : Hp) (δ : DS) (σ : L2.St) : Prop where
  len : δ.length = σ.length
  at_ : ∀ (i : Nat) (d : D), δ[i]? = some (some d) → ∃ v, σ[i]? = some (some v) ∧ Rep K G d v
section
variable {K : PySem.W.Frag} {G G' H H' : Hp} {δ : DS} {σ : L2.St}
theorem RelS.mono (e : Same G G') (r : RelS K G δ σ) : RelS K G' δ σ := ⟨r.len, fun i d h => let ⟨v, a, b⟩ := r.at_ i d h; ⟨v, a, Rep.mono e _ _ b⟩⟩
theorem RelS.set (r : RelS K G δ σ) (i : Nat) {d : D} {v : V} (h : Rep K G d v) : RelS K G (δ.set i (some d)) (σ.set i (some v)) := by
  refine ⟨by rw [List.length_set, List.length_set]; exact r.len, fun j e hj => ?_⟩
  by_cases hij : i = j
  · subst hij
    rw [List.getElem?_set] at hj ⊢
    rw [if_pos rfl] at hj ⊢
    rw [← r.len]
    split at hj
    · rename_i hl
      have e1 : d = e := by simpa using hj
      subst e1
      rw [if_pos hl]
      exact ⟨v, rfl, h⟩
    · cases hj
  · rw [List.getElem?_set_ne hij] at hj ⊢
    exact r.at_ j e hj
theorem RelS.setD (r : RelS K G δ σ) (i : Nat) {d : D} {v : V} (e : σ[i]? = some (some v)) (h : Rep K G d v) : RelS K G (δ.set i (some d)) σ := by
  refine ⟨by rw [List.length_set]; exact r.len, fun j f hj => ?_⟩
  by_cases hij : i = j
  · subst hij
    rw [List.getElem?_set, if_pos rfl] at hj
    split at hj
    · have e1 : d = f := by simpa using hj
      subst e1
      exact ⟨v, e, h⟩
    · cases hj
  · rw [List.getElem?_set_ne hij] at hj
    exact r.at_ j f hj
theorem RelS.drop (r : RelS K G δ σ) (i : Nat) : RelS K G (δ.set i none) (σ.set i none) := by
  refine ⟨by rw [List.length_set, List.length_set]; exact r.len, fun j e hj => ?_⟩
  by_cases hij : i = j
  · subst hij
    rw [List.getElem?_set, if_pos rfl] at hj
    split at hj <;> cases hj
  · rw [List.getElem?_set_ne hij] at hj ⊢
    exact r.at_ j e hj
/-- forgetting slots -/
theorem RelS.weak {δ' : DS} (r : RelS K G δ σ) (hl : δ'.length = δ.length) (h : ∀ (i : Nat) (d : D), δ'[i]? = some (some d) → δ[i]? = some (some d)) : RelS K G δ' σ := ⟨hl.trans r.len, fun i d e => r.at_ i d (h i d e)⟩
end
def startD (n : Nat) (ds : List D) : DS := ds.map some ++ List.replicate (n - ds.length) none
theorem relS_start {K : PySem.W.Frag} {G : Hp} {N : List Str} {ds : List D} {vs : List V} (r : Reps K G ds vs) : RelS K G (startD N.length ds) (L2.start N vs) := by
  have hl := r.len
  refine ⟨by simp [startD, L2.start, hl], fun i d h => ?_⟩
  unfold startD at h
  unfold L2.start
  by_cases hi : i < ds.length
  · rw [List.getElem?_append_left (by simpa using hi), List.getElem?_map] at h
    cases e : ds[i]? with
    | none => rw [e] at h; cases h
    | some d' =>
      rw [e] at h
      have e1 : d' = d := by simpa using h
      subst e1
      obtain ⟨x, e2, q⟩ := r.get e
      refine ⟨x, ?_, q⟩
      rw [List.getElem?_append_left (by simp [hl]; exact hi), List.getElem?_map, e2]
      rfl
  · rw [List.getElem?_append_right (by simpa using hi), List.getElem?_replicate] at h
    split at h <;> cases h

/-! ### readings over deep data -/
section
variable (K : PySem.W.Frag)
/-- behind an evaluation: the value d, what may change is M' -/
def AE (te : TE) (δ : DS) (M : Mu) (k : D → Mu → Prop) : Prop := ∀ σ G H Q, RelS K G δ σ → S K G H M →
  (∀ d M' v G' H', k d M' → S K G' H' M' → Step (ads M) G H (ads M') G' H' → Rep K G' d v → Q v H') → te σ H Q
def AT (tt : TT) (δ : DS) (M : Mu) (k : Bool → Mu → Prop) : Prop := ∀ σ G H Q, RelS K G δ σ → S K G H M →
  (∀ b M' G' H', k b M' → S K G' H' M' → Step (ads M) G H (ads M') G' H' → Q b H') → tt σ H Q
def AA (ta : TA) (δ : DS) (M : Mu) (k : List D → Mu → Prop) : Prop := ∀ σ G H Q, RelS K G δ σ → S K G H M →
  (∀ ds M' vs G' H', k ds M' → S K G' H' M' → Step (ads M) G H (ads M') G' H' → Reps K G' ds vs → Q vs H') → ta σ H Q
def AO (to : TO) (δ : DS) (M : Mu) (k : Option Int → Mu → Prop) : Prop := ∀ σ G H Q, RelS K G δ σ → S K G H M →
  (∀ o M' G' H', k o M' → S K G' H' M' → Step (ads M) G H (ads M') G' H' → Q o H') → to σ H Q
/-- an operation on two values, on one, on a list of values -/
def AR (r : R2) (x y : D) (M : Mu) (k : D → Mu → Prop) : Prop := ∀ vx vy G H Q, Rep K G x vx → Rep K G y vy → S K G H M →
  (∀ d M' v G' H', k d M' → S K G' H' M' → Step (ads M) G H (ads M') G' H' → Rep K G' d v → Q v H') → r vx vy H Q
def AU (r : V → Hp → VK → Prop) (x : D) (M : Mu) (k : D → Mu → Prop) : Prop := ∀ vx G H Q, Rep K G x vx → S K G H M →
  (∀ d M' v G' H', k d M' → S K G' H' M' → Step (ads M) G H (ads M') G' H' → Rep K G' d v → Q v H') → r vx H Q
def AC (r : List V → Hp → VK → Prop) (xs : List D) (M : Mu) (k : D → Mu → Prop) : Prop := ∀ vs G H Q, Reps K G xs vs → S K G H M →
  (∀ d M' v G' H', k d M' → S K G' H' M' → Step (ads M) G H (ads M') G' H' → Rep K G' d v → Q v H') → r vs H Q
/-- a method of x on a list of values -/
def AM (r : V → List V → Hp → VK → Prop) (x : D) (xs : List D) (M : Mu) (k : D → Mu → Prop) : Prop := ∀ vx vs G H Q, Rep K G x vx → Reps K G xs vs → S K G H M →
  (∀ d M' v G' H', k d M' → S K G' H' M' → Step (ads M) G H (ads M') G' H' → Rep K G' d v → Q v H') → r vx vs H Q
def AG (g : TG) (d : D) (δ : DS) (M : Mu) (k : DS → Mu → Prop) : Prop := ∀ v σ G H Q, Rep K G d v → RelS K G δ σ → S K G H M →
  (∀ δ' M' σ' G' H', k δ' M' → RelS K G' δ' σ' → S K G' H' M' → Step (ads M) G H (ads M') G' H' → Q σ' H') → g v σ H Q
def AGs (g : TGs) (ds : List D) (δ : DS) (M : Mu) (k : DS → Mu → Prop) : Prop := ∀ vs σ G H Q, Reps K G ds vs → RelS K G δ σ → S K G H M →
  (∀ δ' M' σ' G' H', k δ' M' → RelS K G' δ' σ' → S K G' H' M' → Step (ads M) G H (ads M') G' H' → Q σ' H') → g vs σ H Q
/-- what is wanted behind a statement -/
structure AEnds where
  nx : DS → Mu → Prop
  rt : D → Mu → Prop
  bk : DS → Mu → Prop := fun _ _ => False
  ct : DS → Mu → Prop := fun _ _ => False
  /-- what is raised: the error's fields; W, who takes it (the error's own dict, the heap) -/
  xs : List (Str × D) → Mu → Prop := fun _ _ => False
  W : Addr → Hp → Prop := fun _ _ => False
structure Fit (A : AEnds) (M : Mu) (G H : Hp) (E : Ends) : Prop where
  nx : ∀ δ' M' σ' G' H', A.nx δ' M' → RelS K G' δ' σ' → S K G' H' M' → Step (ads M) G H (ads M') G' H' → E.nx σ' H'
  rt : ∀ d M' v G' H', A.rt d M' → S K G' H' M' → Step (ads M) G H (ads M') G' H' → Rep K G' d v → E.rt v H'
  bk : ∀ δ' M' σ' G' H', A.bk δ' M' → RelS K G' δ' σ' → S K G' H' M' → Step (ads M) G H (ads M') G' H' → E.bk σ' H'
  ct : ∀ δ' M' σ' G' H', A.ct δ' M' → RelS K G' δ' σ' → S K G' H' M' → Step (ads M) G H (ads M') G' H' → E.ct σ' H'
  xs : ∀ fs M' d G' H', A.xs fs M' → S K G' H' (M' ++ [(d, .xd fs)]) → Step (ads M) G H (ads (M' ++ [(d, .xd fs)])) G' H' → A.W d H'
def AS (ts : TS) (δ : DS) (M : Mu) (A : AEnds) : Prop := ∀ σ G H E, RelS K G δ σ → S K G H M → Fit K A M G H E → ts E σ H
/-- what a for walks: the items ds -/
def ItOk (J : It) (G : Hp) (ds : List D) : Prop := ∀ i G1 H1 M, Same G G1 → S K G1 H1 M →
  (∀ d, ds[i]? = some d → J.go i H1 ∧ ∀ x H', J.yld i H1 x H' → ∃ G', S K G' H' M ∧ Step (ads M) G1 H1 (ads M) G' H' ∧ Rep K G' d x) ∧ (i = ds.length → J.stop i H1)
def AI (wi : TI) (δ : DS) (M : Mu) (k : List D → Mu → Prop) : Prop := ∀ σ G H R, RelS K G δ σ → S K G H M →
  (∀ ds M' G' H' J, k ds M' → S K G' H' M' → Step (ads M) G H (ads M') G' H' → ItOk K J G' ds → R J H') → wi σ H R
end
end Tg
set_option Elab.async false
set_option linter.all false
set_option maxRecDepth 100000
set_option maxHeartbeats 1000000
namespace Tg
open PySem L2
section
variable {K : PySem.W.Frag} {δ : DS} {M : Mu} {ta tb te to ti : TE} {k : D → Mu → Prop} {i : Nat} {d x y : D}
/-! ### expressions -/
theorem ae_var (h : δ[i]? = some (some d)) (q : k d M) : AE K (tVar i) δ M k := fun σ G H Q r s f =>
  let ⟨v, e, rv⟩ := r.at_ i d h
  ⟨v, e, f d M v G H q s Step.refl rv⟩
theorem ae_c {v : V} (h : ∀ G, Rep K G d v) (q : k d M) : AE K (tC v) δ M k := fun σ G H Q r s f => f d M v G H q s Step.refl (h G)
theorem ae_int {j : Int} (q : k (.int j) M) : AE K (tC (.int j)) δ M k := ae_c (fun _ => rep_of_int) q
theorem ae_bl {b : Bool} (q : k (.bl b) M) : AE K (tC (.bl b)) δ M k := ae_c (fun _ => rep_of_bl) q
theorem ae_non (q : k .non M) : AE K (tC .non) δ M k := ae_c (fun _ => rep_of_non) q
theorem ae_str {z : Str} (q : k (.str z) M) : AE K (tC (.str z)) δ M k := ae_c (fun _ => rep_of_str) q
theorem ae_ref {a : Addr} (q : k (.ref a) M) : AE K (tC (.ref a)) δ M k := ae_c (fun _ => rep_of_ref) q
theorem ae_ty {n : String} (q : k (.ty n) M) : AE K (tC (.ty n)) δ M k := ae_c (fun _ => rep_of_ty) q
theorem ae_op {r : R2} (h : AE K ta δ M fun x M1 => AE K tb δ M1 fun y M2 => AR K r x y M2 k) : AE K (tOp r ta tb) δ M k := fun σ G H Q rs s f =>
  h σ G H _ rs s fun x M1 vx G1 H1 h1 s1 st1 r1 => h1 σ G1 H1 _ (rs.mono st1.gg) s1 fun y M2 vy G2 H2 h2 s2 st2 r2 =>
    h2 vx vy G2 H2 Q (Rep.mono st2.gg _ _ r1) r2 s2 fun d M3 v G3 H3 q s3 st3 r3 => f d M3 v G3 H3 q s3 ((st1.trans st2).trans st3) r3
theorem ae_un {r : V → Hp → VK → Prop} (h : AE K ta δ M fun x M1 => AU K r x M1 k) : AE K (tUn r ta) δ M k := fun σ G H Q rs s f =>
  h σ G H _ rs s fun x M1 vx G1 H1 h1 s1 st1 r1 => h1 vx G1 H1 Q r1 s1 fun d M3 v G3 H3 q s3 st3 r3 => f d M3 v G3 H3 q s3 (st1.trans st3) r3
theorem ae_andV (h : AE K ta δ M fun x M1 => ∃ b, x = .bl b ∧ (b = true → AE K tb δ M1 k) ∧ (b = false → k (.bl false) M1)) : AE K (tAndV ta tb) δ M k := fun σ G H Q rs s f =>
  h σ G H _ rs s fun x M1 vx G1 H1 ⟨b, e, h1, h2⟩ s1 st1 r1 => by
    subst e
    refine ⟨b, rep_bl r1, ?_⟩
    cases b with
    | true =>
      rw [if_pos rfl]
      exact h1 rfl σ G1 H1 Q (rs.mono st1.gg) s1 fun d M3 v G3 H3 q s3 st3 r3 => f d M3 v G3 H3 q s3 (st1.trans st3) r3
    | false =>
      rw [if_neg Bool.false_ne_true]
      exact f _ M1 _ G1 H1 (h2 rfl) s1 st1 rep_of_bl
theorem ae_orV (h : AE K ta δ M fun x M1 => ∃ b, x = .bl b ∧ (b = false → AE K tb δ M1 k) ∧ (b = true → k (.bl true) M1)) : AE K (tOrV ta tb) δ M k := fun σ G H Q rs s f =>
  h σ G H _ rs s fun x M1 vx G1 H1 ⟨b, e, h1, h2⟩ s1 st1 r1 => by
    subst e
    refine ⟨b, rep_bl r1, ?_⟩
    cases b with
    | false =>
      rw [if_neg Bool.false_ne_true]
      exact h1 rfl σ G1 H1 Q (rs.mono st1.gg) s1 fun d M3 v G3 H3 q s3 st3 r3 => f d M3 v G3 H3 q s3 (st1.trans st3) r3
    | true =>
      rw [if_pos rfl]
      exact f _ M1 _ G1 H1 (h2 rfl) s1 st1 rep_of_bl
theorem ae_notV (h : AE K ta δ M fun x M1 => ∃ b, x = .bl b ∧ k (.bl (!b)) M1) : AE K (tNotV ta) δ M k := fun σ G H Q rs s f =>
  h σ G H _ rs s fun x M1 vx G1 H1 ⟨b, e, h1⟩ s1 st1 r1 => by
    subst e
    exact ⟨b, rep_bl r1, f _ M1 _ G1 H1 h1 s1 st1 rep_of_bl⟩
theorem ae_if {t : TT} (h : AT K t δ M fun b M1 => (b = true → AE K ta δ M1 k) ∧ (b = false → AE K tb δ M1 k)) : AE K (tIf t ta tb) δ M k := fun σ G H Q rs s f =>
  h σ G H _ rs s fun b M1 G1 H1 ⟨h1, h2⟩ s1 st1 => by
    cases b with
    | true =>
      rw [if_pos rfl]
      exact h1 rfl σ G1 H1 Q (rs.mono st1.gg) s1 fun d M3 v G3 H3 q s3 st3 r3 => f d M3 v G3 H3 q s3 (st1.trans st3) r3
    | false =>
      rw [if_neg Bool.false_ne_true]
      exact h2 rfl σ G1 H1 Q (rs.mono st1.gg) s1 fun d M3 v G3 H3 q s3 st3 r3 => f d M3 v G3 H3 q s3 (st1.trans st3) r3
/-! ### tests -/
variable {t u : TT} {kb : Bool → Mu → Prop}
theorem at_test (h : AE K te δ M fun d M' => ∃ b, d = .bl b ∧ kb b M') : AT K (tTest te) δ M kb := fun σ G H Q rs s f =>
  h σ G H _ rs s fun x M1 vx G1 H1 ⟨b, e, h1⟩ s1 st1 r1 => by
    subst e
    exact ⟨b, rep_bl r1, f b M1 G1 H1 h1 s1 st1⟩
theorem at_B (h : AE K te δ M fun d M' => ∃ b, d = .bl b ∧ kb b M') : AT K (tB te) δ M kb := fun σ G H Q rs s f =>
  h σ G H _ rs s fun x M1 vx G1 H1 ⟨b, e, h1⟩ s1 st1 r1 => by
    subst e
    exact ⟨b, rep_bl r1, f b M1 G1 H1 h1 s1 st1⟩
theorem at_and (h : AT K t δ M fun b M1 => (b = true → AT K u δ M1 kb) ∧ (b = false → kb false M1)) : AT K (tAnd t u) δ M kb := fun σ G H Q rs s f =>
  h σ G H _ rs s fun b M1 G1 H1 ⟨h1, h2⟩ s1 st1 => by
    cases b with
    | true =>
      rw [if_pos rfl]
      exact h1 rfl σ G1 H1 Q (rs.mono st1.gg) s1 fun d M3 G3 H3 q s3 st3 => f d M3 G3 H3 q s3 (st1.trans st3)
    | false =>
      rw [if_neg Bool.false_ne_true]
      exact f _ M1 G1 H1 (h2 rfl) s1 st1
theorem at_or (h : AT K t δ M fun b M1 => (b = false → AT K u δ M1 kb) ∧ (b = true → kb true M1)) : AT K (tOr t u) δ M kb := fun σ G H Q rs s f =>
  h σ G H _ rs s fun b M1 G1 H1 ⟨h1, h2⟩ s1 st1 => by
    cases b with
    | false =>
      rw [if_neg Bool.false_ne_true]
      exact h1 rfl σ G1 H1 Q (rs.mono st1.gg) s1 fun d M3 G3 H3 q s3 st3 => f d M3 G3 H3 q s3 (st1.trans st3)
    | true =>
      rw [if_pos rfl]
      exact f _ M1 G1 H1 (h2 rfl) s1 st1
theorem at_not (h : AT K t δ M fun b M1 => kb (!b) M1) : AT K (tNot t) δ M kb := fun σ G H Q rs s f =>
  h σ G H _ rs s fun b M1 G1 H1 h1 s1 st1 => f _ M1 G1 H1 h1 s1 st1
/-- a value's truth -/
def truD : D → Bool
  | .non => false
  | .bl b => b
  | .int i => i != 0
  | .str z => ((z.length : Int) != 0)
  | .tup ds => !ds.isEmpty
  | .lst ds => !ds.isEmpty
  | .lsk ds => !ds.isEmpty
  | _ => true
def TruOk : D → Prop
  | .str z => z.length ≤ sizeLine
  | .ref _ => False
  | .ty _ => False
  | _ => True
theorem isEmpty_len {α β : Type} {xs : List α} {ys : List β} (h : xs.length = ys.length) : xs.isEmpty = ys.isEmpty := by
  cases xs <;> cases ys <;> simp_all
theorem truV_of {G H : Hp} {v : V} (e : Same G H) (o : TruOk d) (r : Rep K G d v) : TruV K v H (truD d) := by
  cases d with
  | non => rw [rep_non r]; rfl
  | bl b => rw [rep_bl r]; rfl
  | int i => rw [rep_int r]; rfl
  | str z => rw [rep_str r]; exact ⟨o, rfl⟩
  | ty n => exact o.elim
  | ref a => exact o.elim
  | tup ds =>
    obtain ⟨a, xs, rfl, h, rs⟩ := rep_tup r
    exact .inr (.inl ⟨xs, Same.seqT e h, by rw [show truD (.tup ds) = !ds.isEmpty from rfl, isEmpty_len rs.len]⟩)
  | lst ds =>
    obtain ⟨a, xs, rfl, h, rs⟩ := rep_lst r
    exact .inl ⟨xs, .inl (.inl (e _ _ h)), by rw [show truD (.lst ds) = !ds.isEmpty from rfl, isEmpty_len rs.len]⟩
  | lsk ds =>
    obtain ⟨a, xs, rfl, h, rs⟩ := rep_lsk r
    exact .inl ⟨xs, e.seq h, by rw [show truD (.lsk ds) = !ds.isEmpty from rfl, isEmpty_len rs.len]⟩
def tTruU (K : PySem.W.Frag) (ta : TE) : TT := fun σ H Q => ta σ H fun x H' => ∃ k, TruV K x H' k ∧ Q k H'
theorem pt_tru {X : Cx} {a : Expr} (ha : PE X a ta) (he : ∀ whole, isTrue a X.env whole = (do let v ← whole; standAt a.pos; holding [v] (truthy v)) := by intro _; rfl) : PT X a (tTruU X.K ta) := pt_truth ha he
theorem at_tru (h : AE K te δ M fun d M' => TruOk d ∧ kb (truD d) M') : AT K (tTruU K te) δ M kb := fun σ G H Q rs s f =>
  h σ G H _ rs s fun x M1 vx G1 H1 ⟨o, h1⟩ s1 st1 r1 => ⟨truD x, truV_of s1.same o r1, f _ M1 G1 H1 h1 s1 st1⟩
/-! ### operations -/
theorem ar_int {g : Int → Int → Int} {a b : Int} (q : k (.int (g a b)) M) : AR K (rI0 fun i j => .int (g i j)) (.int a) (.int b) M k := fun vx vy G H Q rx ry s f =>
  ⟨a, b, rep_int rx, rep_int ry, f _ M _ G H q s Step.refl rep_of_int⟩
theorem ar_cmp {g : Int → Int → Bool} {a b : Int} (q : k (.bl (g a b)) M) : AR K (rI0 fun i j => .bl (g i j)) (.int a) (.int b) M k := fun vx vy G H Q rx ry s f =>
  ⟨a, b, rep_int rx, rep_int ry, f _ M _ G H q s Step.refl rep_of_bl⟩
theorem ar_intC {C : Int → Int → Prop} {g : Int → Int → Int} {a b : Int} (c : C a b) (q : k (.int (g a b)) M) : AR K (rI C fun i j => .int (g i j)) (.int a) (.int b) M k := fun vx vy G H Q rx ry s f =>
  ⟨a, b, rep_int rx, rep_int ry, c, f _ M _ G H q s Step.refl rep_of_int⟩
theorem ar_add {a b : Int} (q : k (.int (a + b)) M) : AR K (rI0 fun i j => .int (i + j)) (.int a) (.int b) M k := ar_int (g := fun i j => i + j) q
theorem ar_sub {a b : Int} (q : k (.int (a - b)) M) : AR K (rI0 fun i j => .int (i - j)) (.int a) (.int b) M k := ar_int (g := fun i j => i - j) q
theorem ar_or1 {r1 r2 : R2} (h : AR K r1 x y M k) : AR K (fun x y H Q => r1 x y H Q ∨ r2 x y H Q) x y M k := fun vx vy G H Q rx ry s f => .inl (h vx vy G H Q rx ry s f)
theorem ar_or2 {r1 r2 : R2} (h : AR K r2 x y M k) : AR K (fun x y H Q => r1 x y H Q ∨ r2 x y H Q) x y M k := fun vx vy G H Q rx ry s f => .inr (h vx vy G H Q rx ry s f)
theorem au_neg {a : Int} (q : k (.int (-a)) M) : AU K (rU fun i => .int (-i)) (.int a) M k := fun vx G H Q rx s f => ⟨a, rep_int rx, f _ M _ G H q s Step.refl rep_of_int⟩
/-- equality of two scalars -/
def sclD : D → D → Option Bool
  | .int a, .int b => some (decide (a = b))
  | .str a, .str b => some (decide (a = b))
  | .bl a, .bl b => some (decide (a = b))
  | .non, .non => some true
  | .non, .int _ => some false
  | .int _, .non => some false
  | .non, .str _ => some false
  | .str _, .non => some false
  | _, _ => none
theorem ar_eqD {b : Bool} (h : sclD x y = some b) (q : k (.bl b) M) : AR K rEq x y M k := fun vx vy G H Q rx ry s f => by
  have go : ∀ (c : Bool), scal vx vy = true → decide (vx = vy) = c → c = b → rEq vx vy H Q := fun c h1 h2 h3 => ⟨h1, by
    rw [h2, h3]
    exact f _ M _ G H q s Step.refl rep_of_bl⟩
  cases x <;> cases y <;> simp only [sclD, Option.some.injEq, reduceCtorEq] at h
  · rw [rep_non rx, rep_non ry] at go ⊢
    exact go true rfl (by simp) h
  · rename_i j
    rw [rep_non rx, rep_int ry] at go ⊢
    exact go false rfl (by simp) h
  · rename_i j
    rw [rep_non rx, rep_str ry] at go ⊢
    exact go false rfl (by simp) h
  · rename_i i j
    rw [rep_bl rx, rep_bl ry] at go ⊢
    exact go _ rfl (by simp) h
  · rw [rep_int rx, rep_non ry] at go ⊢
    exact go false rfl (by simp) h
  · rename_i i j
    rw [rep_int rx, rep_int ry] at go ⊢
    exact go _ rfl (by simp) h
  · rw [rep_str rx, rep_non ry] at go ⊢
    exact go false rfl (by simp) h
  · rename_i i j
    rw [rep_str rx, rep_str ry] at go ⊢
    exact go _ rfl (by simp) h
theorem ar_neD {b : Bool} (h : sclD x y = some b) (q : k (.bl (!b)) M) : AR K rNe x y M k := fun vx vy G H Q rx ry s f => by
  have go : ∀ (c : Bool), scal vx vy = true → decide (vx = vy) = c → c = b → rNe vx vy H Q := fun c h1 h2 h3 => ⟨h1, by
    rw [h2, h3]
    exact f _ M _ G H q s Step.refl rep_of_bl⟩
  cases x <;> cases y <;> simp only [sclD, Option.some.injEq, reduceCtorEq] at h
  · rw [rep_non rx, rep_non ry] at go ⊢
    exact go true rfl (by simp) h
  · rename_i j
    rw [rep_non rx, rep_int ry] at go ⊢
    exact go false rfl (by simp) h
  · rename_i j
    rw [rep_non rx, rep_str ry] at go ⊢
    exact go false rfl (by simp) h
  · rename_i i j
    rw [rep_bl rx, rep_bl ry] at go ⊢
    exact go _ rfl (by simp) h
  · rw [rep_int rx, rep_non ry] at go ⊢
    exact go false rfl (by simp) h
  · rename_i i j
    rw [rep_int rx, rep_int ry] at go ⊢
    exact go _ rfl (by simp) h
  · rw [rep_str rx, rep_non ry] at go ⊢
    exact go false rfl (by simp) h
  · rename_i i j
    rw [rep_str rx, rep_str ry] at go ⊢
    exact go _ rfl (by simp) h
def isNon : D → Bool
  | .non => true
  | _ => false
theorem isNon_of {G : Hp} {v : V} (r : Rep K G d v) : decide (v = V.non) = isNon d := by
  cases d with
  | non => rw [rep_non r]; rfl
  | bl b => rw [rep_bl r]; rfl
  | int i => rw [rep_int r]; rfl
  | str z => rw [rep_str r]; rfl
  | ty n => rw [rep_ty r]; rfl
  | ref a => rw [rep_ref r]; rfl
  | tup ds => obtain ⟨a, xs, rfl, _⟩ := rep_tup r; rfl
  | lst ds => obtain ⟨a, xs, rfl, _⟩ := rep_lst r; rfl
  | lsk ds => obtain ⟨a, xs, rfl, _⟩ := rep_lsk r; rfl
theorem ar_isN (q : k (.bl (isNon x)) M) : AR K rIsN x .non M k := fun vx vy G H Q rx ry s f => ⟨rep_non ry, by
  rw [isNon_of rx]
  exact f _ M _ G H q s Step.refl rep_of_bl⟩
theorem ar_notN (q : k (.bl (!isNon x)) M) : AR K rNotN x .non M k := fun vx vy G H Q rx ry s f => ⟨rep_non ry, by
  rw [isNon_of rx]
  exact f _ M _ G H q s Step.refl rep_of_bl⟩
/-! ### items -/
theorem atI_rep {G : Hp} {ds : List D} {xs : List V} {j : Int} (r : Reps K G ds xs) (h : atI ds j = some d) : ∃ v, atI xs j = some v ∧ Rep K G d v := by
  unfold atI at h ⊢
  rw [r.len]
  cases e : ixN ds.length j with
  | none => rw [e] at h; cases h
  | some m =>
    rw [e] at h
    exact r.get h
theorem ar_ixL {ds : List D} {j : Int} (h : atI ds j = some d) (q : k d M) : AR K (rIxL K) (.lst ds) (.int j) M k := fun vx vy G H Q rx ry s f => by
  obtain ⟨a, xs, rfl, ha, rs⟩ := rep_lst rx
  obtain ⟨v, e, rv⟩ := atI_rep rs h
  exact ⟨a, xs, j, v, rfl, rep_int ry, .inl (.inl (s.same _ _ ha)), e, f d M v G H q s Step.refl rv⟩
theorem ar_ixK {ds : List D} {j : Int} (h : atI ds j = some d) (q : k d M) : AR K (rIxL K) (.lsk ds) (.int j) M k := fun vx vy G H Q rx ry s f => by
  obtain ⟨a, xs, rfl, ha, rs⟩ := rep_lsk rx
  obtain ⟨v, e, rv⟩ := atI_rep rs h
  exact ⟨a, xs, j, v, rfl, rep_int ry, s.same.seq ha, e, f d M v G H q s Step.refl rv⟩
theorem ar_ixT {ds : List D} {j : Int} (h : atI ds j = some d) (q : k d M) : AR K (rIxT K) (.tup ds) (.int j) M k := fun vx vy G H Q rx ry s f => by
  obtain ⟨a, xs, rfl, ha, rs⟩ := rep_tup rx
  obtain ⟨v, e, rv⟩ := atI_rep rs h
  exact ⟨a, xs, j, v, rfl, rep_int ry, Same.seqT s.same ha, e, f d M v G H q s Step.refl rv⟩
theorem ar_ixS {z : Str} {j : Int} {c : Nat} (hz : z.length ≤ sizeLine) (h : atI z.cps.toList j = some c) (q : k (.str ⟨#[c]⟩) M) : AR K rIxS (.str z) (.int j) M k := fun vx vy G H Q rx ry s f =>
  ⟨z, j, c, rep_str rx, rep_int ry, hz, h, f _ M _ G H q s Step.refl rep_of_str⟩
/-- an item of a list that may change -/
theorem ar_ixM {a : Addr} {M1 M2 : Mu} {ds : List D} {j : Int} (e : M = M1 ++ (a, .lst ds) :: M2) (h : atI ds j = some d) (q : k d M) : AR K (rIxL K) (.ref a) (.int j) M k := fun vx vy G H Q rx ry s f => by
  obtain ⟨_, o, ho, r⟩ := s.mu (a, .lst ds) (by rw [e]; simp)
  obtain ⟨xs, rfl, rs⟩ := r
  obtain ⟨v, e2, rv⟩ := atI_rep rs h
  exact ⟨a, xs, j, v, rep_ref rx, rep_int ry, .inl (.inl ho), e2, f d M v G H q s Step.refl rv⟩
theorem aix_L {ds : List D} {j : Int} (h : atI ds j = some d) (q : k d M) : AR K (rIx K) (.lst ds) (.int j) M k := ar_or1 (ar_ixL h q)
theorem aix_K {ds : List D} {j : Int} (h : atI ds j = some d) (q : k d M) : AR K (rIx K) (.lsk ds) (.int j) M k := ar_or1 (ar_ixK h q)
theorem aix_T {ds : List D} {j : Int} (h : atI ds j = some d) (q : k d M) : AR K (rIx K) (.tup ds) (.int j) M k := ar_or2 (ar_or1 (ar_ixT h q))
theorem aix_S {z : Str} {j : Int} {c : Nat} (hz : z.length ≤ sizeLine) (h : atI z.cps.toList j = some c) (q : k (.str ⟨#[c]⟩) M) : AR K (rIx K) (.str z) (.int j) M k := ar_or2 (ar_or2 (ar_ixS hz h q))
theorem aix_M {a : Addr} {M1 M2 : Mu} {ds : List D} {j : Int} (e : M = M1 ++ (a, .lst ds) :: M2) (h : atI ds j = some d) (q : k d M) : AR K (rIx K) (.ref a) (.int j) M k := ar_or1 (ar_ixM e h q)
/-! ### arguments, calls -/
variable {kl : List D → Mu → Prop}
theorem aa_nil (q : kl [] M) : AA K tNil δ M kl := fun σ G H Q r s f => f [] M [] G H q s Step.refl Reps.nil
theorem aa_cons {tr : TA} (h : AE K te δ M fun d M1 => AA K tr δ M1 fun ds M2 => kl (d :: ds) M2) : AA K (tCons te tr) δ M kl := fun σ G H Q rs s f =>
  h σ G H _ rs s fun x M1 vx G1 H1 h1 s1 st1 r1 => h1 σ G1 H1 _ (rs.mono st1.gg) s1 fun ds M2 vs G2 H2 h2 s2 st2 r2 =>
    f (x :: ds) M2 (vx :: vs) G2 H2 h2 s2 (st1.trans st2) (Reps.cons (Rep.mono st2.gg _ _ r1) r2)
theorem ae_tup {ts : TA} (h : AA K ts δ M fun ds M1 => ds.length ≤ sizeLine ∧ k (.tup ds) M1) : AE K (tTup ts) δ M k := fun σ G H Q rs s f =>
  h σ G H _ rs s fun ds M1 vs G1 H1 ⟨hl, h1⟩ s1 st1 r1 => ⟨by rw [r1.len]; exact hl, fun p hp => by
    obtain ⟨s2, st2, e2⟩ := s1.frozen (o := .tup vs) hp
    exact f _ M1 _ _ _ h1 s2 (st1.trans st2) (rep_mk_tup (.inl (.inl upd_same)) (Reps.mono e2 _ _ r1))⟩
theorem ae_lst {ts : TA} (h : AA K ts δ M fun ds M1 => ds.length ≤ sizeLine ∧ k (.lst ds) M1) : AE K (tLst ts) δ M k := fun σ G H Q rs s f =>
  h σ G H _ rs s fun ds M1 vs G1 H1 ⟨hl, h1⟩ s1 st1 r1 => ⟨by rw [r1.len]; exact hl, fun p hp => by
    obtain ⟨s2, st2, e2⟩ := s1.frozen (o := .lst vs) hp
    exact f _ M1 _ _ _ h1 s2 (st1.trans st2) (rep_mk_lst upd_same (Reps.mono e2 _ _ r1))⟩
/-- a list that is to change -/
def tLstM (t : TA) : TE := tLst t
theorem pe_lstM {X : Cx} {es : List Expr} {t : TA} {pos : Pos} (h : PE X (.List es pos) (tLst t)) : PE X (.List es pos) (tLstM t) := h
theorem ae_lstM {ts : TA} (h : AA K ts δ M fun ds M1 => ds.length ≤ sizeLine ∧ ∀ a, k (.ref a) (M1 ++ [(a, .lst ds)])) : AE K (tLstM ts) δ M k := fun σ G H Q rs s f =>
  h σ G H _ rs s fun ds M1 vs G1 H1 ⟨hl, h1⟩ s1 st1 r1 => ⟨by rw [r1.len]; exact hl, fun p hp => by
    obtain ⟨s2, st2⟩ := s1.fresh (m := .lst ds) (o := .lst vs) hp ⟨vs, rfl, r1⟩
    exact f _ _ _ _ _ (h1 p) s2 (st1.trans st2) rep_of_ref⟩
theorem ae_cb {r : List V → Hp → VK → Prop} {ts : TA} (h : AA K ts δ M fun ds M1 => AC K r ds M1 k) : AE K (tCB r ts) δ M k := fun σ G H Q rs s f =>
  h σ G H _ rs s fun ds M1 vs G1 H1 h1 s1 st1 r1 => h1 vs G1 H1 Q r1 s1 fun d M3 v G3 H3 q s3 st3 r3 => f d M3 v G3 H3 q s3 (st1.trans st3) r3
theorem ac_or1 {r1 r2 : List V → Hp → VK → Prop} {xs : List D} (h : AC K r1 xs M k) : AC K (fun xs H Q => r1 xs H Q ∨ r2 xs H Q) xs M k := fun vs G H Q rx s f => .inl (h vs G H Q rx s f)
theorem ac_or2 {r1 r2 : List V → Hp → VK → Prop} {xs : List D} (h : AC K r2 xs M k) : AC K (fun xs H Q => r1 xs H Q ∨ r2 xs H Q) xs M k := fun vs G H Q rx s f => .inr (h vs G H Q rx s f)
/-! ### a def's promise over deep data -/
def Spc (K : PySem.W.Frag) (W : List D → Mu → (D → Mu → Prop) → Prop) : Sp := fun vs H Q _ => ∃ G ds M k, Reps K G ds vs ∧ S K G H M ∧ W ds M k ∧
  ∀ d M' v G' H', k d M' → S K G' H' M' → Step (ads M) G H (ads M') G' H' → Rep K G' d v → Q v H'
abbrev Wt := List D → Mu → (D → Mu → Prop) → Prop
theorem S.join {G H G' H' : Hp} {Mc R Mc' : Mu} (s : S K G H (Mc ++ R)) (s' : S K G' H' Mc') (st : Step (ads Mc) G H (ads Mc') G' H') :
    S K G' H' (Mc' ++ R) ∧ Step (ads (Mc ++ R)) G H (ads (Mc' ++ R)) G' H' := by
  have nd := s.nd
  rw [List.map_append, List.nodup_append] at nd
  obtain ⟨n1, n2, n3⟩ := nd
  have rout : ∀ p ∈ R, p.1 ∉ ads Mc := fun p hp z => n3 p.1 z p.1 (List.mem_map.mpr ⟨p, hp, rfl⟩) rfl
  have ral : ∀ p ∈ R, H p.1 ≠ none := fun p hp z => by
    obtain ⟨_, o, ho, _⟩ := s.mu p (List.mem_append_right _ hp)
    rw [z] at ho
    cases ho
  refine ⟨⟨s'.same, fun p hp => ?_, ?_⟩, ⟨st.gg, fun b hb hn => st.fr b hb fun z => hn ?_, fun b o hn e => st.keep b o (fun z => hn ?_) e, st.alive, fun b hb => ?_⟩⟩
  · rcases List.mem_append.mp hp with hp | hp
    · exact s'.mu p hp
    · obtain ⟨g1, o, ho, r⟩ := s.mu p (List.mem_append_right _ hp)
      exact ⟨by rw [st.fr _ (ral p hp) (rout p hp)]; exact g1, o, st.keep _ _ (rout p hp) ho, r.mono st.gg⟩
  · rw [List.map_append, List.nodup_append]
    refine ⟨s'.nd, n2, fun a ha b hb e => ?_⟩
    subst e
    obtain ⟨p, hp, rfl⟩ := List.mem_map.mp hb
    rcases st.own _ ha with q | q
    · exact rout p hp q
    · exact ral p hp q
  · simp only [ads, List.map_append, List.mem_append]
    exact .inl z
  · simp only [ads, List.map_append, List.mem_append]
    exact .inl z
  · simp only [ads, List.map_append, List.mem_append] at hb ⊢
    rcases hb with hb | hb
    · rcases st.own b hb with q | q
      · exact .inl (.inl q)
      · exact .inr q
    · exact .inl (.inr hb)
/-- a call of a def whose promise is W: Mc is what it may change, R what it does not see, kc what is known behind it -/
theorem ae_call {W : Wt} {E : XK} {ts : TA} (h : AA K ts δ M fun ds M1 => ∃ Mc R kc, M1 = Mc ++ R ∧ W ds Mc kc ∧ ∀ d Mc', kc d Mc' → k d (Mc' ++ R)) : AE K (tCall (Spc K W) [] E ts) δ M k := fun σ G H Q rs s f =>
  h σ G H _ rs s fun ds M1 vs G1 H1 ⟨Mc, R, kc, e, hw, hk⟩ s1 st1 r1 => by
    subst e
    refine ⟨G1, ds, Mc, kc, by rw [List.append_nil]; exact r1, s1.sub, hw, fun d M' v G' H' hd s' st' rv => ?_⟩
    obtain ⟨s2, st2⟩ := s1.join s' st'
    exact f d _ v G' H' (hk d M' hd) s2 (st1.trans st2) rv
/-- freezing, ahead of what follows -/
theorem k_freeze {a : Addr} {ds : List D} {M1 M2 : Mu} {te : TE} (h : AE K te δ M fun d M' => d = .ref a ∧ M' = M1 ++ (a, .lst ds) :: M2 ∧ k (.lst ds) (M1 ++ M2)) : AE K te δ M k := fun σ G H Q rs s f =>
  h σ G H _ rs s fun x M1 vx G1 H1 ⟨e1, e2, h1⟩ s1 st1 r1 => by
    subst e1 e2
    obtain ⟨xs, s2, st2, e3, r2⟩ := s1.freeze
    rw [rep_ref r1]
    exact f _ _ _ _ _ h1 s2 (st1.trans st2) r2
/-! ### targets -/
variable {kg : DS → Mu → Prop}
theorem ag_name (q : kg (δ.set i (some d)) M) : AG K (gName i) d δ M kg := fun v σ G H Q rv rs s f => f _ M _ G H q (rs.set i rv) s Step.refl
theorem ag_tup {n : Nat} {g : TGs} {ds : List D} (hl : ds.length = n) (h : AGs K g ds δ M kg) : AG K (gTup K n g) (.tup ds) δ M kg := fun v σ G H Q rv rs s f => by
  obtain ⟨a, xs, rfl, ha, rx⟩ := rep_tup rv
  exact ⟨a, xs, rfl, Same.seqT s.same ha, by rw [rx.len, hl], h xs σ G H Q rx rs s f⟩
theorem ags_nil (q : kg δ M) : AGs K gNil [] δ M kg := fun v σ G H Q rv rs s f => by
  unfold Reps at rv
  exact ⟨rv, f _ M _ G H q rs s Step.refl⟩
theorem ags_cons {t : TG} {u : TGs} {r : List D} (h : AG K t d δ M fun δ1 M1 => AGs K u r δ1 M1 kg) : AGs K (gCons t u) (d :: r) δ M kg := fun v σ G H Q rv rs s f => by
  obtain ⟨x, xs, rfl, r1, r2⟩ := rv.uncons
  exact ⟨x, xs, rfl, h x σ G H _ r1 rs s fun δ1 M1 σ1 G1 H1 h1 rs1 s1 st1 => h1 xs σ1 G1 H1 Q (Reps.mono st1.gg _ _ r2) rs1 s1 fun δ2 M2 σ2 G2 H2 h2 rs2 s2 st2 => f δ2 M2 σ2 G2 H2 h2 rs2 s2 (st1.trans st2)⟩
/-- a[j] = d, of a list that may change -/
def PutM (o i v : D) (M : Mu) (q : Mu → Prop) : Prop := ∃ a ds M1 M2 j n, o = .ref a ∧ i = .int j ∧ M = M1 ++ (a, .lst ds) :: M2 ∧ ixN ds.length j = some n ∧ q (M1 ++ (a, .lst (ds.set n v)) :: M2)
theorem ag_setL (h : AE K to δ M fun o M1 => AE K ti δ M1 fun j M2 => PutM o j d M2 fun M3 => kg δ M3) : AG K (gSub to ti rSetL) d δ M kg := fun v σ G H Q rv rs s f =>
  h σ G H _ rs s fun o M1 vo G1 H1 h1 s1 st1 r1 => h1 σ G1 H1 _ (rs.mono st1.gg) s1 fun j M2 vj G2 H2 h2 s2 st2 r2 => by
    obtain ⟨a, ds, N1, N2, jj, n, rfl, rfl, rfl, hn, q⟩ := h2
    obtain ⟨g0, o, ho, r⟩ := s2.mu (a, .lst ds) (by simp)
    obtain ⟨xs, rfl, rx⟩ := r
    obtain ⟨s3, st3⟩ := s2.write (o := .lst (xs.set n v)) (m' := .lst (ds.set n d)) ⟨_, rfl, Reps.set rx (Rep.mono (st1.trans st2).gg _ _ rv)⟩
    exact ⟨a, xs, jj, n, rep_ref r1, rep_int r2, ho, by rw [rx.len]; exact hn, f δ _ σ G2 _ q (rs.mono (st1.trans st2).gg) s3 ((st1.trans st2).trans st3)⟩
end
/-! ### statements -/
section
variable {K : PySem.W.Frag} {δ : DS} {M : Mu} {ta tb te to ti : TE} {i : Nat} {A : AEnds} {t u : TS} {tt : TT}
theorem Fit.go {M' : Mu} {G H G' H' : Hp} {E : Ends} (f : Fit K A M G H E) (st : Step (ads M) G H (ads M') G' H') : Fit K A M' G' H' E :=
  ⟨fun δ' M2 σ' G2 H2 a r s st2 => f.nx δ' M2 σ' G2 H2 a r s (st.trans st2), fun d M2 v G2 H2 a s st2 r => f.rt d M2 v G2 H2 a s (st.trans st2) r,
   fun δ' M2 σ' G2 H2 a r s st2 => f.bk δ' M2 σ' G2 H2 a r s (st.trans st2), fun δ' M2 σ' G2 H2 a r s st2 => f.ct δ' M2 σ' G2 H2 a r s (st.trans st2),
   fun fs M2 d G2 H2 a s st2 => f.xs fs M2 d G2 H2 a s (st.trans st2)⟩
theorem as_next (q : A.nx δ M) : AS K tNext δ M A := fun σ G H E rs s f => f.nx δ M σ G H q rs s Step.refl
theorem as_seq (h : AS K t δ M { A with nx := fun δ' M' => AS K u δ' M' A }) : AS K (tSeq t u) δ M A := fun σ G H E rs s f =>
  h σ G H { E with nx := u E } rs s ⟨fun δ' M' σ' G' H' a rs' s' st => a σ' G' H' E rs' s' (f.go st), f.rt, f.bk, f.ct, f.xs⟩
theorem as_asg {g : TG} (h : AE K te δ M fun d M1 => AG K g d δ M1 A.nx) : AS K (tAsg te g) δ M A := fun σ G H E rs s f =>
  h σ G H _ rs s fun d M1 v G1 H1 h1 s1 st1 r1 => h1 v σ G1 H1 E.nx r1 (rs.mono st1.gg) s1 fun δ' M' σ' G' H' a rs' s' st => f.nx δ' M' σ' G' H' a rs' s' (st1.trans st)
theorem as_set (h : AE K te δ M fun d M1 => A.nx (δ.set i (some d)) M1) : AS K (tAsg te (gName i)) δ M A := as_asg fun σ G H Q rs s f => h σ G H Q rs s fun d M' v G' H' q => f d M' v G' H' (ag_name q)
theorem as_ret (h : AE K te δ M A.rt) : AS K (tRet te) δ M A := fun σ G H E rs s f => h σ G H E.rt rs s fun d M1 v G1 H1 h1 s1 st1 r1 => f.rt d M1 v G1 H1 h1 s1 st1 r1
theorem as_retN (h : A.rt .non M) : AS K tRetN δ M A := fun σ G H E rs s f => f.rt .non M .non G H h s Step.refl rep_of_non
theorem as_if (h : AT K tt δ M fun b M1 => (b = true → AS K t δ M1 A) ∧ (b = false → AS K u δ M1 A)) : AS K (tIfS tt t u) δ M A := fun σ G H E rs s f =>
  h σ G H _ rs s fun b M1 G1 H1 ⟨h1, h2⟩ s1 st1 => by
    cases b with
    | true =>
      rw [if_pos rfl]
      exact h1 rfl σ G1 H1 E (rs.mono st1.gg) s1 (f.go st1)
    | false =>
      rw [if_neg Bool.false_ne_true]
      exact h2 rfl σ G1 H1 E (rs.mono st1.gg) s1 (f.go st1)
theorem as_drop (h : AE K te δ M fun _ M1 => A.nx δ M1) : AS K (tDrop te) δ M A := fun σ G H E rs s f => h σ G H _ rs s fun d M1 v G1 H1 h1 s1 st1 r1 => f.nx δ M1 σ G1 H1 h1 (rs.mono st1.gg) s1 st1
theorem as_brk (h : A.bk δ M) : AS K tBreak δ M A := fun σ G H E rs s f => f.bk δ M σ G H h rs s Step.refl
theorem as_cont (h : A.ct δ M) : AS K tCont δ M A := fun σ G H E rs s f => f.ct δ M σ G H h rs s Step.refl
theorem as_aug {r : TIp} {x : D} (hx : δ[i]? = some (some x)) (h : AE K te δ M fun y M1 => AR K r x y M1 fun z M2 => A.nx (δ.set i (some z)) M2) : AS K (tAug i te r) δ M A := fun σ G H E rs s f => by
  obtain ⟨v, e, rv⟩ := rs.at_ i x hx
  exact ⟨v, e, h σ G H _ rs s fun y M1 vy G1 H1 h1 s1 st1 r1 => h1 v vy G1 H1 _ (Rep.mono st1.gg _ _ rv) r1 s1 fun z M2 vz G2 H2 h2 s2 st2 r2 =>
    f.nx _ M2 _ G2 H2 h2 ((rs.mono (st1.trans st2).gg).set i r2) s2 (st1.trans st2)⟩
theorem as_while (I : Nat → DS → Mu → Prop) (m : Nat) (h0 : I m δ M) (h : ∀ m δ' M', I m δ' M' → AT K tt δ' M' fun b M1 => (b = true → AS K t δ' M1 { A with nx := fun δ2 M2 => ∃ m', m' < m ∧ I m' δ2 M2, ct := fun δ2 M2 => ∃ m', m' < m ∧ I m' δ2 M2, bk := A.nx }) ∧ (b = false → A.nx δ' M1)) : AS K (tWhile tt t) δ M A := fun σ G H E rs s f =>
  ⟨fun m σ' H' => ∃ δ' M' G', I m δ' M' ∧ RelS K G' δ' σ' ∧ S K G' H' M' ∧ Step (ads M) G H (ads M') G' H', ⟨m, δ, M, G, h0, rs, s, Step.refl⟩, fun m σ' H' ⟨δ', M', G', hI, rs', s', st'⟩ =>
    h m δ' M' hI σ' G' H' _ rs' s' fun b M1 G1 H1 ⟨h1, h2⟩ s1 st1 => by
      cases b with
      | true =>
        rw [if_pos rfl]
        refine ⟨fun σ2 H2 => ∃ m', m' < m ∧ ∃ δ' M' G', I m' δ' M' ∧ RelS K G' δ' σ2 ∧ S K G' H2 M' ∧ Step (ads M) G H (ads M') G' H2, fun σ2 H2 ⟨m', hm, q⟩ => ⟨m', hm, q⟩, ?_⟩
        refine h1 rfl σ' G1 H1 _ (rs'.mono st1.gg) s1 ⟨?_, ?_, ?_, ?_, ?_⟩
        · rintro δ2 M2 σ2 G2 H2 ⟨m', hm, q⟩ rs2 s2 st2
          exact ⟨m', hm, δ2, M2, G2, q, rs2, s2, (st'.trans st1).trans st2⟩
        · intro d M2 v G2 H2 q s2 st2 r2
          exact f.rt d M2 v G2 H2 q s2 ((st'.trans st1).trans st2) r2
        · intro δ2 M2 σ2 G2 H2 q rs2 s2 st2
          exact f.nx δ2 M2 σ2 G2 H2 q rs2 s2 ((st'.trans st1).trans st2)
        · rintro δ2 M2 σ2 G2 H2 ⟨m', hm, q⟩ rs2 s2 st2
          exact ⟨m', hm, δ2, M2, G2, q, rs2, s2, (st'.trans st1).trans st2⟩
        · intro fs M2 d G2 H2 q s2 st2
          exact f.xs fs M2 d G2 H2 q s2 ((st'.trans st1).trans st2)
      | false =>
        rw [if_neg Bool.false_ne_true]
        exact f.nx δ' M1 σ' G1 H1 (h2 rfl) (rs'.mono st1.gg) s1 (st'.trans st1)⟩
theorem as_for {wi : TI} {g : TG} (h : AI K wi δ M fun ds M1 => ∃ I : Nat → DS → Mu → Prop, I 0 δ M1 ∧
      (∀ i d δ' M', ds[i]? = some d → I i δ' M' → AG K g d δ' M' fun δ2 M2 => AS K t δ2 M2 { A with nx := I (i + 1), ct := I (i + 1), bk := A.nx }) ∧
      (∀ δ' M', I ds.length δ' M' → A.nx δ' M')) : AS K (tFor wi g t) δ M A := fun σ G H E rs s f =>
  h σ G H _ rs s fun ds M1 G1 H1 J ⟨I, h0, hs, he⟩ s1 st1 ok => by
    refine ⟨fun i m σ' H' => m = ds.length - i ∧ i ≤ ds.length ∧ ∃ δ' M' G', I i δ' M' ∧ RelS K G' δ' σ' ∧ S K G' H' M' ∧ Step (ads M1) G1 H1 (ads M') G' H', ⟨ds.length, by simp, Nat.zero_le _, δ, M1, G1, h0, rs.mono st1.gg, s1, Step.refl⟩, ?_⟩
    rintro i m σ' H' ⟨rfl, hi, δ', M', G', hI, rs', s', st'⟩
    obtain ⟨o1, o2⟩ := ok i G' H' M' st'.gg s'
    by_cases hl : i < ds.length
    · obtain ⟨hgo, hy⟩ := o1 ds[i] (List.getElem?_eq_getElem hl)
      refine .inr ⟨hgo, fun σ2 H2 => ∃ δ' M' G', I (i + 1) δ' M' ∧ RelS K G' δ' σ2 ∧ S K G' H2 M' ∧ Step (ads M1) G1 H1 (ads M') G' H2, fun σ2 H2 q => ⟨ds.length - (i + 1), by omega, rfl, hl, q⟩, fun x H2 y => ?_⟩
      obtain ⟨G2, s2, st2, r2⟩ := hy x H2 y
      refine hs i ds[i] δ' M' (List.getElem?_eq_getElem hl) hI x σ' G2 H2 _ r2 (rs'.mono st2.gg) s2 fun δ3 M3 σ3 G3 H3 h3 rs3 s3 st3 => ?_
      refine h3 σ3 G3 H3 _ rs3 s3 ⟨?_, ?_, ?_, ?_, ?_⟩
      · intro δ4 M4 σ4 G4 H4 q rs4 s4 st4
        exact ⟨δ4, M4, G4, q, rs4, s4, ((st'.trans st2).trans st3).trans st4⟩
      · intro d M4 v G4 H4 q s4 st4 r4
        exact f.rt d M4 v G4 H4 q s4 (st1.trans (((st'.trans st2).trans st3).trans st4)) r4
      · intro δ4 M4 σ4 G4 H4 q rs4 s4 st4
        exact f.nx δ4 M4 σ4 G4 H4 q rs4 s4 (st1.trans (((st'.trans st2).trans st3).trans st4))
      · intro δ4 M4 σ4 G4 H4 q rs4 s4 st4
        exact ⟨δ4, M4, G4, q, rs4, s4, ((st'.trans st2).trans st3).trans st4⟩
      · intro fs M4 d G4 H4 q s4 st4
        exact f.xs fs M4 d G4 H4 q s4 (st1.trans (((st'.trans st2).trans st3).trans st4))
    · have e : i = ds.length := by omega
      subst e
      exact .inl ⟨o2 rfl, f.nx δ' M' σ' G' H' (he δ' M' hI) rs' s' (st1.trans st')⟩
/-- the freezing of a slot -/
theorem as_freeze {a : Addr} {ds : List D} {M1 M2 : Mu} (hi : δ[i]? = some (some (.ref a))) (e : M = M1 ++ (a, .lst ds) :: M2) (h : AS K t (δ.set i (some (.lst ds))) (M1 ++ M2) A) : AS K t δ M A := fun σ G H E rs s f => by
  subst e
  obtain ⟨xs, s2, st2, e3, r2⟩ := s.freeze
  obtain ⟨v, hv, rv⟩ := rs.at_ i _ hi
  rw [rep_ref rv] at hv
  exact h σ _ H E ((rs.mono e3).setD i hv r2) s2 (f.go st2)
/-- what follows, by another word -/
theorem AS.mono {A' : AEnds} (h : AS K t δ M A') (h1 : ∀ δ M, A'.nx δ M → A.nx δ M) (h2 : ∀ d M, A'.rt d M → A.rt d M) (h3 : ∀ δ M, A'.bk δ M → A.bk δ M) (h4 : ∀ δ M, A'.ct δ M → A.ct δ M) (h5 : ∀ fs M, A'.xs fs M → A.xs fs M) (h6 : ∀ d H, A.W d H → A'.W d H) : AS K t δ M A := fun σ G H E rs s f =>
  h σ G H E rs s ⟨fun δ' M' σ' G' H' q => f.nx δ' M' σ' G' H' (h1 _ _ q), fun d M' v G' H' q => f.rt d M' v G' H' (h2 _ _ q), fun δ' M' σ' G' H' q => f.bk δ' M' σ' G' H' (h3 _ _ q), fun δ' M' σ' G' H' q => f.ct δ' M' σ' G' H' (h4 _ _ q), fun fs M' d G' H' q s' st => h6 _ _ (f.xs fs M' d G' H' (h5 _ _ q) s' st)⟩
end
end Tg
set_option Elab.async false
set_option linter.all false
set_option maxRecDepth 100000
set_option maxHeartbeats 1000000
namespace Tg
open PySem L2 PyProof.Rows
/-! ### what is walked -/
section
variable {K : PySem.W.Frag} {G : Hp}
theorem itOk_list {a : Addr} {xs : List V} {ds : List D} (h : SqL K G a xs) (r : Reps K G ds xs) : ItOk K (Itl K a) G ds := fun i G1 H1 M e s => by
  have hq : SqL K H1 a xs := s.same.seq (e.seq h)
  refine ⟨fun d hd => ?_, fun hi => ⟨xs, hq, by rw [r.len, hi]; exact Nat.le_refl _⟩⟩
  obtain ⟨x, hx, rx⟩ := r.get hd
  refine ⟨⟨xs, x, hq, hx⟩, fun y H' hy => ?_⟩
  obtain ⟨rfl, hy⟩ := hy
  have e2 : x = y := Option.some.inj (hx.symm.trans (hy xs hq))
  subst e2
  exact ⟨G1, s, Step.refl, Rep.mono e _ _ rx⟩
theorem itOk_tup {a : Addr} {xs : List V} {ds : List D} (h : SqT K G a xs) (r : Reps K G ds xs) : ItOk K (Itt K a) G ds := fun i G1 H1 M e s => by
  have hq : SqT K H1 a xs := Same.seqT s.same (Same.seqT e h)
  refine ⟨fun d hd => ?_, fun hi => ⟨xs, hq, by rw [r.len, hi]; exact Nat.le_refl _⟩⟩
  obtain ⟨x, hx, rx⟩ := r.get hd
  refine ⟨⟨xs, x, hq, hx⟩, fun y H' hy => ?_⟩
  obtain ⟨rfl, hy⟩ := hy
  have e2 : x = y := Option.some.inj (hx.symm.trans (hy xs hq))
  subst e2
  exact ⟨G1, s, Step.refl, Rep.mono e _ _ rx⟩
/-- the ints from lo on -/
def rng (lo : Int) (n : Nat) : List D := (List.range n).map fun i => .int (lo + (i : Nat))
theorem rng_len (lo : Int) (n : Nat) : (rng lo n).length = n := by simp [rng]
theorem rng_get {lo : Int} {n i : Nat} {d : D} (h : (rng lo n)[i]? = some d) : i < n ∧ d = .int (lo + (i : Nat)) := by
  unfold rng at h
  rw [List.getElem?_map] at h
  by_cases hi : i < n
  · rw [List.getElem?_range hi] at h
    exact ⟨hi, by simpa using h.symm⟩
  · rw [List.getElem?_eq_none (by simpa using hi)] at h
    cases h
theorem itOk_rng {lo : Int} {n : Nat} : ItOk K (Itr lo n) G (rng lo n) := fun i G1 H1 M e s => by
  refine ⟨fun d hd => ?_, fun hi => ?_⟩
  · obtain ⟨hi, rfl⟩ := rng_get hd
    refine ⟨hi, fun y H' hy => ?_⟩
    obtain ⟨rfl, rfl⟩ := hy
    exact ⟨G1, s, Step.refl, rep_of_int⟩
  · rw [rng_len] at hi
    exact Nat.le_of_eq hi.symm
def signs (z : Str) : List D := z.cps.toList.map fun c => .str ⟨#[c]⟩
theorem itOk_str {z : Str} : ItOk K (Its z) G (signs z) := fun i G1 H1 M e s => by
  refine ⟨fun d hd => ?_, fun hi => ?_⟩
  · unfold signs at hd
    rw [List.getElem?_map] at hd
    cases hc : z.cps.toList[i]? with
    | none => rw [hc] at hd; cases hd
    | some c =>
      rw [hc] at hd
      have e1 : D.str ⟨#[c]⟩ = d := by simpa using hd
      subst e1
      have hi : i < z.cps.size := by
        have h2 := (List.getElem?_eq_some_iff.mp hc).1
        simpa using h2
      refine ⟨hi, fun y H' hy => ?_⟩
      obtain ⟨rfl, c', h1, rfl⟩ := hy
      have e2 : c = c' := by
        have h3 : z.cps[i]? = some c := by simpa using hc
        rw [h1] at h3
        exact (Option.some.inj h3).symm
      subst e2
      exact ⟨G1, s, Step.refl, rep_of_str⟩
  · have h2 : z.cps.size ≤ i := by
      rw [hi]
      simp [signs]
    exact h2
/-- pairs of a number and an item -/
def enumD (ds : List D) : List D := ds.zipIdx.map fun p => .tup [.int (p.2 : Nat), p.1]
theorem itOk_enum {a : Addr} {xs : List V} {ds : List D} (h : SqL K G a xs) (r : Reps K G ds xs) : ItOk K (Ite K a) G (enumD ds) := fun i G1 H1 M e s => by
  have hq : SqL K H1 a xs := s.same.seq (e.seq h)
  refine ⟨fun d hd => ?_, fun hi => ⟨xs, hq, by rw [r.len, hi]; simp [enumD]⟩⟩
  unfold enumD at hd
  rw [List.getElem?_map, List.getElem?_zipIdx] at hd
  cases hc : ds[i]? with
  | none => rw [hc] at hd; cases hd
  | some c =>
    rw [hc] at hd
    have e1 : D.tup [.int ((0 + i : Nat) : Int), c] = d := by simpa using hd
    rw [Nat.zero_add] at e1
    subst e1
    obtain ⟨x, hx, rx⟩ := r.get hc
    refine ⟨⟨xs, x, hq, hx⟩, fun y H' hy => ?_⟩
    obtain ⟨T, x', rfl, nT, rfl, hy⟩ := hy
    have e2 : x = x' := Option.some.inj (hx.symm.trans (hy xs hq))
    subst e2
    obtain ⟨s2, st2, e3⟩ := s.frozen (o := .tup [.int (i : Nat), x]) nT
    exact ⟨_, s2, st2, rep_mk_tup (.inl (.inl upd_same)) (Reps.cons rep_of_int (Reps.one (Rep.mono (e.trans e3) _ _ rx)))⟩
end
/-- a list, a tuple, a text -/
def iSeq (K : PySem.W.Frag) (tl : TE) : TI := fun σ H R => tl σ H fun x H1 => (∃ a, x = .ref a ∧ (∃ xs, SqL K H1 a xs) ∧ R (Itl K a) H1) ∨ (∃ a, x = .ref a ∧ (∃ xs, SqT K H1 a xs) ∧ R (Itt K a) H1) ∨ (∃ z, x = .str z ∧ R (Its z) H1)
theorem pi_seq {X : Cx} {tg l : Expr} {tl : TE} (hl : PE X l tl) : PI X tg l (iSeq X.K tl) := by
  refine ⟨fun pins s σ H R I h => ?_⟩
  refine thn (hl.run pins s σ H _ I h) fun v s1 ⟨x, H1, I1, r1, q1⟩ => ?_
  rcases q1 with ⟨a, e, ⟨xs, hq⟩, q⟩ | ⟨a, e, ⟨xs, hq⟩, q⟩ | ⟨z, e, q⟩
  · subst e
    cases r1
    obtain ⟨its, rv, p, hz⟩ := I1.list hq
    refine wpAny_pyIter_list p.isList ?_
    refine ⟨s1.heap.objs.size, [s1.heap.objs.size], _, _, H1, rfl, I1.kept (t' := s1.toks) fun b o e => Heap.get?_push_of_some _ e, turn_list a _, ⟨_, Heap.get?_push_size _ rfl, rfl, rfl⟩, fun b hb => ?_, q⟩
    have e : b = s1.heap.objs.size := by simpa using hb
    subst e
    exact I1.fpOk (Nat.le_refl _) (I1.hok.fresh (Nat.le_refl _))
  · subst e
    cases r1
    obtain ⟨its, rv, p, hz⟩ := I1.tuple hq
    refine wpAny_pyIter_tuple (show s1.heap.IsTuple a its.toArray from p) ?_
    refine ⟨s1.heap.objs.size, [s1.heap.objs.size], _, _, H1, rfl, I1.kept (t' := s1.toks) fun b o e => Heap.get?_push_of_some _ e, turn_tuple a _, ⟨_, Heap.get?_push_size _ rfl, rfl, rfl⟩, fun b hb => ?_, q⟩
    have e : b = s1.heap.objs.size := by simpa using hb
    subst e
    exact I1.fpOk (Nat.le_refl _) (I1.hok.fresh (Nat.le_refl _))
  · subst e
    obtain ⟨t, rfl⟩ := r1
    cases ha : z.cps.all (· < 128)
    · exact wpAny_pyIter_wide ha (pi_one (tk := s1.toks) I1 _ (turn_str _ z t "str_iterator" (.inr rfl)) ⟨_, Heap.get?_push_size _ rfl, rfl, rfl⟩ q)
    · exact wpAny_pyIter_ascii ha (pi_one (tk := s1.toks) I1 _ (turn_str _ z t "str_ascii_iterator" (.inl rfl)) ⟨_, Heap.get?_push_size _ rfl, rfl, rfl⟩ q)
/-- the items of a deep value -/
def itemsD : D → Option (List D)
  | .lst ds => some ds
  | .lsk ds => some ds
  | .tup ds => some ds
  | .str z => some (signs z)
  | _ => none
section
variable {K : PySem.W.Frag} {δ : DS} {M : Mu} {ta tb te tl : TE} {k : D → Mu → Prop} {ki : List D → Mu → Prop}
theorem ai_seq (h : AE K tl δ M fun d M1 => ∃ ds, itemsD d = some ds ∧ ki ds M1) : AI K (iSeq K tl) δ M ki := fun σ G H R rs s f =>
  h σ G H _ rs s fun d M1 v G1 H1 ⟨ds, e, h1⟩ s1 st1 r1 => by
    cases d <;> simp only [itemsD, Option.some.injEq, reduceCtorEq] at e
    · subst e
      rw [rep_str r1]
      exact .inr (.inr ⟨_, rfl, f _ M1 G1 H1 _ h1 s1 st1 itOk_str⟩)
    · subst e
      obtain ⟨a, xs, rfl, ha, rx⟩ := rep_tup r1
      exact .inr (.inl ⟨a, rfl, ⟨xs, Same.seqT s1.same ha⟩, f _ M1 G1 H1 _ h1 s1 st1 (itOk_tup ha rx)⟩)
    · subst e
      obtain ⟨a, xs, rfl, ha, rx⟩ := rep_lst r1
      exact .inl ⟨a, rfl, ⟨xs, .inl (.inl (s1.same _ _ ha))⟩, f _ M1 G1 H1 _ h1 s1 st1 (itOk_list (.inl (.inl ha)) rx)⟩
    · subst e
      obtain ⟨a, xs, rfl, ha, rx⟩ := rep_lsk r1
      exact .inl ⟨a, rfl, ⟨xs, s1.same.seq ha⟩, f _ M1 G1 H1 _ h1 s1 st1 (itOk_list ha rx)⟩
theorem ai_range1 {ts : TA} (h : AA K ts δ M fun ds M1 => ∃ j : Int, ds = [.int j] ∧ -(2 ^ 62) ≤ j ∧ j < 2 ^ 62 ∧ ki (rng 0 j.toNat) M1) : AI K (iRng1 ts) δ M ki := fun σ G H R rs s f =>
  h σ G H _ rs s fun ds M1 vs G1 H1 ⟨j, e, h2, h3, h1⟩ s1 st1 r1 => by
    subst e
    obtain ⟨x, r, rfl, rx, rr⟩ := r1.uncons
    unfold Reps at rr
    subst rr
    exact ⟨j, by rw [rep_int rx], h2, h3, f _ M1 G1 H1 _ h1 s1 st1 itOk_rng⟩
theorem ai_range2 {ts : TA} (h : AA K ts δ M fun ds M1 => ∃ i j : Int, ds = [.int i, .int j] ∧ (-(2 ^ 62) ≤ i ∧ i < 2 ^ 62 ∧ -(2 ^ 62) ≤ j ∧ j < 2 ^ 62) ∧ ki (rng i (j - i).toNat) M1) : AI K (iRng2 ts) δ M ki := fun σ G H R rs s f =>
  h σ G H _ rs s fun ds M1 vs G1 H1 ⟨i, j, e, h2, h1⟩ s1 st1 r1 => by
    subst e
    obtain ⟨x, r, rfl, rx, rr⟩ := r1.uncons
    obtain ⟨y, r2, rfl, ry, rr⟩ := rr.uncons
    unfold Reps at rr
    subst rr
    exact ⟨i, j, by rw [rep_int rx, rep_int ry], h2, f _ M1 G1 H1 _ h1 s1 st1 itOk_rng⟩
/-! ### comprehensions -/
def wipeD (δ : DS) : List Nat → DS
  | [] => δ
  | v :: vs => (wipeD δ vs).set v none
theorem relS_wipe {G : Hp} {σ : L2.St} (r : RelS K G δ σ) : ∀ vs : List Nat, RelS K G (wipeD δ vs) (wipe σ vs)
  | [] => r
  | v :: vs => (relS_wipe r vs).drop v
/-- the target of a comprehension stores into the wiped slots alone -/
structure OwnG (vs : List Nat) (g : TG) : Prop where
  run : ∀ x σ H (Q : L2.St → Hp → Prop), g x σ H Q → g x σ H fun σ2 H2 => wipe σ2 vs = wipe σ vs ∧ Q σ2 H2
theorem wipe_set {σ : L2.St} {i : Nat} {v : Option V} : ∀ {vs : List Nat}, i ∈ vs → wipe (σ.set i v) vs = wipe σ vs
  | w :: vs, h => by
    show (wipe (σ.set i v) vs).set w none = (wipe σ vs).set w none
    by_cases hi : i ∈ vs
    · rw [wipe_set hi]
    · have e : i = w := by
        rcases List.mem_cons.mp h with e | e
        · exact e
        · exact absurd e hi
      subst e
      have aux : ∀ us : List Nat, (wipe (σ.set i v) us).set i none = (wipe σ us).set i none := by
        intro us
        induction us with
        | nil => show (σ.set i v).set i none = σ.set i none; rw [List.set_set]
        | cons u us ih =>
          show ((wipe (σ.set i v) us).set u none).set i none = ((wipe σ us).set u none).set i none
          by_cases hu : u = i
          · subst hu
            rw [List.set_set, List.set_set]
            exact ih
          · rw [List.set_comm _ _ hu, List.set_comm _ _ hu, ih]
      exact aux vs
theorem wipe_wipe {σ : L2.St} : ∀ vs : List Nat, wipe (wipe σ vs) vs = wipe σ vs := by
  have aux : ∀ (us vs : List Nat), (∀ u ∈ us, u ∈ vs) → wipe (wipe σ us) vs = wipe σ vs := by
    intro us
    induction us with
    | nil => intro vs _; rfl
    | cons u us ih =>
      intro vs h
      show wipe ((wipe σ us).set u none) vs = wipe σ vs
      rw [wipe_set (h u (by simp))]
      exact ih vs fun w hw => h w (List.mem_cons_of_mem _ hw)
  exact fun vs => aux vs vs fun _ h => h
theorem ownG_name {i : Nat} {vs : List Nat} (h : i ∈ vs) : OwnG vs (gName i) := ⟨fun x σ H Q q => ⟨wipe_set h, q⟩⟩
/-- several names -/
structure OwnGs (vs : List Nat) (g : TGs) : Prop where
  run : ∀ xs σ H (Q : L2.St → Hp → Prop), g xs σ H Q → g xs σ H fun σ2 H2 => wipe σ2 vs = wipe σ vs ∧ Q σ2 H2
theorem ownGs_nil {vs : List Nat} : OwnGs vs gNil := ⟨fun xs σ H Q ⟨e, q⟩ => ⟨e, rfl, q⟩⟩
theorem ownGs_cons {i : Nat} {vs : List Nat} {u : TGs} (h : i ∈ vs) (hu : OwnGs vs u) : OwnGs vs (gCons (gName i) u) := ⟨fun xs σ H Q ⟨v, r, e, q⟩ => ⟨v, r, e, by
  have q2 : u r (σ.set i (some v)) H Q := q
  have q3 := hu.run r (σ.set i (some v)) H Q q2
  rw [wipe_set h] at q3
  exact q3⟩⟩
theorem ownG_tup {n : Nat} {vs : List Nat} {u : TGs} (hu : OwnGs vs u) : OwnG vs (gTup K n u) := ⟨fun x σ H Q ⟨a, xs, e, hs, hl, q⟩ => ⟨a, xs, e, hs, hl, hu.run xs σ H Q q⟩⟩
theorem ae_lc {wi : TI} {g : TG} {tt : TT} {vs : List Nat} (og : OwnG vs g) (h : AI K wi δ M fun ds M1 => ds.length < sizeLine ∧ ∃ I : Nat → List D → Mu → Prop, I 0 [] M1 ∧
      (∀ i d acc M', ds[i]? = some d → I i acc M' → AG K g d (wipeD δ vs) M' fun δ2 M2 => AT K tt δ2 M2 fun b M3 => (b = true → AE K te δ2 M3 fun y M4 => I (i + 1) (acc ++ [y]) M4) ∧ (b = false → I (i + 1) acc M3)) ∧
      (∀ acc M', I ds.length acc M' → k (.lst acc) M')) : AE K (tLc wi g tt te vs) δ M k := fun σ G H Q rs s f =>
  h σ G H _ rs s fun ds M1 G1 H1 J ⟨hz, I, h0, hs, he⟩ s1 st1 ok Dl nD => by
    have gD : G1 Dl = none := s1.same.free nD
    have nM : ∀ p ∈ M1, p.1 ≠ Dl := fun p hp => by
      obtain ⟨_, o, ho, _⟩ := s1.mu p hp
      exact ne_of_none ho nD
    -- the state behind i turns; the list at Dl beside
    refine ⟨fun i m H' => m = ds.length - i ∧ i ≤ ds.length ∧ ∃ acc xs M' G', acc.length ≤ i ∧ I i acc M' ∧ H' Dl = some (.lst xs) ∧ Reps K G' acc xs ∧ G' Dl = none ∧ Dl ∉ ads M' ∧ S K G' H' M' ∧ Step (ads M1) G1 H1 (ads M') G' H',
      ⟨ds.length, by simp, Nat.zero_le _, [], [], M1, G1, Nat.le_refl _, h0, upd_same, Reps.nil, gD, fun z => ?_, ?_, ?_⟩, ?_⟩
    · obtain ⟨p, hp, e⟩ := List.mem_map.mp z
      exact nM p hp e
    · refine ⟨fun b u e => ?_, fun p hp => ?_, s1.nd⟩
      · rw [upd_ne (ne_of_none e gD)]
        exact s1.same b u e
      · obtain ⟨g1, o, ho, r⟩ := s1.mu p hp
        exact ⟨g1, o, by rw [upd_ne (nM p hp)]; exact ho, r⟩
    · refine ⟨Same.refl _, fun _ _ _ => rfl, fun b o _ e => ?_, fun b e => ?_, fun b hb => .inl hb⟩
      · rw [upd_ne (ne_of_none e nD)]
        exact e
      · by_cases hb : b = Dl
        · subst hb
          rw [upd_same]
          exact fun z => nomatch z
        · rw [upd_ne hb]
          exact e
    rintro i m H' ⟨rfl, hi, acc, xs, M', G', hal, hI, hD, rx, gD', nD', s', st'⟩
    obtain ⟨o1, o2⟩ := ok i G' H' M' st'.gg s'
    by_cases hl : i < ds.length
    · obtain ⟨hgo, hy⟩ := o1 ds[i] (List.getElem?_eq_getElem hl)
      -- the list at Dl beside any further step
      have beside : ∀ {A2 : List Addr} {G2 H2 : Hp}, Step (ads M') G' H' A2 G2 H2 → H2 Dl = some (.lst xs) ∧ G2 Dl = none ∧ Dl ∉ A2 := fun {A2 G2 H2} st => by
        refine ⟨st.keep _ _ nD' hD, ?_, fun z => ?_⟩
        · rw [st.fr Dl (by rw [hD]; exact fun z => nomatch z) nD']
          exact gD'
        · rcases st.own _ z with q | q
          · exact nD' q
          · rw [hD] at q
            cases q
      refine .inr ⟨hgo, fun H2 => ∃ acc xs M' G', acc.length ≤ i + 1 ∧ I (i + 1) acc M' ∧ H2 Dl = some (.lst xs) ∧ Reps K G' acc xs ∧ G' Dl = none ∧ Dl ∉ ads M' ∧ S K G' H2 M' ∧ Step (ads M1) G1 H1 (ads M') G' H2, fun H2 q => ⟨ds.length - (i + 1), by omega, rfl, hl, q⟩, fun x H2 y => ?_⟩
      obtain ⟨G2, s2, st2, r2⟩ := hy x H2 y
      have rsw : RelS K G2 (wipeD δ vs) (wipe σ vs) := relS_wipe (rs.mono (st1.gg.trans (st'.gg.trans st2.gg))) vs
      have body := hs i ds[i] acc M' (List.getElem?_eq_getElem hl) hI x (wipe σ vs) G2 H2 (fun σ2 H3 => tt σ2 H3 fun b H4 =>
        if b = true then te σ2 H4 fun y H5 => ∃ acc, H5 Dl = some (.lst acc) ∧ acc.length < sizeLine ∧ (fun H2 => ∃ acc xs M' G', acc.length ≤ i + 1 ∧ I (i + 1) acc M' ∧ H2 Dl = some (.lst xs) ∧ Reps K G' acc xs ∧ G' Dl = none ∧ Dl ∉ ads M' ∧ S K G' H2 M' ∧ Step (ads M1) G1 H1 (ads M') G' H2) (upd H5 Dl (.lst (acc ++ [y])))
        else (fun H2 => ∃ acc xs M' G', acc.length ≤ i + 1 ∧ I (i + 1) acc M' ∧ H2 Dl = some (.lst xs) ∧ Reps K G' acc xs ∧ G' Dl = none ∧ Dl ∉ ads M' ∧ S K G' H2 M' ∧ Step (ads M1) G1 H1 (ads M') G' H2) H4) r2 rsw s2 ?_
      · have fin := og.run x (wipe σ vs) H2 _ body
        rw [wipe_wipe] at fin
        exact fin
      · intro δ3 M3 σ3 G3 H3 h3 rs3 s3 st3
        refine h3 σ3 G3 H3 _ rs3 s3 fun b M4 G4 H4 ⟨h4, h5⟩ s4 st4 => ?_
        cases b with
        | true =>
          rw [if_pos rfl]
          refine h4 rfl σ3 G4 H4 _ (rs3.mono st4.gg) s4 fun y M5 vy G5 H5 q5 s5 st5 r5 => ?_
          have sta := ((st2.trans st3).trans st4).trans st5
          obtain ⟨b1, b2, b3⟩ := beside sta
          refine ⟨xs, b1, by rw [rx.len]; exact Nat.lt_of_le_of_lt hal (Nat.lt_of_lt_of_le hl (Nat.le_of_lt hz)), acc ++ [y], xs ++ [vy], M5, G5, by rw [List.length_append]; exact Nat.succ_le_succ hal, q5, upd_same, (Reps.mono sta.gg _ _ rx).append (Reps.one r5), b2, b3, ?_, ?_⟩
          · refine ⟨fun c u e => ?_, fun p hp => ?_, s5.nd⟩
            · rw [upd_ne (ne_of_none e b2)]
              exact s5.same c u e
            · obtain ⟨g1, o, ho, r⟩ := s5.mu p hp
              exact ⟨g1, o, by rw [upd_ne (fun z => b3 (List.mem_map.mpr ⟨p, hp, z⟩))]; exact ho, r⟩
          · have stb := st'.trans sta
            refine ⟨stb.gg, stb.fr, fun c o hc e => ?_, fun c e => ?_, stb.own⟩
            · rw [upd_ne (ne_of_none e nD)]
              exact stb.keep c o hc e
            · by_cases hcD : c = Dl
              · subst hcD
                rw [upd_same]
                exact fun z => nomatch z
              · rw [upd_ne hcD]
                exact stb.alive c e
        | false =>
          rw [if_neg Bool.false_ne_true]
          have sta := (st2.trans st3).trans st4
          obtain ⟨b1, b2, b3⟩ := beside sta
          exact ⟨acc, xs, M4, G4, Nat.le_succ_of_le hal, h5 rfl, b1, Reps.mono sta.gg _ _ rx, b2, b3, s4, st'.trans sta⟩
    · have e : i = ds.length := by omega
      subst e
      refine .inl ⟨o2 rfl, ?_⟩
      -- the list is frozen
      have sD : S K G' H' ([] ++ (Dl, .lst acc) :: M') := ⟨s'.same, fun p hp => by
        rcases List.mem_cons.mp hp with e | hp
        · subst e
          exact ⟨gD', _, hD, xs, rfl, rx⟩
        · exact s'.mu p hp, by
        show ((Dl, MO.lst acc) :: M' |>.map (·.1)).Nodup
        rw [List.map_cons, List.nodup_cons]
        exact ⟨nD', s'.nd⟩⟩
      obtain ⟨ys, s5, st5, e5, r5⟩ := sD.freeze
      refine f (.lst acc) M' (.ref Dl) _ H' (he acc M' hI) s5 (st1.trans ?_) r5
      refine ⟨st'.gg.trans e5, fun b hb hn => ?_, st'.keep, st'.alive, st'.own⟩
      rw [upd_ne (fun z => by rw [z] at hb; exact hb nD)]
      exact st'.fr b hb hn
end
/-! ### a def -/
section
variable {P : Program} {w : World} {K : PySem.W.Frag} {mg : Str → Option Value} {base : Heap}
theorem spc_ok {W : Wt} {x qual : Str} {st : Stmt} {f : Addr} {fd : FuncData} {N ps : List Str} {k : Nat} (F : Fun K x qual st f fd) (Sc : FnScope N ps (defScope st)) (len : ∀ ds M kk, W ds M kk → ds.length = ps.length)
    (hbody : ∀ (cdv : Value) (A : Around) (outer : List Env) (s : Shared) (H : Hp) (E : XK), Room k (A.deeper (envOfC qual (defScope st) s.heap.objs.size f cdv)) →
      ∃ t, PSs (cxOf CX0 P w K mg base N qual (defScope st) f cdv A outer s H E).nox (defBody st) t ∧ ∀ ds M kk, W ds M kk → AS K t (startD N.length ds) M { nx := fun _ M' => kk .non M', rt := kk }) : FnOk P w K mg base CX0 (k + 1) f fd ps (Spc K W) := by
  refine F.ok Sc (fun vs H Q E h => ?_) (fun cdv A outer s H vs Q E hr h => ?_)
  · obtain ⟨G, ds, M, kk, r, _, hw, _⟩ := h
    rw [r.len]
    exact len ds M kk hw
  · obtain ⟨G, ds, M, kk, r, hs, hw, q⟩ := h
    obtain ⟨t, pt, ht⟩ := hbody cdv A outer s H E hr
    refine ⟨t, pt, ht ds M kk hw (start N vs) G H _ (relS_start r) hs ⟨?_, ?_, ?_, ?_, ?_⟩⟩
    · intro δ' M' σ' G' H' a rs' s' st'
      exact q .non M' .non G' H' a s' st' rep_of_non
    · intro d M' v G' H' a s' st' rv
      exact q d M' v G' H' a s' st' rv
    · intro δ' M' σ' G' H' a
      exact a.elim
    · intro δ' M' σ' G' H' a
      exact a.elim
    · intro fs M' d G' H' a
      exact a.elim
end
end Tg
set_option Elab.async false
set_option linter.all false
set_option maxRecDepth 100000
set_option maxHeartbeats 1000000
namespace Tg
open PySem L2 PyProof.Rows
/-! ### texts by their codes -/
def tx (l : List Nat) : Str := ⟨l.toArray⟩
theorem tx_len (l : List Nat) : (tx l).length = l.length := by
  show l.toArray.size = l.length
  simp
theorem tx_codes (z : Str) : tx z.cps.toList = z := by
  cases z
  simp [tx]
theorem tx_cps (l : List Nat) : (tx l).cps.toList = l := by simp [tx]
theorem tx_inj {a b : List Nat} (h : tx a = tx b) : a = b := by
  have := congrArg (fun z : Str => z.cps.toList) h
  simpa [tx] using this
theorem tx_app (a b : List Nat) : tx a ++ tx b = tx (a ++ b) := by
  show (⟨a.toArray ++ b.toArray⟩ : Str) = ⟨(a ++ b).toArray⟩
  simp
theorem tx_nil : tx [] = (⟨#[]⟩ : Str) := rfl
theorem tx_signs (l : List Nat) : signs (tx l) = l.map fun c => .str (tx [c]) := by
  unfold signs
  rw [tx_cps]
  rfl
theorem tx_eq {a b : List Nat} : decide (tx a = tx b) = decide (a = b) := by
  by_cases h : a = b
  · subst h; simp
  · rw [decide_eq_false h, decide_eq_false fun z => h (tx_inj z)]
theorem tx_join (ls : List (List Nat)) : Txt.join (tx []) (ls.map tx) = tx ls.flatten := by
  rw [TL.join_eq]
  induction ls with
  | nil => rfl
  | cons a r ih =>
    cases r with
    | nil =>
      show tx a = _
      simp
    | cons b r =>
      show tx a ++ tx [] ++ Str.join (tx []) ((b :: r).map tx) = _
      rw [ih, tx_app, tx_app]
      simp
theorem tx_cut (l : List Nat) (lo hi : Option Int) : cutS (tx l) lo hi = tx ((l.drop (HT.sIx l.length 0 lo)).take (HT.sIx l.length l.length hi - HT.sIx l.length 0 lo)) := by
  unfold cutS
  rw [tx_len, tx_cps]
  rfl
/-! ### universal operations -/
section
variable {X : Cx}
abbrev rAddU (K : PySem.W.Frag) : R2 := fun x y H Q => (rI0 fun i j => .int (i + j)) x y H Q ∨ ((fun x y H Q => ∃ i j, x = .str i ∧ y = .str j ∧ i.length + j.length ≤ sizeLine ∧ Q (.str (i ++ j)) H) x y H Q ∨ (rCat x y H Q ∨ rCatA K x y H Q))
theorem op_addU : OpR X (binaryOp .Add) (rAddU X.K) := op_add.or (op_add_str.or (op_cat.or op_catA))
abbrev rIAddU : R2 := fun x y H Q => (rI0 fun i j => .int (i + j)) x y H Q ∨ ((fun x y H Q => ∃ i j, x = .str i ∧ y = .str j ∧ i.length + j.length ≤ sizeLine ∧ Q (.str (i ++ j)) H) x y H Q)
theorem ip_addU : PIp X .Add rIAddU := iop_add.or iop_add_str
theorem ip_subU : PIp X .Sub (rI0 fun i j => .int (i - j)) := iop_sub
def rSlU (K : PySem.W.Frag) : V → Option Int → Option Int → Hp → VK → Prop := fun x lo hi H Q => rSlL K x lo hi H Q ∨ (rSlS x lo hi H Q ∨ rSlA K x lo hi H Q)
theorem sl_any : SlR X (rSlU X.K) := by
  intro pins s σ H x v vl vu lo hi sl Q I rx hs pl pu h
  rcases h with h | h | h
  · exact sl_list pins s σ H x v vl vu lo hi sl Q I rx hs pl pu h
  · exact sl_str pins s σ H x v vl vu lo hi sl Q I rx hs pl pu h
  · exact sl_tupA pins s σ H x v vl vu lo hi sl Q I rx hs pl pu h
def rLenU (K : PySem.W.Frag) : List V → Hp → VK → Prop := fun xs H Q => (∃ p ys, xs = [.ref p] ∧ (SqL K H p ys ∨ SqT K H p ys) ∧ Q (.int ys.length) H) ∨ (∃ z, xs = [.str z] ∧ z.length ≤ sizeLine ∧ Q (.int z.length) H)
theorem call_lenU : CallR X (.builtin "len") (rLenU X.K) := call_len_seq.or call_len_str
def rTupU (K : PySem.W.Frag) : List V → Hp → VK → Prop := fun xs H Q => ∃ p ys, xs = [.ref p] ∧ ((SqL K H p ys ∧ ∀ l, H l = none → Q (.ref l) (upd H l (.tup ys))) ∨ (SqT K H p ys ∧ Q (.ref p) H))
theorem call_tupU : CallR X (.type "tuple") (rTupU X.K) := call_tuple_of
def rListU (K : PySem.W.Frag) : List V → Hp → VK → Prop := fun xs H Q => ∃ p ys, xs = [.ref p] ∧ (SqL K H p ys ∨ SqT K H p ys) ∧ ∀ l, H l = none → Q (.ref l) (upd H l (.lst ys))
theorem call_listU : CallR X (.type "list") (rListU X.K) := call_list_of
def rIntU : List V → Hp → VK → Prop := fun xs H Q => (∃ i, xs = [.int i] ∧ Q (.int i) H) ∨ ∃ k, xs = [.bl k] ∧ Q (.int (if k then 1 else 0)) H
theorem call_intU : CallR X (.type "int") rIntU := call_int1
def rMin2 : List V → Hp → VK → Prop := fun xs H Q => ∃ i j, xs = [.int i, .int j] ∧ Q (.int (if j < i then j else i)) H
theorem call_minU (hc : X.calm = true) : CallR X (.builtin "min") rMin2 := call_min2 hc
end
section
variable {K : PySem.W.Frag} {δ : DS} {M : Mu} {ta tb te to : TE} {k : D → Mu → Prop} {x y d : D}
theorem au_int {a b : Int} (q : k (.int (a + b)) M) : AR K (rAddU K) (.int a) (.int b) M k := ar_or1 (ar_int q)
theorem au_str {a b : List Nat} (h : a.length + b.length ≤ sizeLine) (q : k (.str (tx (a ++ b))) M) : AR K (rAddU K) (.str (tx a)) (.str (tx b)) M k := ar_or2 (ar_or1 fun vx vy G H Q rx ry s f =>
  ⟨tx a, tx b, rep_str rx, rep_str ry, by rw [tx_len, tx_len]; exact h, by rw [tx_app]; exact f _ M _ G H q s Step.refl rep_of_str⟩)
theorem au_lst {a b : List D} (h : a.length + b.length ≤ sizeLine) (q : k (.lst (a ++ b)) M) : AR K (rAddU K) (.lst a) (.lst b) M k := ar_or2 (ar_or2 (ar_or1 fun vx vy G H Q rx ry s f => by
  obtain ⟨p, xs, rfl, hp, r1⟩ := rep_lst rx
  obtain ⟨q', ys, rfl, hq, r2⟩ := rep_lst ry
  refine ⟨p, q', xs, ys, rfl, rfl, s.same _ _ hp, s.same _ _ hq, by rw [r1.len, r2.len]; exact h, fun l hl => ?_⟩
  obtain ⟨s2, st2, e2⟩ := s.frozen (o := .lst (xs ++ ys)) hl
  exact f _ M _ _ _ q s2 st2 (rep_mk_lst upd_same (Reps.mono e2 _ _ (r1.append r2)))))
theorem au_tup {a b : List D} (h : a.length + b.length ≤ sizeLine) (q : k (.tup (a ++ b)) M) : AR K (rAddU K) (.tup a) (.tup b) M k := ar_or2 (ar_or2 (ar_or2 fun vx vy G H Q rx ry s f => by
  obtain ⟨p, xs, rfl, hp, r1⟩ := rep_tup rx
  obtain ⟨q', ys, rfl, hq, r2⟩ := rep_tup ry
  refine ⟨p, q', xs, ys, rfl, rfl, Same.seqT s.same hp, Same.seqT s.same hq, by rw [r1.len, r2.len]; exact h, fun e => ?_, fun e1 e2 => ?_, fun e1 e2 l hl => ?_⟩
  · refine f _ M _ G H q s Step.refl (rep_mk_tup hq ?_)
    have e1 : a = [] := List.length_eq_zero_iff.mp (by rw [← r1.len, e]; rfl)
    subst e1
    exact r2
  · refine f _ M _ G H q s Step.refl (rep_mk_tup hp ?_)
    have e1 : b = [] := List.length_eq_zero_iff.mp (by rw [← r2.len, e2]; rfl)
    subst e1
    rw [List.append_nil]
    exact r1
  · obtain ⟨s2, st2, e2⟩ := s.frozen (o := .tup (xs ++ ys)) hl
    exact f _ M _ _ _ q s2 st2 (rep_mk_tup (.inl (.inl upd_same)) (Reps.mono e2 _ _ (r1.append r2)))))
theorem ai_int {a b : Int} (q : k (.int (a + b)) M) : AR K rIAddU (.int a) (.int b) M k := ar_or1 (ar_int q)
theorem ai_str {a b : List Nat} (h : a.length + b.length ≤ sizeLine) (q : k (.str (tx (a ++ b))) M) : AR K rIAddU (.str (tx a)) (.str (tx b)) M k := ar_or2 fun vx vy G H Q rx ry s f =>
  ⟨tx a, tx b, rep_str rx, rep_str ry, by rw [tx_len, tx_len]; exact h, by rw [tx_app]; exact f _ M _ G H q s Step.refl rep_of_str⟩
theorem au_ixS {l : List Nat} {j : Int} {c : Nat} (hz : l.length ≤ sizeLine) (h : atI l j = some c) (q : k (.str (tx [c])) M) : AR K (rIx K) (.str (tx l)) (.int j) M k :=
  aix_S (by rw [tx_len]; exact hz) (by rw [tx_cps]; exact h) q
/-! ### slices -/
variable {ko : Option Int → Mu → Prop}
theorem ao_none (q : ko none M) : AO K tNoPart δ M ko := fun σ G H Q rs s f => f none M G H q s Step.refl
theorem ao_some (h : AE K te δ M fun d M1 => ∃ i, d = .int i ∧ ko (some i) M1) : AO K (tPart te) δ M ko := fun σ G H Q rs s f =>
  h σ G H _ rs s fun d M1 v G1 H1 ⟨i, e, q⟩ s1 st1 r1 => by
    subst e
    exact ⟨i, rep_int r1, f _ M1 G1 H1 q s1 st1⟩
/-- a slice of a value -/
def ASl (K : PySem.W.Frag) (r : V → Option Int → Option Int → Hp → VK → Prop) (x : D) (lo hi : Option Int) (M : Mu) (k : D → Mu → Prop) : Prop := ∀ vx G H Q, Rep K G x vx → S K G H M →
  (∀ d M' v G' H', k d M' → S K G' H' M' → Step (ads M) G H (ads M') G' H' → Rep K G' d v → Q v H') → r vx lo hi H Q
theorem ae_sl {r : V → Option Int → Option Int → Hp → VK → Prop} {tl th : TO} (h : AE K te δ M fun x M1 => AO K tl δ M1 fun lo M2 => AO K th δ M2 fun hi M3 => ASl K r x lo hi M3 k) : AE K (L2.tSl r te tl th) δ M k := fun σ G H Q rs s f =>
  h σ G H _ rs s fun x M1 v G1 H1 h1 s1 st1 r1 => h1 σ G1 H1 _ (rs.mono st1.gg) s1 fun lo M2 G2 H2 h2 s2 st2 => h2 σ G2 H2 _ (rs.mono (st1.trans st2).gg) s2 fun hi M3 G3 H3 h3 s3 st3 =>
    h3 v G3 H3 Q (Rep.mono (st2.trans st3).gg _ _ r1) s3 fun d M4 v4 G4 H4 q s4 st4 r4 => f d M4 v4 G4 H4 q s4 (((st1.trans st2).trans st3).trans st4) r4
def cutD {α : Type} (xs : List α) (lo hi : Option Int) : List α := (xs.drop (HT.sIx xs.length 0 lo)).take (HT.sIx xs.length xs.length hi - HT.sIx xs.length 0 lo)
theorem cutD_len {α : Type} (xs : List α) (lo hi : Option Int) : (cutD xs lo hi).length ≤ xs.length := by
  unfold cutD
  rw [List.length_take, List.length_drop]
  omega
theorem reps_cut {G : Hp} {ds : List D} {xs : List V} (r : Reps K G ds xs) (lo hi : Option Int) : Reps K G (cutD ds lo hi) (cutV xs lo hi) := by
  unfold cutD cutV
  rw [r.len]
  exact (r.drop _).take _
theorem asl_lst {ds : List D} {lo hi : Option Int} (q : k (.lst (cutD ds lo hi)) M) : ASl K (rSlU K) (.lst ds) lo hi M k := fun vx G H Q rx s f => by
  obtain ⟨a, xs, rfl, ha, rs⟩ := rep_lst rx
  refine .inl ⟨a, xs, rfl, .inl (.inl (s.same _ _ ha)), fun l hl => ?_⟩
  obtain ⟨s2, st2, e2⟩ := s.frozen (o := .lst (cutV xs lo hi)) hl
  exact f _ M _ _ _ q s2 st2 (rep_mk_lst upd_same (Reps.mono e2 _ _ (reps_cut rs lo hi)))
theorem asl_str {l : List Nat} {lo hi : Option Int} (hz : l.length ≤ sizeLine) (q : k (.str (tx (cutD l lo hi))) M) : ASl K (rSlU K) (.str (tx l)) lo hi M k := fun vx G H Q rx s f =>
  .inr (.inl ⟨tx l, rep_str rx, by rw [tx_len]; exact hz, by
    rw [tx_cut]
    exact f _ M _ G H q s Step.refl rep_of_str⟩)
/-! ### built-ins -/

def lenD : D → Option Nat
  | .lst ds => some ds.length
  | .lsk ds => some ds.length
  | .tup ds => some ds.length
  | _ => none
theorem ac_lenD {n : Nat} (h : lenD x = some n) (q : k (.int (n : Int)) M) : AC K (rLenU K) [x] M k := fun vs G H Q rx s f => by
  obtain ⟨v, r, rfl, r1, rr⟩ := rx.uncons
  unfold Reps at rr
  subst rr
  cases x <;> simp only [lenD, Option.some.injEq, reduceCtorEq] at h
  · obtain ⟨a, xs, rfl, ha, rs⟩ := rep_tup r1
    refine .inl ⟨a, xs, rfl, .inr (Same.seqT s.same ha), ?_⟩
    rw [rs.len, h]
    exact f _ M _ G H q s Step.refl rep_of_int
  · obtain ⟨a, xs, rfl, ha, rs⟩ := rep_lst r1
    refine .inl ⟨a, xs, rfl, .inl (.inl (.inl (s.same _ _ ha))), ?_⟩
    rw [rs.len, h]
    exact f _ M _ G H q s Step.refl rep_of_int
  · obtain ⟨a, xs, rfl, ha, rs⟩ := rep_lsk r1
    refine .inl ⟨a, xs, rfl, .inl (s.same.seq ha), ?_⟩
    rw [rs.len, h]
    exact f _ M _ G H q s Step.refl rep_of_int
theorem ac_lenS {l : List Nat} (hz : l.length ≤ sizeLine) (q : k (.int (l.length : Int)) M) : AC K (rLenU K) [.str (tx l)] M k := fun vs G H Q rx s f => by
  obtain ⟨v, r, rfl, r1, rr⟩ := rx.uncons
  unfold Reps at rr
  subst rr
  refine .inr ⟨tx l, by rw [rep_str r1], by rw [tx_len]; exact hz, ?_⟩
  rw [tx_len]
  exact f _ M _ G H q s Step.refl rep_of_int
theorem ac_lenM {a : Addr} {M1 M2 : Mu} {ds : List D} (e : M = M1 ++ (a, .lst ds) :: M2) (q : k (.int (ds.length : Int)) M) : AC K (rLenU K) [.ref a] M k := fun vs G H Q rx s f => by
  obtain ⟨v, r, rfl, r1, rr⟩ := rx.uncons
  unfold Reps at rr
  subst rr
  obtain ⟨_, o, ho, r⟩ := s.mu (a, .lst ds) (by rw [e]; simp)
  obtain ⟨xs, rfl, rs⟩ := r
  refine .inl ⟨a, xs, by rw [rep_ref r1], .inl (.inl (.inl ho)), ?_⟩
  rw [rs.len]
  exact f _ M _ G H q s Step.refl rep_of_int
theorem ac_int {i : Int} (q : k (.int i) M) : AC K rIntU [.int i] M k := fun vs G H Q rx s f => by
  obtain ⟨v, r, rfl, r1, rr⟩ := rx.uncons
  unfold Reps at rr
  subst rr
  exact .inl ⟨i, by rw [rep_int r1], f _ M _ G H q s Step.refl rep_of_int⟩
theorem ac_min {i j : Int} (q : k (.int (if j < i then j else i)) M) : AC K rMin2 [.int i, .int j] M k := fun vs G H Q rx s f => by
  obtain ⟨v, r, rfl, r1, rr⟩ := rx.uncons
  obtain ⟨u, r, rfl, r2, rr⟩ := rr.uncons
  unfold Reps at rr
  subst rr
  exact ⟨i, j, by rw [rep_int r1, rep_int r2], f _ M _ G H q s Step.refl rep_of_int⟩
theorem ac_tupL {ds : List D} (q : k (.tup ds) M) : AC K (rTupU K) [.lst ds] M k := fun vs G H Q rx s f => by
  obtain ⟨v, r, rfl, r1, rr⟩ := rx.uncons
  unfold Reps at rr
  subst rr
  obtain ⟨a, xs, rfl, ha, rs⟩ := rep_lst r1
  refine ⟨a, xs, rfl, .inl ⟨.inl (.inl (s.same _ _ ha)), fun l hl => ?_⟩⟩
  obtain ⟨s2, st2, e2⟩ := s.frozen (o := .tup xs) hl
  exact f _ M _ _ _ q s2 st2 (rep_mk_tup (.inl (.inl upd_same)) (Reps.mono e2 _ _ rs))
theorem ac_tupT {ds : List D} (q : k (.tup ds) M) : AC K (rTupU K) [.tup ds] M k := fun vs G H Q rx s f => by
  obtain ⟨v, r, rfl, r1, rr⟩ := rx.uncons
  unfold Reps at rr
  subst rr
  obtain ⟨a, xs, rfl, ha, rs⟩ := rep_tup r1
  exact ⟨a, xs, rfl, .inr ⟨Same.seqT s.same ha, f _ M _ G H q s Step.refl (rep_mk_tup ha rs)⟩⟩
theorem ac_tupM {a : Addr} {M1 M2 : Mu} {ds : List D} (e : M = M1 ++ (a, .lst ds) :: M2) (q : k (.tup ds) M) : AC K (rTupU K) [.ref a] M k := fun vs G H Q rx s f => by
  obtain ⟨v, r, rfl, r1, rr⟩ := rx.uncons
  unfold Reps at rr
  subst rr
  obtain ⟨_, o, ho, r⟩ := s.mu (a, .lst ds) (by rw [e]; simp)
  obtain ⟨xs, rfl, rs⟩ := r
  refine ⟨a, xs, by rw [rep_ref r1], .inl ⟨.inl (.inl ho), fun l hl => ?_⟩⟩
  obtain ⟨s2, st2, e2⟩ := s.frozen (o := .tup xs) hl
  exact f _ M _ _ _ q s2 st2 (rep_mk_tup (.inl (.inl upd_same)) (Reps.mono e2 _ _ rs))
theorem ac_list {ds : List D} (h : x = .lst ds ∨ x = .tup ds ∨ x = .lsk ds) (q : k (.lst ds) M) : AC K (rListU K) [x] M k := fun vs G H Q rx s f => by
  obtain ⟨v, r, rfl, r1, rr⟩ := rx.uncons
  unfold Reps at rr
  subst rr
  have go : ∀ (a : Addr) (xs : List V), v = .ref a → (SqL K H a xs ∨ SqT K H a xs) → Reps K G ds xs → rListU K [v] H Q := fun a xs e h1 h2 => ⟨a, xs, by rw [e], h1, fun l hl => by
    obtain ⟨s2, st2, e2⟩ := s.frozen (o := .lst xs) hl
    exact f _ M _ _ _ q s2 st2 (rep_mk_lst upd_same (Reps.mono e2 _ _ h2))⟩
  rcases h with rfl | rfl | rfl
  · obtain ⟨a, xs, e, ha, rs⟩ := rep_lst r1
    exact go a xs e (.inl (.inl (.inl (s.same _ _ ha)))) rs
  · obtain ⟨a, xs, e, ha, rs⟩ := rep_tup r1
    exact go a xs e (.inr (Same.seqT s.same ha)) rs
  · obtain ⟨a, xs, e, ha, rs⟩ := rep_lsk r1
    exact go a xs e (.inl (s.same.seq ha)) rs
theorem ac_listM {ds : List D} (h : x = .lst ds ∨ x = .tup ds ∨ x = .lsk ds) (q : ∀ a, k (.ref a) (M ++ [(a, .lst ds)])) : AC K (rListU K) [x] M k := fun vs G H Q rx s f => by
  obtain ⟨v, r, rfl, r1, rr⟩ := rx.uncons
  unfold Reps at rr
  subst rr
  have go : ∀ (a : Addr) (xs : List V), v = .ref a → (SqL K H a xs ∨ SqT K H a xs) → Reps K G ds xs → rListU K [v] H Q := fun a xs e h1 h2 => ⟨a, xs, by rw [e], h1, fun l hl => by
    obtain ⟨s2, st2⟩ := s.fresh (o := .lst xs) (m := .lst ds) hl ⟨xs, rfl, h2⟩
    exact f _ _ _ _ _ (q l) s2 st2 rep_of_ref⟩
  rcases h with rfl | rfl | rfl
  · obtain ⟨a, xs, e, ha, rs⟩ := rep_lst r1
    exact go a xs e (.inl (.inl (.inl (s.same _ _ ha)))) rs
  · obtain ⟨a, xs, e, ha, rs⟩ := rep_tup r1
    exact go a xs e (.inr (Same.seqT s.same ha)) rs
  · obtain ⟨a, xs, e, ha, rs⟩ := rep_lsk r1
    exact go a xs e (.inl (s.same.seq ha)) rs
theorem ac_all {bs : List Bool} (q : k (.bl (bs.all id)) M) : AC K (rAll K) [.lst (bs.map .bl)] M k := fun vs G H Q rx s f => by
  obtain ⟨v, r, rfl, r1, rr⟩ := rx.uncons
  unfold Reps at rr
  subst rr
  obtain ⟨a, xs, rfl, ha, rs⟩ := rep_lst r1
  rw [rs.bls] at ha
  exact ⟨a, bs, rfl, .inl (.inl (s.same _ _ ha)), f _ M _ G H q s Step.refl rep_of_bl⟩
theorem ac_any {bs : List Bool} (q : k (.bl (bs.any id)) M) : AC K (rAny K) [.lst (bs.map .bl)] M k := fun vs G H Q rx s f => by
  obtain ⟨v, r, rfl, r1, rr⟩ := rx.uncons
  unfold Reps at rr
  subst rr
  obtain ⟨a, xs, rfl, ha, rs⟩ := rep_lst r1
  rw [rs.bls] at ha
  exact ⟨a, bs, rfl, .inl (.inl (s.same _ _ ha)), f _ M _ G H q s Step.refl rep_of_bl⟩
/-! ### isinstance -/
def typeD : D → Option String
  | .non => some "NoneType"
  | .bl _ => some "bool"
  | .int _ => some "int"
  | .str _ => some "str"
  | .tup _ => some "tuple"
  | .lst _ => some "list"
  | _ => none
theorem tyX_of {G H : Hp} {v : V} {n : String} (e : Same G H) (h : typeD d = some n) (r : Rep K G d v) : TyX K H v (.type n) := by
  cases d <;> simp only [typeD, Option.some.injEq, reduceCtorEq] at h
  · rw [rep_non r, ← h]
    exact .base .non
  · rw [rep_bl r, ← h]
    exact .base (.bl _)
  · rw [rep_int r, ← h]
    exact .base (.int _)
  · rw [rep_str r, ← h]
    exact .base (.str _)
  · obtain ⟨a, xs, rfl, ha, _⟩ := rep_tup r
    rw [← h]
    rcases Same.seqT e ha with (q | ⟨o, q⟩) | ⟨o, its, n, q1, q2, q3⟩
    · exact .base (.tup q)
    · exact .fTuple q
    · exact .kTuple q1 q2
  · obtain ⟨a, xs, rfl, ha, _⟩ := rep_lst r
    rw [← h]
    exact .base (.lst (e _ _ ha))
theorem ac_isi {n c : String} {b : Bool} (h : typeD x = some n) (hk : PySem.W.kitOne K (.type n) (.type c) = some b) (q : k (.bl b) M) : AC K (rIsi K) [x, .ty c] M k := fun vs G H Q rx s f => by
  obtain ⟨v, r, rfl, r1, rr⟩ := rx.uncons
  obtain ⟨u, r, rfl, r2, rr⟩ := rr.uncons
  unfold Reps at rr
  subst rr
  exact ⟨v, u, .type n, .type c, b, rfl, by rw [rep_ty r2]; exact .ty c, tyX_of s.same h r1, hk, f _ M _ G H q s Step.refl rep_of_bl⟩
/-! ### methods -/
/-- a method of a list -/
def LstM (x : D) (M1 : Mu) : Prop := (∃ ds, x = D.lst ds) ∨ (∃ ds, x = D.lsk ds) ∨ ∃ a ds N1 N2, x = D.ref a ∧ M1 = N1 ++ (a, MO.lst ds) :: N2
theorem lstM_ref {a : Addr} {ds : List D} {M1 N1 N2 : Mu} (e : M1 = N1 ++ (a, MO.lst ds) :: N2) : LstM (.ref a) M1 := .inr (.inr ⟨a, ds, N1, N2, rfl, e⟩)
theorem ae_lm {r : V → List V → Hp → VK → Prop} {ts : TA} (h : AE K to δ M fun x M1 => LstM x M1 ∧ AA K ts δ M1 fun xs M2 => AM K r x xs M2 k) : AE K (tBM K "list" r to ts) δ M k := fun σ G H Q rs s f =>
  h σ G H _ rs s fun x M1 v G1 H1 ⟨ht, h1⟩ s1 st1 r1 => by
    refine ⟨?_, h1 σ G1 H1 _ (rs.mono st1.gg) s1 fun xs M2 vs G2 H2 h2 s2 st2 r2 => h2 v vs G2 H2 Q (Rep.mono st2.gg _ _ r1) r2 s2 fun d M3 v3 G3 H3 q s3 st3 r3 => f d M3 v3 G3 H3 q s3 ((st1.trans st2).trans st3) r3⟩
    rcases ht with ⟨ds, e⟩ | ⟨ds, e⟩ | ⟨a, ds, N1, N2, e, e2⟩
    · subst e
      obtain ⟨a, xs, rfl, ha, _⟩ := rep_lst r1
      exact .inl ⟨rfl, xs, .inl (.inl (s1.same _ _ ha))⟩
    · subst e
      obtain ⟨a, xs, rfl, ha, _⟩ := rep_lsk r1
      exact .inl ⟨rfl, xs, s1.same.seq ha⟩
    · subst e
      rw [rep_ref r1]
      obtain ⟨_, o, ho, r⟩ := s1.mu (a, .lst ds) (by rw [e2]; simp)
      obtain ⟨xs, rfl, rs⟩ := r
      exact .inl ⟨rfl, xs, .inl (.inl ho)⟩
theorem am_append {a : Addr} {ds : List D} {M1 M2 : Mu} (e : M = M1 ++ (a, .lst ds) :: M2) (hz : ds.length < sizeLine) (q : k .non (M1 ++ (a, .lst (ds ++ [d])) :: M2)) : AM K rAppend (.ref a) [d] M k := fun vx vs G H Q rx rxs s f => by
  subst e
  obtain ⟨v, r, rfl, r1, rr⟩ := rxs.uncons
  unfold Reps at rr
  subst rr
  obtain ⟨g0, o, ho, r⟩ := s.mu (a, .lst ds) (by simp)
  obtain ⟨xs, rfl, rs⟩ := r
  obtain ⟨s2, st2⟩ := s.write (o := .lst (xs ++ [v])) (m' := .lst (ds ++ [d])) ⟨_, rfl, rs.append (Reps.one r1)⟩
  exact ⟨a, xs, v, rep_ref rx, rfl, ho, by rw [rs.len]; exact hz, f _ _ _ _ _ q s2 st2 rep_of_non⟩
theorem am_extend {a : Addr} {ds es : List D} {M1 M2 : Mu} (e : M = M1 ++ (a, .lst ds) :: M2) (hz : ds.length + es.length ≤ sizeLine) (q : k .non (M1 ++ (a, .lst (ds ++ es)) :: M2)) : AM K rExtend (.ref a) [.lst es] M k := fun vx vs G H Q rx rxs s f => by
  subst e
  obtain ⟨v, r, rfl, r1, rr⟩ := rxs.uncons
  unfold Reps at rr
  subst rr
  obtain ⟨b, ys, rfl, hb, r2⟩ := rep_lst r1
  obtain ⟨g0, o, ho, r⟩ := s.mu (a, .lst ds) (by simp)
  obtain ⟨xs, rfl, rs⟩ := r
  obtain ⟨s2, st2⟩ := s.write (o := .lst (xs ++ ys)) (m' := .lst (ds ++ es)) ⟨_, rfl, rs.append r2⟩
  exact ⟨a, b, xs, ys, rep_ref rx, rfl, ho, s.same _ _ hb, by rw [rs.len, r2.len]; exact hz, f _ _ _ _ _ q s2 st2 rep_of_non⟩
abbrev rJoin (K : PySem.W.Frag) : V → List V → Hp → VK → Prop := fun x xs H Q => ∃ a p, ∃ ys : List Str, x = .str a ∧ xs = [.ref p] ∧ (SqL K H p (ys.map V.str) ∨ SqT K H p (ys.map V.str)) ∧
      (ys.map (·.length)).sum + ys.length * a.length ≤ 16777216 ∧ Q (.str (Txt.join a ys)) H
theorem ae_m1 {r : V → List V → Hp → VK → Prop} (h : AE K to δ M fun x M1 => (∃ z, x = .str z) ∧ AE K te δ M1 fun y M2 => AM K r x [y] M2 k) : AE K (tM1 r to te) δ M k := fun σ G H Q rs s f =>
  h σ G H _ rs s fun x M1 v G1 H1 ⟨⟨z, hz⟩, h1⟩ s1 st1 r1 => by
    subst hz
    refine ⟨⟨z, rep_str r1⟩, h1 σ G1 H1 _ (rs.mono st1.gg) s1 fun y M2 vy G2 H2 h2 s2 st2 r2 => h2 v [vy] G2 H2 Q (Rep.mono st2.gg _ _ r1) (Reps.one r2) s2 fun d M3 v3 G3 H3 q s3 st3 r3 => f d M3 v3 G3 H3 q s3 ((st1.trans st2).trans st3) r3⟩
theorem am_join {ls : List (List Nat)} (hz : (ls.map (·.length)).sum ≤ 16777216) (q : k (.str (tx ls.flatten)) M) : AM K (rJoin K) (.str (tx [])) [.lst (ls.map fun l => .str (tx l))] M k := fun vx vs G H Q rx rxs s f => by
  obtain ⟨v, r, rfl, r1, rr⟩ := rxs.uncons
  unfold Reps at rr
  subst rr
  obtain ⟨b, ys, rfl, hb, r2⟩ := rep_lst r1
  have e : ys = (ls.map tx).map V.str := by
    have h2 : ls.map (fun l => D.str (tx l)) = (ls.map tx).map D.str := by simp
    rw [h2] at r2
    exact r2.strs
  refine ⟨tx [], b, ls.map tx, rep_str rx, rfl, .inl (.inl (.inl (by rw [← e]; exact s.same _ _ hb))), ?_, ?_⟩
  · have h1 : ((ls.map tx).map (·.length)) = ls.map (·.length) := by
      rw [List.map_map]
      exact List.map_congr_left fun l _ => tx_len l
    rw [h1, tx_len]
    simpa using hz
  · rw [tx_join]
    exact f _ M _ G H q s Step.refl rep_of_str
end
end Tg
set_option Elab.async false
set_option linter.all false
set_option maxRecDepth 100000
set_option maxHeartbeats 1000000
namespace Tg
open PySem L2 PyProof.Rows
/-! ### the rules with the written part by its name -/
section
variable {X : Cx} {K : PySem.W.Frag} {e a b : Expr} {ta tb te tl : TE} {pos : Pos}
theorem ix_K (h : X.K = K := by rfl) : IxR X (rIx K) := h ▸ ix_seq
theorem add_K (h : X.K = K := by rfl) : OpR X (binaryOp .Add) (rAddU K) := h ▸ op_addU
theorem sl_K (h : X.K = K := by rfl) : SlR X (rSlU K) := h ▸ sl_any
theorem len_K (h : X.K = K := by rfl) : CallR X (.builtin "len") (rLenU K) := h ▸ call_lenU
theorem tup_K (h : X.K = K := by rfl) : CallR X (.type "tuple") (rTupU K) := h ▸ call_tupU
theorem list_K (h : X.K = K := by rfl) : CallR X (.type "list") (rListU K) := h ▸ call_listU
theorem all_K (hc : X.calm = true) (h : X.K = K := by rfl) : CallR X (.builtin "all") (rAll K) := h ▸ cr_all hc
theorem any_K (hc : X.calm = true) (h : X.K = K := by rfl) : CallR X (.builtin "any") (rAny K) := h ▸ cr_any hc
theorem isi_K (h : X.K = K := by rfl) : CallR X (.builtin "isinstance") (rIsi K) := h ▸ call_isi
theorem seq_K {tg l : Expr} (hl : PE X l tl) (h : X.K = K := by rfl) : PI X tg l (iSeq K tl) := h ▸ pi_seq hl
theorem tru_K {t : TE} (ha : PE X a t) (h : X.K = K := by rfl) (he : ∀ whole, isTrue a X.env whole = (do let v ← whole; standAt a.pos; holding [v] (truthy v)) := by intro _; rfl) : PT X a (tTruU K t) := h ▸ pt_tru ha he
theorem gtup_K {es : List Expr} {k : Nat} {t : TGs} {n : Nat} (hc : X.calm = true) (hg : PGs X es t) (h : X.K = K := by rfl)
    (hn : (assignEach es X.env).length = n := by rfl) (hst : (assignEach es X.env).findIdx? (·.1) = none := by rfl) : PG X (.Tuple es k pos) (gTup K n t) := h ▸ pg_tup hc hg hn hst
theorem app_K {o : Expr} {es : List Expr} {to : TE} {t : TA} {apos cpos : Pos} (h0 : PE X (.Call (.Attribute o "append" apos) (e :: es) [] cpos) (tBM X.K "list" rAppend to t)) (h : X.K = K := by rfl) : PE X (.Call (.Attribute o "append" apos) (e :: es) [] cpos) (tBM K "list" rAppend to t) := h ▸ h0
theorem ext_K {o : Expr} {es : List Expr} {to : TE} {t : TA} {apos cpos : Pos} (h0 : PE X (.Call (.Attribute o "extend" apos) (e :: es) [] cpos) (tBM X.K "list" rExtend to t)) (h : X.K = K := by rfl) : PE X (.Call (.Attribute o "extend" apos) (e :: es) [] cpos) (tBM K "list" rExtend to t) := h ▸ h0
theorem popAt_K {o : Expr} {es : List Expr} {to : TE} {t : TA} {apos cpos : Pos} (h0 : PE X (.Call (.Attribute o "pop" apos) (e :: es) [] cpos) (tBM X.K "list" rPopAt to t)) (h : X.K = K := by rfl) : PE X (.Call (.Attribute o "pop" apos) (e :: es) [] cpos) (tBM K "list" rPopAt to t) := h ▸ h0
theorem join_K {o : Expr} {to : TE} {apos cpos : Pos} (h0 : PE X (.Call (.Attribute o "join" apos) [e] [] cpos) (tM1 (rJoin X.K) to te)) (h : X.K = K := by rfl) : PE X (.Call (.Attribute o "join" apos) [e] [] cpos) (tM1 (rJoin K) to te) := h ▸ h0
/-! ### three comparisons in a row -/
def tChain3 (r r' r2 : R2) (ta tb tc td : TE) : TE := fun σ H Q => ta σ H fun x H1 => tb σ H1 fun y H2 => r x y H2 fun z H3 => ∃ k, z = .bl k ∧ (if k = true then tc σ H3 fun w' H4 => r' y w' H4 fun z2 H5 => ∃ k2, z2 = .bl k2 ∧ (if k2 = true then td σ H5 fun w2 H6 => r2 w' w2 H6 Q else Q (.bl false) H5) else Q (.bl false) H3)
end
section
variable {X : Cx} {pins : List (Addr × Obj)} {a b c d : Expr} {ta tb tc td : TE} {pos : Pos}
theorem pt_chain3 {op op' op2 : CmpOp} {r r' r2 : R2} (ho : OpR X (compareOp op) r) (ho' : OpR X (compareOp op') r') (ho2 : OpR X (compareOp op2) r2) (ha : PE X a ta) (hb : PE X b tb) (hc : PE X c tc) (hd : PE X d td)
    (hm : lastMarks [op, op', op2] [b, c, d] = false := by with_unfolding_all rfl) : PT X (.Compare a [op, op', op2] [b, c, d] pos) (tTest (tChain3 r r' r2 ta tb tc td)) := by
  refine ⟨fun pins s σ H Q I h => ?_⟩
  refine isTrue_chain (thn (ha.run pins s σ H _ I h) fun v s1 ⟨x, H1, I1, r1, q1⟩ => test_link (thn (hb.run pins s1 σ H1 _ I1 q1) fun u s2 ⟨y, H2, I2, ry, q2⟩ =>
    thn (ho pins s2 σ H2 x y v u _ I2 r1 ry q2) fun dd s3 ⟨z, H3, I3, r3, k, e, q3⟩ => ?_)) hm
  subst e
  cases r3
  refine wpAny_truthy_bool ?_
  cases k with
  | false =>
    obtain ⟨k', e', q'⟩ := q3
    cases e'
    exact ite_ff ⟨H3, I3, q'⟩
  | true =>
    refine ite_tt (test_link (thn (hc.run pins s3 σ H3 _ I3 q3) fun w' s4 ⟨z', H4, I4, r4, q4⟩ => thn (ho' pins s4 σ H4 y z' u w' _ I4 ry r4 q4) fun d' s5 ⟨z2, H5, I5, r5, k2, e2, q5⟩ => ?_))
    subst e2
    cases r5
    refine wpAny_truthy_bool ?_
    cases k2 with
    | false =>
      obtain ⟨k', e', q'⟩ := q5
      cases e'
      exact ite_ff ⟨H5, I5, q'⟩
    | true =>
      refine ite_tt (test_last (thn (hd.run pins s5 σ H5 _ I5 q5) fun w2 s6 ⟨z3, H6, I6, r6, q6⟩ => thn (ho2 pins s6 σ H6 z' z3 w' w2 _ I6 r4 r6 q6) fun d2 s7 ⟨z4, H7, I7, r7, k3, e3, q7⟩ => ?_))
      subst e3
      cases r7
      exact wpAny_truthy_bool ⟨H7, I7, q7⟩
end
section
variable {K : PySem.W.Frag} {δ : DS} {M : Mu} {ta tb tc td te to ti tx : TE} {k : D → Mu → Prop} {x y d : D}
theorem ae_chain {r r' : R2} (h : AE K ta δ M fun x M1 => AE K tb δ M1 fun y M2 => AR K r x y M2 fun z M3 => ∃ b, z = .bl b ∧ (b = true → AE K tc δ M3 fun w M4 => AR K r' y w M4 k) ∧ (b = false → k (.bl false) M3)) : AE K (tChain r r' ta tb tc) δ M k := fun σ G H Q rs s f =>
  h σ G H _ rs s fun x M1 vx G1 H1 h1 s1 st1 r1 => h1 σ G1 H1 _ (rs.mono st1.gg) s1 fun y M2 vy G2 H2 h2 s2 st2 r2 =>
    h2 vx vy G2 H2 _ (Rep.mono st2.gg _ _ r1) r2 s2 fun z M3 vz G3 H3 ⟨b, e, q1, q2⟩ s3 st3 r3 => by
      subst e
      refine ⟨b, rep_bl r3, ?_⟩
      have st := (st1.trans st2).trans st3
      cases b with
      | true =>
        rw [if_pos rfl]
        exact q1 rfl σ G3 H3 _ (rs.mono st.gg) s3 fun w M4 vw G4 H4 h4 s4 st4 r4 => h4 vy vw G4 H4 Q (Rep.mono (st3.trans st4).gg _ _ r2) r4 s4 fun d M5 v G5 H5 q s5 st5 r5 => f d M5 v G5 H5 q s5 ((st.trans st4).trans st5) r5
      | false =>
        rw [if_neg Bool.false_ne_true]
        exact f _ M3 _ G3 H3 (q2 rfl) s3 st rep_of_bl
theorem ae_chain3 {r r' r2 : R2} (h : AE K ta δ M fun x M1 => AE K tb δ M1 fun y M2 => AR K r x y M2 fun z M3 => ∃ b, z = .bl b ∧ (b = true → AE K tc δ M3 fun w M4 => AR K r' y w M4 fun z2 M5 => ∃ b2, z2 = .bl b2 ∧ (b2 = true → AE K td δ M5 fun w2 M6 => AR K r2 w w2 M6 k) ∧ (b2 = false → k (.bl false) M5)) ∧ (b = false → k (.bl false) M3)) : AE K (tChain3 r r' r2 ta tb tc td) δ M k := fun σ G H Q rs s f =>
  h σ G H _ rs s fun x M1 vx G1 H1 h1 s1 st1 r1 => h1 σ G1 H1 _ (rs.mono st1.gg) s1 fun y M2 vy G2 H2 h2 s2 st2 ry =>
    h2 vx vy G2 H2 _ (Rep.mono st2.gg _ _ r1) ry s2 fun z M3 vz G3 H3 ⟨b, e, q1, q2⟩ s3 st3 r3 => by
      subst e
      refine ⟨b, rep_bl r3, ?_⟩
      have st := (st1.trans st2).trans st3
      cases b with
      | true =>
        rw [if_pos rfl]
        exact q1 rfl σ G3 H3 _ (rs.mono st.gg) s3 fun w M4 vw G4 H4 h4 s4 st4 r4 => h4 vy vw G4 H4 _ (Rep.mono (st3.trans st4).gg _ _ ry) r4 s4 fun d M5 v G5 H5 ⟨b2, e2, q3, q4⟩ s5 st5 r5 => by
          subst e2
          refine ⟨b2, rep_bl r5, ?_⟩
          have st' := (st.trans st4).trans st5
          cases b2 with
          | true =>
            rw [if_pos rfl]
            exact q3 rfl σ G5 H5 _ (rs.mono st'.gg) s5 fun w2 M6 vw2 G6 H6 h6 s6 st6 r6 => h6 vw vw2 G6 H6 Q (Rep.mono (st5.trans st6).gg _ _ r4) r6 s6 fun d M7 v G7 H7 q s7 st7 r7 => f d M7 v G7 H7 q s7 ((st'.trans st6).trans st7) r7
          | false =>
            rw [if_neg Bool.false_ne_true]
            exact f _ M5 _ G5 H5 (q4 rfl) s5 st' rep_of_bl
      | false =>
        rw [if_neg Bool.false_ne_true]
        exact f _ M3 _ G3 H3 (q2 rfl) s3 st rep_of_bl
/-! ### the slots at the entry -/
theorem as_start {n : Nat} {ds : List D} {δ' : DS} {t : TS} {A : AEnds} (e : startD n ds = δ') (h : AS K t δ' M A) : AS K t (startD n ds) M A := e ▸ h
theorem as_slots {δ' : DS} {t : TS} {A : AEnds} (e : δ = δ') (h : AS K t δ' M A) : AS K t δ M A := e ▸ h
/-! ### list(range(..)) -/
theorem ae_listRg1 {ta : TE} (h : AE K ta δ M fun d M1 => ∃ j : Int, d = .int j ∧ 0 ≤ j ∧ j ≤ 16777216 ∧ k (.lst (rng 0 j.toNat)) M1) : AE K (tLstRg (tRg1 ta)) δ M k := fun σ G H Q rs s f =>
  h σ G H _ rs s fun d M1 v G1 H1 ⟨j, e, h0, h2, q⟩ s1 st1 r1 => by
    subst e
    refine ⟨j, rep_int r1, RgOk.of_le (Int.le_refl 0) h2 (by decide) h0, fun l hl => ?_⟩
    obtain ⟨s2, st2, e2⟩ := s1.frozen (o := .lst (rgV 0 j)) hl
    refine f _ M1 _ _ _ q s2 (st1.trans st2) (rep_mk_lst upd_same ?_)
    have e3 : rgV 0 j = (((List.range j.toNat).map fun (i : Nat) => ((0 : Int) + (i : Nat))).map V.int) := by
      unfold rgV
      rw [List.map_map, Int.sub_zero]
      rfl
    have e4 : rng 0 j.toNat = (((List.range j.toNat).map fun (i : Nat) => ((0 : Int) + (i : Nat))).map D.int) := by
      unfold rng
      rw [List.map_map]
      rfl
    rw [e3, e4]
    exact Reps.ofInts
/-! ### dicts -/
def valD {κ : Type} [DecidableEq κ] (kvs : List (κ × D)) (q : κ) : Option D := (kvs.find? fun kv => decide (kv.1 = q)).map (·.2)
def putD {κ : Type} [DecidableEq κ] (kvs : List (κ × D)) (q : κ) (v : D) : List (κ × D) :=
  if (kvs.any fun kv => decide (kv.1 = q)) = true then kvs.map (fun kv => if kv.1 = q then (kv.1, v) else kv) else kvs ++ [(q, v)]
def keyD : Key → D
  | .inl i => .int i
  | .inr z => .str z
theorem rep_key {G : Hp} {v : V} : ∀ {q : Key}, Rep K G (keyD q) v → v = kV q
  | .inl _, h => rep_int h
  | .inr _, h => rep_str h
theorem repKV_len {κ : Type} {G : Hp} : ∀ {ds : List (κ × D)} {xs : List (κ × V)}, RepKV K G ds xs → xs.length = ds.length
  | [], _, h => by
    unfold RepKV at h
    rw [h]
    rfl
  | (q, d) :: ds, _, h => by
    unfold RepKV at h
    obtain ⟨x, r, e, _, t⟩ := h
    rw [e, List.length_cons, List.length_cons, repKV_len t]
theorem repKV_get {κ : Type} [DecidableEq κ] {G : Hp} {q : κ} : ∀ {ds : List (κ × D)} {xs : List (κ × V)}, RepKV K G ds xs → (∀ d, valD ds q = some d → ∃ v, valV xs q = some v ∧ Rep K G d v) ∧ (valD ds q = none → valV xs q = none)
  | [], _, h => by
    unfold RepKV at h
    rw [h]
    exact ⟨fun d e => by simp [valD] at e, fun _ => rfl⟩
  | (q', d') :: ds, _, h => by
    unfold RepKV at h
    obtain ⟨x, r, e, rx, t⟩ := h
    subst e
    have ih := repKV_get (q := q) t
    by_cases hq : q' = q
    · subst hq
      refine ⟨fun d e => ⟨x, by simp [valV], ?_⟩, fun e => ?_⟩
      · have e1 : d' = d := by simpa [valD] using e
        subst e1
        exact rx
      · simp [valD] at e
    · have e1 : valD ((q', d') :: ds) q = valD ds q := by simp [valD, hq]
      have e2 : valV ((q', x) :: r) q = valV r q := by simp [valV, hq]
      rw [e1, e2]
      exact ih
theorem repKV_any {κ : Type} [DecidableEq κ] {G : Hp} {q : κ} : ∀ {ds : List (κ × D)} {xs : List (κ × V)}, RepKV K G ds xs → (xs.any fun kv => decide (kv.1 = q)) = (ds.any fun kv => decide (kv.1 = q))
  | [], _, h => by
    unfold RepKV at h
    rw [h]
    rfl
  | (q', d') :: ds, _, h => by
    unfold RepKV at h
    obtain ⟨x, r, e, rx, t⟩ := h
    subst e
    rw [List.any_cons, List.any_cons, repKV_any t]
theorem repKV_map {κ : Type} [DecidableEq κ] {G : Hp} {q : κ} {d : D} {v : V} (hv : Rep K G d v) : ∀ {ds : List (κ × D)} {xs : List (κ × V)}, RepKV K G ds xs → RepKV K G (ds.map fun kv => if kv.1 = q then (kv.1, d) else kv) (xs.map fun kv => if kv.1 = q then (kv.1, v) else kv)
  | [], _, h => by
    unfold RepKV at h
    rw [h]
    show RepKV K G [] []
    unfold RepKV
    rfl
  | (q', d') :: ds, _, h => by
    unfold RepKV at h
    obtain ⟨x, r, e, rx, t⟩ := h
    subst e
    rw [List.map_cons, List.map_cons]
    by_cases hq : q' = q
    · rw [if_pos hq, if_pos hq]
      unfold RepKV
      exact ⟨v, _, rfl, hv, repKV_map hv t⟩
    · rw [if_neg hq, if_neg hq]
      unfold RepKV
      exact ⟨x, _, rfl, rx, repKV_map hv t⟩
theorem repKV_snoc {κ : Type} {G : Hp} {q : κ} {d : D} {v : V} (hv : Rep K G d v) : ∀ {ds : List (κ × D)} {xs : List (κ × V)}, RepKV K G ds xs → RepKV K G (ds ++ [(q, d)]) (xs ++ [(q, v)])
  | [], _, h => by
    unfold RepKV at h
    rw [h]
    show RepKV K G [(q, d)] [(q, v)]
    unfold RepKV
    exact ⟨v, [], rfl, hv, by unfold RepKV; rfl⟩
  | (q', d') :: ds, _, h => by
    unfold RepKV at h
    obtain ⟨x, r, e, rx, t⟩ := h
    subst e
    show RepKV K G ((q', d') :: (ds ++ [(q, d)])) ((q', x) :: (r ++ [(q, v)]))
    unfold RepKV
    exact ⟨x, _, rfl, rx, repKV_snoc hv t⟩
theorem repKV_put {κ : Type} [DecidableEq κ] {G : Hp} {q : κ} {d : D} {v : V} (hv : Rep K G d v) {ds : List (κ × D)} {xs : List (κ × V)} (h : RepKV K G ds xs) : RepKV K G (putD ds q d) (putK xs q v) := by
  unfold putD putK
  rw [repKV_any h]
  split
  · exact repKV_map hv h
  · exact repKV_snoc hv h
theorem ae_dnew (q : ∀ a, k (.ref a) (M ++ [(a, .dK [])])) : AE K tDNewK δ M k := fun σ G H Q rs s f p hp => by
  obtain ⟨s2, st2⟩ := s.fresh (o := .dK []) (m := .dK []) hp ⟨[], rfl, by unfold RepKV; rfl⟩
  exact f _ _ _ _ _ (q p) s2 st2 rep_of_ref
def rSetU : TSet := fun o i v H Q => rSetL o i v H Q ∨ rSetD o i v H Q
theorem set_any {X : Cx} (hu : X.A.units + 1 < cLine) : PSet X rSetU := fun pins s σ H o i v ov iv u Q I ro ri rv h => by
  rcases h with h | h
  · exact set_list pins s σ H o i v ov iv u Q I ro ri rv h
  · exact set_dict hu pins s σ H o i v ov iv u Q I ro ri rv h
/-- o[i] = v, of a list or a dict that may change -/
def PutU (o i v : D) (M : Mu) (q : Mu → Prop) : Prop := PutM o i v M q ∨ ∃ a kvs M1 M2 key, o = .ref a ∧ i = keyD key ∧ M = M1 ++ (a, .dK kvs) :: M2 ∧ kvs.length < sizeLine ∧ q (M1 ++ (a, .dK (putD kvs key v)) :: M2)
theorem put_l {a : Addr} {ds : List D} {M1 M2 : Mu} {j : Int} {n : Nat} {v : D} {q : Mu → Prop} (e : M = M1 ++ (a, .lst ds) :: M2) (hn : ixN ds.length j = some n) (h : q (M1 ++ (a, .lst (ds.set n v)) :: M2)) : PutU (.ref a) (.int j) v M q := .inl ⟨a, ds, M1, M2, j, n, rfl, rfl, e, hn, h⟩
theorem put_d {a : Addr} {kvs : List (Key × D)} {M1 M2 : Mu} {i : D} {key : Key} {v : D} {q : Mu → Prop} (e : M = M1 ++ (a, .dK kvs) :: M2) (hi : i = keyD key) (hl : kvs.length < sizeLine) (h : q (M1 ++ (a, .dK (putD kvs key v)) :: M2)) : PutU (.ref a) i v M q := .inr ⟨a, kvs, M1, M2, key, rfl, hi, e, hl, h⟩
theorem ag_setU {kg : DS → Mu → Prop} (h : AE K to δ M fun o M1 => AE K ti δ M1 fun j M2 => PutU o j d M2 fun M3 => kg δ M3) : AG K (gSub to ti rSetU) d δ M kg := fun v σ G H Q rv rs s f =>
  h σ G H _ rs s fun o M1 vo G1 H1 h1 s1 st1 r1 => h1 σ G1 H1 _ (rs.mono st1.gg) s1 fun j M2 vj G2 H2 h2 s2 st2 r2 => by
    have rv2 := Rep.mono (st1.trans st2).gg _ _ rv
    have rs2 := rs.mono (st1.trans st2).gg
    rcases h2 with ⟨a, ds, N1, N2, jj, n, rfl, rfl, rfl, hn, q⟩ | ⟨a, kvs, N1, N2, key, rfl, rfl, rfl, hl, q⟩
    · obtain ⟨g0, o, ho, r⟩ := s2.mu (a, .lst ds) (by simp)
      obtain ⟨xs, rfl, rx⟩ := r
      obtain ⟨s3, st3⟩ := s2.write (o := .lst (xs.set n v)) (m' := .lst (ds.set n d)) ⟨_, rfl, Reps.set rx rv2⟩
      exact .inl ⟨a, xs, jj, n, rep_ref r1, rep_int r2, ho, by rw [rx.len]; exact hn, f δ _ σ G2 _ q rs2 s3 ((st1.trans st2).trans st3)⟩
    · obtain ⟨g0, o, ho, r⟩ := s2.mu (a, .dK kvs) (by simp)
      obtain ⟨xs, rfl, rx⟩ := r
      obtain ⟨s3, st3⟩ := s2.write (o := .dK (putK xs key v)) (m' := .dK (putD kvs key d)) ⟨_, rfl, repKV_put rv2 rx⟩
      exact .inr ⟨a, _, rep_ref r1, by rw [rep_key r2]; exact DPut.k ho (by rw [repKV_len rx]; exact hl), f δ _ σ G2 _ q rs2 s3 ((st1.trans st2).trans st3)⟩
/-- a dict that may change, asked -/
theorem ae_dget2 (h : AE K td δ M fun o M1 => (∃ a kvs N1 N2, o = .ref a ∧ M1 = N1 ++ (a, MO.dK kvs) :: N2) ∧ AE K te δ M1 fun i M2 => AE K tx δ M2 fun z M3 => ∃ a kvs N1 N2 key, o = .ref a ∧ i = keyD key ∧ M3 = N1 ++ (a, MO.dK kvs) :: N2 ∧ k ((valD kvs key).getD z) M3) : AE K (tDGet2 td te tx) δ M k := fun σ G H Q rs s f =>
  h σ G H _ rs s fun o M1 vo G1 H1 ⟨⟨a, kvs, N1, N2, e1, e2⟩, h1⟩ s1 st1 r1 => by
    subst e1
    refine ⟨a, rep_ref r1, ?_, h1 σ G1 H1 _ (rs.mono st1.gg) s1 fun i M2 vi G2 H2 h2 s2 st2 r2 => h2 σ G2 H2 _ (rs.mono (st1.trans st2).gg) s2 fun z M3 vz G3 H3 h3 s3 st3 r3 => ?_⟩
    · obtain ⟨g0, o, ho, r⟩ := s1.mu (a, .dK kvs) (by rw [e2]; simp)
      obtain ⟨xs, rfl, rx⟩ := r
      exact .inl ⟨xs, .inl ho⟩
    · obtain ⟨a', kvs, N1, N2, key, e3, e4, e5, q⟩ := h3
      cases e3
      subst e4
      obtain ⟨g0, o, ho, r⟩ := s3.mu (a, .dK kvs) (by rw [e5]; simp)
      obtain ⟨xs, rfl, rx⟩ := r
      have st := (st1.trans st2).trans st3
      rw [rep_key r2]
      refine ⟨valV xs key, DGet.k ho, ?_⟩
      obtain ⟨g1, g2⟩ := repKV_get (q := key) rx
      cases hv : valD kvs key with
      | none =>
        rw [hv] at q
        rw [g2 hv]
        exact f z M3 vz G3 H3 q s3 st r3
      | some dv =>
        rw [hv] at q
        obtain ⟨v, e6, r6⟩ := g1 dv hv
        rw [e6]
        exact f dv M3 v G3 H3 q s3 st r6
end
end Tg
namespace Tg
open PySem L2
theorem dcase {p : Prop} [Decidable p] {A B : Prop} (h1 : p → A) (h2 : ¬ p → B) : (decide p = true → A) ∧ (decide p = false → B) := ⟨fun c => h1 (of_decide_eq_true c), fun c => h2 (of_decide_eq_false c)⟩
theorem dcaseN {p : Prop} [Decidable p] {A B : Prop} (h1 : ¬ p → A) (h2 : p → B) : ((!decide p) = true → A) ∧ ((!decide p) = false → B) := ⟨fun c => h1 (by
  intro q
  rw [decide_eq_true q] at c
  cases c), fun c => h2 (by
  by_cases q : p
  · exact q
  · rw [decide_eq_false q] at c
    cases c)⟩
theorem dcaseR {p : Prop} [Decidable p] {A B : Prop} (h1 : ¬ p → A) (h2 : p → B) : (decide p = false → A) ∧ (decide p = true → B) := ⟨fun c => h1 (of_decide_eq_false c), fun c => h2 (of_decide_eq_true c)⟩
theorem bcaseT {A B : Prop} (h : A) : (true = true → A) ∧ (true = false → B) := ⟨fun _ => h, fun c => nomatch c⟩
theorem bcaseF {A B : Prop} (h : B) : (false = true → A) ∧ (false = false → B) := ⟨fun c => (nomatch c), fun _ => h⟩
theorem bcaseTR {A B : Prop} (h : B) : (true = false → A) ∧ (true = true → B) := ⟨fun c => (nomatch c), fun _ => h⟩
theorem bcaseFR {A B : Prop} (h : A) : (false = false → A) ∧ (false = true → B) := ⟨fun _ => h, fun c => nomatch c⟩
theorem cmul_l {i j : Int} (h1 : -(2 ^ 64) < i) (h2 : i < 2 ^ 64) : CMul i j := .inl ⟨h1, h2⟩
theorem cmul_r {i j : Int} (h1 : -(2 ^ 64) < j) (h2 : j < 2 ^ 64) : CMul i j := .inr ⟨h1, h2⟩
theorem at_yes {K : PySem.W.Frag} {δ : DS} {M : Mu} {kb : Bool → Mu → Prop} (q : kb true M) : AT K tYes δ M kb := fun σ G H Q rs s f => f true M G H q s Step.refl
end Tg
namespace Tg
open PySem L2
section
variable {K : PySem.W.Frag} {M : Mu} {k : D → Mu → Prop} {a : Addr} {ds es : List D} {M2 : Mu} {x y : Addr × MO} {j : Int} {n : Nat} {v d i : D} {q : Mu → Prop} {kvs : List (Key × D)} {key : Key}
theorem put_l0 (hn : ixN ds.length j = some n) (h : q ((a, .lst (ds.set n v)) :: M2)) : PutU (.ref a) (.int j) v ((a, .lst ds) :: M2) q := put_l (M1 := []) rfl hn h
theorem put_l1 (hn : ixN ds.length j = some n) (h : q (x :: (a, .lst (ds.set n v)) :: M2)) : PutU (.ref a) (.int j) v (x :: (a, .lst ds) :: M2) q := put_l (M1 := [x]) rfl hn h
theorem put_d0 (hi : i = keyD key) (hl : kvs.length < sizeLine) (h : q ((a, .dK (putD kvs key v)) :: M2)) : PutU (.ref a) i v ((a, .dK kvs) :: M2) q := put_d (M1 := []) rfl hi hl h
theorem put_d1 (hi : i = keyD key) (hl : kvs.length < sizeLine) (h : q (x :: (a, .dK (putD kvs key v)) :: M2)) : PutU (.ref a) i v (x :: (a, .dK kvs) :: M2) q := put_d (M1 := [x]) rfl hi hl h
theorem aix0 (h : atI ds j = some d) (q : k d ((a, .lst ds) :: M2)) : AR K (rIx K) (.ref a) (.int j) ((a, .lst ds) :: M2) k := aix_M (M1 := []) rfl h q
theorem aix1 (h : atI ds j = some d) (q : k d (x :: (a, .lst ds) :: M2)) : AR K (rIx K) (.ref a) (.int j) (x :: (a, .lst ds) :: M2) k := aix_M (M1 := [x]) rfl h q
theorem app0 (hz : ds.length < sizeLine) (q : k .non ((a, .lst (ds ++ [d])) :: M2)) : AM K rAppend (.ref a) [d] ((a, .lst ds) :: M2) k := am_append (M1 := []) rfl hz q
theorem app1 (hz : ds.length < sizeLine) (q : k .non (x :: (a, .lst (ds ++ [d])) :: M2)) : AM K rAppend (.ref a) [d] (x :: (a, .lst ds) :: M2) k := am_append (M1 := [x]) rfl hz q
theorem app2 (hz : ds.length < sizeLine) (q : k .non (x :: y :: (a, .lst (ds ++ [d])) :: M2)) : AM K rAppend (.ref a) [d] (x :: y :: (a, .lst ds) :: M2) k := am_append (M1 := [x, y]) rfl hz q
theorem ext0 (hz : ds.length + es.length ≤ sizeLine) (q : k .non ((a, .lst (ds ++ es)) :: M2)) : AM K rExtend (.ref a) [.lst es] ((a, .lst ds) :: M2) k := am_extend (M1 := []) rfl hz q
theorem lst0 : LstM (.ref a) ((a, MO.lst ds) :: M2) := lstM_ref (N1 := []) rfl
theorem lst1 : LstM (.ref a) (x :: (a, MO.lst ds) :: M2) := lstM_ref (N1 := [x]) rfl
theorem lst2 : LstM (.ref a) (x :: y :: (a, MO.lst ds) :: M2) := lstM_ref (N1 := [x, y]) rfl
theorem lenM0 (q : k (.int (ds.length : Int)) ((a, .lst ds) :: M2)) : AC K (rLenU K) [.ref a] ((a, .lst ds) :: M2) k := ac_lenM (M1 := []) rfl q
theorem lenM1 (q : k (.int (ds.length : Int)) (x :: (a, .lst ds) :: M2)) : AC K (rLenU K) [.ref a] (x :: (a, .lst ds) :: M2) k := ac_lenM (M1 := [x]) rfl q
theorem tupM0 (q : k (.tup ds) ((a, .lst ds) :: M2)) : AC K (rTupU K) [.ref a] ((a, .lst ds) :: M2) k := ac_tupM (M1 := []) rfl q
theorem tupM1 (q : k (.tup ds) (x :: (a, .lst ds) :: M2)) : AC K (rTupU K) [.ref a] (x :: (a, .lst ds) :: M2) k := ac_tupM (M1 := [x]) rfl q
variable {δ : DS} {t : TS} {A : AEnds} {s : Nat}
theorem frz0 (hi : δ[s]? = some (some (.ref a))) (h : AS K t (δ.set s (some (.lst ds))) M2 A) : AS K t δ ((a, .lst ds) :: M2) A := as_freeze (M1 := []) hi rfl h
theorem frz1 (hi : δ[s]? = some (some (.ref a))) (h : AS K t (δ.set s (some (.lst ds))) (x :: M2) A) : AS K t δ (x :: (a, .lst ds) :: M2) A := as_freeze (M1 := [x]) hi rfl h
theorem frz2 (hi : δ[s]? = some (some (.ref a))) (h : AS K t (δ.set s (some (.lst ds))) (x :: y :: M2) A) : AS K t δ (x :: y :: (a, .lst ds) :: M2) A := as_freeze (M1 := [x, y]) hi rfl h
end
end Tg
namespace Tg
open PySem L2
theorem as_cut {K : PySem.W.Frag} {δ : DS} {M : Mu} {A : AEnds} {t u : TS} (J : DS → Mu → Prop) (h1 : AS K t δ M { A with nx := J }) (h2 : ∀ δ' M', J δ' M' → AS K u δ' M' A) : AS K (tSeq t u) δ M A :=
  as_seq (h1.mono (fun δ M q => h2 δ M q) (fun _ _ q => q) (fun _ _ q => q) (fun _ _ q => q) (fun _ _ q => q) (fun _ _ q => q))
end Tg
namespace Tg
open PySem L2
theorem len_ok {ds : List D} (n : Nat) (h : ds.length = n) (hn : n ≤ 1000 := by decide) : ds.length ≤ sizeLine := by
  rw [h]
  exact Nat.le_trans hn (by decide)
end Tg
set_option Elab.async false
set_option linter.all false
set_option maxRecDepth 100000
set_option maxHeartbeats 1000000
namespace Tg
open PySem L2 PyProof.Rows
/-! ### methods of texts -/
section
variable {X : Cx} {e : Expr}
abbrev rCount : V → List V → Hp → VK → Prop := fun x xs H Q => ∃ a b, x = .str a ∧ xs = [.str b] ∧ Q (.int (Txt.count a b)) H
abbrev rRfind4 : V → List V → Hp → VK → Prop := fun x xs H Q => ∃ (a b : Str) (i j : Int), x = .str a ∧ xs = [.str b, .int i, .int j] ∧ Q (.int (Txt.rfindIn a b i j)) H
theorem rf_K {K : PySem.W.Frag} {o : Expr} {es : List Expr} {to : TE} {t : TA} {apos cpos : Pos} (h0 : PE X (.Call (.Attribute o "rfind" apos) (e :: es) [] cpos) (tBM X.K "str" rRfind4 to t)) (h : X.K = K := by rfl) : PE X (.Call (.Attribute o "rfind" apos) (e :: es) [] cpos) (tBM K "str" rRfind4 to t) := h ▸ h0
end
section
variable {K : PySem.W.Frag} {δ : DS} {M : Mu} {to : TE} {k : D → Mu → Prop}
theorem ae_sm {r : V → List V → Hp → VK → Prop} {ts : TA} (h : AE K to δ M fun x M1 => (∃ z, x = D.str z) ∧ AA K ts δ M1 fun xs M2 => AM K r x xs M2 k) : AE K (tBM K "str" r to ts) δ M k := fun σ G H Q rs s f =>
  h σ G H _ rs s fun x M1 v G1 H1 ⟨⟨z, e⟩, h1⟩ s1 st1 r1 => by
    subst e
    refine ⟨by rw [rep_str r1]; exact rfl, h1 σ G1 H1 _ (rs.mono st1.gg) s1 fun xs M2 vs G2 H2 h2 s2 st2 r2 => h2 v vs G2 H2 Q (Rep.mono st2.gg _ _ r1) r2 s2 fun d M3 v3 G3 H3 q s3 st3 r3 => f d M3 v3 G3 H3 q s3 ((st1.trans st2).trans st3) r3⟩
/-- how often a code stands in a list -/
def nls (l : List Nat) : Nat := (l.filter fun c => decide (c = 10)).length
def col : List Nat → Nat → Nat
  | [], n => n
  | c :: r, n => col r (if c = 10 then 1 else n + 1)
theorem col_snoc (c : Nat) : ∀ (l : List Nat) (n : Nat), col (l ++ [c]) n = if c = 10 then 1 else col l n + 1
  | [], n => rfl
  | d :: l, n => col_snoc c l _
theorem nls_snoc (l : List Nat) (c : Nat) : nls (l ++ [c]) = if c = 10 then nls l + 1 else nls l := by
  unfold nls
  rw [List.filter_append, List.length_append]
  by_cases h : c = 10
  · subst h
    simp
  · simp [h]
theorem nls_cnt : ∀ l : List Nat, cnt 10 l = (nls l : Int)
  | [] => rfl
  | c :: r => by
    rw [cnt_cons, nls_cnt r]
    unfold nls
    by_cases h : c = 10
    · subst h
      simp
      omega
    · simp [h]
theorem am_nls {l : List Nat} (q : k (.int (nls l)) M) : AM K rCount (.str (tx l)) [.str (Str.ofString "\n")] M k := fun vx vs G H Q rx rxs s f => by
  obtain ⟨v, r, rfl, r1, rr⟩ := rxs.uncons
  unfold Reps at rr
  subst rr
  refine ⟨tx l, Str.ofString "\n", rep_str rx, by rw [rep_str r1], ?_⟩
  have e : Txt.count (tx l) (Str.ofString "\n") = (nls l : Int) := by
    rw [show Str.ofString "\n" = (⟨#[10]⟩ : Str) from by decide +kernel, count_cnt, tx_cps, nls_cnt]
  rw [e]
  exact f _ M _ G H q s Step.refl rep_of_int
/-- the column behind the signs of l -/
theorem rfind_col (l : List Nat) (j : Nat) (hj : j ≤ l.length) : (j : Int) - Txt.rfindIn (tx l) (Str.ofString "\n") 0 j = (col (l.take j) 1 : Nat) := by
  have e1 : Str.ofString "\n" = (⟨#[10]⟩ : Str) := by decide +kernel
  rw [e1]
  unfold Txt.rfindIn
  have e2 : fromIndex (tx l).length 0 = 0 := by
    unfold fromIndex
    simp
  have e3 : toIndexW (tx l).length (j : Int) = j := by
    unfold toIndexW
    rw [tx_len, if_neg (by omega)]
    omega
  rw [e2, e3, StrLaws.last_eq]
  have key := StrLaws.last_run (tx l) ⟨#[10]⟩ j (List.range' 0 (j + 1 - 0)) [] none (fun _ h => nomatch h) (fun _ h => nomatch h) (by simpa using List.pairwise_lt_range' (s := 0) (n := j + 1 - 0))
  rw [List.nil_append] at key
  have at_iff : ∀ i, StrLaws.At (tx l) ⟨#[10]⟩ j i ↔ i < j ∧ l[i]? = some 10 := fun i => by
    have h0 := StrLaws.subAt_one (tx l) 10 i
    rw [tx_cps] at h0
    have h1 : (⟨#[10]⟩ : Str).length = 1 := rfl
    unfold StrLaws.At
    constructor
    · rintro ⟨h2, h3⟩
      rw [h1] at h2
      exact ⟨by omega, h0.mp ⟨by rw [h1, tx_len]; omega, h3⟩⟩
    · rintro ⟨h2, h3⟩
      exact ⟨by rw [h1]; omega, (h0.mpr h3).2⟩
  -- the column by the last line feed
  have main : ∀ j, j ≤ l.length → (∀ a, a < j → l[a]? = some 10 → (∀ i, a < i → i < j → l[i]? ≠ some 10) → (col (l.take j) 1 : Int) = j - a) ∧ ((∀ i, i < j → l[i]? ≠ some 10) → (col (l.take j) 1 : Int) = j + 1) := by
    intro j
    induction j with
    | zero =>
      intro _
      exact ⟨fun a h => absurd h (by omega), fun _ => by simp [col]⟩
    | succ j ih =>
      intro hj
      obtain ⟨i1, i2⟩ := ih (by omega)
      have hl : j < l.length := by omega
      have e : l.take (j + 1) = l.take j ++ [l[j]] := by
        rw [List.take_add_one, List.getElem?_eq_getElem hl]
        rfl
      rw [e, col_snoc]
      by_cases h : l[j] = 10
      · rw [if_pos h]
        have hs : l[j]? = some 10 := by rw [List.getElem?_eq_getElem hl, h]
        refine ⟨fun a ha h1 h2 => ?_, fun h2 => absurd hs (h2 j (by omega))⟩
        by_cases hc : a = j
        · subst hc
          omega
        · exact absurd hs (h2 j (by omega) (by omega))
      · rw [if_neg h]
        have hs : l[j]? ≠ some 10 := by
          rw [List.getElem?_eq_getElem hl]
          exact fun z => h (Option.some.inj z)
        refine ⟨fun a ha h1 h2 => ?_, fun h2 => ?_⟩
        · have hc : a ≠ j := fun z => hs (by rw [← z]; exact h1)
          have := i1 a (by omega) h1 fun i hi hi2 => h2 i hi (by omega)
          omega
        · have := i2 fun i hi => h2 i (by omega)
          omega
  obtain ⟨m1, m2⟩ := main j hj
  have mem : ∀ i, i < j → i ∈ List.range' 0 (j + 1 - 0) := fun i hi => by simp [List.mem_range']; omega
  cases hr : (forIn (List.range' 0 (j + 1 - 0)) none (StrLaws.lastBody (tx l) ⟨#[10]⟩ j)).run with
  | none =>
    rw [hr] at key
    have := m2 fun i hi hs => key i (mem i hi) ((at_iff i).mpr ⟨hi, hs⟩)
    show (j : Int) - (-1) = _
    omega
  | some a =>
    rw [hr] at key
    obtain ⟨k1, k2⟩ := key
    obtain ⟨h1, h2⟩ := (at_iff a).mp k1
    have := m1 a h1 h2 fun i hi hi2 hs => k2 i (mem i hi2) hi ((at_iff i).mpr ⟨hi2, hs⟩)
    show (j : Int) - (a : Int) = _
    omega
theorem am_rfind {l : List Nat} {j : Nat} {i1 : Int} {b : Str} (hi : i1 = 0) (hb : b = Str.ofString "\n") (q : k (.int (Txt.rfindIn (tx l) (Str.ofString "\n") 0 j)) M) : AM K rRfind4 (.str (tx l)) [.str b, .int i1, .int j] M k := fun vx vs G H Q rx rxs s f => by
  subst hi hb
  obtain ⟨v, r, rfl, r1, rr⟩ := rxs.uncons
  obtain ⟨v2, r, rfl, r2, rr⟩ := rr.uncons
  obtain ⟨v3, r, rfl, r3, rr⟩ := rr.uncons
  unfold Reps at rr
  subst rr
  exact ⟨tx l, _, 0, j, rep_str rx, by rw [rep_str r1, rep_int r2, rep_int r3], f _ M _ G H q s Step.refl rep_of_int⟩
theorem tru_ok_bl {b : Bool} : TruOk (.bl b) := True.intro
theorem tru_ok_int {i : Int} : TruOk (.int i) := True.intro
theorem tru_ok_lst {ds : List D} : TruOk (.lst ds) := True.intro
theorem caseT {b : Bool} {A B : Prop} (h : b = true) (q : A) : (b = true → A) ∧ (b = false → B) := ⟨fun _ => q, fun c => nomatch h.symm.trans c⟩
theorem caseF {b : Bool} {A B : Prop} (h : b = false) (q : B) : (b = true → A) ∧ (b = false → B) := ⟨fun c => (nomatch h.symm.trans c), fun _ => q⟩
theorem caseTR {b : Bool} {A B : Prop} (h : b = true) (q : B) : (b = false → A) ∧ (b = true → B) := ⟨fun c => (nomatch h.symm.trans c), fun _ => q⟩
theorem caseFR {b : Bool} {A B : Prop} (h : b = false) (q : A) : (b = false → A) ∧ (b = true → B) := ⟨fun _ => q, fun c => nomatch h.symm.trans c⟩
theorem ac_isiT {x : D} {n c : String} (h : typeD x = some n) (hk : PySem.W.kitOne K (.type n) (.type c) = some true) (q : k (.bl true) M) : AC K (rIsi K) [x, .ty c] M k := ac_isi h hk q
theorem ac_isiF {x : D} {n c : String} (h : typeD x = some n) (hk : PySem.W.kitOne K (.type n) (.type c) = some false) (q : k (.bl false) M) : AC K (rIsi K) [x, .ty c] M k := ac_isi h hk q
/-! ### dicts, asked -/
theorem val_put {κ : Type} [DecidableEq κ] {kvs : List (κ × D)} {q q' : κ} {v : D} : valD (putD kvs q v) q' = if q = q' then some v else valD kvs q' := by
  unfold putD
  by_cases h : (kvs.any fun kv => decide (kv.1 = q)) = true
  · rw [if_pos h]
    induction kvs with
    | nil => simp at h
    | cons kv r ih =>
      obtain ⟨p, d⟩ := kv
      rw [List.map_cons]
      by_cases hp : p = q
      · subst hp
        rw [if_pos rfl]
        by_cases hq : p = q'
        · subst hq
          simp [valD]
        · rw [if_neg hq]
          have e : ∀ r : List (κ × D), valD (r.map fun kv => if kv.1 = p then (kv.1, v) else kv) q' = valD r q' := by
            intro r
            induction r with
            | nil => rfl
            | cons kv r ih =>
              obtain ⟨p2, d2⟩ := kv
              rw [List.map_cons]
              by_cases h2 : p2 = p
              · subst h2
                rw [if_pos rfl]
                have a : valD ((p2, v) :: r.map fun kv => if kv.1 = p2 then (kv.1, v) else kv) q' = valD (r.map fun kv => if kv.1 = p2 then (kv.1, v) else kv) q' := by simp [valD, hq]
                have b : valD ((p2, d2) :: r) q' = valD r q' := by simp [valD, hq]
                rw [a, b, ih]
              · rw [if_neg h2]
                by_cases h3 : p2 = q'
                · simp [valD, h3]
                · have a : valD ((p2, d2) :: r.map fun kv => if kv.1 = p then (kv.1, v) else kv) q' = valD (r.map fun kv => if kv.1 = p then (kv.1, v) else kv) q' := by simp [valD, h3]
                  have b : valD ((p2, d2) :: r) q' = valD r q' := by simp [valD, h3]
                  rw [a, b, ih]
          have a : valD ((p, v) :: r.map fun kv => if kv.1 = p then (kv.1, v) else kv) q' = valD (r.map fun kv => if kv.1 = p then (kv.1, v) else kv) q' := by simp [valD, hq]
          have b : valD ((p, d) :: r) q' = valD r q' := by simp [valD, hq]
          rw [a, b, e]
      · rw [if_neg hp]
        have h' : (r.any fun kv => decide (kv.1 = q)) = true := by simpa [hp] using h
        by_cases hq : p = q'
        · subst hq
          rw [if_neg (Ne.symm hp)]
          simp [valD]
        · have a : valD ((p, d) :: r.map fun kv => if kv.1 = q then (kv.1, v) else kv) q' = valD (r.map fun kv => if kv.1 = q then (kv.1, v) else kv) q' := by simp [valD, hq]
          have b : valD ((p, d) :: r) q' = valD r q' := by simp [valD, hq]
          rw [a, b, ih h']
  · rw [if_neg h]
    induction kvs with
    | nil =>
      by_cases hq : q = q'
      · simp [valD, hq]
      · simp [valD, hq]
    | cons kv r ih =>
      obtain ⟨p, d⟩ := kv
      have hp : p ≠ q := fun z => h (by simp [z])
      have h' : ¬ (r.any fun kv => decide (kv.1 = q)) = true := fun z => h (by rw [List.any_cons, z, Bool.or_true])
      by_cases hq : p = q'
      · subst hq
        rw [if_neg (Ne.symm hp)]
        simp [valD]
      · have a : valD ((p, d) :: r ++ [(q, v)]) q' = valD (r ++ [(q, v)]) q' := by simp [valD, hq]
        have b : valD ((p, d) :: r) q' = valD r q' := by simp [valD, hq]
        rw [a, b, ih h']
theorem put_len {κ : Type} [DecidableEq κ] {kvs : List (κ × D)} {q : κ} {v : D} : (putD kvs q v).length ≤ kvs.length + 1 := by
  unfold putD
  split
  · rw [List.length_map]
    omega
  · rw [List.length_append]
    exact Nat.le_refl _
end
end Tg
set_option Elab.async false
set_option linter.all false
set_option maxRecDepth 100000
set_option maxHeartbeats 1000000
namespace Tg
open PySem L2 PyProof.Rows
/-! ### numbers ahead of what a tuple holds -/
/-- the tuple at a, turn by turn, its items behind their numbers in pairs that are new -/
def Iet (K : PySem.W.Frag) (a : Addr) : It where
  go := fun i H => ∃ ys y, SqT K H a ys ∧ ys[i]? = some y
  yld := fun i H v H' => ∃ p y, v = .ref p ∧ H p = none ∧ H' = upd H p (.tup [.int (i : Nat), y]) ∧ ∀ ys, SqT K H a ys → ys[i]? = some y
  stop := fun i H => ∃ ys, SqT K H a ys ∧ ys.length ≤ i
/-- how the two cells of the walk stand ahead of turn i -/
def EtAt (a en it : Addr) (i : Nat) (h : Heap) : Prop := (∃ old, IsEnum h en it (i : Int) old) ∧ h.IsTupleIter it a i ∧ en ≠ it
theorem turn_enumT {P : Program} {w : World} {K : PySem.W.Frag} {es : List Expr} {n : Nat} {tp : Pos} (a en it : Addr) : Turn P w K (.Tuple es n tp) (Iet K a) [en, it] en (EtAt a en it) where
  mem := List.mem_cons_self ..
  obj := by
    rintro i h ⟨⟨old, he⟩, ⟨o, ho, hc, hd⟩, _⟩ b hb
    rcases List.mem_cons.mp hb with rfl | hb
    · exact ⟨_, he, fun _ q => nomatch q⟩
    · cases List.mem_singleton.mp hb
      refine ⟨o, ho, fun v q => ?_⟩
      rw [hd] at q
      cases q
  keep := by
    rintro i h h' ⟨⟨old, he⟩, hi, ne⟩ k
    exact ⟨⟨old, k en (List.mem_cons_self ..) _ he⟩, hi.at fun o q => k it (by simp) o q, ne⟩
  item := by
    rintro X rfl rfl rfl calm i pins s σ H E I hf ⟨⟨old, he⟩, hit, ne⟩ ⟨ys, y, hq, hy⟩
    obtain ⟨its, rv, tp', hz⟩ := I.tuple hq
    obtain ⟨u, hu, ru⟩ := rv.get hy
    have ta : s.heap.IsTuple a its.toArray := tp'
    have lt : i < its.toArray.size := by
      have := (List.getElem?_eq_some_iff.mp hu).1
      simpa using this
    have ea : a ≠ en := by
      rintro rfl
      obtain ⟨o, ho, hc, _⟩ := ta
      rw [he] at ho
      cases ho
      exact absurd (Value.type.inj hc) (by decide)
    have ia : a ≠ it := by
      rintro rfl
      obtain ⟨o, ho, hc, _⟩ := ta
      obtain ⟨o2, ho2, hc2, _⟩ := hit
      rw [ho] at ho2
      cases ho2
      rw [hc] at hc2
      exact absurd (Value.type.inj hc2) (by decide)
    have sen : en < s.heap.objs.size := Heap.lt_size he
    have sit : it < s.heap.objs.size := by
      obtain ⟨_, q, _⟩ := hit
      exact Heap.lt_size q
    have nofp : en ∉ [it, a] := fun z => by
      rcases List.mem_cons.mp z with z | z
      · exact ne z
      · exact ea (List.mem_singleton.mp z).symm
    refine wpAny_pyNext_enum_itemD (Draws.tuple (A := X.A.in1) (I.ok.hd calm) it a ia its.toArray) he ⟨hit, ta⟩ lt ne nofp fun v h1 tk hv out st1 hT hs1 hk => ?_
    have ev : v = u := by
      have h2 : its[i]? = some v := by simpa using hv
      rw [hu] at h2
      exact (Option.some.inj h2).symm
    subst ev
    refine ⟨_, rfl, wpAny_letOwnedTupleGo_enum (s := { s with heap := h1, toks := tk + 1 }) out fun h2 he2 sb => ?_⟩
    have hT2 : h2.get? s.heap.objs.size = some { cls := .type "tuple", data := .seq #[.int i tk, v] } := by
      rw [sb.2 _ (Nat.ne_of_gt sen)]
      exact hT
    have fresh : ObjOk X.prog X.w (upd H s.heap.objs.size (.tup [.int (i : Nat), y])) h2 s.heap.objs.size (.tup [.int (i : Nat), y]) := by
      refine ⟨by show 2 ≤ sizeLine; decide, [.int i tk, v], ?_, _, hT2, rfl, _, rfl⟩
      exact .cons ⟨_, rfl⟩ (.cons ru .nil)
    have kept : ∀ b ob, b ∉ [en, it] → s.heap.get? b = some ob → h2.get? b = some ob := fun b ob hb q => by
      rw [sb.2 b fun z => hb (by simp [z])]
      exact hk b ob (fun z => hb (by simp [z])) (fun z => hb (by simp [z])) q
    have I2 : Inv X pins σ (upd H s.heap.objs.size (.tup [.int (i : Nat), y])) { s with heap := h2, toks := tk + 1 } := I.turnedNew (ch := [en, it]) kept hf (Nat.le_refl _) fresh
    refine ⟨.ref s.heap.objs.size, _, I2, rfl, ⟨_, y, rfl, I.hok.fresh (Nat.le_refl _), rfl, fun zs hz => ?_⟩, ⟨⟨v, ?_⟩, ?_, ne⟩, fun b hb => ?_⟩
    · rw [I.tuple_inj hz hq]
      exact hy
    · rw [show ((i + 1 : Nat) : Int) = (i : Int) + 1 by omega]
      exact he2
    · exact st1.1.at fun o q => (sb.2 it (Ne.symm ne)).trans q
    · have lb : b < s.heap.objs.size := by
        rcases List.mem_cons.mp hb with rfl | hb
        · exact sen
        · cases List.mem_singleton.mp hb
          exact sit
      rw [upd_ne (Nat.ne_of_lt lb)]
      exact (hf b hb).1
  done := by
    rintro X rfl rfl rfl calm i pins s σ H E I hf ⟨⟨old, he⟩, hit, ne⟩ ⟨ys, hq, hy⟩
    obtain ⟨its, rv, tp', hz⟩ := I.tuple hq
    have ta : s.heap.IsTuple a its.toArray := tp'
    obtain ⟨f0, f1, f2, f3, f4, f5⟩ := hf it (by simp)
    have hn : its.toArray[i]? = none := by
      have := rv.length
      simp
      omega
    have hT : s.TypeIs (.ref en) "enumerate" := ⟨_, he, rfl⟩
    unfold pyNext
    refine wpAny_bind (wpAny_attempt (wpAny_callSpecial?_slot (name := Str.ofString "__next__") hT F.slot_enumerate_next (wpAny_call_entry F.slot_enumerate_next hT F.entry_enumerate_next ?_ (F.args_enumerate_next_1 _))))
    show wpAny _ _ (field (.ref en) 2 >>= _) _ _ _
    refine wpAny_bind (wpAny_field he rfl (x := .ref it) rfl (wpAny_bind (wpAny_nextOf_tuple_end (I.ok.hd calm) hit ta hn fun h' x he' hx' => ?_)))
    obtain ⟨o, ho, hc⟩ := hx'
    refine wpAny_bind (wpAny_isInstance (T := "StopIteration") (b := true) ⟨o, ho, hc⟩ isSubtype_stop (wpAny_pure ⟨rfl, ?_⟩))
    exact I.turned (t' := s.toks) (fun b o hb q => he' b o hb q) f0 f1 f3 f4 f5
  self := by
    rintro A i s Q E ⟨⟨_, he⟩, _⟩ h
    exact wpAny_pyIter_enum he h
set_option maxHeartbeats 2000000 in
/-- what enumerate(v) makes -/
theorem new_enum {v : Value} {o : Obj} {H0 : Heap → Prop} (B : Begins v o H0) : Meets (Builtin.«enumerate.__new__» ⟨[.type "enumerate", v], []⟩) (fun _ R s => H0 s.heap ∧
    R (.ok (.ret (.ref (s.heap.push o).objs.size))) { s with heap := (s.heap.push o).push { cls := .type "enumerate", data := .fields #[.none, .bool false, .ref s.heap.objs.size, rawInt 0, .none, .none] } }) :=
  .of_wp fun prog w A R s hh => by
    obtain ⟨hp, g, d, tk, os⟩ := s
    obtain ⟨hH, hR⟩ := hh
    have hsub := sub_enumerate
    have begun : ∀ {A' : Around} {E Q : Value → Shared → Prop}, Q (.ref hp.objs.size) ⟨hp.push o, g, d, tk, os⟩ → wpAny (model prog w) A' (pyIter v) Q E ⟨hp, g, d, tk, os⟩ := fun q => B.iter _ _ _ _ ⟨hp, g, d, tk, os⟩ _ hH q
    wp_walk using begun
    refine wpAny_stack_any fun st => wpAny_pure ?_
    split
    · rename_i c _ _ _ _ _
      rcases c == Value.type "enumerate" with _ | _ <;> (wp_walk using begun; exact ⟨_, rfl, hR⟩)
    · wp_walk using begun
      exact ⟨_, rfl, hR⟩
theorem call_enumT {prog : Program} {w : World} {A : Around} {E : Value → Shared → Prop} {s : Shared} {a : Addr} {its : Array Value} {Q : Value → Shared → Prop} (ta : s.heap.IsTuple a its)
    (q : ∀ h', IsEnum h' (s.heap.objs.size + 1) s.heap.objs.size 0 .none → h'.IsTupleIter s.heap.objs.size a 0 → (∀ b o, s.heap.get? b = some o → h'.get? b = some o) → Q (.ref (s.heap.objs.size + 1)) { s with heap := h' }) :
    wpAny (model prog w) A (call (.type "enumerate") [.ref a]) Q E s := by
  refine callType_new F.called_enumerate (by decide) (F.typeCall_enumerate_1 _) (F.newCall_enumerate_1 _) (fun obj => F.args_object_init_2 obj _) F.entry_enumerate_new (new_enum (begins_tuple a its)) ⟨ta, ?_⟩
  show _ ∧ _
  have sz : (s.heap.push { cls := .type "tuple_iterator", data := .fields #[.ref a, .int 0 0] }).objs.size = s.heap.objs.size + 1 := Heap.size_push ..
  rw [sz]
  have he : IsEnum ((s.heap.push { cls := .type "tuple_iterator", data := .fields #[.ref a, .int 0 0] }).push { cls := .type "enumerate", data := .fields #[.none, .bool false, .ref s.heap.objs.size, rawInt 0, .none, .none] }) (s.heap.objs.size + 1) s.heap.objs.size 0 .none := by
    have h0 := Heap.get?_push_size (s.heap.push { cls := .type "tuple_iterator", data := .fields #[.ref a, .int 0 0] }) (o := { cls := .type "enumerate", data := .fields #[.none, .bool false, .ref s.heap.objs.size, rawInt 0, .none, .none] }) rfl
    rw [sz] at h0
    exact h0
  exact ⟨⟨_, he, rfl⟩, q _ he ⟨_, Heap.get?_push_of_some _ (Heap.get?_push_size _ rfl), rfl, rfl⟩ fun b o x => Heap.get?_push_of_some _ (Heap.get?_push_of_some _ x)⟩
/-- enumerate of a list or of a tuple -/
def iEnS (K : PySem.W.Frag) (ta : TA) : TI := fun σ H R => ta σ H fun vs H1 => ∃ a xs, vs = [.ref a] ∧ ((SqL K H1 a xs ∧ R (Ite K a) H1) ∨ (SqT K H1 a xs ∧ R (Iet K a) H1))
theorem pi_enS {X : Cx} {e : Expr} {ta : TA} {p pos tp : Pos} {es : List Expr} {n : Nat} (hg : Gl X "enumerate") (hm : X.mg "enumerate" = none) (ha : PA X [e] ta) (hs : starEach [e] X.env = [(false, eval e X.env)] := by rfl) : PI X (.Tuple es n tp) (.Call (.Name "enumerate" p) [e] [] pos) (iEnS X.K ta) := by
  refine ⟨fun pins s σ H R I h => ?_⟩
  refine Call_ (ld_blt I hg hm boot_enumerate (PyProof.Rows.callWith_type1 (thn (ha.run pos pins s σ H _ I h) fun us s1 ⟨vs, H1, I1, r1, a, xs, ex, alt⟩ => ?_) hs rfl))
  subst ex
  obtain ⟨u, rfl, ru⟩ : ∃ u, us = [u] ∧ RelV (.ref a) u := by
    cases r1 with
    | cons r rr =>
      cases rr
      exact ⟨_, rfl, r⟩
  cases ru
  have fp : ∀ b ∈ [s1.heap.objs.size + 1, s1.heap.objs.size], FpOk X pins H1 b := fun b hb => by
    have le : s1.heap.objs.size ≤ b := by
      rcases List.mem_cons.mp hb with rfl | hb
      · exact Nat.le_succ _
      · exact Nat.le_of_eq (List.mem_singleton.mp hb).symm
    exact I1.fpOk le (I1.hok.fresh le)
  rcases alt with ⟨hq, q⟩ | ⟨hq, q⟩
  · obtain ⟨its, rv, p', _⟩ := I1.list hq
    exact call_enumerate_list p'.isList fun h' he hit _ hk => wpAny_pyIter_enum he ⟨_, _, _, _, H1, rfl, I1.kept (t' := s1.toks) hk, turn_enum a (s1.heap.objs.size + 1) s1.heap.objs.size, ⟨⟨.none, he⟩, hit, Nat.succ_ne_self _⟩, fp, q⟩
  · obtain ⟨its, rv, p', _⟩ := I1.tuple hq
    exact call_enumT (show s1.heap.IsTuple a its.toArray from p') fun h' he hit hk => wpAny_pyIter_enum he ⟨_, _, _, _, H1, rfl, I1.kept (t' := s1.toks) hk, turn_enumT a (s1.heap.objs.size + 1) s1.heap.objs.size, ⟨⟨.none, he⟩, hit, Nat.succ_ne_self _⟩, fp, q⟩
section
variable {K : PySem.W.Frag} {G : Hp} {δ : DS} {M : Mu} {ki : List D → Mu → Prop}
theorem itOk_enumT {a : Addr} {xs : List V} {ds : List D} (h : SqT K G a xs) (r : Reps K G ds xs) : ItOk K (Iet K a) G (enumD ds) := fun i G1 H1 M e s => by
  have hq : SqT K H1 a xs := Same.seqT s.same (Same.seqT e h)
  refine ⟨fun d hd => ?_, fun hi => ⟨xs, hq, by rw [r.len, hi]; simp [enumD]⟩⟩
  unfold enumD at hd
  rw [List.getElem?_map, List.getElem?_zipIdx] at hd
  cases hc : ds[i]? with
  | none => rw [hc] at hd; cases hd
  | some c =>
    rw [hc] at hd
    have e1 : D.tup [.int ((0 + i : Nat) : Int), c] = d := by simpa using hd
    rw [Nat.zero_add] at e1
    subst e1
    obtain ⟨x, hx, rx⟩ := r.get hc
    refine ⟨⟨xs, x, hq, hx⟩, fun y H' hy => ?_⟩
    obtain ⟨T, x', rfl, nT, rfl, hy⟩ := hy
    have e2 : x = x' := Option.some.inj (hx.symm.trans (hy xs hq))
    subst e2
    obtain ⟨s2, st2, e3⟩ := s.frozen (o := .tup [.int (i : Nat), x]) nT
    exact ⟨_, s2, st2, rep_mk_tup (.inl (.inl upd_same)) (Reps.cons rep_of_int (Reps.one (Rep.mono (e.trans e3) _ _ rx)))⟩
def seqD : D → Option (List D)
  | .lst ds => some ds
  | .tup ds => some ds
  | _ => none
theorem ai_enum {ts : TA} (h : AA K ts δ M fun ds M1 => ∃ d es, ds = [d] ∧ seqD d = some es ∧ ki (enumD es) M1) : AI K (iEnS K ts) δ M ki := fun σ G H R rs s f =>
  h σ G H _ rs s fun ds M1 vs G1 H1 ⟨d, es, e, he, h1⟩ s1 st1 r1 => by
    subst e
    obtain ⟨x, r, rfl, rx, rr⟩ := r1.uncons
    unfold Reps at rr
    subst rr
    cases d <;> simp only [seqD, Option.some.injEq, reduceCtorEq] at he
    · subst he
      obtain ⟨a, xs, rfl, ha, rs2⟩ := rep_tup rx
      exact ⟨a, xs, rfl, .inr ⟨Same.seqT s1.same ha, f _ M1 G1 H1 _ h1 s1 st1 (itOk_enumT ha rs2)⟩⟩
    · subst he
      obtain ⟨a, xs, rfl, ha, rs2⟩ := rep_lst rx
      exact ⟨a, xs, rfl, .inl ⟨.inl (.inl (s1.same _ _ ha)), f _ M1 G1 H1 _ h1 s1 st1 (itOk_enum (.inl (.inl ha)) rs2)⟩⟩
theorem enumD_get {ds : List D} {i : Nat} {d : D} (h : (enumD ds)[i]? = some d) : ∃ c, ds[i]? = some c ∧ d = .tup [.int (i : Nat), c] := by
  unfold enumD at h
  rw [List.getElem?_map, List.getElem?_zipIdx] at h
  cases hc : ds[i]? with
  | none => rw [hc] at h; cases h
  | some c =>
    rw [hc] at h
    have e1 : D.tup [.int ((0 + i : Nat) : Int), c] = d := by simpa using h
    rw [Nat.zero_add] at e1
    exact ⟨c, rfl, e1.symm⟩
theorem enumD_len (ds : List D) : (enumD ds).length = ds.length := by simp [enumD]
end
section
variable {X : Cx} {K : PySem.W.Frag}
theorem enS_K {e : Expr} {ta : TA} {p pos tp : Pos} {es : List Expr} {n : Nat} (h0 : PI X (.Tuple es n tp) (.Call (.Name "enumerate" p) [e] [] pos) (iEnS X.K ta)) (h : X.K = K := by rfl) : PI X (.Tuple es n tp) (.Call (.Name "enumerate" p) [e] [] pos) (iEnS K ta) := h ▸ h0
end
end Tg
set_option Elab.async false
set_option linter.all false
set_option maxRecDepth 100000
set_option maxHeartbeats 1000000
namespace Tg
open PySem L2 PyProof.Rows
section
variable {K : PySem.W.Frag} {δ : DS} {M M1 M2 : Mu} {te : TE} {k : D → Mu → Prop} {kb : Bool → Mu → Prop} {a : Addr} {ds : List D} {x : Addr × MO}
/-- a list, some times over -/
theorem ar_rep {j : Int} (h0 : 0 ≤ j) (h1 : ds.length * j.toNat ≤ 16777216) (h2 : j < 16777217) (q : k (.lst (List.replicate j.toNat ds).flatten) M) : AR K rRep (.lst ds) (.int j) M k := fun vx vy G H Q rx ry s f => by
  obtain ⟨p, xs, rfl, hp, r1⟩ := rep_lst rx
  refine ⟨p, j, xs, rfl, rep_int ry, s.same _ _ hp, by omega, by omega, by rw [r1.len]; exact h1, fun l hl => ?_⟩
  obtain ⟨s2, st2, e2⟩ := s.frozen (o := .lst (List.replicate j.toNat xs).flatten) hl
  refine f _ M _ _ _ q s2 st2 (rep_mk_lst upd_same ?_)
  have go : ∀ n : Nat, Reps K (upd G l (.lst (List.replicate j.toNat xs).flatten)) (List.replicate n ds).flatten (List.replicate n xs).flatten := by
    intro n
    induction n with
    | zero => exact Reps.nil
    | succ n ih =>
      rw [List.replicate_succ, List.replicate_succ, List.flatten_cons, List.flatten_cons]
      exact (Reps.mono e2 _ _ r1).append ih
  exact go _
theorem reps_erase {G : Hp} : ∀ {ds : List D} {xs : List V} (n : Nat), Reps K G ds xs → Reps K G (ds.eraseIdx n) (xs.eraseIdx n)
  | [], _, n, h => by
    unfold Reps at h
    rw [h]
    simp only [List.eraseIdx_nil]
    exact Reps.nil
  | c :: ds, _, n, h => by
    obtain ⟨y, r, q, s, t⟩ := Reps.uncons h
    subst q
    cases n with
    | zero => exact t
    | succ n => exact Reps.cons s (reps_erase n t)
theorem am_popAt {i : Nat} {d : D} (e : M = M1 ++ (a, .lst ds) :: M2) (hi : ds[i]? = some d) (hz : ds.length ≤ 16777216) (q : k d (M1 ++ (a, .lst (ds.eraseIdx i)) :: M2)) : AM K rPopAt (.ref a) [.int i] M k := fun vx vs G H Q rx rxs s f => by
  subst e
  obtain ⟨v, r, rfl, r1, rr⟩ := rxs.uncons
  unfold Reps at rr
  subst rr
  obtain ⟨g0, o, ho, r⟩ := s.mu (a, .lst ds) (by simp)
  obtain ⟨xs, rfl, rs⟩ := r
  obtain ⟨y, hy, ry⟩ := rs.get hi
  have hl := (List.getElem?_eq_some_iff.mp hi).1
  obtain ⟨s2, st2⟩ := s.write (o := .lst (xs.eraseIdx i)) (m' := .lst (ds.eraseIdx i)) ⟨_, rfl, reps_erase i rs⟩
  refine ⟨a, xs, i, i, y, rep_ref rx, by rw [rep_int r1], ho, by omega, by omega, ?_, hy, f _ _ _ _ _ q s2 st2 ry⟩
  rw [rs.len]
  unfold seqIndex?
  have e1 : (if (i : Int) < 0 then (i : Int) + (ds.length : Int) else (i : Int)) = i := if_neg (by omega)
  simp only [e1]
  rw [if_pos (by simp; omega), Int.toNat_natCast]
theorem at_truM (h : AE K te δ M fun d M' => ∃ a ds N1 N2, d = .ref a ∧ M' = N1 ++ (a, MO.lst ds) :: N2 ∧ kb (!ds.isEmpty) M') : AT K (tTruU K te) δ M kb := fun σ G H Q rs s f =>
  h σ G H _ rs s fun d M1 vx G1 H1 ⟨a, ds, N1, N2, e1, e2, h1⟩ s1 st1 r1 => by
    subst e1
    obtain ⟨g0, o, ho, r⟩ := s1.mu (a, .lst ds) (by rw [e2]; simp)
    obtain ⟨xs, rfl, rx⟩ := r
    refine ⟨!ds.isEmpty, ?_, f _ M1 G1 H1 h1 s1 st1⟩
    rw [rep_ref r1]
    exact .inl ⟨xs, .inl (.inl ho), by rw [isEmpty_len rx.len]⟩
theorem ext1 {es : List D} (hz : ds.length + es.length ≤ sizeLine) (q : k .non (x :: (a, .lst (ds ++ es)) :: M2)) : AM K rExtend (.ref a) [.lst es] (x :: (a, .lst ds) :: M2) k := am_extend (M1 := [x]) rfl hz q
end
end Tg
set_option Elab.async false
set_option linter.all false
set_option maxRecDepth 100000
set_option maxHeartbeats 1000000
/-! Tg: what is raised: an own error with two fields. -/
namespace Tg
open PySem L2 PyProof.Rows
/-! ### the promise of a def that may raise an error of the class C -/
abbrev WtX := List D → Mu → (D → Mu → Prop) → (List (Str × D) → Mu → Prop) → Prop
def SpcX (K : PySem.W.Frag) (C : Addr) (W : WtX) : Sp := fun vs H Q E => ∃ G ds M k kx, Reps K G ds vs ∧ S K G H M ∧ W ds M k kx ∧
  (∀ d M' v G' H', k d M' → S K G' H' M' → Step (ads M) G H (ads M') G' H' → Rep K G' d v → Q v H') ∧
  ∀ fs M' d G' H', kx fs M' → S K G' H' (M' ++ [(d, .xd fs)]) → Step (ads M) G H (ads (M' ++ [(d, .xd fs)])) G' H' → E (.ref C) (some d) H'
section
variable {P : Program} {w : World} {K : PySem.W.Frag} {mg : Str → Option Value} {base : Heap}
theorem spc_okX {C : Addr} {W : WtX} {x qual : Str} {st : Stmt} {f : Addr} {fd : FuncData} {N ps : List Str} {k : Nat} (F : Fun K x qual st f fd) (Sc : FnScope N ps (defScope st)) (len : ∀ ds M kk kx, W ds M kk kx → ds.length = ps.length)
    (hbody : ∀ (cdv : Value) (A : Around) (outer : List Env) (s : Shared) (H : Hp) (E : XK), Room k (A.deeper (envOfC qual (defScope st) s.heap.objs.size f cdv)) →
      ∃ t, PSs (cxOf (L2.CX P w) P w K mg base N qual (defScope st) f cdv A outer s H E) (defBody st) t ∧
        ∀ ds M kk kx, W ds M kk kx → AS K t (startD N.length ds) M { nx := fun _ M' => kk .non M', rt := kk, xs := kx, W := fun d H' => E (.ref C) (some d) H' }) : FnOk P w K mg base (L2.CX P w) (k + 1) f fd ps (SpcX K C W) := by
  refine F.okX Sc (fun vs H Q E h => ?_) (fun cdv A outer s H vs Q E hr h => ?_)
  · obtain ⟨G, ds, M, kk, kx, r, _, hw, _⟩ := h
    rw [r.len]
    exact len ds M kk kx hw
  · obtain ⟨G, ds, M, kk, kx, r, hs, hw, q, qx⟩ := h
    obtain ⟨t, pt, ht⟩ := hbody cdv A outer s H E hr
    refine ⟨t, pt, ht ds M kk kx hw (start N vs) G H _ (relS_start r) hs ⟨?_, ?_, ?_, ?_, ?_⟩⟩
    · intro δ' M' σ' G' H' a rs' s' st'
      exact q .non M' .non G' H' a s' st' rep_of_non
    · intro d M' v G' H' a s' st' rv
      exact q d M' v G' H' a s' st' rv
    · intro δ' M' σ' G' H' a
      exact a.elim
    · intro δ' M' σ' G' H' a
      exact a.elim
    · intro fs M' d G' H' a s' st'
      exact qx fs M' d G' H' a s' st'
end
/-! ### raising -/
/-- what __init__ of an error with two fields leaves -/
def spIni (K : PySem.W.Frag) (C : Addr) (f1 f2 : Str) : Sp := fun vs H Q _ => ∃ a y z, vs = [.ref a, y, z] ∧ H a = some (exo a C none) ∧
  ∀ dx, H dx = none → dx ≠ a → Q .non (upd (upd (upd H dx (exd dx [(f1, y)])) a (exo a C (some dx))) dx (exd dx [(f2, z), (f1, y)]))
/-- raise X(e1, e2) -/
def tRaiseO (K : PySem.W.Frag) (C : Addr) (f1 f2 : Str) (E : XK) (ta : TA) : TS := fun _ σ H => tMkO C (spIni K C f1 f2) [] ta σ H fun cls d H' => E cls d H'
section
variable {K : PySem.W.Frag} {δ : DS} {M : Mu} {A : AEnds} {C : Addr} {f1 f2 : Str} {E : XK} {ta : TA}
theorem upd_swap {H : Hp} {a b : Addr} {o u : HO} (h : a ≠ b) : upd (upd H a o) b u = upd (upd H b u) a o := by
  funext c
  by_cases h1 : c = b
  · subst h1
    rw [upd_same, upd_ne (Ne.symm h), upd_same]
  · rw [upd_ne h1]
    by_cases h2 : c = a
    · subst h2
      rw [upd_same, upd_same]
    · rw [upd_ne h2, upd_ne h2, upd_ne h1]
theorem as_raise (hA : A.W = fun d H' => E (.ref C) (some d) H') (h : AA K ta δ M fun ds M1 => ∃ y z, ds = [y, z] ∧ A.xs [(f2, z), (f1, y)] M1) : AS K (tRaiseO K C f1 f2 E ta) δ M A := fun σ G H E' rs s f =>
  h σ G H _ rs s fun ds M1 vs G1 H1 ⟨y, z, e, hx⟩ s1 st1 r1 => by
    subst e
    obtain ⟨vy, r, rfl, ry, rr⟩ := r1.uncons
    obtain ⟨vz, r, rfl, rz, rr⟩ := rr.uncons
    unfold Reps at rr
    subst rr
    refine ⟨by show 2 ≤ 1000; decide, fun a ha => ⟨a, vy, vz, rfl, upd_same, fun dx hdx hne => ⟨rfl, dx, [(f2, vz), (f1, vy)], ?_, upd_same, ?_, ?_⟩⟩⟩
    · rw [upd_ne (Ne.symm hne), upd_same]
    · have h0 := hdx
      rw [upd_ne hne] at h0
      exact h0
    · have hd1 : H1 dx = none := by
        have h0 := hdx
        rw [upd_ne hne] at h0
        exact h0
      have e : upd (del (upd (upd (upd (upd H1 a (exo a C none)) dx (exd dx [(f1, vy)])) a (exo a C (some dx))) dx (exd dx [(f2, vz), (f1, vy)])) a) dx (.xd [(f2, vz), (f1, vy)]) = upd H1 dx (.xd [(f2, vz), (f1, vy)]) := by
        funext b
        by_cases h1 : b = dx
        · subst h1
          rw [upd_same, upd_same]
        · rw [upd_ne h1, upd_ne h1]
          by_cases h2 : b = a
          · subst h2
            rw [del_same, ha]
          · rw [del_ne h2, upd_ne h1, upd_ne h2, upd_ne h1, upd_ne h2]
      rw [e]
      obtain ⟨s2, st2⟩ := s1.fresh (o := .xd [(f2, vz), (f1, vy)]) (m := .xd [(f2, z), (f1, y)]) hd1 ⟨_, rfl, by
        unfold RepKV
        refine ⟨vz, _, rfl, rz, ?_⟩
        unfold RepKV
        exact ⟨vy, [], rfl, ry, by unfold RepKV; rfl⟩⟩
      have q := f.xs _ M1 dx G1 _ hx s2 (st1.trans st2)
      rw [hA] at q
      exact q
end
section
variable {X : Cx} {K : PySem.W.Frag} {C fI : Addr} {k : Nat} {fd : FuncData} {f1 f2 x : Str} {e e2 : Expr} {es : List Expr} {ta : TA} {p pos pos2 : Pos} {CX : CXT} {E : XK}
theorem ps_raiseO (hc : X.calm = true) (tk : Takes X (fun cls d _ H => E cls d H)) (T : OexC X.K C) (iC : PySem.W.findIn X.K (.ref C) "__init__" = some (some (.ref fI))) (tI : PySem.W.typeIn X.K (.ref fI) = some (.type "function"))
    (F1 : FnOk X.prog X.w X.K X.mg X.base CX k fI fd ["self", f1, f2] (spIni X.K C f1 f2)) (hr : Room (k + 1) X.A) (hb : Binds X.K fd ["self", f1, f2] []) (hx : Passes CX X (fun _ _ _ => False)) (hg : Gl X x) (hm : X.mg x = some (.ref C)) (ha : PA X (e :: es) ta)
    (hdb : (x == ("__debug__" : Str)) = false := by decide) (he : starEach (e :: es) X.env = (false, eval e X.env) :: starEach es X.env := by rfl) (hpl : (backTo pos (starEach es X.env)).any (·.1) = false := by rfl) :
    PS X (.Raise (some (.Call (.Name x p) (e :: es) [] pos)) none pos2) (tRaiseO X.K C f1 f2 E ta) := ps_raise hc tk (pmk_oex T iC tI F1 hr hb .nil hx hg hm ha hdb he hpl)
end
/-! ### an error caught -/
section
variable {K : PySem.W.Frag} {δ : DS} {M : Mu} {A : AEnds} {C : Addr} {W : WtX} {ta : TA} {ib i : Nat} {ts : Addr → Value → Option Addr → TS}
/-- try: x = f(..) except X as n: suite -/
def tTryX (K : PySem.W.Frag) (C : Addr) (W : WtX) (ta : TA) (ib i : Nat) (ts : Addr → Value → Option Addr → TS) : TS := fun D σ H => tAsg (tCallS (SpcX K C W) (WE (wAs K (.ref C) i ts (fun _ _ _ _ => False) D)) ta) (gName ib) D σ H
theorem as_tryX (te : PySem.W.exmOne K (.ref C) (.ref C) = some true) (h : AA K ta δ M fun ds M1 => ∃ Mc R kc kx, M1 = Mc ++ R ∧ W ds Mc kc kx ∧ (∀ d Mc', kc d Mc' → A.nx (δ.set ib (some d)) (Mc' ++ R)) ∧
      ∀ fs Mc' a d, kx fs Mc' → AS K (ts a (.ref C) (some d)) (δ.set i (some (.ref a))) ((Mc' ++ [(d, .xd fs)]) ++ R) { A with nx := fun δ' M' => A.nx (δ'.set i none) M', bk := fun δ' M' => A.bk (δ'.set i none) M', ct := fun δ' M' => A.ct (δ'.set i none) M' }) :
    AS K (tTryX K C W ta ib i ts) δ M A := fun σ G H E rs s f =>
  h σ G H _ rs s fun ds M1 vs G1 H1 ⟨Mc, R, kc, kx, e, hw, hn, hx⟩ s1 st1 r1 => by
    subst e
    refine ⟨G1, ds, Mc, kc, kx, r1, s1.sub, hw, fun d M' v G' H' hd s' st' rv => ?_, fun fs M' d G' H' hk s' st' => ?_⟩
    · obtain ⟨s2, st2⟩ := s1.join s' st'
      exact f.nx _ _ _ G' H' (hn d M' hd) ((rs.mono (st1.trans st2).gg).set ib rv) s2 (st1.trans st2)
    · obtain ⟨s2, st2⟩ := s1.join s' st'
      have st := st1.trans st2
      have fg := f.go st
      refine ⟨true, te, fun _ a ha => ?_, fun q => nomatch q⟩
      refine hx fs M' a d hk (σ.set i (some (.ref a))) G' H' _ ((rs.mono st.gg).set i rep_of_ref) s2 ⟨?_, fg.rt, ?_, ?_, fg.xs⟩
      · intro δ' M2 σ' G2 H2 q r s3 st3
        exact fg.nx _ M2 _ G2 H2 q (r.drop i) s3 st3
      · intro δ' M2 σ' G2 H2 q r s3 st3
        exact fg.bk _ M2 _ G2 H2 q (r.drop i) s3 st3
      · intro δ' M2 σ' G2 H2 q r s3 st3
        exact fg.ct _ M2 _ G2 H2 q (r.drop i) s3 st3
theorem repKV_look {G : Hp} {f : Str} {d : D} : ∀ {ds : List (Str × D)} {xs : List (Str × V)}, RepKV K G ds xs → ds.lookup f = some d → ∃ v, xs.lookup f = some v ∧ Rep K G d v
  | [], _, _, e => nomatch e
  | (q, d') :: ds, _, h, e => by
    unfold RepKV at h
    obtain ⟨x, r, rfl, rx, t⟩ := h
    rw [List.lookup_cons] at e ⊢
    cases hq : f == q with
    | true =>
      rw [hq] at e
      cases e
      exact ⟨x, rfl, rx⟩
    | false =>
      rw [hq] at e
      exact repKV_look t e
variable {a d : Addr} {f : Str} {te : TE} {k : D → Mu → Prop}
theorem ae_xf (h : AE K te δ M fun x M1 => x = .ref a ∧ ∃ fs y N1 N2, M1 = N1 ++ (d, .xd fs) :: N2 ∧ fs.lookup f = some y ∧ k y M1) : AE K (tXf a (.ref C) (some d) C f te) δ M k := fun σ G H Q rs s f' =>
  h σ G H _ rs s fun x M1 v G1 H1 ⟨e1, fs, y, N1, N2, e2, hl, q⟩ s1 st1 r1 => by
    subst e1
    obtain ⟨g0, o, ho, r⟩ := s1.mu (d, .xd fs) (by rw [e2]; simp)
    obtain ⟨ps, rfl, rp⟩ := r
    obtain ⟨v, hv, rv⟩ := repKV_look rp hl
    exact ⟨rep_ref r1, rfl, d, ps, v, rfl, ho, hv, f' y M1 v G1 H1 q s1 st1 rv⟩
end
/-! ### isinstance of the error that is caught -/
/-- e the error at a of the class D with its dict -/
def rIsX (K : PySem.W.Frag) (D a : Addr) (cls : Value) (d : Option Addr) : List V → Hp → VK → Prop := fun xs H Q => ∃ (dd : Addr) (c : V) (cv : Value) (b : Bool) (fs : List (Str × V)), cls = .ref D ∧ d = some dd ∧ xs = [.ref a, c] ∧ H dd = some (.xd fs) ∧ (∀ u, RelV c u → u = cv) ∧ PySem.W.kitOne K (.ref D) cv = some b ∧ Q (.bl b) H
theorem call_isX {X : Cx} {a D : Addr} {cls : Value} {d : Option Addr} {oe : Obj} {pn : List (Addr × Obj)} (C : ExcC X.K D) (hz : Zc cls d oe) (hf : ∃ vs, oe.data = .fields vs) : CallR (X.suite a ((a, oe) :: pn)) (.builtin "isinstance") (rIsX X.K D a cls d) := by
  rintro pins s σ H xs us Q I r ⟨dd, c, cv, b, fs, ec1, ed1, rfl, hdd, hcv, e, q⟩
  subst ec1 ed1
  obtain ⟨u1, u2, rfl, r1, r2⟩ : ∃ u1 u2, us = [u1, u2] ∧ RelV (.ref a) u1 ∧ RelV c u2 := by
    cases r with
    | cons rx rr =>
      cases rr with
      | cons rt rr =>
        cases rr
        exact ⟨_, _, rfl, rx, rt⟩
  cases r1
  have ec := hcv _ r2
  subst ec
  have at_a := (I.pin (a, oe) (List.mem_append_left _ (List.mem_cons_self ..))).1
  obtain ⟨mA, hns, _⟩ : ObjOk X.prog X.w H s.heap dd (.xd fs) := I.hok dd _ hdd
  obtain ⟨od, ho, _⟩ := lookIn_ns hns
  obtain ⟨vs, hv⟩ := hf
  have J : PySem.W.InstAt s.heap a oe D (some od) := ⟨at_a, hz.1, by unfold PySem.W.notCls; rw [hv] <;> rfl, by rw [hz.2]; exact ho⟩
  have hcl : (PySem.W.clsIn X.K D).isSome = true := by
    obtain ⟨cd, h1, _⟩ := PySem.W.any_some C.hd
    rw [h1]
    rfl
  exact PySem.W.kia_one (PySem.W.kitx_exc hcl C.hg C.hk C.hs C.ha C.hn C.ht C.hm) I.kIn J e (fun z => nomatch z) fun tk => ⟨.bl b, H, I.kept (t' := tk) fun _ _ z => z, rfl, q⟩
section
variable {K : PySem.W.Frag} {M : Mu} {k : D → Mu → Prop} {a d C : Addr}
theorem ac_isXref {Cx : Addr} {b : Bool} {fs : List (Str × D)} (N1 N2 : Mu) (hM : M = N1 ++ (d, .xd fs) :: N2) (hk : PySem.W.kitOne K (.ref C) (.ref Cx) = some b) (q : k (.bl b) M) : AC K (rIsX K C a (.ref C) (some d)) [.ref a, .ref Cx] M k := fun vs G H Q rx s f => by
  obtain ⟨v, r, rfl, r1, rr⟩ := rx.uncons
  obtain ⟨u, r, rfl, r2, rr⟩ := rr.uncons
  unfold Reps at rr
  subst rr
  obtain ⟨g0, o, ho, r⟩ := s.mu (d, .xd fs) (by rw [hM]; simp)
  obtain ⟨ps, rfl, _⟩ := r
  exact ⟨d, u, .ref Cx, b, ps, rfl, rfl, by rw [rep_ref r1], ho, fun z hz => by rw [rep_ref r2] at hz; exact hz, hk, f _ M _ G H q s Step.refl rep_of_bl⟩
theorem ac_isXty {n : String} {b : Bool} {fs : List (Str × D)} (N1 N2 : Mu) (hM : M = N1 ++ (d, .xd fs) :: N2) (hk : PySem.W.kitOne K (.ref C) (.type n) = some b) (q : k (.bl b) M) : AC K (rIsX K C a (.ref C) (some d)) [.ref a, .ty n] M k := fun vs G H Q rx s f => by
  obtain ⟨v, r, rfl, r1, rr⟩ := rx.uncons
  obtain ⟨u, r, rfl, r2, rr⟩ := rr.uncons
  unfold Reps at rr
  subst rr
  obtain ⟨g0, o, ho, r⟩ := s.mu (d, .xd fs) (by rw [hM]; simp)
  obtain ⟨ps, rfl, _⟩ := r
  exact ⟨d, u, .type n, b, ps, rfl, rfl, by rw [rep_ref r1], ho, fun z hz => by rw [rep_ty r2] at hz; exact hz, hk, f _ M _ G H q s Step.refl rep_of_bl⟩
end
/-! ### what the written part says of an own error's class -/
structure ErrC (K : PySem.W.Frag) (mg : Str → Option Value) (x qual : Str) (st : Stmt) (f1 f2 : Str) (C : Addr) : Prop where
  o : OexC K C
  m : mg x = some (.ref C)
  i : ∃ fI fd, PySem.W.findIn K (.ref C) "__init__" = some (some (.ref fI)) ∧ PySem.W.typeIn K (.ref fI) = some (.type "function") ∧ Fun K "__init__" qual st fI fd ∧ Binds K fd ["self", f1, f2] []
  n1 : PySem.W.findIn K (.ref C) f1 = some none
  n2 : PySem.W.findIn K (.ref C) f2 = some none
  xf : XfC K C
  self : PySem.W.exmOne K (.ref C) (.ref C) = some true
  ec : ExcC K C
/-- a def that may raise, by its name -/
structure CalX (P : Program) (w : World) (K : PySem.W.Frag) (mg : Str → Option Value) (base : Heap) (k : Nat) (x : Str) (sp : Sp) : Prop where
  ex : ∃ (f : Addr) (fd : FuncData) (ps : List Str), FnOk P w K mg base (L2.CX P w) k f fd ps sp ∧ mg x = some (.ref f) ∧ PySem.W.keepIn K (.ref f) = true ∧ Binds K fd ps []
section
variable {X : Cx} {k j : Nat} {x : Str} {sp : Sp} {W : WX} {e : Expr} {es : List Expr} {t : TA} {p pos : Pos}
theorem pe_cX (tk : Takes X W) (c : CalX X.prog X.w X.K X.mg X.base k x sp) (hr : Room j X.A) (hk : k ≤ j) (hg : Gl X x) (ha : PA X (e :: es) t)
    (hdb : (x == ("__debug__" : Str)) = false := by decide) (he : starEach (e :: es) X.env = (false, eval e X.env) :: starEach es X.env := by rfl) (hpl : (backTo pos (starEach es X.env)).any (·.1) = false := by rfl) :
    PE X (.Call (.Name x p) (e :: es) [] pos) (tCallS sp (WE W) t) := by
  obtain ⟨f, fd, ps, F, hm, kp, b⟩ := c.ex
  exact pe_callS F (hr.mono hk) hg hm kp b (fun σ => passAt tk σ) ha hdb he hpl
end
/-! ### what is known of a class by its name -/
theorem ae_refC {K : PySem.W.Frag} {δ : DS} {M : Mu} {k : D → Mu → Prop} {a : Addr} (q : k (.ref a) M) : AE K (tC (.ref a)) δ M k := fun σ G H Q rs s f => f _ M _ G H q s Step.refl rep_of_ref
/-- what may change is forgotten -/
theorem ae_forget {K : PySem.W.Frag} {δ : DS} {M : Mu} {k : D → Mu → Prop} {te : TE} (h : AE K te δ M fun d _ => k d []) : AE K te δ M k := fun σ G H Q rs s f =>
  h σ G H Q rs s fun d M' v G' H' q s' st r => f d [] v G' H' q ⟨s'.same, (fun _ h => nomatch h), List.nodup_nil⟩ ⟨st.gg, st.fr, st.keep, st.alive, (fun _ h => nomatch h)⟩ r
/-! ### facts of classes -/
theorem exm_self {K : PySem.W.Frag} {S : Addr} (h1 : PySem.W.subIn K (.ref S) (.type "BaseException") = some true) (h2 : PySem.W.isClsIn K S = true) (h3 : PySem.W.typeIn K (.ref S) = some (.type "type")) (h4 : PySem.W.subIn K (.ref S) (.ref S) = some true) :
    PySem.W.exmOne K (.ref S) (.ref S) = some true := by
  have h2' : (PySem.W.clsIn K S).isSome = true := h2
  unfold PySem.W.exmOne PySem.W.kitCls
  rw [h1, if_pos (by decide)]
  show (if ((PySem.W.clsIn K S).isSome && PySem.W.typeIn K (.ref S) == some (.type "type")) = true then PySem.W.subIn K (.ref S) (.ref S) else none) = some true
  rw [h2', h3, if_pos (by decide), h4]
theorem kit_ref {K : PySem.W.Frag} {S : Addr} {t : Value} (h2 : PySem.W.isClsIn K S = true) (h3 : PySem.W.typeIn K (.ref S) = some (.type "type")) (h4 : PySem.W.subIn K t (.ref S) = some true) : PySem.W.kitOne K t (.ref S) = some true := by
  have h2' : (PySem.W.clsIn K S).isSome = true := h2
  unfold PySem.W.kitOne
  split
  · rfl
  · show (if ((PySem.W.clsIn K S).isSome && PySem.W.typeIn K (.ref S) == some (.type "type")) = true then PySem.W.subIn K t (.ref S) else none) = some true
    rw [h2', h3, if_pos (by decide), h4]
theorem kit_ty {K : PySem.W.Frag} {T : String} {t : Value} (h2 : PySem.W.kitMeta T = true) (h4 : PySem.W.subIn K t (.type T) = some true) : PySem.W.kitOne K t (.type T) = some true := by
  unfold PySem.W.kitOne
  split
  · rfl
  · show (if PySem.W.kitMeta T = true then PySem.W.subIn K t (.type T) else none) = some true
    rw [if_pos h2, h4]
end Tg
set_option Elab.async false
set_option linter.all false
set_option maxRecDepth 100000
set_option maxHeartbeats 1000000
/-! Tg: the text of deep data. -/
namespace Tg
open PySem L2 PyProof.Rows
mutual
def toPy : D → PyData
  | .non => .none
  | .bl b => .bool b
  | .int i => .int i
  | .str z => .str z
  | .tup ds => .tuple (toPys ds)
  | .lst ds => .list (toPys ds)
  | .lsk ds => .list (toPys ds)
  | .ty _ => .none
  | .ref _ => .none
def toPys : List D → List PyData
  | [] => []
  | d :: ds => toPy d :: toPys ds
end
mutual
/-- data that can be shown: plain, small ints, signs that are signs -/
def Sho : D → Prop
  | .non => True
  | .bl _ => True
  | .int i => i.natAbs < 1000000
  | .str z => ∀ c ∈ z.cps.toList, c < 128
  | .tup ds => Shos ds
  | .lst ds => Shos ds
  | .lsk ds => Shos ds
  | .ty _ => False
  | .ref _ => False
def Shos : List D → Prop
  | [] => True
  | d :: ds => Sho d ∧ Shos ds
end
mutual
/-- no text of it is longer -/
def wt : D → Nat
  | .non => 4
  | .bl _ => 5
  | .int _ => 4000
  | .str z => 10 * z.length + 2
  | .tup ds => wts ds + 3
  | .lst ds => wts ds + 3
  | .lsk ds => wts ds + 3
  | .ty _ => 4
  | .ref _ => 4
def wts : List D → Nat
  | [] => 0
  | d :: ds => wt d + 2 + wts ds
end
theorem log_small {i : Int} (h : i.natAbs < 1000000) : i.natAbs.log2 < 1920 := by
  by_cases e : i.natAbs = 0
  · rw [e]
    decide
  · rw [Nat.log2_lt e]
    exact Nat.lt_of_lt_of_le h (Nat.le_trans (by decide : 1000000 ≤ 2 ^ 20) (Nat.pow_le_pow_right (by decide) (by decide)))
mutual
theorem show_ok : ∀ d : D, Sho d → (toPy d).showable = true ∧ (toPy d).hasDict = false ∧ (toPy d).shown.length ≤ wt d
  | .non, _ => ⟨rfl, rfl, by decide +kernel⟩
  | .bl true, _ => ⟨rfl, rfl, by decide +kernel⟩
  | .bl false, _ => ⟨rfl, rfl, by decide +kernel⟩
  | .int i, h => by
    unfold Sho at h
    have hl := log_small h
    refine ⟨decide_eq_true hl, rfl, ?_⟩
    have e := int_text_length_le (k := 1920) (by decide) hl
    show (Str.ofString (toString i)).length ≤ 4000
    rw [PySem.ofString_length]
    omega
  | .str z, h => by
    unfold Sho at h
    exact ⟨rfl, rfl, StrLaws.reprText_len z fun c hc => Nat.lt_trans (h c hc) (by decide)⟩
  | .tup ds, h => by
    unfold Sho at h
    obtain ⟨h1, h2, h3, h4⟩ := show_oks ds h
    refine ⟨h1, h2, ?_⟩
    have e := tupleText_len_le (PyData.shownAll (toPys ds))
    show (tupleText (PyData.shownAll (toPys ds))).length ≤ wts ds + 3
    omega
  | .lst ds, h => by
    unfold Sho at h
    obtain ⟨h1, h2, h3, h4⟩ := show_oks ds h
    refine ⟨h1, h2, ?_⟩
    have e := listText_len_le (PyData.shownAll (toPys ds))
    show (listText (PyData.shownAll (toPys ds))).length ≤ wts ds + 3
    omega
  | .lsk ds, h => by
    unfold Sho at h
    obtain ⟨h1, h2, h3, h4⟩ := show_oks ds h
    refine ⟨h1, h2, ?_⟩
    have e := listText_len_le (PyData.shownAll (toPys ds))
    show (listText (PyData.shownAll (toPys ds))).length ≤ wts ds + 3
    omega
  | .ty _, h => by
    unfold Sho at h
    exact h.elim
  | .ref _, h => by
    unfold Sho at h
    exact h.elim
theorem show_oks : ∀ ds : List D, Shos ds → PyData.showableAll (toPys ds) = true ∧ PyData.hasDictAll (toPys ds) = false ∧ ((PyData.shownAll (toPys ds)).map (·.length)).sum + 2 * (PyData.shownAll (toPys ds)).length ≤ wts ds ∧ True
  | [], _ => ⟨rfl, rfl, Nat.le_refl _, True.intro⟩
  | d :: ds, h => by
    unfold Shos at h
    obtain ⟨a1, a2, a3⟩ := show_ok d h.1
    obtain ⟨b1, b2, b3, _⟩ := show_oks ds h.2
    refine ⟨?_, ?_, ?_, True.intro⟩
    · show ((toPy d).showable && PyData.showableAll (toPys ds)) = true
      rw [a1, b1]
      rfl
    · show ((toPy d).hasDict || PyData.hasDictAll (toPys ds)) = false
      rw [a2, b2]
      rfl
    · show (((toPy d).shown :: PyData.shownAll (toPys ds)).map (·.length)).sum + 2 * ((toPy d).shown :: PyData.shownAll (toPys ds)).length ≤ wt d + 2 + wts ds
      rw [List.map_cons, List.sum_cons, List.length_cons]
      omega
end
section
variable {K : PySem.W.Frag} {G H : Hp}
mutual
theorem dp_of (e : Same G H) : ∀ (d : D) (v : V), Sho d → Rep K G d v → Dp K H v (toPy d)
  | .non, _, _, r => by
    rw [rep_non r]
    exact .non
  | .bl b, _, _, r => by
    rw [rep_bl r]
    exact .bl b
  | .int i, _, _, r => by
    rw [rep_int r]
    exact .int i
  | .str z, _, _, r => by
    rw [rep_str r]
    exact .str z
  | .tup ds, _, h, r => by
    unfold Sho at h
    obtain ⟨a, xs, rfl, q, rs⟩ := rep_tup r
    exact .tup (Same.seqT e q) (dps_of e ds xs h rs)
  | .lst ds, _, h, r => by
    unfold Sho at h
    obtain ⟨a, xs, rfl, q, rs⟩ := rep_lst r
    exact .lst (.inl (.inl (e _ _ q))) (dps_of e ds xs h rs)
  | .lsk ds, _, h, r => by
    unfold Sho at h
    obtain ⟨a, xs, rfl, q, rs⟩ := rep_lsk r
    exact .lst (e.seq q) (dps_of e ds xs h rs)
  | .ty _, _, h, _ => by
    unfold Sho at h
    exact h.elim
  | .ref _, _, h, _ => by
    unfold Sho at h
    exact h.elim
theorem dps_of (e : Same G H) : ∀ (ds : List D) (vs : List V), Shos ds → Reps K G ds vs → DpAll K H vs (toPys ds)
  | [], _, _, r => by
    unfold Reps at r
    rw [r]
    exact .nil
  | d :: ds, _, h, r => by
    unfold Shos at h
    obtain ⟨x, xs, rfl, r1, r2⟩ := r.uncons
    exact .cons (dp_of e d x h.1 r1) (dps_of e ds xs h.2 r2)
end
end
/-! ### repr -/
def rRepr (K : PySem.W.Frag) : List V → Hp → VK → Prop := fun xs H Q => ∃ a d, xs = [.ref a] ∧ Dp K H (.ref a) d ∧ d.showable = true ∧ d.hasDict = false ∧ d.depth ≤ 40 ∧ d.shown.length ≤ sizeLine ∧ Q (.str d.shown) H
theorem call_reprD {X : Cx} (hg : X.A.guards = some []) (hu : X.A.units + 64 < cLine) : CallR X (.builtin "repr") (rRepr X.K) := by
  rintro pins s σ H xs us Q I r ⟨a, d, rfl, hd, h1, h2, h3, h4, q⟩
  obtain ⟨u, rfl, ru⟩ : ∃ u, us = [u] ∧ RelV (.ref a) u := by
    cases r with
    | cons rx rr =>
      cases rr
      exact ⟨_, rfl, rx⟩
  obtain rfl : u = Value.ref a := ru
  obtain ⟨as, rd⟩ := Dp.reads I d (.ref a) _ hd rfl
  exact repr_of_reads' rd h1 (fun z => absurd (h2.symm.trans z) Bool.false_ne_true) hg (by omega) (fun _ _ e => e) (fun h' u tk hk => ⟨.str d.shown, H, I.kept (t' := tk) hk, ⟨_, rfl⟩, q⟩) h4
section
variable {K : PySem.W.Frag} {M : Mu} {k : D → Mu → Prop}
theorem ac_repr {ds : List D} (hs : Sho (.tup ds)) (hw : wt (.tup ds) ≤ 16777216) (hd : (toPy (.tup ds)).depth ≤ 40) (q : k (.str (toPy (.tup ds)).shown) M) : AC K (rRepr K) [.tup ds] M k := fun vs G H Q rx s f => by
  obtain ⟨v, r, rfl, r1, rr⟩ := rx.uncons
  unfold Reps at rr
  subst rr
  obtain ⟨h1, h2, h3⟩ := show_ok _ hs
  have hsz := sizeLine_eq
  have dp := dp_of s.same _ v hs r1
  obtain ⟨a, xs, rfl, _⟩ := rep_tup r1
  exact ⟨a, _, rfl, dp, h1, h2, hd, by omega, f _ M _ G H q s Step.refl rep_of_str⟩
end
end Tg
set_option Elab.async false
set_option linter.all false
set_option maxRecDepth 100000
set_option maxHeartbeats 2000000
/-! Tg: the law's own call, where it is known that nothing is being shown. -/
namespace Tg
open PySem L2 PySem.Spec PyProof.Rows
/-- one call of a def, around which A stands -/
theorem run_at {P : Program} {w : World} {K : PySem.W.Frag} {mg : Str → Option Value} {base : Heap} {k : Nat} {x qual : Str} {st : Stmt} {f : Addr} {fd : FuncData} {N ps : List Str} {A : Around} {outer : List Env} {s : Shared} {H : Hp} {args : Args} {us : List Value} {vs : List V} {Q : VK} {E : XK}
    (F : Fun K x qual st f fd) (Sc : FnScope N ps (defScope st)) (hl : vs.length = ps.length) (hr : Room (k + 1) A) (e0 : Env0 P w K mg base A outer s H) (hb : BindsTo s fd args (ps.zip us)) (r : Vals vs us)
    (body : ∀ cdv : Value, Room k (A.deeper (envOfC qual (defScope st) s.heap.objs.size f cdv)) → ∃ t, PSs (cxOf CX0 P w K mg base N qual (defScope st) f cdv A outer s H E) (defBody st) t ∧ t { nx := fun _ H' => Q .non H', rt := Q } (start N vs) H) :
    codeAny (model P w) A (.call (.ref f) args) (CR CX0 outer P w H s Q E) s := by
  obtain ⟨oc, od, kV, doc, pm, an, cdv, ct, osl, rfl, lk, hcd⟩ := F.ex
  have kin : K.In s.heap := e0.mod.kin.keeps fun b o q => (e0.bs b o q).1
  have kinds : ∀ y ∈ ps.zip us, (defScope st).names.lookup y.1 = some .local ∨ ((defScope st).names.lookup y.1 = some .cell ∧ ((cellsFrom (s.heap.objs.size + 1) (defScope st).names []).lookup y.1).isSome = true) := by
    rintro ⟨n, v⟩ hy
    rcases Sc.par n (List.of_mem_zip hy).1 with z | z
    · exact .inl z
    · exact .inr ⟨z, PySem.W.cellsFrom_some _ _ _ (.inl z)⟩
  refine codeAny_call_function hr.depth (kin _ _ lk) rfl Sc.co Sc.gen rfl (PySem.W.codeRec_of kin hcd) (hb _ _ _ _ (wpAny_newFunctionEnv_cells Sc.kind kinds fun env he s1 ic => ?_))
  subst he
  refine ⟨(e0.mod.nolimit.keeps fun b o q => (e0.bs b o q).1).keeps ic.toInCall.keep, codeAny_func ?_⟩
  obtain ⟨t, ht, hq⟩ := body cdv (hr.deeper _)
  refine wpAny_mono (ht.run [] s1 (start N vs) H _ (inv_start Sc hr.hd e0 hl r ic) hq) ?_ fun e s' z => z
  intro fl s' z
  cases fl with
  | ret u =>
    obtain ⟨v, σ', H', J, rv, q⟩ := z
    exact ⟨v, H', J.os, J.bare, J.base, J.hok, rv, q⟩
  | next =>
    obtain ⟨σ', H', J, q⟩ := z
    exact ⟨V.non, H', J.os, J.bare, J.base, J.hok, rfl, q⟩
  | brk =>
    obtain ⟨_, _, _, q⟩ := z
    exact q.elim
  | cont =>
    obtain ⟨_, _, _, q⟩ := z
    exact q.elim
/-- the law's call behind the top -/
theorem law_at {P : Program} {w : World} {K : PySem.W.Frag} {mg mb : Str → Option Value} {fa a : Addr} {s : Shared} {vs : List Value} {ns : List Int}
    (kin : K.In s.heap) (hns : s.heap.Ns mainGlobals mg) (hb : s.heap.Ns builtinsNs mb) (hbb : ∀ x : Str, x ≠ "__name__" → mb x = bootBuiltins x) (hlim : s.heap.NoLimit) (hg : s.gens = #[])
    (ha : s.heap.get? a = some { cls := .type "list", data := .seq vs.toArray }) (hi : IntsAre vs ns) (hl : ns.length ≤ sizeLine)
    (run : ∀ (base : Heap) (H : Hp), K.In base → base.Ns mainGlobals mg → SqL K H a (ns.map V.int) → Env0 P w K mg base callerA [] s H → codeAny (model P w) callerA (.call (.ref fa) ⟨[.ref a], []⟩) (CR CX0 [] P w H s (fun v _ => v = .bl true) fun _ _ _ => False) s) :
    codeAny (model P w) callerA (.call (.ref fa) ⟨[.ref a], []⟩) (fun r s' => r = .ok (.ret (.bool true)) ∧ OldK s.heap s'.heap ∧ s'.os = s.os ∧ AllBare s'.gens) s := by
  have lenV := hi.length
  have main : ∀ H : Hp, Only H → SqL K H a (ns.map V.int) → HOk P w H s.heap → (∀ b, H b ≠ none → b = a ∧ K.lookup a = none) →
      codeAny (model P w) callerA (.call (.ref fa) ⟨[.ref a], []⟩) (fun r s' => r = .ok (.ret (.bool true)) ∧ OldK s.heap s'.heap ∧ s'.os = s.os ∧ AllBare s'.gens) s := by
    intro H only sq hok at_a
    have hid : ∀ {b : Addr} {o : Obj}, s.heap.get? b = some o → H b = none → (hidT s.heap H).get? b = some o := hidT_get
    have free : ∀ {b : Addr} {m : Str → Option Value}, s.heap.Ns b m → H b = none := by
      rintro b m ⟨o, es, ep, e, d, _⟩
      by_cases z : H b = none
      · exact z
      · obtain ⟨e1, _⟩ := at_a b z
        subst e1
        rw [ha] at e
        cases e
        exact nomatch (show Data.seq vs.toArray _ = Data.dict es ep from d)
    have ns2 : ∀ {b : Addr} {m : Str → Option Value}, s.heap.Ns b m → (hidT s.heap H).Ns b m := fun {b m} n => by
      have z := free n
      obtain ⟨o, es, ep, e, d, r⟩ := n
      exact ⟨o, es, ep, hid e z, d, r⟩
    have kin2 : K.In (hidT s.heap H) := fun b o e => by
      refine hid (kin b o e) ?_
      by_cases z : H b = none
      · exact z
      · obtain ⟨e1, e2⟩ := at_a b z
        subst e1
        rw [e2] at e
        cases e
    have mod : Mod K mg (hidT s.heap H) := by
      obtain ⟨mc, h1, h2⟩ := hlim
      exact ⟨kin2, ns2 hns, ⟨mb, ns2 hb, hbb⟩, mc, ns2 h1, h2⟩
    have none_in : ∀ b : Addr, b ∉ ([] : List Addr) := fun b z => nomatch z
    refine codeAny_mono (run _ H kin2 (ns2 hns) sq ⟨rfl, mod, fun b o e => of_hidT e, Nat.le_of_eq (hidT_size _ _), trivial, fun b z => absurd z (none_in b), hok, .of_eq hg⟩) ?_
    intro r s' h
    rcases r with e | fl
    · exact False.elim h
    · cases fl with
      | next => exact False.elim h
      | brk => exact False.elim h
      | cont => exact False.elim h
      | ret u =>
        obtain ⟨v, H', os, bare, un, hok2, rv, q⟩ := h
        cases (show v = .bl true from q)
        cases (show u = Value.bool true from rv)
        refine ⟨rfl, OldK.of_keep fun b o e => ?_, os, bare⟩
        by_cases z : H b = none
        · exact un.keep b o e z (none_in b) (by simp)
        · rcases only b with z2 | ⟨ob, xs, z2⟩
          · exact absurd z2 z
          · obtain ⟨e1, _⟩ := hok b _ z2
            obtain ⟨e2, _⟩ := hok2 b _ (un.frzs b ob _ z2)
            rw [e] at e1
            cases e1
            exact e2
  have rv := vals_ints hi
  by_cases hk : K.lookup a = none
  · refine main (fun b => if b = a then some (.frz { cls := .type "list", data := .seq vs.toArray } (.lst (ns.map V.int))) else none) (fun b => ?_) (.inl (.inr ⟨_, if_pos rfl⟩)) (fun b u z => ?_) fun b z => ?_
    · by_cases e : b = a
      · exact .inr ⟨_, _, if_pos e⟩
      · exact .inl (if_neg e)
    · by_cases e : b = a
      · subst e
        cases (if_pos rfl).symm.trans z
        exact ⟨ha, by rw [List.length_map]; exact hl, vs, _, rv, ha⟩
      · cases (if_neg e).symm.trans z
    · by_cases e : b = a
      · exact ⟨e, hk⟩
      · exact absurd (if_neg e) z
  · obtain ⟨o, ho⟩ := Option.ne_none_iff_exists'.mp hk
    have e := kin a o ho
    rw [ha] at e
    cases e
    exact main (fun _ => none) (fun _ => .inl rfl) (.inr ⟨_, vs.toArray, _, ho, rfl, rfl, rfl, by rw [List.size_toArray, lenV]; exact hl, by simpa using rv⟩) (fun b u z => nomatch z) fun b z => absurd rfl z
/-- the end of a law row, by what its call comes to -/
theorem walk_at_law {l : PySem.W.OpenLaw} {n : Nat} {q : Program} {loose : List Str} {XP : (Str → Option Value) → Heap → Prop} {YP : World → Heap → Prop} {d : DefRec} {K : Params → PySem.W.Frag}
    (hn : l.most = some n) (hn2 : n ≤ sizeLine) (hdf : d.params.defaults = []) (hY : ∀ (w : World) (h : Heap), YP w h → (K w.params).In h)
    (run : ∀ (w : World) (mg : Str → Option Value) (fa a : Addr) (h : Heap) (ns : List Int) (s : Shared) (base : Heap) (H : Hp), (K w.params).In h → h.Ns mainGlobals mg → mg d.name = some (.ref fa) → ns.length ≤ n → (K w.params).In base → base.Ns mainGlobals mg →
      SqL (K w.params) H a (ns.map V.int) → Env0 l.prog w (K w.params) mg base callerA [] s H → codeAny (model l.prog w) callerA (.call (.ref fa) ⟨[.ref a], []⟩) (CR CX0 [] l.prog w H s (fun v _ => v = .bl true) fun _ _ _ => False) s) :
    PySem.W.WalkO q loose XP YP l.row.toRowW d [] (fun f vs => PySem.call f vs) := by
  refine Att.attach_call hn hdf fun w s₀ s1 mg mb fa o pm cd doc a vs ns G Y ho hd hcd hmg hobj hints hlen hg => ?_
  have kin := hY w _ Y
  exact law_at kin G.T.g G.T.b G.T.builtins G.T.nolimit hg hobj hints (Nat.le_trans hlen hn2) fun base H k2 n2 sq e0 => run w mg fa a _ ns s1 base H kin G.T.g hmg hlen k2 n2 sq e0
end Tg

set_option Elab.async false
set_option linter.all false
set_option maxRecDepth 100000
set_option maxHeartbeats 4000000
namespace PK
open PySem L2 PyProof.Rows Tg
open C8 (Cal pe_c pe_mk)
def topS (i : Nat) : Stmt := PySem.Challenge.pw_tongues_k01_changes.main.body.getD i (.Pass ⟨0, 0, 0, 0⟩)
/-- a def of the top -/
structure DefT (K : PySem.W.Frag) (mg : Str → Option Value) (x : Str) (st : Stmt) (ps : List Str) : Prop where
  ex : ∃ f fd, Fun K x x st f fd ∧ mg x = some (.ref f) ∧ Binds K fd ps []
theorem cal_of {P : Program} {w : World} {K : PySem.W.Frag} {mg : Str → Option Value} {base : Heap} {x : Str} {st : Stmt} {ps : List Str} {k : Nat} {sp : Sp} (D : DefT K mg x st ps)
    (ok : ∀ f fd, Fun K x x st f fd → FnOk P w K mg base CX0 k f fd ps sp) : Cal P w K mg base k x sp [] := by
  obtain ⟨f, fd, F, m, b⟩ := D.ex
  exact ⟨f, fd, ps, [], ok f fd F, m, F.kp, b, .nil⟩

abbrev s_check_change : Stmt := topS 4
theorem sc_check_change : FnScope ["text", "change", "behind", "index", "start", "stop", "put"] ["text", "change"] (defScope s_check_change) := ⟨rfl, rfl, rfl, by decide +kernel, rfl, by decide +kernel, by decide +kernel⟩
abbrev s_apply_change : Stmt := topS 5
theorem sc_apply_change : FnScope ["text", "change", "parts", "at", "start", "stop", "put"] ["text", "change"] (defScope s_apply_change) := ⟨rfl, rfl, rfl, by decide +kernel, rfl, by decide +kernel, by decide +kernel⟩
abbrev s__law_pool : Stmt := topS 7
theorem sc__law_pool : FnScope ["script", "cell"] ["script"] (defScope s__law_pool) := ⟨rfl, rfl, rfl, by decide +kernel, rfl, by decide +kernel, by decide +kernel⟩
abbrev s__law_take : Stmt := topS 8
theorem sc__law_take : FnScope ["pool", "many", "digit", "cell", "mixed"] ["pool", "many"] (defScope s__law_take) := ⟨rfl, rfl, rfl, by decide +kernel, rfl, by decide +kernel, by decide +kernel⟩
abbrev s__law_char : Stmt := topS 9
theorem sc__law_char : FnScope ["cell", "signs"] ["cell"] (defScope s__law_char) := ⟨rfl, rfl, rfl, by decide +kernel, rfl, by decide +kernel, by decide +kernel⟩
abbrev s__law_text : Stmt := topS 10
theorem sc__law_text : FnScope ["pool", "size", "kind", "base", "row", "k"] ["pool", "size"] (defScope s__law_text) := ⟨rfl, rfl, rfl, by decide +kernel, rfl, by decide +kernel, by decide +kernel⟩
abbrev s__law_size : Stmt := topS 11
theorem sc__law_size : FnScope ["pool"] ["pool"] (defScope s__law_size) := ⟨rfl, rfl, rfl, by decide +kernel, rfl, by decide +kernel, by decide +kernel⟩
abbrev s__law_change : Stmt := topS 12
theorem sc__law_change : FnScope ["pool", "text", "pieces", "at", "k", "start", "stop", "put"] ["pool", "text"] (defScope s__law_change) := ⟨rfl, rfl, rfl, by decide +kernel, rfl, by decide +kernel, by decide +kernel⟩
abbrev s__law_marked : Stmt := topS 13
theorem sc__law_marked : FnScope ["text", "change", "rows", "at", "start", "stop", "put", "k", "sign"] ["text", "change"] (defScope s__law_marked) := ⟨rfl, rfl, rfl, by decide +kernel, rfl, by decide +kernel, by decide +kernel⟩
abbrev s__law_after : Stmt := topS 14
theorem sc__law_after : FnScope ["text", "change", "row"] ["text", "change"] (defScope s__law_after) := ⟨rfl, rfl, rfl, by decide +kernel, rfl, by decide +kernel, by decide +kernel⟩
abbrev s__law_is_integer : Stmt := topS 15
theorem sc__law_is_integer : FnScope ["actual"] ["actual"] (defScope s__law_is_integer) := ⟨rfl, rfl, rfl, by decide +kernel, rfl, by decide +kernel, by decide +kernel⟩
abbrev s__law_same : Stmt := topS 16
theorem sc__law_same : FnScope ["actual", "due", "k"] ["actual", "due"] (defScope s__law_same) := ⟨rfl, rfl, rfl, by decide +kernel, rfl, by decide +kernel, by decide +kernel⟩
abbrev s__law_wild : Stmt := topS 17
theorem sc__law_wild : FnScope ["pool", "size", "pieces", "at", "k", "start", "stop"] ["pool", "size"] (defScope s__law_wild) := ⟨rfl, rfl, rfl, by decide +kernel, rfl, by decide +kernel, by decide +kernel⟩
abbrev s__law_wrong : Stmt := topS 18
theorem sc__law_wrong : FnScope ["size", "pieces", "last", "k", "start", "stop", "put"] ["size", "pieces"] (defScope s__law_wrong) := ⟨rfl, rfl, rfl, by decide +kernel, rfl, by decide +kernel, by decide +kernel⟩
abbrev s__law_told : Stmt := topS 19
theorem sc__law_told : FnScope ["text", "pieces", "back", "e"] ["text", "pieces"] (defScope s__law_told) := ⟨rfl, rfl, rfl, by decide +kernel, rfl, by decide +kernel, by decide +kernel⟩
abbrev s_law : Stmt := topS 20
theorem sc_law : FnScope ["script", "pool", "text", "change", "wild", "kept", "due"] ["script"] (defScope s_law) := ⟨rfl, rfl, rfl, by decide +kernel, rfl, by decide +kernel, by decide +kernel⟩
abbrev s_BadChange_init : Stmt := match topS 2 with
 | .ClassDef (body := b) .. => b.getD 0 (.Pass ⟨0, 0, 0, 0⟩)
 | s => s
theorem sc_BadChange_init : FnScope ["self", "number", "reason"] ["self", "number", "reason"] (defScope s_BadChange_init) := ⟨rfl, rfl, rfl, by decide +kernel, rfl, by decide +kernel, by decide +kernel⟩
abbrev ErrT_BadChange (K : PySem.W.Frag) (mg : Str → Option Value) (C : Addr) : Prop := ErrC K mg "BadChange" "BadChange.__init__" s_BadChange_init "number" "reason" C

structure Top (K : PySem.W.Frag) (mg : Str → Option Value) : Prop where
  d_check_change : DefT K mg "check_change" s_check_change ["text", "change"]
  d_apply_change : DefT K mg "apply_change" s_apply_change ["text", "change"]
  d__law_pool : DefT K mg "_law_pool" s__law_pool ["script"]
  d__law_take : DefT K mg "_law_take" s__law_take ["pool", "many"]
  d__law_char : DefT K mg "_law_char" s__law_char ["cell"]
  d__law_text : DefT K mg "_law_text" s__law_text ["pool", "size"]
  d__law_size : DefT K mg "_law_size" s__law_size ["pool"]
  d__law_change : DefT K mg "_law_change" s__law_change ["pool", "text"]
  d__law_marked : DefT K mg "_law_marked" s__law_marked ["text", "change"]
  d__law_after : DefT K mg "_law_after" s__law_after ["text", "change"]
  d__law_is_integer : DefT K mg "_law_is_integer" s__law_is_integer ["actual"]
  d__law_same : DefT K mg "_law_same" s__law_same ["actual", "due"]
  d__law_wild : DefT K mg "_law_wild" s__law_wild ["pool", "size"]
  d__law_wrong : DefT K mg "_law_wrong" s__law_wrong ["size", "pieces"]
  d__law_told : DefT K mg "_law_told" s__law_told ["text", "pieces"]
  m_ValueError : mg "ValueError" = none
  m_all : mg "all" = none
  m_bool : mg "bool" = none
  m_enumerate : mg "enumerate" = none
  m_int : mg "int" = none
  m_isinstance : mg "isinstance" = none
  m_len : mg "len" = none
  m_list : mg "list" = none
  m_min : mg "min" = none
  m_range : mg "range" = none
  m_repr : mg "repr" = none
  m_str : mg "str" = none
  m_tuple : mg "tuple" = none
  x_BadChange : ∃ C CT, ErrT_BadChange K mg C ∧ mg "TongueError" = some (.ref CT) ∧ PySem.W.kitOne K (.ref C) (.ref CT) = some true ∧ PySem.W.kitOne K (.ref C) (.type "ValueError") = some true


/-! ### the pool of drawn numbers -/
structure Pool where
  cells : List Int
  pos : Int
  big : Int
  seed : Int
def Pool.d (p : Pool) : List D := [.lst (p.cells.map D.int), .int p.pos, .int p.big, .int p.seed]
structure Pool.Ok (p : Pool) : Prop where
  cells : ∀ c ∈ p.cells, 0 ≤ c
  pos : 0 ≤ p.pos
  big : 0 ≤ p.big
  seed0 : 0 ≤ p.seed
  seed1 : p.seed < 2147483647
def W_pool : Wt := fun ds M k => ∃ ns : List Int, ds = [.lsk (ns.map D.int)] ∧ M = [] ∧ ns.length ≤ 63 ∧ ∀ (a : Addr) (p : Pool), p.Ok → k (.ref a) [(a, .lst p.d)]
/-- n calls, one in the other, are allowed -/
def W_take (n : Nat) : Wt := fun ds M k => ∃ (a : Addr) (p : Pool) (many : Int), ds = [.ref a, .int many] ∧ M = [(a, .lst p.d)] ∧ p.Ok ∧ 0 < many ∧ many < 1073741824 ∧ 1 ≤ n ∧ (0 < p.big ∨ 2 ≤ n) ∧
  ∀ (r : Int) (p' : Pool), p'.Ok → 0 ≤ r → r < many → k (.int r) [(a, .lst p'.d)]
/-- behind a draw below many -/
def takeK (a : Addr) (many : Int) : D → Mu → Prop := fun d M => ∃ (r : Int) (p' : Pool), p'.Ok ∧ 0 ≤ r ∧ r < many ∧ d = .int r ∧ M = [(a, .lst p'.d)]
theorem take_ok {n : Nat} {a : Addr} {p : Pool} {many : Int} (ok : p.Ok) (h0 : 0 < many) (h1 : many < 1073741824) (hn : 2 ≤ n) : W_take n [.ref a, .int many] [(a, .lst p.d)] (takeK a many) :=
  ⟨a, p, many, rfl, rfl, ok, h0, h1, by omega, .inr hn, fun r p' ok' r0 r1 => ⟨r, p', ok', r0, r1, rfl, rfl⟩⟩
/-- nothing is asked of it -/
theorem cal_none {P : Program} {w : World} {K : PySem.W.Frag} {mg : Str → Option Value} {base : Heap} {x : Str} {st : Stmt} {ps : List Str} {W : Wt} {n : Nat} (T : DefT K mg x st ps) (no : ∀ ds M k, ¬ W ds M k) : Cal P w K mg base n x (Spc K W) [] :=
  cal_of T fun f fd F => ⟨fun vs H Q E h => by
    obtain ⟨_, ds, M, k, _, _, hw, _⟩ := h
    exact absurd hw (no ds M k), fun A outer s H args us vs Q E _ _ _ _ h => by
    obtain ⟨_, ds, M, k, _, _, hw, _⟩ := h
    exact absurd hw (no ds M k)⟩

local macro_rules | `(tactic| walk_at "tg1") => `(tactic| first
  | with_reducible refine as_seq (t := tAsg _ _) ?_
  | with_reducible refine as_seq (t := tDrop _) ?_
  | with_reducible refine as_seq (t := tAug _ _ _) ?_
  | with_reducible refine as_seq (t := tFor _ _ _) ?_
  | with_reducible refine as_seq (t := tNext) ?_
  | with_reducible refine as_set ?_
  | with_reducible refine as_asg ?_
  | with_reducible refine as_if ?_
  | with_reducible refine as_ret ?_
  | with_reducible refine as_retN ?_
  | with_reducible refine as_drop ?_
  | with_reducible refine as_next ?_
  | with_reducible refine as_brk ?_
  | with_reducible refine as_cont ?_
  | with_reducible refine ae_int ?_
  | with_reducible refine ae_bl ?_
  | with_reducible refine ae_non ?_
  | with_reducible refine ae_str ?_
  | with_reducible refine ae_ty ?_
  | with_reducible refine ae_op ?_
  | with_reducible refine ae_un ?_
  | with_reducible refine ae_if ?_
  | with_reducible refine ae_andV ?_
  | with_reducible refine ae_orV ?_
  | with_reducible refine ae_notV ?_
  | with_reducible refine at_test ?_
  | with_reducible refine at_B ?_
  | with_reducible refine at_and ?_
  | with_reducible refine at_or ?_
  | with_reducible refine at_not ?_
  | with_reducible refine at_tru ?_
  | with_reducible refine aa_nil ?_
  | with_reducible refine aa_cons ?_
  | with_reducible refine ae_tup ?_
  | with_reducible refine ae_lst ?_
  | with_reducible refine ae_lstM ?_
  | with_reducible refine ae_cb ?_
  | with_reducible refine ae_call ?_
  | with_reducible refine ae_lm ?_
  | with_reducible refine ae_sm ?_
  | with_reducible refine ae_m1 ?_
  | with_reducible refine Tg.ae_sl ?_
  | with_reducible refine ao_none ?_
  | with_reducible refine ao_some ?_
  | with_reducible refine as_for ?_
  | with_reducible refine ai_seq ?_
  | with_reducible refine ai_enum ?_
  | with_reducible refine ai_range1 ?_
  | with_reducible refine ai_range2 ?_
  | with_reducible refine ag_name ?_
  | with_reducible refine ag_setL ?_
  | with_reducible refine ag_setU ?_
  | with_reducible refine ae_chain ?_
  | with_reducible refine ae_chain3 ?_
  | with_reducible refine ae_dnew ?_
  | with_reducible refine ae_dget2 ?_
  | with_reducible refine ae_listRg1 ?_
  | with_reducible refine ags_nil ?_
  | with_reducible refine ags_cons ?_
  | with_reducible refine ag_tup rfl ?_
  | with_reducible refine au_int ?_
  | with_reducible refine Tg.ai_int ?_
  | with_reducible refine ar_sub ?_
  | with_reducible refine ar_cmp ?_
  | with_reducible refine au_neg ?_
  | with_reducible refine ac_int ?_
  | with_reducible refine ac_min ?_
  | with_reducible refine at_yes ?_
  | with_reducible refine bcaseT ?_
  | with_reducible refine bcaseF ?_
  | with_reducible refine bcaseTR ?_
  | with_reducible refine bcaseFR ?_
  | ((with_reducible refine ar_intC ?c1 ?c2); (case c1 => first | omega | exact ⟨by omega, by omega⟩ | exact cmul_l (by omega) (by omega) | exact cmul_r (by omega) (by omega) | exact ⟨by omega, by omega, by decide⟩))
  | refine ae_var rfl ?_
  | refine aix0 rfl ?_
  | refine aix1 rfl ?_
  | refine put_l0 rfl ?_
  | refine put_l1 rfl ?_
  | refine ⟨lst0, ?_⟩
  | refine ⟨lst1, ?_⟩
  | refine ⟨lst2, ?_⟩
  | refine lenM0 ?_
  | refine lenM1 ?_
  | refine aix_T rfl ?_
  | refine as_aug rfl ?_
  | refine ar_eqD rfl ?_
  | refine ar_neD rfl ?_
  | refine ar_isN ?_
  | refine ar_notN ?_
  | refine ac_lenD rfl ?_
  | refine ac_lenS (by omega) ?_
  | refine ac_isiT rfl rfl ?_
  | refine ac_isiF rfl rfl ?_
  | refine ac_tupL ?_
  | refine ⟨tru_ok_bl, ?_⟩
  | refine caseT rfl ?_
  | refine caseF rfl ?_
  | refine caseTR rfl ?_
  | refine caseFR rfl ?_
  | refine ⟨⟨_, rfl⟩, ?_⟩
  | refine ⟨len_ok 0 rfl, ?_⟩
  | refine ⟨len_ok 1 rfl, ?_⟩
  | refine ⟨len_ok 2 rfl, ?_⟩
  | refine ⟨len_ok 3 rfl, ?_⟩
  | refine ⟨len_ok 4 rfl, ?_⟩
  | refine ⟨len_ok 5 rfl, ?_⟩
  | refine ⟨_, rfl, ?_⟩)
local macro_rules | `(tactic| walk_at "tg") => `(tactic| repeat walk_at "tg1")
local macro_rules | `(tactic| walk_at "take") => `(tactic| refine ⟨[_], _, takeK _ _, rfl, take_ok (by assumption) (by first | decide | omega) (by first | decide | omega) (by decide), ?_⟩)

section
variable {P : Program} {w : World} {K : PySem.W.Frag} {mg : Str → Option Value} {base : Heap}
theorem cells_at {cs : List Int} {i : Int} (h0 : 0 ≤ i) (h : i < (cs.length : Int)) : ∃ c, c ∈ cs ∧ atI (cs.map D.int) i = some (.int c) := by
  obtain ⟨j, rfl⟩ : ∃ j : Nat, i = (j : Int) := ⟨i.toNat, by omega⟩
  have hj : j < cs.length := by omega
  refine ⟨cs[j], List.getElem_mem hj, ?_⟩
  exact atI_nat (by rw [List.getElem?_map, List.getElem?_eq_getElem hj]; rfl)
theorem c__law_pool (T : Top K mg) : Cal P w K mg base 1 "_law_pool" (Spc K W_pool) [] := cal_of T.d__law_pool fun f fd F =>
  spc_ok F sc__law_pool (fun ds M k h => by obtain ⟨ns, rfl, _⟩ := h; rfl) fun cdv A outer s H E hr => ⟨_, (pss_one (ps_ret (pe_lstM (pe_lst (pa_cons (pe_lc (own := [("cell", 1)]) (g := gName 1) rfl sc__law_pool.nd (seq_K (K := K) (pv 0)) (blkOk_by (own := [("cell", 1)]) (N := ["script", "cell"]) (sc := defScope s__law_pool) (by decide +kernel)) (fun _ _ _ _ _ => (pg_name (i := 1) sc__law_pool.nd rfl (Or.inl rfl))) (fun _ _ _ _ _ => pts_nil) (fun _ _ _ _ _ => (pe_ifExp (pt_cmpR op_ge (pv 1) pe_int (nomark _)) (pe_op op_mul pe_int (pv 1)) (pe_op op_sub (pe_op op_mul (pe_un un_neg pe_int) (pv 1)) pe_int)))) (pa_cons pe_int (pa_cons pe_int (pa_cons pe_int pa_nil)))))))), fun ds M kk hw => by
    obtain ⟨ns, rfl, rfl, hl, q⟩ := hw
    refine as_start (δ' := [some (.lsk (ns.map D.int)), none]) rfl ?_
    walk_at "tg"
    refine ae_lc (ownG_name (by simp)) ?_
    walk_at "tg"
    refine ⟨by rw [List.length_map]; exact small1000 (by omega), fun i acc M' => M' = [] ∧ ∃ cs : List Int, acc = cs.map D.int ∧ ∀ c ∈ cs, 0 ≤ c, ⟨rfl, [], rfl, by simp⟩, ?_, ?_⟩
    · rintro i d acc M' hd ⟨rfl, cs, rfl, hc⟩
      obtain ⟨j, rfl⟩ : ∃ j, d = .int j := by
        rw [List.getElem?_map] at hd
        cases e : ns[i]? with
        | none => rw [e] at hd; cases hd
        | some j => rw [e] at hd; exact ⟨j, by simpa using hd.symm⟩
      walk_at "tg"
      refine dcase (fun c => ?_) (fun c => ?_)
      · walk_at "tg"
        exact ⟨rfl, cs ++ [2 * j], by simp, fun x hx => by
          rcases List.mem_append.mp hx with hx | hx
          · exact hc x hx
          · have e : x = 2 * j := by simpa using hx
            omega⟩
      · walk_at "tg"
        exact ⟨rfl, cs ++ [-2 * j - 1], by simp, fun x hx => by
          rcases List.mem_append.mp hx with hx | hx
          · exact hc x hx
          · have e : x = -2 * j - 1 := by simpa using hx
            omega⟩
    · rintro acc M' ⟨rfl, cs, rfl, hc⟩
      walk_at "tg"
      intro a
      exact q a ⟨cs, 0, 0, 17⟩ ⟨hc, Int.le_refl 0, Int.le_refl 0, by show (0 : Int) ≤ 17; decide, by show (17 : Int) < 2147483647; decide⟩⟩
theorem take_step (T : Top K mg) (n : Nat) (c__law_take : Cal P w K mg base n "_law_take" (Spc K (W_take n)) []) : Cal P w K mg base (n + 1) "_law_take" (Spc K (W_take (n + 1))) [] := cal_of T.d__law_take fun f fd F =>
  spc_ok F sc__law_take (fun ds M k h => by obtain ⟨a, p, many, rfl, _⟩ := h; rfl) fun cdv A outer s H E hr => ⟨_, (pss_cons (ps_if (pt_cmpR op_gt (pe_ix (ix_K (K := K)) (pv 0) pe_int (fun _ _ => rfl)) pe_int (nomark _))
      (pss_cons (ps_set (i := 2) sc__law_take.nd rfl (Or.inl rfl) (pe_op op_mod (pe_callTy call_intU (by rfl) T.m_int (by decide +kernel) (pa_cons (pe_ix (ix_K (K := K)) (pv 0) pe_int (fun _ _ => rfl)) pa_nil)) (pv 1)))
      (pss_cons (ps_asg (pe_op op_fdiv (pe_ix (ix_K (K := K)) (pv 0) pe_int (fun _ _ => rfl)) (pv 1)) (pg_sub (pv 0) pe_int (set_any (hu_of hr))))
      (pss_one (ps_ret (pv 2)))))
      pss_nil)
      (pss_cons (ps_set (i := 3) sc__law_take.nd rfl (Or.inl rfl) pe_int)
      (pss_cons (ps_if (pt_cmpR op_lt (pe_ix (ix_K (K := K)) (pv 0) pe_int (fun _ _ => rfl)) (pe_callB (len_K (K := K)) (by rfl) T.m_len (by decide +kernel) (pa_cons (pe_ix (ix_K (K := K)) (pv 0) pe_int (fun _ _ => rfl)) pa_nil)) (nomark _))
      (pss_one (ps_set (i := 3) sc__law_take.nd rfl (Or.inl rfl) (pe_ix (ix_K (K := K)) (pe_ix (ix_K (K := K)) (pv 0) pe_int (fun _ _ => rfl)) (pe_ix (ix_K (K := K)) (pv 0) pe_int (fun _ _ => rfl)) (fun _ _ => rfl))))
      pss_nil)
      (pss_cons (ps_asg (pe_op (add_K (K := K)) (pe_ix (ix_K (K := K)) (pv 0) pe_int (fun _ _ => rfl)) pe_int) (pg_sub (pv 0) pe_int (set_any (hu_of hr))))
      (pss_cons (ps_if (pt_cmpR op_ge (pv 3) (pe_op op_pow pe_int pe_int) (nomark _))
      (pss_cons (ps_asg (pe_op op_fdiv (pv 3) pe_int) (pg_sub (pv 0) pe_int (set_any (hu_of hr))))
      (pss_one (ps_ret (pe_c c__law_take hr (by first | decide | omega) (by rfl) (pa_cons (pv 0) (pa_cons (pv 1) pa_nil))))))
      pss_nil)
      (pss_cons (ps_asg (pe_op op_mod (pe_callTy call_intU (by rfl) T.m_int (by decide +kernel) (pa_cons (pe_op (add_K (K := K)) (pe_op (add_K (K := K)) (pe_op op_mul (pe_ix (ix_K (K := K)) (pv 0) pe_int (fun _ _ => rfl)) pe_int) (pe_op op_mul (pv 3) pe_int)) (pe_op op_mul (pe_ix (ix_K (K := K)) (pv 0) pe_int (fun _ _ => rfl)) pe_int)) pa_nil)) pe_int) (pg_sub (pv 0) pe_int (set_any (hu_of hr))))
      (pss_cons (ps_set (i := 4) sc__law_take.nd rfl (Or.inl rfl) (pe_op op_mod (pe_callTy call_intU (by rfl) T.m_int (by decide +kernel) (pa_cons (pe_op (add_K (K := K)) (pe_op (add_K (K := K)) (pe_op op_mul (pe_ix (ix_K (K := K)) (pv 0) pe_int (fun _ _ => rfl)) (pe_ix (ix_K (K := K)) (pv 0) pe_int (fun _ _ => rfl))) (pe_op op_mul (pe_ix (ix_K (K := K)) (pv 0) pe_int (fun _ _ => rfl)) pe_int)) pe_int) pa_nil)) pe_int))
      (pss_one (ps_ret (pe_op op_mod (pe_callTy call_intU (by rfl) T.m_int (by decide +kernel) (pa_cons (pe_op op_fdiv (pv 4) pe_int) pa_nil)) (pv 1))))))))))), fun ds M kk hw => by
    obtain ⟨a, p, many, rfl, rfl, ok, h0, h1, hn, hb, q⟩ := hw
    have s0 := ok.seed0
    have s1 := ok.seed1
    have b0 := ok.big
    refine as_start (δ' := [some (.ref a), some (.int many), none, none, none]) rfl ?_
    refine as_seq ?_
    walk_at "tg"
    refine dcase (fun c => ?_) (fun c => ?_)
    · walk_at "tg"
      exact q _ { p with big := p.big / many } ⟨ok.cells, ok.pos, Int.ediv_nonneg b0 (by omega), s0, s1⟩ (Int.emod_nonneg _ (by omega)) (Int.emod_lt_of_pos _ h0)
    · have hn2 : 2 ≤ n + 1 := by rcases hb with z | z <;> omega
      walk_at "tg"
      refine as_cut (fun δ' M' => ∃ c : Int, 0 ≤ c ∧ δ' = [some (.ref a), some (.int many), none, some (.int c), none] ∧ M' = [(a, .lst p.d)]) ?_ ?_
      · walk_at "tg"
        refine dcase (fun c => ?_) (fun c => ?_)
        · have c' : p.pos < (p.cells.length : Int) := by rw [List.length_map] at c; exact c
          obtain ⟨x, hx, hat⟩ := cells_at ok.pos c'
          walk_at "tg"
          refine aix_L hat ?_
          walk_at "tg"
          exact ⟨x, ok.cells x hx, rfl, rfl⟩
        · walk_at "tg"
          exact ⟨0, Int.le_refl 0, rfl, rfl⟩
      · rintro δ' M' ⟨c, hc, rfl, rfl⟩
        walk_at "tg"
        refine as_seq ?_
        walk_at "tg"
        have p0 := ok.pos
        refine dcase (fun c1 => ?_) (fun c1 => ?_)
        · walk_at "tg"
          have e18 : (10 : Int) ^ Int.toNat 18 = 1000000000000000000 := by decide
          rw [e18] at c1
          exact ⟨[_], [], kk, rfl, ⟨a, { p with pos := p.pos + 1, big := c / 2 }, many, rfl, rfl, ⟨ok.cells, by show 0 ≤ p.pos + 1; omega, by show 0 ≤ c / 2; omega, s0, s1⟩, h0, h1, by omega, .inl (by show 0 < c / 2; omega), fun r p' ok' r0 r1 => q r p' ok' r0 r1⟩, fun d Mc' h => by rw [List.append_nil]; exact h⟩
        · walk_at "tg"
          exact q _ { p with pos := p.pos + 1, seed := (p.seed * 48271 + c * 69621 + (p.pos + 1) * 613) % 2147483647 } ⟨ok.cells, by show 0 ≤ p.pos + 1; omega, b0, Int.emod_nonneg _ (by decide), Int.emod_lt_of_pos _ (by decide)⟩ (Int.emod_nonneg _ (by omega)) (Int.emod_lt_of_pos _ h0)⟩
theorem c__law_take (T : Top K mg) : ∀ n : Nat, Cal P w K mg base n "_law_take" (Spc K (W_take n)) []
  | 0 => cal_none T.d__law_take fun ds M k h => by
    obtain ⟨_, _, _, _, _, _, _, _, h, _⟩ := h
    omega
  | n + 1 => take_step T n (c__law_take T n)
end

/-! ### drawn texts and changes -/
structure Piece where
  start : Nat
  stop : Nat
  put : List Nat
def Piece.d (p : Piece) : D := .tup [.int p.start, .int p.stop, .str (tx p.put)]
/-- a change of a text of n characters, its pieces at lo or behind -/
def Chg (n : Nat) : Nat → List Piece → Prop
  | _, [] => True
  | lo, p :: r => lo ≤ p.start ∧ p.start ≤ p.stop ∧ p.stop ≤ n ∧ (p.start = p.stop → p.put ≠ []) ∧ Chg n (p.stop + 1) r
theorem Chg.snoc {n : Nat} {q : Piece} : ∀ {lo : Nat} {ps : List Piece}, Chg n lo ps → (∀ p ∈ ps, p.stop + 1 ≤ q.start) → lo ≤ q.start → q.start ≤ q.stop → q.stop ≤ n → (q.start = q.stop → q.put ≠ []) → Chg n lo (ps ++ [q])
  | lo, [], _, _, h1, h2, h3, h4 => ⟨h1, h2, h3, h4, True.intro⟩
  | lo, p :: r, h, hb, h1, h2, h3, h4 => ⟨h.1, h.2.1, h.2.2.1, h.2.2.2.1, Chg.snoc h.2.2.2.2 (fun x hx => hb x (List.mem_cons_of_mem _ hx)) (hb p (List.mem_cons_self ..)) h2 h3 h4⟩
def W_char : Wt := fun ds M k => ∃ c : Int, ds = [.int c] ∧ M = [] ∧ ∀ x : Nat, x < 128 → k (.str (tx [x])) []
def charK : D → Mu → Prop := fun d M => ∃ x : Nat, x < 128 ∧ d = .str (tx [x]) ∧ M = []
def W_text : Wt := fun ds M k => ∃ (a : Addr) (p : Pool) (n : Nat), ds = [.ref a, .int n] ∧ M = [(a, .lst p.d)] ∧ p.Ok ∧ n ≤ 10000 ∧ ∀ (l : List Nat) (p' : Pool), p'.Ok → l.length = n → (∀ c ∈ l, c < 128) → k (.str (tx l)) [(a, .lst p'.d)]
def W_size : Wt := fun ds M k => ∃ (a : Addr) (p : Pool), ds = [.ref a] ∧ M = [(a, .lst p.d)] ∧ p.Ok ∧ ∀ (r : Nat) (p' : Pool), p'.Ok → r < 600 → k (.int r) [(a, .lst p'.d)]
def W_change : Wt := fun ds M k => ∃ (a : Addr) (p : Pool) (l : List Nat), ds = [.ref a, .str (tx l)] ∧ M = [(a, .lst p.d)] ∧ p.Ok ∧ l.length ≤ 10000 ∧
  ∀ (ps : List Piece) (p' : Pool), p'.Ok → Chg l.length 0 ps → ps.length ≤ 6 → (∀ q ∈ ps, q.put.length ≤ 3) → (∀ q ∈ ps, ∀ c ∈ q.put, c < 128) → k (.lst (ps.map Piece.d)) [(a, .lst p'.d)]

section
variable {P : Program} {w : World} {K : PySem.W.Frag} {mg : Str → Option Value} {base : Heap}
theorem atI_in {α : Type} {xs : List α} {i : Int} (h0 : 0 ≤ i) (h : i < (xs.length : Int)) : ∃ x, x ∈ xs ∧ atI xs i = some x := by
  obtain ⟨j, rfl⟩ : ∃ j : Nat, i = (j : Int) := ⟨i.toNat, by omega⟩
  have hj : j < xs.length := by omega
  exact ⟨xs[j], List.getElem_mem hj, atI_nat (List.getElem?_eq_getElem hj)⟩
theorem c__law_char (T : Top K mg) : Cal P w K mg base 1 "_law_char" (Spc K W_char) [] := cal_of T.d__law_char fun f fd F =>
  spc_ok F sc__law_char (fun ds M k h => by obtain ⟨c, rfl, _⟩ := h; rfl) fun cdv A outer s H E hr => ⟨_, (pss_cons (ps_set (i := 1) sc__law_char.nd rfl (Or.inl rfl) pe_str)
      (pss_one (ps_ret (pe_ix (ix_K (K := K)) (pv 1) (pe_op op_mod (pv 0) pe_int) (fun _ _ => rfl))))), fun ds M kk hw => by
    obtain ⟨c, rfl, rfl, q⟩ := hw
    refine as_start (δ' := [some (.int c), none]) rfl ?_
    walk_at "tg"
    have h0 : 0 ≤ c % 95 := Int.emod_nonneg _ (by decide)
    have h1 : c % 95 < 95 := Int.emod_lt_of_pos _ (by decide)
    obtain ⟨x, hxm, hx⟩ := atI_in (xs := (Str.ofString "\n !\"#$&'()*+,-./0123456789:;<=>?@ABCDEFGHIJKLMNOPQRSTUVWXYZ[\\]^_`abcdefghijklmnopqrstuvwxyz{|}~").cps.toList) h0 (by rw [show (Str.ofString "\n !\"#$&'()*+,-./0123456789:;<=>?@ABCDEFGHIJKLMNOPQRSTUVWXYZ[\\]^_`abcdefghijklmnopqrstuvwxyz{|}~").cps.toList.length = 95 by decide +kernel]; exact h1)
    have hx128 : x < 128 := (by decide +kernel : ∀ c ∈ (Str.ofString "\n !\"#$&'()*+,-./0123456789:;<=>?@ABCDEFGHIJKLMNOPQRSTUVWXYZ[\\]^_`abcdefghijklmnopqrstuvwxyz{|}~").cps.toList, c < 128) x hxm
    refine aix_S (by decide +kernel) hx ?_
    walk_at "tg"
    exact q x hx128⟩
theorem c__law_size (T : Top K mg) : Cal P w K mg base 3 "_law_size" (Spc K W_size) [] := cal_of T.d__law_size fun f fd F => by
  have c__law_take := c__law_take (P := P) (w := w) (base := base) T 2
  exact spc_ok F sc__law_size (fun ds M k h => by obtain ⟨a, p, rfl, _⟩ := h; rfl) fun cdv A outer s H E hr => ⟨_, (pss_cons (ps_if (pt_cmpR op_eq (pe_c c__law_take hr (by first | decide | omega) (by rfl) (pa_cons (pv 0) (pa_cons pe_int pa_nil))) pe_int (nomark _))
      (pss_one (ps_ret (pe_c c__law_take hr (by first | decide | omega) (by rfl) (pa_cons (pv 0) (pa_cons pe_int pa_nil)))))
      pss_nil)
      (pss_one (ps_ret (pe_c c__law_take hr (by first | decide | omega) (by rfl) (pa_cons (pv 0) (pa_cons pe_int pa_nil)))))), fun ds M kk hw => by
    obtain ⟨a, p, rfl, rfl, ok, q⟩ := hw
    refine as_start (δ' := [some (.ref a)]) rfl ?_
    refine as_seq ?_
    walk_at "tg"
    walk_at "take"
    rintro _ _ ⟨r, p1, ok1, r0, r1, rfl, rfl⟩
    walk_at "tg"
    refine dcase (fun c => ?_) (fun c => ?_)
    · walk_at "tg"
      walk_at "take"
      rintro _ _ ⟨r, p1, ok1, r0, r1, rfl, rfl⟩
      obtain ⟨j, rfl⟩ : ∃ j : Nat, r = (j : Int) := ⟨r.toNat, by omega⟩
      exact q j p1 ok1 (by omega)
    · walk_at "tg"
      walk_at "take"
      rintro _ _ ⟨r, p1, ok1, r0, r1, rfl, rfl⟩
      obtain ⟨j, rfl⟩ : ∃ j : Nat, r = (j : Int) := ⟨r.toNat, by omega⟩
      exact q j p1 ok1 (by omega)⟩
def ones (l : List Nat) : List (List Nat) := l.map fun c => [c]
theorem ones_flat (l : List Nat) : (ones l).flatten = l := by
  induction l with
  | nil => rfl
  | cons c r ih =>
    show ([c] :: ones r).flatten = c :: r
    rw [List.flatten_cons, ih]
    rfl
theorem ones_sum (l : List Nat) : ((ones l).map (·.length)).sum = l.length := by
  induction l with
  | nil => rfl
  | cons c r ih =>
    show ([c].length :: (ones r).map (·.length)).sum = r.length + 1
    rw [List.sum_cons, ih]
    show 1 + r.length = r.length + 1
    omega
def strsD (ls : List (List Nat)) : List D := ls.map fun z => .str (tx z)
theorem strsD_snoc (l : List Nat) (c : Nat) : strsD (ones l) ++ [.str (tx [c])] = strsD (ones (l ++ [c])) := by simp [strsD, ones]
theorem strsD_len (l : List Nat) : (strsD (ones l)).length = l.length := by simp [strsD, ones]
theorem c__law_text (T : Top K mg) : Cal P w K mg base 3 "_law_text" (Spc K W_text) [] := cal_of T.d__law_text fun f fd F => by
  have c__law_take := c__law_take (P := P) (w := w) (base := base) T 2
  have c__law_char := c__law_char (P := P) (w := w) (base := base) T
  exact spc_ok F sc__law_text (fun ds M k h => by obtain ⟨a, p, n, rfl, _⟩ := h; rfl) fun cdv A outer s H E hr => ⟨_, (pss_cons (ps_set (i := 2) sc__law_text.nd rfl (Or.inl rfl) (pe_c c__law_take hr (by first | decide | omega) (by rfl) (pa_cons (pv 0) (pa_cons pe_int pa_nil))))
      (pss_cons (ps_set (i := 3) sc__law_text.nd rfl (Or.inl rfl) (pe_c c__law_take hr (by first | decide | omega) (by rfl) (pa_cons (pv 0) (pa_cons pe_int pa_nil))))
      (pss_cons (ps_set (i := 4) sc__law_text.nd rfl (Or.inl rfl) (pe_lstM (pe_lst pa_nil)))
      (pss_cons (ps_for PassesOwn.never rfl (pi_range1 (by rfl) T.m_range (pa_cons (pv 1) pa_nil)) (pg_name (i := 5) sc__law_text.nd rfl (Or.inl rfl))
      (pss_one (ps_if (pt_cmpR op_eq (pv 2) pe_int (nomark _))
      (pss_one (ps_expr (app_K (K := K) (pe_bm PySem.F.plainAttrs_list PySem.F.slot_list_append PySem.F.type_list_append mt_append (pv 4) (pa_cons (pe_c c__law_char hr (by first | decide | omega) (by rfl) (pa_cons (pe_c c__law_take hr (by first | decide | omega) (by rfl) (pa_cons (pv 0) (pa_cons pe_int pa_nil))) pa_nil)) pa_nil)))))
      (pss_one (ps_if (pt_cmpR op_eq (pv 2) pe_int (nomark _))
      (pss_one (ps_expr (app_K (K := K) (pe_bm PySem.F.plainAttrs_list PySem.F.slot_list_append PySem.F.type_list_append mt_append (pv 4) (pa_cons (pe_ix (ix_K (K := K)) pe_str (pe_c c__law_take hr (by first | decide | omega) (by rfl) (pa_cons (pv 0) (pa_cons pe_int pa_nil))) (fun _ _ => rfl)) pa_nil)))))
      (pss_one (ps_expr (app_K (K := K) (pe_bm PySem.F.plainAttrs_list PySem.F.slot_list_append PySem.F.type_list_append mt_append (pv 4) (pa_cons (pe_c c__law_char hr (by first | decide | omega) (by rfl) (pa_cons (pv 3) pa_nil)) pa_nil))))))))))
      (pss_one (ps_ret (join_K (K := K) (pe_join pe_str (pv 4))))))))), fun ds M kk hw => by
    obtain ⟨a, p, n, rfl, rfl, ok, hn, q⟩ := hw
    refine as_start (δ' := [some (.ref a), some (.int n), none, none, none, none]) rfl ?_
    walk_at "tg"
    walk_at "take"
    rintro _ _ ⟨kind, p1, ok1, k0, k1, rfl, rfl⟩
    walk_at "tg"
    walk_at "take"
    rintro _ _ ⟨bas, p2, ok2, b0, b1, rfl, rfl⟩
    walk_at "tg"
    intro ar
    walk_at "tg"
    refine ⟨by omega, by omega, fun i δ' M' => ∃ (x : Option D) (p' : Pool) (l : List Nat), p'.Ok ∧ l.length = i ∧ (∀ c ∈ l, c < 128) ∧ δ' = [some (.ref a), some (.int n), some (.int kind), some (.int bas), some (.ref ar), x] ∧ M' = [(a, .lst p'.d), (ar, .lst (strsD (ones l)))],
      ⟨none, p2, [], ok2, rfl, (fun _ h => nomatch h), rfl, rfl⟩, ?_, ?_⟩
    · rintro i d δ' M' hd ⟨x, p3, l, ok3, hl, hlc, rfl, rfl⟩
      obtain ⟨hi, rfl⟩ := rng_get hd
      have hz : (strsD (ones l)).length < sizeLine := by
        rw [strsD_len]
        have := sizeLine_eq
        omega
      have done : ∀ (p4 : Pool) (c : Nat), p4.Ok → c < 128 → ∃ (x : Option D) (p' : Pool) (l' : List Nat), p'.Ok ∧ l'.length = i + 1 ∧ (∀ c ∈ l', c < 128) ∧ [some (D.ref a), some (.int n), some (.int kind), some (.int bas), some (.ref ar), some (.int (0 + (i : Nat)))] = [some (.ref a), some (.int n), some (.int kind), some (.int bas), some (.ref ar), x] ∧ [(a, MO.lst p4.d), (ar, .lst (strsD (ones l) ++ [.str (tx [c])]))] = [(a, .lst p'.d), (ar, .lst (strsD (ones l')))] :=
        fun p4 c ok4 hc => ⟨_, p4, l ++ [c], ok4, by rw [List.length_append, hl]; rfl, fun y hy => by
          rcases List.mem_append.mp hy with hy | hy
          · exact hlc y hy
          · rw [List.mem_singleton.mp hy]
            exact hc, rfl, by rw [strsD_snoc]⟩
      walk_at "tg"
      refine dcase (fun c => ?_) (fun c => ?_)
      · walk_at "tg"
        walk_at "take"
        rintro _ _ ⟨r, p4, ok4, r0, r1, rfl, rfl⟩
        walk_at "tg"
        refine ⟨[], _, charK, rfl, ⟨r, rfl, rfl, fun y hy => ⟨y, hy, rfl, rfl⟩⟩, ?_⟩
        rintro _ _ ⟨y, hy, rfl, rfl⟩
        walk_at "tg"
        refine app1 hz ?_
        exact done p4 y ok4 hy
      · walk_at "tg"
        refine dcase (fun c => ?_) (fun c => ?_)
        · walk_at "tg"
          walk_at "take"
          rintro _ _ ⟨r, p4, ok4, r0, r1, rfl, rfl⟩
          obtain ⟨y, hym, hya⟩ := atI_in (xs := (Str.ofString "ab\n").cps.toList) r0 (by rw [show (Str.ofString "ab\n").cps.toList.length = 3 by decide +kernel]; exact r1)
          have hy : y < 128 := (by decide +kernel : ∀ c ∈ (Str.ofString "ab\n").cps.toList, c < 128) y hym
          refine aix_S (by decide +kernel) hya ?_
          walk_at "tg"
          refine app1 hz ?_
          exact done p4 y ok4 hy
        · walk_at "tg"
          refine ⟨[], _, charK, rfl, ⟨bas, rfl, rfl, fun y hy => ⟨y, hy, rfl, rfl⟩⟩, ?_⟩
          rintro _ _ ⟨y, hy, rfl, rfl⟩
          walk_at "tg"
          refine app1 hz ?_
          exact done p3 y ok3 hy
    · rintro δ' M' ⟨x, p3, l, ok3, hl, hlc, rfl, rfl⟩
      rw [rng_len] at hl
      refine frz1 (s := 4) rfl ?_
      walk_at "tg"
      have e : tx [] = Str.ofString "" := rfl
      rw [← e]
      refine am_join (ls := ones l) (by rw [ones_sum]; omega) ?_
      rw [ones_flat]
      exact q l p3 ok3 (by omega) hlc⟩
end

section
variable {P : Program} {w : World} {K : PySem.W.Frag} {mg : Str → Option Value} {base : Heap}
def textK (a : Addr) (n : Nat) : D → Mu → Prop := fun d M => ∃ (l : List Nat) (p' : Pool), p'.Ok ∧ l.length = n ∧ (∀ c ∈ l, c < 128) ∧ d = .str (tx l) ∧ M = [(a, .lst p'.d)]
theorem pair_at {i : Int} {x y : D} {q : D → Prop} (h0 : 0 ≤ i) (h1 : i < 2) (hx : q x) (hy : q y) : ∃ z, atI [x, y] i = some z ∧ q z := by
  have h : i = 0 ∨ i = 1 := by omega
  rcases h with rfl | rfl
  · exact ⟨x, rfl, hx⟩
  · exact ⟨y, rfl, hy⟩
theorem len_codes (l : List Nat) : (tx l).length = l.length := tx_len l
theorem c__law_change (T : Top K mg) : Cal P w K mg base 4 "_law_change" (Spc K W_change) [] := cal_of T.d__law_change fun f fd F => by
  have c__law_take := c__law_take (P := P) (w := w) (base := base) T 2
  have c__law_text := c__law_text (P := P) (w := w) (base := base) T
  exact spc_ok F sc__law_change (fun ds M k h => by obtain ⟨a, p, l, rfl, _⟩ := h; rfl) fun cdv A outer s H E hr => ⟨_, (pss_cons (ps_set (i := 2) sc__law_change.nd rfl (Or.inl rfl) (pe_lstM (pe_lst pa_nil)))
      (pss_cons (ps_set (i := 3) sc__law_change.nd rfl (Or.inl rfl) pe_int)
      (pss_cons (ps_for PassesOwn.never rfl (pi_range1 (by rfl) T.m_range (pa_cons (pe_c c__law_take hr (by first | decide | omega) (by rfl) (pa_cons (pv 0) (pa_cons pe_int pa_nil))) pa_nil)) (pg_name (i := 4) sc__law_change.nd rfl (Or.inl rfl))
      (pss_cons (ps_set (i := 5) sc__law_change.nd rfl (Or.inl rfl) (pe_op (add_K (K := K)) (pv 3) (pe_ix (ix_K (K := K)) (pe_tup (pa_cons (pe_c c__law_take hr (by first | decide | omega) (by rfl) (pa_cons (pv 0) (pa_cons pe_int pa_nil))) (pa_cons (pe_c c__law_take hr (by first | decide | omega) (by rfl) (pa_cons (pv 0) (pa_cons pe_int pa_nil))) pa_nil))) (pe_op op_fdiv (pe_c c__law_take hr (by first | decide | omega) (by rfl) (pa_cons (pv 0) (pa_cons pe_int pa_nil))) pe_int) (fun _ _ => rfl))))
      (pss_one (ps_if (pt_cmpR op_le (pv 5) (pe_callB (len_K (K := K)) (by rfl) T.m_len (by decide +kernel) (pa_cons (pv 1) pa_nil)) (nomark _))
      (pss_cons (ps_set (i := 6) sc__law_change.nd rfl (Or.inl rfl) (pe_callB (call_minU rfl) (by rfl) T.m_min (by decide +kernel) (pa_cons (pe_callB (len_K (K := K)) (by rfl) T.m_len (by decide +kernel) (pa_cons (pv 1) pa_nil)) (pa_cons (pe_op (add_K (K := K)) (pv 5) (pe_ix (ix_K (K := K)) (pe_tup (pa_cons (pe_c c__law_take hr (by first | decide | omega) (by rfl) (pa_cons (pv 0) (pa_cons pe_int pa_nil))) (pa_cons (pe_c c__law_take hr (by first | decide | omega) (by rfl) (pa_cons (pv 0) (pa_cons pe_int pa_nil))) pa_nil))) (pe_op op_fdiv (pe_c c__law_take hr (by first | decide | omega) (by rfl) (pa_cons (pv 0) (pa_cons pe_int pa_nil))) pe_int) (fun _ _ => rfl))) pa_nil))))
      (pss_cons (ps_set (i := 7) sc__law_change.nd rfl (Or.inl rfl) (pe_c c__law_text hr (by first | decide | omega) (by rfl) (pa_cons (pv 0) (pa_cons (pe_c c__law_take hr (by first | decide | omega) (by rfl) (pa_cons (pv 0) (pa_cons pe_int pa_nil))) pa_nil))))
      (pss_cons (ps_if (pw_and (pt_cmpR op_eq (pv 5) (pv 6) (nomark _)) (pw_and1 (pt_cmpR op_eq (pv 7) pe_str (nomark _)))).pt
      (pss_one (ps_set (i := 7) sc__law_change.nd rfl (Or.inl rfl) pe_str))
      pss_nil)
      (pss_cons (ps_expr (app_K (K := K) (pe_bm PySem.F.plainAttrs_list PySem.F.slot_list_append PySem.F.type_list_append mt_append (pv 2) (pa_cons (pe_tup (pa_cons (pv 5) (pa_cons (pv 6) (pa_cons (pv 7) pa_nil)))) pa_nil))))
      (pss_one (ps_set (i := 3) sc__law_change.nd rfl (Or.inl rfl) (pe_op (add_K (K := K)) (pv 6) pe_int)))))))
      pss_nil))))
      (pss_one (ps_ret (pv 2)))))), fun ds M kk hw => by
    obtain ⟨a, p, l, rfl, rfl, ok, hl, q⟩ := hw
    have hsz := sizeLine_eq
    refine as_start (δ' := [some (.ref a), some (.str (tx l)), none, none, none, none, none, none]) rfl ?_
    walk_at "tg"
    intro ar
    walk_at "tg"
    walk_at "take"
    rintro _ _ ⟨r, p1, ok1, r0, r1, rfl, rfl⟩
    walk_at "tg"
    refine ⟨by omega, by omega, fun i δ' M' => ∃ (x1 x2 x3 x4 : Option D) (p' : Pool) (ps : List Piece) (at_ : Nat), p'.Ok ∧ Chg l.length 0 ps ∧ ps.length ≤ i ∧ ((∀ q ∈ ps, q.put.length ≤ 3) ∧ ∀ q ∈ ps, ∀ c ∈ q.put, c < 128) ∧ (∀ q ∈ ps, q.stop + 1 ≤ at_) ∧
      δ' = [some (.ref a), some (.str (tx l)), some (.ref ar), some (.int at_), x1, x2, x3, x4] ∧ M' = [(a, .lst p'.d), (ar, .lst (ps.map Piece.d))],
      ⟨none, none, none, none, p1, [], 0, ok1, True.intro, Nat.le_refl _, ⟨(fun _ h => nomatch h), (fun _ h => nomatch h)⟩, (fun _ h => nomatch h), rfl, rfl⟩, ?_, ?_⟩
    · rintro i d δ' M' hd ⟨x1, x2, x3, x4, p2, ps, at_, ok2, hch, hlen, hput, hat, rfl, rfl⟩
      obtain ⟨hi, rfl⟩ := rng_get hd
      walk_at "tg"
      walk_at "take"
      rintro _ _ ⟨a1, p3, ok3, a10, a11, rfl, rfl⟩
      walk_at "tg"
      walk_at "take"
      rintro _ _ ⟨a2, p4, ok4, a20, a21, rfl, rfl⟩
      walk_at "tg"
      walk_at "tg"
      walk_at "take"
      rintro _ _ ⟨a3, p5, ok5, a30, a31, rfl, rfl⟩
      walk_at "tg"
      obtain ⟨z, hz, st, hst, rfl⟩ := pair_at (i := a3 / 3) (x := .int a1) (y := .int a2) (q := fun z => ∃ b : Nat, (b : Int) < 100 ∧ z = .int b) (by omega) (by omega) ⟨a1.toNat, by omega, by rw [Int.toNat_of_nonneg a10]⟩ ⟨a2.toNat, by omega, by rw [Int.toNat_of_nonneg a20]⟩
      refine aix_T hz ?_
      walk_at "tg"
      refine dcase (fun c => ?_) (fun c => ?_)
      · walk_at "tg"
        walk_at "take"
        rintro _ _ ⟨b1, p6, ok6, b10, b11, rfl, rfl⟩
        walk_at "tg"
        walk_at "take"
        rintro _ _ ⟨b2, p7, ok7, b20, b21, rfl, rfl⟩
        walk_at "tg"
        walk_at "tg"
        walk_at "take"
        rintro _ _ ⟨b3, p8, ok8, b30, b31, rfl, rfl⟩
        walk_at "tg"
        obtain ⟨z, hz, sp, hsp, rfl⟩ := pair_at (i := b3 / 4) (x := .int b1) (y := .int b2) (q := fun z => ∃ b : Nat, (b : Int) < 100 ∧ z = .int b) (by omega) (by omega) ⟨b1.toNat, by omega, by rw [Int.toNat_of_nonneg b10]⟩ ⟨b2.toNat, by omega, by rw [Int.toNat_of_nonneg b20]⟩
        refine aix_T hz ?_
        walk_at "tg"
        walk_at "take"
        rintro _ _ ⟨t1, p9, ok9, t10, t11, rfl, rfl⟩
        walk_at "tg"
        -- the stop, the text that is put
        obtain ⟨sn, hsn⟩ : ∃ sn : Nat, (at_ : Int) + st = (sn : Int) := ⟨at_ + st, by omega⟩
        rw [hsn] at c ⊢
        obtain ⟨en, hen, he1, he2⟩ : ∃ en : Nat, (if (sn : Int) + sp < (l.length : Int) then (sn : Int) + sp else (l.length : Int)) = (en : Int) ∧ sn ≤ en ∧ en ≤ l.length := by
          by_cases h : (sn : Int) + sp < (l.length : Int)
          · exact ⟨sn + sp, by rw [if_pos h]; omega, by omega, by omega⟩
          · exact ⟨l.length, by rw [if_neg h], by omega, by omega⟩
        rw [hen]
        obtain ⟨tn, rfl⟩ : ∃ tn : Nat, t1 = (tn : Int) := ⟨t1.toNat, by omega⟩
        refine ⟨[_], _, textK a tn, rfl, ⟨a, p9, tn, rfl, rfl, ok9, by omega, fun l' p' ok' hl' hc' => ⟨l', p', ok', hl', hc', rfl, rfl⟩⟩, ?_⟩
        rintro _ _ ⟨pt, p10, ok10, hpt, hptc, rfl, rfl⟩
        walk_at "tg"
        refine as_cut (fun δ' M' => ∃ pt2 : List Nat, (pt2.length ≤ 3 ∧ ∀ c ∈ pt2, c < 128) ∧ (sn = en → pt2 ≠ []) ∧ δ' = [some (.ref a), some (.str (tx l)), some (.ref ar), some (.int at_), some (.int (0 + (i : Nat))), some (.int sn), some (.int en), some (.str (tx pt2))] ∧ M' = [(a, .lst p10.d), (ar, .lst (ps.map Piece.d))]) ?_ ?_
        · walk_at "tg"
          refine dcase (fun c1 => ?_) (fun c1 => ?_)
          · walk_at "tg"
            refine dcase (fun c2 => ?_) (fun c2 => ?_)
            · walk_at "tg"
              exact ⟨[120], ⟨by decide, by decide⟩, fun _ z => (by cases z), rfl, rfl⟩
            · walk_at "tg"
              exact ⟨pt, ⟨by omega, hptc⟩, fun _ z => c2 (by rw [z]; rfl), rfl, rfl⟩
          · walk_at "tg"
            exact ⟨pt, ⟨by omega, hptc⟩, fun z => absurd (by rw [z]) c1, rfl, rfl⟩
        · rintro δ' M' ⟨pt2, h2, h3, rfl, rfl⟩
          walk_at "tg"
          walk_at "tg"
          refine app1 (by rw [List.length_map]; omega) ?_
          walk_at "tg"
          have key : ∀ q ∈ ps, q.stop + 1 ≤ sn := fun q hq => by
            have := hat q hq
            omega
          refine ⟨_, _, _, _, p10, ps ++ [⟨sn, en, pt2⟩], en + 1, ok10, hch.snoc key (Nat.zero_le _) he1 he2 h3, by rw [List.length_append]; show ps.length + 1 ≤ i + 1; omega, ⟨fun q hq => ?_, fun q hq => ?_⟩, fun q hq => ?_, rfl, ?_⟩
          · rcases List.mem_append.mp hq with hq | hq
            · exact hput.1 q hq
            · have e : q = ⟨sn, en, pt2⟩ := by simpa using hq
              subst e
              exact h2.1
          · rcases List.mem_append.mp hq with hq | hq
            · exact hput.2 q hq
            · have e : q = ⟨sn, en, pt2⟩ := by simpa using hq
              subst e
              exact h2.2
          · rcases List.mem_append.mp hq with hq | hq
            · have := key q hq
              omega
            · have e : q = ⟨sn, en, pt2⟩ := by simpa using hq
              subst e
              exact Nat.le_refl _
          · rw [List.map_append]
            rfl
      · walk_at "tg"
        exact ⟨_, _, _, _, p5, ps, at_, ok5, hch, by omega, hput, hat, rfl, rfl⟩
    · rintro δ' M' ⟨x1, x2, x3, x4, p2, ps, at_, ok2, hch, hlen, hput, hat, rfl, rfl⟩
      rw [rng_len] at hlen
      refine frz1 (s := 2) rfl ?_
      walk_at "tg"
      exact q ps p2 ok2 hch (by omega) hput.1 hput.2⟩
end

/-! ### the signs of a text after a change, each with its old place -/
/-- the signs from a on ahead of b, with their places -/
def seg (l : List Nat) (a b : Nat) : List (Nat × Option Nat) := (List.range (b - a)).map fun i => (l.getD (a + i) 0, some (a + i))
def newS (put : List Nat) : List (Nat × Option Nat) := put.map fun c => (c, none)
def marked (l : List Nat) : Nat → List Piece → List (Nat × Option Nat)
  | at_, [] => seg l at_ l.length
  | at_, p :: r => seg l at_ p.start ++ newS p.put ++ marked l p.stop r
/-- what stands ahead of where a row of pieces has come -/
def ahead (l : List Nat) : Nat → List Piece → List (Nat × Option Nat)
  | _, [] => []
  | at_, p :: r => seg l at_ p.start ++ newS p.put ++ ahead l p.stop r
def endOf : Nat → List Piece → Nat
  | at_, [] => at_
  | _, p :: r => endOf p.stop r
theorem marked_ahead (l : List Nat) : ∀ (at_ : Nat) (ps : List Piece), marked l at_ ps = ahead l at_ ps ++ seg l (endOf at_ ps) l.length
  | _, [] => rfl
  | at_, p :: r => by
    show seg l at_ p.start ++ newS p.put ++ marked l p.stop r = seg l at_ p.start ++ newS p.put ++ ahead l p.stop r ++ seg l (endOf p.stop r) l.length
    rw [marked_ahead l p.stop r]
    simp
theorem ahead_snoc (l : List Nat) (q : Piece) : ∀ (at_ : Nat) (ps : List Piece), ahead l at_ (ps ++ [q]) = ahead l at_ ps ++ (seg l (endOf at_ ps) q.start ++ newS q.put) ∧ endOf at_ (ps ++ [q]) = q.stop
  | at_, [] => by
    refine ⟨?_, rfl⟩
    show seg l at_ q.start ++ newS q.put ++ [] = [] ++ (seg l at_ q.start ++ newS q.put)
    simp
  | at_, p :: r => by
    obtain ⟨h1, h2⟩ := ahead_snoc l q p.stop r
    refine ⟨?_, h2⟩
    show seg l at_ p.start ++ newS p.put ++ ahead l p.stop (r ++ [q]) = seg l at_ p.start ++ newS p.put ++ ahead l p.stop r ++ (seg l (endOf p.stop r) q.start ++ newS q.put)
    rw [h1]
    simp
def placeD : Option Nat → D
  | none => .non
  | some k => .int k
def rowD (r : Nat × Option Nat) : D := .tup [.str (tx [r.1]), placeD r.2]
theorem seg_len (l : List Nat) (a b : Nat) : (seg l a b).length = b - a := by simp [seg]
/-- the pieces are such that all of it stays small: the whole of what is put -/
def puts (ps : List Piece) : Nat := (ps.map fun p => p.put.length).sum
theorem ahead_len {l : List Nat} : ∀ {ps : List Piece} {at_ lo : Nat}, Chg l.length lo ps → at_ ≤ lo → at_ ≤ l.length → (ahead l at_ ps).length + at_ ≤ endOf at_ ps + puts ps ∧ endOf at_ ps ≤ l.length
  | [], at_, lo, _, _, h => ⟨by simp [ahead, endOf, puts], h⟩
  | p :: r, at_, lo, h, h1, h2 => by
    obtain ⟨g1, g2, g3, _, g5⟩ := h
    obtain ⟨i1, i2⟩ := ahead_len (at_ := p.stop) g5 (Nat.le_succ _) g3
    have e1 : (ahead l at_ (p :: r)).length = (p.start - at_) + p.put.length + (ahead l p.stop r).length := by
      show (seg l at_ p.start ++ newS p.put ++ ahead l p.stop r).length = _
      simp [seg_len, newS]
      omega
    have e2 : endOf at_ (p :: r) = endOf p.stop r := rfl
    have e3 : puts (p :: r) = p.put.length + puts r := by simp [puts]
    rw [e1, e2, e3]
    exact ⟨by omega, i2⟩
theorem marked_len {l : List Nat} {ps : List Piece} (h : Chg l.length 0 ps) : (marked l 0 ps).length ≤ l.length + puts ps := by
  obtain ⟨h1, h2⟩ := ahead_len h (Nat.le_refl 0) (Nat.zero_le _)
  rw [marked_ahead, List.length_append, seg_len]
  omega
theorem chg_at {n : Nat} : ∀ {ps : List Piece} {at_ lo i : Nat} {q : Piece}, Chg n lo ps → at_ ≤ lo → ps[i]? = some q → endOf at_ (ps.take i) ≤ q.start ∧ q.start ≤ q.stop ∧ q.stop ≤ n
  | [], _, _, _, _, _, _, h => by simp at h
  | p :: r, at_, lo, 0, q, h, h1, e => by
    have e1 : p = q := by simpa using e
    subst e1
    exact ⟨Nat.le_trans h1 h.1, h.2.1, h.2.2.1⟩
  | p :: r, at_, lo, i + 1, q, h, h1, e => by
    have e1 : r[i]? = some q := by simpa using e
    exact chg_at (at_ := p.stop) h.2.2.2.2 (Nat.le_succ _) e1
theorem chg_take {n : Nat} : ∀ {ps : List Piece} {lo : Nat} (i : Nat), Chg n lo ps → Chg n lo (ps.take i)
  | _, _, 0, _ => True.intro
  | [], _, _ + 1, _ => True.intro
  | p :: r, lo, i + 1, h => ⟨h.1, h.2.1, h.2.2.1, h.2.2.2.1, chg_take i h.2.2.2.2⟩
theorem puts_take : ∀ (ps : List Piece) (i : Nat), puts (ps.take i) ≤ puts ps
  | _, 0 => by simp [puts]
  | [], _ + 1 => by simp [puts]
  | p :: r, i + 1 => by
    have h := puts_take r i
    have e1 : puts (p :: r.take i) = p.put.length + puts (r.take i) := by simp [puts]
    have e2 : puts (p :: r) = p.put.length + puts r := by simp [puts]
    show puts (p :: r.take i) ≤ puts (p :: r)
    omega
theorem puts_at {ps : List Piece} {i : Nat} {q : Piece} (e : ps[i]? = some q) : q.put.length ≤ puts ps := by
  induction ps generalizing i with
  | nil => simp at e
  | cons p r ih =>
    have e2 : puts (p :: r) = p.put.length + puts r := by simp [puts]
    cases i with
    | zero =>
      have e1 : p = q := by simpa using e
      subst e1
      omega
    | succ i =>
      have := ih (i := i) (by simpa using e)
      omega
/-- a text, or the list of its signs -/
def TextD (td : D) (l : List Nat) : Prop := td = .str (tx l) ∨ td = .lst (l.map fun c => .str (tx [c]))
theorem text_ix {K : PySem.W.Frag} {M : Mu} {k : D → Mu → Prop} {td : D} {l : List Nat} {j : Int} {c : Nat} (ht : TextD td l) (hz : l.length ≤ sizeLine) (h : atI l j = some c) (q : k (.str (tx [c])) M) : AR K (rIx K) td (.int j) M k := by
  rcases ht with rfl | rfl
  · exact au_ixS hz h q
  · refine aix_L (d := .str (tx [c])) ?_ q
    unfold atI at h ⊢
    rw [List.length_map]
    cases e : ixN l.length j with
    | none => rw [e] at h; cases h
    | some m =>
      rw [e] at h
      show (l.map _)[m]? = _
      rw [List.getElem?_map, show l[m]? = some c from h]
      rfl
theorem text_len {K : PySem.W.Frag} {M : Mu} {k : D → Mu → Prop} {td : D} {l : List Nat} (ht : TextD td l) (hz : l.length ≤ sizeLine) (q : k (.int (l.length : Int)) M) : AC K (rLenU K) [td] M k := by
  rcases ht with rfl | rfl
  · exact ac_lenS hz q
  · refine ac_lenD (n := l.length) ?_ q
    show some (l.map _).length = _
    rw [List.length_map]
def W_marked : Wt := fun ds M k => ∃ (td : D) (l : List Nat) (ps : List Piece), ds = [td, .lst (ps.map Piece.d)] ∧ TextD td l ∧ M = [] ∧ l.length ≤ 100000 ∧ puts ps ≤ 100000 ∧ Chg l.length 0 ps ∧ k (.lst ((marked l 0 ps).map rowD)) []
section
variable {P : Program} {w : World} {K : PySem.W.Frag} {mg : Str → Option Value} {base : Heap}
theorem seg_take (l : List Nat) (a b i : Nat) (h : i < b - a) : (seg l a b).take (i + 1) = (seg l a b).take i ++ [(l.getD (a + i) 0, some (a + i))] := by
  rw [List.take_add_one]
  unfold seg
  rw [List.getElem?_map, List.getElem?_range h]
  rfl
/-- [(text[k], k) for k in range(a, b)] -/
theorem ae_seg {δ : DS} {M : Mu} {td : D} {l : List Nat} {a b : Nat} {kk : D → Mu → Prop} {i j : Nat} {ta : TA} (hz : l.length ≤ 100000) (hb : b ≤ l.length) (hb2 : a ≤ l.length)
    (ha : ∀ k2 : List D → Mu → Prop, k2 [.int a, .int b] M → AA K ta δ M k2) (hi : δ[i]? = some (some td)) (htd : TextD td l) (hij : i ≠ j) (hj : j < δ.length) (q : kk (.lst ((seg l a b).map rowD)) M) :
    AE K (tLc (iRng2 ta) (gName j) tYes (tTup (tCons (tOp (rIx K) (tVar i) (tVar j)) (tCons (tVar j) tNil))) [j]) δ M kk := by
  have hsz := sizeLine_eq
  refine ae_lc (ownG_name (by simp)) (ai_range2 (ha _ ?_))
  refine ⟨a, b, rfl, ⟨by omega, by omega, by omega, by omega⟩, by rw [rng_len]; omega, fun n acc M' => M' = M ∧ acc = ((seg l a b).take n).map rowD, ⟨rfl, by simp⟩, ?_, ?_⟩
  · rintro n d acc M' hd ⟨rfl, rfl⟩
    obtain ⟨hn, rfl⟩ := rng_get hd
    have hn' : n < b - a := by omega
    have en : ((a : Int) + (n : Nat)) = ((a + n : Nat) : Int) := by omega
    rw [en]
    refine ag_name (at_yes (bcaseT (ae_tup (aa_cons (ae_op (ae_var ?_ (ae_var (d := .int ((a + n : Nat) : Int)) ?_ (text_ix (l := l) (c := l.getD (a + n) 0) htd (by omega) ?_ (aa_cons (ae_var (d := .int ((a + n : Nat) : Int)) ?_ (aa_nil ⟨by show 2 ≤ sizeLine; decide, rfl, ?_⟩)))))))))))
    · show ((δ.set j none).set j _)[i]? = _
      rw [List.getElem?_set_ne (Ne.symm hij), List.getElem?_set_ne (Ne.symm hij), hi]
    · show ((δ.set j none).set j _)[j]? = _
      rw [List.getElem?_set_self (by rw [List.length_set]; exact hj)]
    · refine atI_nat ?_
      have hl : a + n < l.length := by omega
      rw [List.getElem?_eq_getElem hl, List.getD_eq_getElem?_getD, List.getElem?_eq_getElem hl]
      rfl
    · show ((δ.set j none).set j _)[j]? = _
      rw [List.getElem?_set_self (by rw [List.length_set]; exact hj)]
    · rw [seg_take l a b n hn', List.map_append]
      rfl
  · rintro acc M' ⟨rfl, rfl⟩
    rw [rng_len]
    have e : (seg l a b).take ((b : Int) - (a : Int)).toNat = seg l a b := List.take_of_length_le (by rw [seg_len]; omega)
    rw [e]
    exact q
/-- [(sign, None) for sign in put] -/
theorem ae_new {δ : DS} {M : Mu} {put : List Nat} {kk : D → Mu → Prop} {i j : Nat} (hz : put.length ≤ 100000) (hi : δ[i]? = some (some (.str (tx put)))) (hj : j < δ.length) (q : kk (.lst ((newS put).map rowD)) M) :
    AE K (tLc (iSeq K (tVar i)) (gName j) tYes (tTup (tCons (tVar j) (tCons (tC .non) tNil))) [j]) δ M kk := by
  have hsz := sizeLine_eq
  refine ae_lc (ownG_name (by simp)) (ai_seq (ae_var hi ⟨_, rfl, ?_⟩))
  rw [tx_signs]
  refine ⟨by rw [List.length_map]; omega, fun n acc M' => M' = M ∧ acc = ((newS put).take n).map rowD, ⟨rfl, by simp⟩, ?_, ?_⟩
  · rintro n d acc M' hd ⟨rfl, rfl⟩
    rw [List.getElem?_map] at hd
    cases hc : put[n]? with
    | none => rw [hc] at hd; cases hd
    | some c =>
      rw [hc] at hd
      have e : D.str (tx [c]) = d := by simpa using hd
      subst e
      refine ag_name (at_yes (bcaseT (ae_tup (aa_cons (ae_var (d := .str (tx [c])) ?_ (aa_cons (ae_non (aa_nil ⟨by show 2 ≤ sizeLine; decide, rfl, ?_⟩))))))))
      · show ((δ.set j none).set j _)[j]? = _
        rw [List.getElem?_set_self (by rw [List.length_set]; exact hj)]
      · have e2 : (newS put).take (n + 1) = (newS put).take n ++ [(c, none)] := by
          rw [List.take_add_one]
          unfold newS
          rw [List.getElem?_map, hc]
          rfl
        rw [e2, List.map_append]
        rfl
  · rintro acc M' ⟨rfl, rfl⟩
    rw [List.length_map]
    have e : (newS put).take put.length = newS put := List.take_of_length_le (by simp [newS])
    rw [e]
    exact q
theorem c__law_marked (T : Top K mg) : Cal P w K mg base 1 "_law_marked" (Spc K W_marked) [] := cal_of T.d__law_marked fun f fd F => by
  exact spc_ok F sc__law_marked (fun ds M k h => by obtain ⟨td, l, ps, rfl, _⟩ := h; rfl) fun cdv A outer s H E hr => ⟨_, (pss_cons (ps_set (i := 2) sc__law_marked.nd rfl (Or.inl rfl) (pe_lst pa_nil))
      (pss_cons (ps_set (i := 3) sc__law_marked.nd rfl (Or.inl rfl) pe_int)
      (pss_cons (ps_for PassesOwn.never rfl (seq_K (K := K) (pv 1)) (gtup_K (K := K) (n := 3) rfl (pgs_cons (pg_name (i := 4) sc__law_marked.nd rfl (Or.inl rfl)) (pgs_cons (pg_name (i := 5) sc__law_marked.nd rfl (Or.inl rfl)) (pgs_cons (pg_name (i := 6) sc__law_marked.nd rfl (Or.inl rfl)) pgs_nil))))
      (pss_cons (ps_set (i := 2) sc__law_marked.nd rfl (Or.inl rfl) (pe_op (add_K (K := K)) (pe_op (add_K (K := K)) (pv 2) (pe_lc (own := [("k", 7)]) (g := gName 7) rfl sc__law_marked.nd (pi_range2 (by rfl) T.m_range (pa_cons (pv 3) (pa_cons (pv 4) pa_nil))) (blkOk_by (own := [("k", 7)]) (N := ["text", "change", "rows", "at", "start", "stop", "put", "k", "sign"]) (sc := defScope s__law_marked) (by decide +kernel)) (fun _ _ _ _ _ => (pg_name (i := 7) sc__law_marked.nd rfl (Or.inl rfl))) (fun _ _ _ _ _ => pts_nil) (fun _ _ _ _ _ => (pe_tup (pa_cons (pe_ix (ix_K (K := K)) (pv 0) (pv 7) (fun _ _ => rfl)) (pa_cons (pv 7) pa_nil)))))) (pe_lc (own := [("sign", 8)]) (g := gName 8) rfl sc__law_marked.nd (seq_K (K := K) (pv 6)) (blkOk_by (own := [("sign", 8)]) (N := ["text", "change", "rows", "at", "start", "stop", "put", "k", "sign"]) (sc := defScope s__law_marked) (by decide +kernel)) (fun _ _ _ _ _ => (pg_name (i := 8) sc__law_marked.nd rfl (Or.inl rfl))) (fun _ _ _ _ _ => pts_nil) (fun _ _ _ _ _ => (pe_tup (pa_cons (pv 8) (pa_cons pe_non pa_nil)))))))
      (pss_one (ps_set (i := 3) sc__law_marked.nd rfl (Or.inl rfl) (pv 5)))))
      (pss_one (ps_ret (pe_op (add_K (K := K)) (pv 2) (pe_lc (own := [("k", 7)]) (g := gName 7) rfl sc__law_marked.nd (pi_range2 (by rfl) T.m_range (pa_cons (pv 3) (pa_cons (pe_callB (len_K (K := K)) (by rfl) T.m_len (by decide +kernel) (pa_cons (pv 0) pa_nil)) pa_nil))) (blkOk_by (own := [("k", 7)]) (N := ["text", "change", "rows", "at", "start", "stop", "put", "k", "sign"]) (sc := defScope s__law_marked) (by decide +kernel)) (fun _ _ _ _ _ => (pg_name (i := 7) sc__law_marked.nd rfl (Or.inl rfl))) (fun _ _ _ _ _ => pts_nil) (fun _ _ _ _ _ => (pe_tup (pa_cons (pe_ix (ix_K (K := K)) (pv 0) (pv 7) (fun _ _ => rfl)) (pa_cons (pv 7) pa_nil))))))))))), fun ds M kk hw => by
    obtain ⟨td, l, ps, rfl, htd, rfl, hl, hp, hch, q⟩ := hw
    have hsz := sizeLine_eq
    refine as_start (δ' := [some td, some (.lst (ps.map Piece.d)), none, none, none, none, none, none, none]) rfl ?_
    walk_at "tg"
    refine ⟨fun i δ' M' => ∃ (x4 x5 x6 : Option D), M' = [] ∧ δ' = [some td, some (.lst (ps.map Piece.d)), some (.lst ((ahead l 0 (ps.take i)).map rowD)), some (.int (endOf 0 (ps.take i))), x4, x5, x6, none, none], ⟨none, none, none, rfl, by simp [ahead, endOf]⟩, ?_, ?_⟩
    · rintro i d δ' M' hd ⟨x4, x5, x6, rfl, rfl⟩
      rw [List.getElem?_map] at hd
      cases hq : ps[i]? with
      | none => rw [hq] at hd; cases hd
      | some q =>
        rw [hq] at hd
        have e : Piece.d q = d := by simpa using hd
        subst e
        obtain ⟨g1, g2, g3⟩ := chg_at (at_ := 0) hch (Nat.le_refl 0) hq
        have hput := puts_at hq
        have e3 : ps.take (i + 1) = ps.take i ++ [q] := by rw [List.take_add_one, hq]; rfl
        obtain ⟨h4, h5⟩ := ahead_snoc l q 0 (ps.take i)
        rw [← e3] at h4 h5
        obtain ⟨h6, h7⟩ := ahead_len (at_ := 0) (chg_take (i + 1) hch) (Nat.le_refl 0) (Nat.zero_le _)
        have h8 := puts_take ps (i + 1)
        rw [h4, List.length_append, List.length_append] at h6
        rw [h5] at h6 h7
        unfold Piece.d
        walk_at "tg"
        refine ae_seg (i := 0) (j := 7) (a := endOf 0 (ps.take i)) (b := q.start) (l := l) hl (by omega) (by omega) (fun k2 h => ?_) rfl htd (by decide) (by simp) ?_
        · walk_at "tg"
          exact h
        refine au_lst (by simp only [List.length_map]; omega) ?_
        refine ae_new (i := 6) (j := 8) (put := q.put) (by omega) rfl (by simp) ?_
        refine au_lst (by simp only [List.length_map, List.length_append]; omega) ?_
        walk_at "tg"
        refine ⟨some (.int q.start), some (.int q.stop), some (.str (tx q.put)), rfl, ?_⟩
        rw [h4, h5, ← List.map_append, ← List.map_append, List.append_assoc]
        rfl
    · rintro δ' M' ⟨x4, x5, x6, rfl, rfl⟩
      rw [List.length_map, List.take_length]
      obtain ⟨h6, h7⟩ := ahead_len (at_ := 0) hch (Nat.le_refl 0) (Nat.zero_le _)
      walk_at "tg"
      refine ae_seg (i := 0) (j := 7) (a := endOf 0 ps) (b := l.length) (l := l) hl (Nat.le_refl _) h7 (fun k2 h => ?_) rfl htd (by decide) (by simp) ?_
      · walk_at "tg"
        refine text_len htd (by omega) ?_
        walk_at "tg"
        exact h
      refine au_lst (by simp only [List.length_map, seg_len]; omega) ?_
      rw [marked_ahead, List.map_append] at q
      exact q⟩
end

/-! ### the same value -/
/-- data of a depth below n, of no more than 100,000 items -/
def Dep : Nat → D → Prop
  | 0, d => match d with
    | .non => True
    | .bl _ => True
    | .int _ => True
    | .str _ => True
    | _ => False
  | n + 1, d => match d with
    | .non => True
    | .bl _ => True
    | .int _ => True
    | .str _ => True
    | .tup ds => ds.length ≤ 100000 ∧ ∀ x ∈ ds, Dep n x
    | .lst ds => ds.length ≤ 100000 ∧ ∀ x ∈ ds, Dep n x
    | _ => False
def W_same (n : Nat) : Wt := fun ds M k => ∃ (m : Nat) (d : D), n = m + 1 ∧ ds = [d, d] ∧ M = [] ∧ Dep m d ∧ k (.bl true) []
def W_isint : Wt := fun ds M k => ∃ i : Int, ds = [.int i] ∧ M = [] ∧ k (.bl true) []
def trueK : D → Mu → Prop := fun d M => d = .bl true ∧ M = []
section
variable {P : Program} {w : World} {K : PySem.W.Frag} {mg : Str → Option Value} {base : Heap}
theorem c__law_is_integer (T : Top K mg) : Cal P w K mg base 1 "_law_is_integer" (Spc K W_isint) [] := cal_of T.d__law_is_integer fun f fd F => by
  exact spc_ok F sc__law_is_integer (fun ds M k h => by obtain ⟨i, rfl, _⟩ := h; rfl) fun cdv A outer s H E hr => ⟨_, (pss_one (ps_ret (pe_and (pe_callB (isi_K (K := K)) (by rfl) T.m_isinstance (by decide +kernel) (pa_cons (pv 0) (pa_cons (pe_bltn (v := .ty "int") (by rfl) T.m_int (by decide +kernel) rfl) pa_nil))) (pe_one (pe_not (pe_callB (isi_K (K := K)) (by rfl) T.m_isinstance (by decide +kernel) (pa_cons (pv 0) (pa_cons (pe_bltn (v := .ty "bool") (by rfl) T.m_bool (by decide +kernel) rfl) pa_nil)))))))), fun ds M kk hw => by
    obtain ⟨i, rfl, rfl, q⟩ := hw
    refine as_start (δ' := [some (.int i)]) rfl ?_
    walk_at "tg"
    exact q⟩
theorem all_true (n : Nat) : ((List.replicate n true).all id) = true := by
  rw [List.all_eq_true]
  intro x hx
  rw [List.eq_of_mem_replicate hx]
  rfl
theorem same_step (T : Top K mg) (n : Nat) (c__law_same : Cal P w K mg base (n + 1) "_law_same" (Spc K (W_same n)) []) : Cal P w K mg base (n + 2) "_law_same" (Spc K (W_same (n + 1))) [] := cal_of T.d__law_same fun f fd F => by
  have c__law_is_integer := c__law_is_integer (P := P) (w := w) (base := base) T
  exact spc_ok F sc__law_same (fun ds M k h => by obtain ⟨m, d, _, rfl, _⟩ := h; rfl) fun cdv A outer s H E hr => ⟨_, (pss_cons (ps_if (tru_K (K := K) (pe_callB (isi_K (K := K)) (by rfl) T.m_isinstance (by decide +kernel) (pa_cons (pv 1) (pa_cons (pe_bltn (v := .ty "tuple") (by rfl) T.m_tuple (by decide +kernel) rfl) pa_nil))))
      (pss_cons (ps_if (pw_or (pt_not (tru_K (K := K) (pe_callB (isi_K (K := K)) (by rfl) T.m_isinstance (by decide +kernel) (pa_cons (pv 0) (pa_cons (pe_bltn (v := .ty "tuple") (by rfl) T.m_tuple (by decide +kernel) rfl) pa_nil))))) (pw_or1 (pt_cmpR op_ne (pe_callB (len_K (K := K)) (by rfl) T.m_len (by decide +kernel) (pa_cons (pv 0) pa_nil)) (pe_callB (len_K (K := K)) (by rfl) T.m_len (by decide +kernel) (pa_cons (pv 1) pa_nil)) (nomark _)))).pt
      (pss_one (ps_ret pe_bl))
      pss_nil)
      (pss_one (ps_ret (pe_callB (all_K (K := K) rfl) (by rfl) T.m_all (by decide +kernel) (pa_cons (pe_lc (own := [("k", 2)]) (g := gName 2) rfl sc__law_same.nd (pi_range1 (by rfl) T.m_range (pa_cons (pe_callB (len_K (K := K)) (by rfl) T.m_len (by decide +kernel) (pa_cons (pv 1) pa_nil)) pa_nil)) (blkOk_by (own := [("k", 2)]) (N := ["actual", "due", "k"]) (sc := defScope s__law_same) (by decide +kernel)) (fun _ _ _ _ _ => (pg_name (i := 2) sc__law_same.nd rfl (Or.inl rfl))) (fun _ _ _ _ _ => pts_nil) (fun _ _ _ _ _ => (pe_c c__law_same hr (by first | decide | omega) (by rfl) (pa_cons (pe_ix (ix_K (K := K)) (pv 0) (pv 2) (fun _ _ => rfl)) (pa_cons (pe_ix (ix_K (K := K)) (pv 1) (pv 2) (fun _ _ => rfl)) pa_nil))))) pa_nil)))))
      pss_nil)
      (pss_cons (ps_if (tru_K (K := K) (pe_callB (isi_K (K := K)) (by rfl) T.m_isinstance (by decide +kernel) (pa_cons (pv 1) (pa_cons (pe_bltn (v := .ty "list") (by rfl) T.m_list (by decide +kernel) rfl) pa_nil))))
      (pss_cons (ps_if (pw_or (pt_not (tru_K (K := K) (pe_callB (isi_K (K := K)) (by rfl) T.m_isinstance (by decide +kernel) (pa_cons (pv 0) (pa_cons (pe_bltn (v := .ty "list") (by rfl) T.m_list (by decide +kernel) rfl) pa_nil))))) (pw_or1 (pt_cmpR op_ne (pe_callB (len_K (K := K)) (by rfl) T.m_len (by decide +kernel) (pa_cons (pv 0) pa_nil)) (pe_callB (len_K (K := K)) (by rfl) T.m_len (by decide +kernel) (pa_cons (pv 1) pa_nil)) (nomark _)))).pt
      (pss_one (ps_ret pe_bl))
      pss_nil)
      (pss_one (ps_ret (pe_callB (all_K (K := K) rfl) (by rfl) T.m_all (by decide +kernel) (pa_cons (pe_lc (own := [("k", 2)]) (g := gName 2) rfl sc__law_same.nd (pi_range1 (by rfl) T.m_range (pa_cons (pe_callB (len_K (K := K)) (by rfl) T.m_len (by decide +kernel) (pa_cons (pv 1) pa_nil)) pa_nil)) (blkOk_by (own := [("k", 2)]) (N := ["actual", "due", "k"]) (sc := defScope s__law_same) (by decide +kernel)) (fun _ _ _ _ _ => (pg_name (i := 2) sc__law_same.nd rfl (Or.inl rfl))) (fun _ _ _ _ _ => pts_nil) (fun _ _ _ _ _ => (pe_c c__law_same hr (by first | decide | omega) (by rfl) (pa_cons (pe_ix (ix_K (K := K)) (pv 0) (pv 2) (fun _ _ => rfl)) (pa_cons (pe_ix (ix_K (K := K)) (pv 1) (pv 2) (fun _ _ => rfl)) pa_nil))))) pa_nil)))))
      pss_nil)
      (pss_cons (ps_if (pt_cmpR op_isN1 (pv 1) pe_non (nomark _))
      (pss_one (ps_ret (pe_cmpR op_isN1 (pv 0) pe_non (nomark _))))
      pss_nil)
      (pss_cons (ps_if (tru_K (K := K) (pe_callB (isi_K (K := K)) (by rfl) T.m_isinstance (by decide +kernel) (pa_cons (pv 1) (pa_cons (pe_bltn (v := .ty "bool") (by rfl) T.m_bool (by decide +kernel) rfl) pa_nil))))
      (pss_one (ps_ret (pe_and (pe_callB (isi_K (K := K)) (by rfl) T.m_isinstance (by decide +kernel) (pa_cons (pv 0) (pa_cons (pe_bltn (v := .ty "bool") (by rfl) T.m_bool (by decide +kernel) rfl) pa_nil))) (pe_one (pe_cmpR op_eq (pv 0) (pv 1) (nomark _))))))
      pss_nil)
      (pss_cons (ps_if (tru_K (K := K) (pe_callB (isi_K (K := K)) (by rfl) T.m_isinstance (by decide +kernel) (pa_cons (pv 1) (pa_cons (pe_bltn (v := .ty "str") (by rfl) T.m_str (by decide +kernel) rfl) pa_nil))))
      (pss_one (ps_ret (pe_and (pe_callB (isi_K (K := K)) (by rfl) T.m_isinstance (by decide +kernel) (pa_cons (pv 0) (pa_cons (pe_bltn (v := .ty "str") (by rfl) T.m_str (by decide +kernel) rfl) pa_nil))) (pe_one (pe_cmpR op_eq (pv 0) (pv 1) (nomark _))))))
      pss_nil)
      (pss_one (ps_ret (pe_and (pe_c c__law_is_integer hr (by first | decide | omega) (by rfl) (pa_cons (pv 0) pa_nil)) (pe_one (pe_cmpR op_eq (pv 0) (pv 1) (nomark _))))))))))), fun ds M kk hw => by
    obtain ⟨m, d, hm, rfl, rfl, hd, q⟩ := hw
    have hm : m = n := by omega
    subst hm
    have hsz := sizeLine_eq
    refine as_start (δ' := [some d, some d, none]) rfl ?_
    have seqs : ∀ (ds : List D) (k : Nat), k < ds.length → ∃ x, x ∈ ds ∧ atI ds (0 + (k : Nat)) = some x := fun ds k hk => by
      rw [Int.zero_add]
      exact ⟨ds[k], List.getElem_mem hk, atI_nat (List.getElem?_eq_getElem hk)⟩
    cases d with
    | non =>
      refine as_seq ?_
      walk_at "tg"
      refine as_seq ?_
      walk_at "tg"
      refine as_seq ?_
      walk_at "tg"
      exact q
    | bl b =>
      refine as_seq ?_
      walk_at "tg"
      refine as_seq ?_
      walk_at "tg"
      refine as_seq ?_
      walk_at "tg"
      refine as_seq ?_
      walk_at "tg"
      rw [decide_eq_true rfl]
      exact q
    | int i =>
      refine as_seq ?_
      walk_at "tg"
      refine as_seq ?_
      walk_at "tg"
      refine as_seq ?_
      walk_at "tg"
      refine as_seq ?_
      walk_at "tg"
      refine as_seq ?_
      walk_at "tg"
      refine ⟨[], _, trueK, rfl, ⟨i, rfl, rfl, rfl, rfl⟩, ?_⟩
      rintro _ _ ⟨rfl, rfl⟩
      walk_at "tg"
      rw [decide_eq_true rfl]
      exact q
    | str z =>
      refine as_seq ?_
      walk_at "tg"
      refine as_seq ?_
      walk_at "tg"
      refine as_seq ?_
      walk_at "tg"
      refine as_seq ?_
      walk_at "tg"
      refine as_seq ?_
      walk_at "tg"
      rw [decide_eq_true rfl]
      exact q
    | tup ds =>
      cases m with
      | zero => exact hd.elim
      | succ m =>
        obtain ⟨hl, hx⟩ := hd
        refine as_seq ?_
        walk_at "tg"
        refine as_seq ?_
        walk_at "tg"
        refine dcaseN (fun c => absurd rfl c) (fun c => ?_)
        walk_at "tg"
        refine ae_lc (ownG_name (by simp)) ?_
        walk_at "tg"
        refine ⟨by omega, by omega, by rw [rng_len]; omega, fun i acc M' => M' = [] ∧ acc = (List.replicate i true).map D.bl, ⟨rfl, rfl⟩, ?_, ?_⟩
        · rintro i d acc M' hd ⟨rfl, rfl⟩
          obtain ⟨hi, rfl⟩ := rng_get hd
          obtain ⟨x, hx1, hx2⟩ := seqs ds i (by omega)
          walk_at "tg"
          refine aix_T hx2 ?_
          walk_at "tg"
          refine aix_T hx2 ?_
          walk_at "tg"
          refine ⟨[], _, trueK, rfl, ⟨m, x, rfl, rfl, rfl, hx x hx1, rfl, rfl⟩, ?_⟩
          rintro _ _ ⟨rfl, rfl⟩
          exact ⟨rfl, by rw [List.replicate_succ', List.map_append]; rfl⟩
        · rintro acc M' ⟨rfl, rfl⟩
          walk_at "tg"
          refine ac_all ?_
          rw [all_true]
          exact q
    | lst ds =>
      cases m with
      | zero => exact hd.elim
      | succ m =>
        obtain ⟨hl, hx⟩ := hd
        refine as_seq ?_
        walk_at "tg"
        refine as_seq ?_
        walk_at "tg"
        refine as_seq ?_
        walk_at "tg"
        refine dcaseN (fun c => absurd rfl c) (fun c => ?_)
        walk_at "tg"
        refine ae_lc (ownG_name (by simp)) ?_
        walk_at "tg"
        refine ⟨by omega, by omega, by rw [rng_len]; omega, fun i acc M' => M' = [] ∧ acc = (List.replicate i true).map D.bl, ⟨rfl, rfl⟩, ?_, ?_⟩
        · rintro i d acc M' hd ⟨rfl, rfl⟩
          obtain ⟨hi, rfl⟩ := rng_get hd
          obtain ⟨x, hx1, hx2⟩ := seqs ds i (by omega)
          walk_at "tg"
          refine aix_L hx2 ?_
          walk_at "tg"
          refine aix_L hx2 ?_
          walk_at "tg"
          refine ⟨[], _, trueK, rfl, ⟨m, x, rfl, rfl, rfl, hx x hx1, rfl, rfl⟩, ?_⟩
          rintro _ _ ⟨rfl, rfl⟩
          exact ⟨rfl, by rw [List.replicate_succ', List.map_append]; rfl⟩
        · rintro acc M' ⟨rfl, rfl⟩
          walk_at "tg"
          refine ac_all ?_
          rw [all_true]
          exact q
    | ty n => cases m <;> exact hd.elim
    | ref a => cases m <;> exact hd.elim
    | lsk ds => cases m <;> exact hd.elim⟩
theorem c__law_same (T : Top K mg) : ∀ n : Nat, Cal P w K mg base (n + 1) "_law_same" (Spc K (W_same n)) []
  | 0 => cal_none T.d__law_same fun ds M k h => by
    obtain ⟨_, _, h, _⟩ := h
    omega
  | n + 1 => same_step T n (c__law_same T n)
end

/-! ### where a place is carried -/
def carryF (j : Nat) : List Piece → Int → Option Int
  | [], s => some ((j : Int) + s)
  | p :: r, s => if p.start ≤ j ∧ j < p.stop then none else if p.stop ≤ j then carryF j r (s + ((p.put.length : Int) - ((p.stop : Int) - (p.start : Int)))) else carryF j r s
/-- the place of the last row with the old place j -/
def look (j : Nat) : List (Nat × Option Nat) → Option Nat
  | [] => none
  | r :: rs => match look j rs with
    | some k => some (k + 1)
    | none => if r.2 = some j then some 0 else none
theorem look_app (j : Nat) : ∀ a b : List (Nat × Option Nat), look j (a ++ b) = match look j b with | some k => some (a.length + k) | none => look j a
  | [], b => by
    show look j b = _
    cases look j b with
    | none => rfl
    | some k => simp
  | r :: a, b => by
    show (match look j (a ++ b) with | some k => some (k + 1) | none => if r.2 = some j then some 0 else none) = _
    rw [look_app j a b]
    cases e : look j b with
    | none => rfl
    | some k =>
      show some (a.length + k + 1) = some ((a.length + 1) + k)
      congr 1
      omega
theorem look_snoc (j : Nat) (a : List (Nat × Option Nat)) (r : Nat × Option Nat) : look j (a ++ [r]) = if r.2 = some j then some a.length else look j a := by
  rw [look_app]
  show (match (if r.2 = some j then some 0 else none : Option Nat) with | some k => some (a.length + k) | none => look j a) = _
  by_cases h : r.2 = some j
  · rw [if_pos h, if_pos h]
    rfl
  · rw [if_neg h, if_neg h]
theorem look_no (j : Nat) : ∀ a : List (Nat × Option Nat), (∀ r ∈ a, r.2 ≠ some j) → look j a = none
  | [], _ => rfl
  | r :: a, h => by
    show (match look j a with | some k => some (k + 1) | none => if r.2 = some j then some 0 else none) = none
    rw [look_no j a fun x hx => h x (List.mem_cons_of_mem _ hx)]
    exact if_neg (h r (List.mem_cons_self ..))
theorem seg_mem {l : List Nat} {a b : Nat} {r : Nat × Option Nat} (h : r ∈ seg l a b) : ∃ k, a ≤ k ∧ k < b ∧ r.2 = some k := by
  unfold seg at h
  obtain ⟨i, hi, rfl⟩ := List.mem_map.mp h
  have := List.mem_range.mp hi
  exact ⟨a + i, by omega, by omega, rfl⟩
theorem seg_snoc (l : List Nat) {a b : Nat} (h : a ≤ b) : seg l a (b + 1) = seg l a b ++ [(l.getD b 0, some b)] := by
  unfold seg
  rw [show b + 1 - a = (b - a) + 1 by omega, List.range_succ, List.map_append]
  simp only [List.map_cons, List.map_nil]
  rw [show a + (b - a) = b by omega]
theorem look_seg (l : List Nat) (j a : Nat) : ∀ b, look j (seg l a b) = if a ≤ j ∧ j < b then some (j - a) else none
  | 0 => by
    rw [if_neg (by omega), look_no]
    intro r hr e
    obtain ⟨k, h1, h2, h3⟩ := seg_mem hr
    omega
  | b + 1 => by
    by_cases h : a ≤ b
    · rw [seg_snoc l h, look_snoc, look_seg l j a b, seg_len]
      by_cases e : b = j
      · subst e
        rw [if_pos rfl, if_pos ⟨h, Nat.lt_succ_self _⟩]
      · rw [if_neg (show ¬ (some b = some j) from fun z => e (Option.some.inj z))]
        by_cases c : a ≤ j ∧ j < b
        · rw [if_pos c, if_pos ⟨c.1, by omega⟩]
        · rw [if_neg c, if_neg (by omega)]
    · rw [if_neg (by omega), look_no]
      intro r hr e
      obtain ⟨k, h1, h2, h3⟩ := seg_mem hr
      omega
theorem new_mem {put : List Nat} {r : Nat × Option Nat} (h : r ∈ newS put) : r.2 = none := by
  unfold newS at h
  obtain ⟨c, _, rfl⟩ := List.mem_map.mp h
  rfl
theorem new_len (put : List Nat) : (newS put).length = put.length := by simp [newS]
theorem look_new (j : Nat) (put : List Nat) : look j (newS put) = none := look_no j _ fun r hr e => by
  rw [new_mem hr] at e
  cases e
theorem marked_mem {l : List Nat} {r : Nat × Option Nat} {k : Nat} : ∀ {ps : List Piece} {lo at_ : Nat}, Chg l.length lo ps → at_ ≤ lo → r ∈ marked l at_ ps → r.2 = some k → at_ ≤ k ∧ k < l.length
  | [], lo, at_, _, _, h, e => by
    obtain ⟨k', h1, h2, h3⟩ := seg_mem h
    rw [h3] at e
    cases e
    exact ⟨h1, h2⟩
  | p :: ps, lo, at_, hc, hl, h, e => by
    obtain ⟨g1, g2, g3, _, g5⟩ := hc
    have h' : r ∈ seg l at_ p.start ++ newS p.put ++ marked l p.stop ps := h
    rcases List.mem_append.mp h' with h | h
    · rcases List.mem_append.mp h with h | h
      · obtain ⟨k', h1, h2, h3⟩ := seg_mem h
        rw [h3] at e
        cases e
        exact ⟨h1, by omega⟩
      · rw [new_mem h] at e
        cases e
    · have := marked_mem g5 (Nat.le_succ _) h e
      exact ⟨by omega, this.2⟩
theorem carry_ahead {j n : Nat} : ∀ {ps : List Piece} {lo : Nat} (s : Int), Chg n lo ps → j < lo → carryF j ps s = some ((j : Int) + s)
  | [], _, s, _, _ => rfl
  | p :: r, lo, s, h, hj => by
    obtain ⟨g1, g2, g3, _, g5⟩ := h
    show (if p.start ≤ j ∧ j < p.stop then none else if p.stop ≤ j then _ else carryF j r s) = _
    rw [if_neg (by omega), if_neg (by omega)]
    exact carry_ahead s g5 (by omega)
theorem carry_look {l : List Nat} {j : Nat} (hj : j < l.length) : ∀ {ps : List Piece} {lo at_ : Nat} (s : Int), Chg l.length lo ps → at_ ≤ lo → at_ ≤ j → carryF j ps s = Option.map (fun (k : Nat) => (k : Int) + (at_ : Int) + s) (look j (marked l at_ ps))
  | [], lo, at_, s, _, _, h => by
    show some _ = Option.map (fun (k : Nat) => (k : Int) + (at_ : Int) + s) (look j (seg l at_ l.length))
    rw [look_seg, if_pos ⟨h, hj⟩]
    simp only [Option.map_some]
    exact congrArg some (by omega)
  | p :: r, lo, at_, s, hc, hl, ha => by
    obtain ⟨g1, g2, g3, _, g5⟩ := hc
    show (if p.start ≤ j ∧ j < p.stop then none else if p.stop ≤ j then carryF j r (s + ((p.put.length : Int) - ((p.stop : Int) - (p.start : Int)))) else carryF j r s) = Option.map (fun (k : Nat) => (k : Int) + (at_ : Int) + s) (look j (seg l at_ p.start ++ newS p.put ++ marked l p.stop r))
    rw [look_app, look_app, look_new, look_seg]
    by_cases c1 : p.stop ≤ j
    · rw [if_neg (by omega), if_pos c1, carry_look hj _ g5 (Nat.le_succ _) c1, if_neg (by omega)]
      cases look j (marked l p.stop r) with
      | none => rfl
      | some k =>
        simp only [Option.map_some, List.length_append, seg_len, new_len]
        exact congrArg some (by omega)
    · have no : look j (marked l p.stop r) = none := look_no j _ fun r' hr' e => by
        have := marked_mem g5 (Nat.le_succ _) hr' e
        omega
      rw [no]
      by_cases c2 : p.start ≤ j
      · rw [if_pos ⟨c2, by omega⟩, if_neg (by omega)]
        rfl
      · rw [if_neg (by omega), if_neg c1, if_pos ⟨ha, by omega⟩, carry_ahead s g5 (by omega)]
        simp only [Option.map_some]
        exact congrArg some (by omega)
theorem carry_end {l : List Nat} : ∀ {ps : List Piece} {lo at_ : Nat} (s : Int), Chg l.length lo ps → at_ ≤ lo → at_ ≤ l.length → carryF l.length ps s = some (((marked l at_ ps).length : Int) + (at_ : Int) + s)
  | [], lo, at_, s, _, _, h => by
    show some _ = some (((seg l at_ l.length).length : Int) + _ + _)
    rw [seg_len]
    exact congrArg some (by omega)
  | p :: r, lo, at_, s, hc, hl, ha => by
    obtain ⟨g1, g2, g3, _, g5⟩ := hc
    show (if p.start ≤ l.length ∧ l.length < p.stop then none else if p.stop ≤ l.length then carryF l.length r (s + ((p.put.length : Int) - ((p.stop : Int) - (p.start : Int)))) else carryF l.length r s) = some (((seg l at_ p.start ++ newS p.put ++ marked l p.stop r).length : Int) + _ + _)
    rw [if_neg (by omega), if_pos g3, carry_end _ g5 (Nat.le_succ _) g3, List.length_append, List.length_append, seg_len, new_len]
    exact congrArg some (by omega)

/-! ### the text after a change; the inverse -/
def cutN {α : Type} (l : List α) (a b : Nat) : List α := (l.drop a).take (b - a)
theorem cutN_len {α : Type} {l : List α} {a b : Nat} (h : b ≤ l.length) : (cutN l a b).length = b - a := by
  unfold cutN
  rw [List.length_take, List.length_drop]
  omega
theorem cutN_join {α : Type} (l : List α) {a b : Nat} (h : a ≤ b) : cutN l a b ++ l.drop b = l.drop a := by
  unfold cutN
  have e : l.drop b = (l.drop a).drop (b - a) := by
    rw [List.drop_drop]
    congr 1
    omega
  rw [e, List.take_append_drop]
theorem cutN_mid {α : Type} {x y z : List α} {a b : Nat} (h1 : x.length = a) (h2 : a + y.length = b) : cutN (x ++ y ++ z) a b = y := by
  unfold cutN
  rw [List.append_assoc, List.drop_left' h1, show b - a = y.length by omega, List.take_left' rfl]
def aft (l : List Nat) : Nat → List Piece → List Nat
  | at_, [] => l.drop at_
  | at_, p :: r => cutN l at_ p.start ++ p.put ++ aft l p.stop r
def inv (l : List Nat) : Nat → Nat → List Piece → List Piece
  | _, _, [] => []
  | old, new, p :: r => ⟨new + (p.start - old), new + (p.start - old) + p.put.length, cutN l p.start p.stop⟩ :: inv l p.stop (new + (p.start - old) + p.put.length) r
theorem seg_fst (l : List Nat) {a b : Nat} (h : b ≤ l.length) : (seg l a b).map (·.1) = cutN l a b := by
  refine List.ext_getElem? fun i => ?_
  unfold seg cutN
  rw [List.map_map, List.getElem?_map]
  by_cases hi : i < b - a
  · rw [List.getElem?_range hi, List.getElem?_take_of_lt hi, List.getElem?_drop]
    have hl : a + i < l.length := by omega
    rw [List.getElem?_eq_getElem hl]
    show some (l.getD (a + i) 0) = _
    rw [List.getD_eq_getElem?_getD, List.getElem?_eq_getElem hl]
    rfl
  · rw [List.getElem?_eq_none (by simpa using hi), List.getElem?_eq_none]
    · rfl
    · rw [List.length_take]
      omega
theorem marked_fst {l : List Nat} : ∀ {ps : List Piece} {lo at_ : Nat}, Chg l.length lo ps → (marked l at_ ps).map (·.1) = aft l at_ ps
  | [], lo, at_, _ => by
    show (seg l at_ l.length).map (·.1) = l.drop at_
    rw [seg_fst l (Nat.le_refl _)]
    unfold cutN
    exact List.take_of_length_le (by rw [List.length_drop]; omega)
  | p :: r, lo, at_, h => by
    obtain ⟨g1, g2, g3, _, g5⟩ := h
    show (seg l at_ p.start ++ newS p.put ++ marked l p.stop r).map (·.1) = cutN l at_ p.start ++ p.put ++ aft l p.stop r
    rw [List.map_append, List.map_append, seg_fst l (by omega), marked_fst g5]
    congr 2
    unfold newS
    rw [List.map_map]
    exact List.map_id' _
theorem aft_inv {l : List Nat} : ∀ {ps : List Piece} {lo old new : Nat} {pre : List Nat}, Chg l.length lo ps → old ≤ lo → old ≤ l.length → pre.length = new → aft (pre ++ aft l old ps) new (inv l old new ps) = l.drop old
  | [], lo, old, new, pre, _, _, _, h => by
    show (pre ++ l.drop old).drop new = l.drop old
    exact List.drop_left' h
  | p :: r, lo, old, new, pre, hc, hl, ho, h => by
    obtain ⟨g1, g2, g3, _, g5⟩ := hc
    have hA : pre ++ aft l old (p :: r) = pre ++ cutN l old p.start ++ (p.put ++ aft l p.stop r) := by
      show pre ++ (cutN l old p.start ++ p.put ++ aft l p.stop r) = _
      simp
    have hB : pre ++ aft l old (p :: r) = (pre ++ cutN l old p.start ++ p.put) ++ aft l p.stop r := by
      rw [hA]
      simp
    have e1 : (cutN l old p.start).length = p.start - old := cutN_len (by omega)
    show cutN (pre ++ aft l old (p :: r)) new (new + (p.start - old)) ++ cutN l p.start p.stop ++ aft (pre ++ aft l old (p :: r)) (new + (p.start - old) + p.put.length) (inv l p.stop (new + (p.start - old) + p.put.length) r) = l.drop old
    rw [hB, aft_inv g5 (Nat.le_succ _) g3 (by rw [List.length_append, List.length_append, e1, h]), ← hB, hA, cutN_mid h (by rw [e1]), List.append_assoc, cutN_join l g2, cutN_join l (by omega)]
theorem inv_inv {l : List Nat} : ∀ {ps : List Piece} {lo old new : Nat} {pre : List Nat}, Chg l.length lo ps → old ≤ lo → pre.length = new → inv (pre ++ aft l old ps) new old (inv l old new ps) = ps
  | [], lo, old, new, pre, _, _, h => rfl
  | p :: r, lo, old, new, pre, hc, hl, h => by
    obtain ⟨g1, g2, g3, _, g5⟩ := hc
    have hB : pre ++ aft l old (p :: r) = (pre ++ cutN l old p.start) ++ p.put ++ aft l p.stop r := by
      show pre ++ (cutN l old p.start ++ p.put ++ aft l p.stop r) = _
      simp
    have e1 : (cutN l old p.start).length = p.start - old := cutN_len (by omega)
    have e2 : (cutN l p.start p.stop).length = p.stop - p.start := cutN_len g3
    show (⟨old + (new + (p.start - old) - new), old + (new + (p.start - old) - new) + (cutN l p.start p.stop).length, cutN (pre ++ aft l old (p :: r)) (new + (p.start - old)) (new + (p.start - old) + p.put.length)⟩ : Piece) ::
      inv (pre ++ aft l old (p :: r)) (new + (p.start - old) + p.put.length) (old + (new + (p.start - old) - new) + (cutN l p.start p.stop).length) (inv l p.stop (new + (p.start - old) + p.put.length) r) = p :: r
    rw [hB, cutN_mid (by rw [List.length_append, e1, h]) rfl, e2, show old + (new + (p.start - old) - new) = p.start by omega, show p.start + (p.stop - p.start) = p.stop by omega,
      inv_inv g5 (Nat.le_succ _) (by rw [List.length_append, List.length_append, e1, h])]
theorem inv_chg {l : List Nat} : ∀ {ps : List Piece} {lo lo' old new : Nat} {n : Nat}, Chg l.length lo ps → old ≤ lo → lo' ≤ new + (lo - old) → n = new + (aft l old ps).length → Chg n lo' (inv l old new ps)
  | [], lo, lo', old, new, n, _, _, _, _ => True.intro
  | p :: r, lo, lo', old, new, n, hc, hl, h, hn => by
    obtain ⟨g1, g2, g3, g4, g5⟩ := hc
    have e1 : (cutN l old p.start).length = p.start - old := cutN_len (by omega)
    have e2 : (cutN l p.start p.stop).length = p.stop - p.start := cutN_len g3
    have hn' : n = new + ((p.start - old) + p.put.length + (aft l p.stop r).length) := by
      rw [hn]
      show new + (cutN l old p.start ++ p.put ++ aft l p.stop r).length = _
      rw [List.length_append, List.length_append, e1]
    refine ⟨by show lo' ≤ new + (p.start - old); omega, by show new + (p.start - old) ≤ new + (p.start - old) + p.put.length; omega, by show new + (p.start - old) + p.put.length ≤ n; omega, fun e z => ?_, inv_chg (old := p.stop) (new := new + (p.start - old) + p.put.length) g5 (Nat.le_succ _) (by show new + (p.start - old) + p.put.length + 1 ≤ new + (p.start - old) + p.put.length + (p.stop + 1 - p.stop); omega) (by rw [hn']; omega)⟩
    have e' : new + (p.start - old) = new + (p.start - old) + p.put.length := e
    have e3 : p.put = [] := List.length_eq_zero_iff.mp (by omega)
    have z' : (cutN l p.start p.stop) = [] := z
    rw [z'] at e2
    have e4 : p.start = p.stop := by
      have : ([] : List Nat).length = 0 := rfl
      omega
    exact g4 e4 e3
theorem aft_len {l : List Nat} {ps : List Piece} : ∀ {lo at_ : Nat}, Chg l.length lo ps → at_ ≤ lo → (aft l at_ ps).length ≤ (l.length - at_) + (ps.map fun p => p.put.length).sum := by
  induction ps with
  | nil =>
    intro lo at_ _ _
    show (l.drop at_).length ≤ _
    simp
  | cons p r ih =>
    intro lo at_ h ha
    obtain ⟨g1, g2, g3, _, g5⟩ := h
    have i1 := ih (at_ := p.stop) g5 (Nat.le_succ _)
    have e1 : (cutN l at_ p.start).length = p.start - at_ := cutN_len (by omega)
    show (cutN l at_ p.start ++ p.put ++ aft l p.stop r).length ≤ _
    rw [List.length_append, List.length_append, e1, List.map_cons, List.sum_cons]
    omega

/-! ### pieces, slices -/
theorem pieces_get {ps : List Piece} {i : Nat} {d : D} (hd : (ps.map Piece.d)[i]? = some d) : ∃ p, p ∈ ps ∧ ps[i]? = some p ∧ d = Piece.d p ∧ ps.drop i = p :: ps.drop (i + 1) := by
  rw [List.getElem?_map] at hd
  cases hq : ps[i]? with
  | none => rw [hq] at hd; cases hd
  | some p =>
    rw [hq] at hd
    obtain ⟨hl, e⟩ := List.getElem?_eq_some_iff.mp hq
    refine ⟨p, List.mem_of_getElem? hq, rfl, by simpa using hd.symm, ?_⟩
    rw [List.drop_eq_getElem_cons hl, e]
theorem cut_take (l : List Nat) (j : Nat) (hj : j ≤ l.length) : Tg.cutD l none (some (j : Int)) = l.take j := by
  unfold Tg.cutD
  have e0 : HT.sIx l.length 0 none = 0 := rfl
  have e1 : HT.sIx l.length l.length (some (j : Int)) = j := by
    rw [HT.sIx_nat]
    omega
  rw [e0, e1, List.drop_zero, Nat.sub_zero]
def isK (d0 : D) : D → Mu → Prop := fun d M => d = d0 ∧ M = []
theorem items_seq {d : D} {ds : List D} (h : seqD d = some ds) : itemsD d = some ds := by
  cases d <;> simp only [seqD, Option.some.injEq, reduceCtorEq] at h <;> subst h <;> rfl

/-! ### the text after a change, and the change back -/
theorem cut_nat (l : List Nat) {a b : Nat} (h : a ≤ b) (hb : b ≤ l.length) : Tg.cutD l (some (a : Int)) (some (b : Int)) = cutN l a b := by
  unfold Tg.cutD cutN
  rw [HT.sIx_nat, HT.sIx_nat, Nat.min_eq_left (Nat.le_trans h hb), Nat.min_eq_left hb]
theorem cut_rest (l : List Nat) {a : Nat} (h : a ≤ l.length) : Tg.cutD l (some (a : Int)) none = l.drop a := by
  unfold Tg.cutD
  rw [HT.sIx_nat, HT.sIx_none, Nat.min_eq_left h]
  exact List.take_of_length_le (by rw [List.length_drop]; omega)
/-- a change that is small enough, of a text that is -/
structure Small (l : List Nat) (ps : List Piece) : Prop where
  len : l.length ≤ 50000
  put : puts ps ≤ 50000
  num : ps.length ≤ 50000
  chg : Chg l.length 0 ps
theorem puts_sum (ps : List Piece) : puts ps = (ps.map fun p => p.put.length).sum := rfl
theorem Small.aft {l : List Nat} {ps : List Piece} (h : Small l ps) : (aft l 0 ps).length ≤ 100000 := by
  have h1 := aft_len h.chg (Nat.le_refl 0)
  have h2 := h.put
  have h3 := h.len
  rw [puts_sum] at h2
  omega
def W_after : Wt := fun ds M k => ∃ (l : List Nat) (ps : List Piece), ds = [.str (tx l), .lst (ps.map Piece.d)] ∧ M = [] ∧ Small l ps ∧ k (.str (tx (aft l 0 ps))) []
def W_apply : Wt := fun ds M k => ∃ (l : List Nat) (ps : List Piece) (cd : D), ds = [.str (tx l), cd] ∧ seqD cd = some (ps.map Piece.d) ∧ M = [] ∧ Small l ps ∧ k (.str (tx (aft l 0 ps))) []
theorem mem_puts {ps : List Piece} {p : Piece} (h : p ∈ ps) : p.put.length ≤ puts ps := by
  obtain ⟨i, hi⟩ := List.getElem?_of_mem h
  exact puts_at hi
section
variable {P : Program} {w : World} {K : PySem.W.Frag} {mg : Str → Option Value} {base : Heap}
theorem c__law_after (T : Top K mg) : Cal P w K mg base 2 "_law_after" (Spc K W_after) [] := cal_of T.d__law_after fun f fd F => by
  have c__law_marked := c__law_marked (P := P) (w := w) (base := base) T
  exact spc_ok F sc__law_after (fun ds M k h => by obtain ⟨l, ps, rfl, _⟩ := h; rfl) fun cdv A outer s H E hr => ⟨_, (pss_one (ps_ret (join_K (K := K) (pe_join pe_str (pe_lc (own := [("row", 2)]) (g := gName 2) rfl sc__law_after.nd (seq_K (K := K) (pe_c c__law_marked hr (by first | decide | omega) (by rfl) (pa_cons (pv 0) (pa_cons (pv 1) pa_nil)))) (blkOk_by (own := [("row", 2)]) (N := ["text", "change", "row"]) (sc := defScope s__law_after) (by decide +kernel)) (fun _ _ _ _ _ => (pg_name (i := 2) sc__law_after.nd rfl (Or.inl rfl))) (fun _ _ _ _ _ => pts_nil) (fun _ _ _ _ _ => (pe_ix (ix_K (K := K)) (pv 2) pe_int (fun _ _ => rfl)))))))), fun ds M kk hw => by
    obtain ⟨l, ps, rfl, rfl, sm, q⟩ := hw
    have h1 := sm.len
    have h2 := sm.put
    have hsz := sizeLine_eq
    have hml := marked_len sm.chg
    refine as_start (δ' := [some (.str (tx l)), some (.lst (ps.map Piece.d)), none]) rfl ?_
    walk_at "tg"
    refine ae_lc (ownG_name (by simp)) ?_
    walk_at "tg"
    refine ⟨[], _, fun d M => d = .lst ((marked l 0 ps).map rowD) ∧ M = [], rfl, ⟨_, l, ps, rfl, .inl rfl, rfl, by omega, by omega, sm.chg, ⟨rfl, rfl⟩⟩, ?_⟩
    rintro _ _ ⟨rfl, rfl⟩
    refine ⟨_, rfl, ?_⟩
    refine ⟨by rw [List.length_map]; omega, fun i acc M' => M' = [] ∧ acc = strsD (ones (((marked l 0 ps).take i).map (·.1))), ⟨rfl, rfl⟩, ?_, ?_⟩
    · rintro i d acc M' hd ⟨rfl, rfl⟩
      rw [List.getElem?_map] at hd
      cases hc : (marked l 0 ps)[i]? with
      | none => rw [hc] at hd; cases hd
      | some r =>
        rw [hc] at hd
        have e : rowD r = d := by simpa using hd
        subst e
        unfold rowD
        walk_at "tg"
        refine ⟨rfl, ?_⟩
        rw [strsD_snoc, List.take_add_one, hc, List.map_append]
        rfl
    · rintro acc M' ⟨rfl, rfl⟩
      rw [List.length_map, List.take_length, marked_fst sm.chg]
      have e : tx [] = Str.ofString "" := rfl
      rw [← e]
      have h3 := sm.aft
      refine am_join (ls := ones (aft l 0 ps)) (by rw [ones_sum]; omega) ?_
      rw [ones_flat]
      exact q⟩
theorem c_apply_change (T : Top K mg) : Cal P w K mg base 1 "apply_change" (Spc K W_apply) [] := cal_of T.d_apply_change fun f fd F => by
  exact spc_ok F sc_apply_change (fun ds M k h => by obtain ⟨l, ps, cd, rfl, _⟩ := h; rfl) fun cdv A outer s H E hr => ⟨_, (pss_cons (ps_set (i := 2) sc_apply_change.nd rfl (Or.inl rfl) (pe_lstM (pe_lst pa_nil)))
      (pss_cons (ps_set (i := 3) sc_apply_change.nd rfl (Or.inl rfl) pe_int)
      (pss_cons (ps_for PassesOwn.never rfl (seq_K (K := K) (pv 1)) (gtup_K (K := K) (n := 3) rfl (pgs_cons (pg_name (i := 4) sc_apply_change.nd rfl (Or.inl rfl)) (pgs_cons (pg_name (i := 5) sc_apply_change.nd rfl (Or.inl rfl)) (pgs_cons (pg_name (i := 6) sc_apply_change.nd rfl (Or.inl rfl)) pgs_nil))))
      (pss_cons (ps_expr (app_K (K := K) (pe_bm PySem.F.plainAttrs_list PySem.F.slot_list_append PySem.F.type_list_append mt_append (pv 2) (pa_cons (pe_slice (sl_K (K := K)) (pv 0) (po_some (pv 3)) (po_some (pv 4))) pa_nil))))
      (pss_cons (ps_expr (app_K (K := K) (pe_bm PySem.F.plainAttrs_list PySem.F.slot_list_append PySem.F.type_list_append mt_append (pv 2) (pa_cons (pv 6) pa_nil))))
      (pss_one (ps_set (i := 3) sc_apply_change.nd rfl (Or.inl rfl) (pv 5))))))
      (pss_cons (ps_expr (app_K (K := K) (pe_bm PySem.F.plainAttrs_list PySem.F.slot_list_append PySem.F.type_list_append mt_append (pv 2) (pa_cons (pe_slice (sl_K (K := K)) (pv 0) (po_some (pv 3)) po_none) pa_nil))))
      (pss_one (ps_ret (join_K (K := K) (pe_join pe_str (pv 2))))))))), fun ds M kk hw => by
    obtain ⟨l, ps, cd, rfl, hcd, rfl, sm, q⟩ := hw
    have h1 := sm.len
    have h2 := sm.put
    have h4 := sm.num
    have h3 := sm.aft
    have hsz := sizeLine_eq
    refine as_start (δ' := [some (.str (tx l)), some cd, none, none, none, none, none]) rfl ?_
    walk_at "tg"
    intro ar
    walk_at "tg"
    refine ⟨ps.map Piece.d, items_seq hcd, ?_⟩
    refine ⟨fun i δ' M' => ∃ (x4 x5 x6 : Option D) (ls : List (List Nat)) (at_ lo : Nat), ls.flatten ++ aft l at_ (ps.drop i) = aft l 0 ps ∧ Chg l.length lo (ps.drop i) ∧ at_ ≤ lo ∧ at_ ≤ l.length ∧ ls.length ≤ 2 * i ∧ i ≤ ps.length ∧ M' = [(ar, .lst (strsD ls))] ∧
      δ' = [some (.str (tx l)), some cd, some (.ref ar), some (.int at_), x4, x5, x6], ⟨none, none, none, [], 0, 0, rfl, sm.chg, Nat.le_refl _, Nat.zero_le _, Nat.le_refl _, Nat.zero_le _, rfl, rfl⟩, ?_, ?_⟩
    · rintro i d δ' M' hd ⟨x4, x5, x6, ls, at_, lo, hfl, hch, hlo, hat, hls, hip, rfl, rfl⟩
      obtain ⟨p, hm, hp1, rfl, e3⟩ := pieces_get hd
      have hil := (List.getElem?_eq_some_iff.mp hp1).1
      have hput := mem_puts hm
      rw [e3] at hch hfl
      obtain ⟨g1, g2, g3, _, g5⟩ := hch
      have hll : (strsD ls).length = ls.length := by simp [strsD]
      unfold Piece.d
      walk_at "tg"
      refine asl_str (by omega) ?_
      rw [cut_nat l (by omega) (by omega)]
      walk_at "tg"
      refine app0 (by omega) ?_
      walk_at "tg"
      refine app0 (by rw [List.length_append, hll]; show ls.length + 1 < _; omega) ?_
      walk_at "tg"
      refine ⟨_, _, _, ls ++ [cutN l at_ p.start] ++ [p.put], p.stop, p.stop + 1, ?_, g5, Nat.le_succ _, g3, by rw [List.length_append, List.length_append]; show ls.length + 1 + 1 ≤ _; omega, by omega, ?_, rfl⟩
      · rw [← hfl]
        show _ = ls.flatten ++ (cutN l at_ p.start ++ p.put ++ aft l p.stop (ps.drop (i + 1)))
        simp
      · simp [strsD]
    · rintro δ' M' ⟨x4, x5, x6, ls, at_, lo, hfl, hch, hlo, hat, hls, hip, rfl, rfl⟩
      rw [List.length_map] at hls
      rw [List.length_map, List.drop_length] at hfl
      have hll : (strsD ls).length = ls.length := by simp [strsD]
      have hfl : ls.flatten ++ l.drop at_ = aft l 0 ps := hfl
      walk_at "tg"
      refine asl_str (by omega) ?_
      rw [cut_rest l hat]
      walk_at "tg"
      refine app0 (by omega) ?_
      refine frz0 (s := 2) rfl ?_
      walk_at "tg"
      have e : tx [] = Str.ofString "" := rfl
      rw [← e]
      have e2 : strsD ls ++ [.str (tx (l.drop at_))] = (ls ++ [l.drop at_]).map fun z => .str (tx z) := by simp [strsD]
      rw [e2]
      have e4 : (ls ++ [l.drop at_]).flatten = aft l 0 ps := by rw [← hfl]; simp
      refine am_join (by rw [← List.length_flatten, e4]; omega) ?_
      rw [e4]
      exact q⟩
end

/-! ### drawn pieces, many of them wrong -/
structure Wild where
  start : Int
  stop : Int
  put : List Nat
def Wild.d (p : Wild) : D := .tup [.int p.start, .int p.stop, .str (tx p.put)]
def Piece.w (p : Piece) : Wild := ⟨p.start, p.stop, p.put⟩
theorem Piece.wd (p : Piece) : p.w.d = p.d := rfl
theorem wilds (ps : List Piece) : (ps.map Piece.w).map Wild.d = ps.map Piece.d := by
  rw [List.map_map]
  rfl
/-- the first wrong piece, and what is wrong: 0 its range, 1 its order, 2 that it does nothing -/
def wrongAt (size : Int) : Int → Nat → List Wild → Option (Nat × Nat)
  | _, _, [] => none
  | last, k, p :: r => if p.start < 0 ∨ p.stop < p.start ∨ size < p.stop then some (k, 0) else if p.start ≤ last then some (k, 1) else if p.start = p.stop ∧ p.put = [] then some (k, 2) else wrongAt size p.stop (k + 1) r
def rsn : Nat → Str
  | 0 => Str.ofString "range"
  | 1 => Str.ofString "order"
  | _ => Str.ofString "nothing"
theorem wrong_none {size : Nat} : ∀ {ps : List Piece} {lo : Nat} {last : Int} {k : Nat}, Chg size lo ps → last < (lo : Int) → wrongAt size last k (ps.map Piece.w) = none
  | [], _, _, _, _, _ => rfl
  | p :: r, lo, last, k, h, hl => by
    obtain ⟨g1, g2, g3, g4, g5⟩ := h
    show (if (p.start : Int) < 0 ∨ (p.stop : Int) < (p.start : Int) ∨ (size : Int) < (p.stop : Int) then _ else if (p.start : Int) ≤ last then _ else if (p.start : Int) = (p.stop : Int) ∧ p.put = [] then _ else _) = none
    rw [if_neg (by omega), if_neg (by omega), if_neg (fun z => g4 (by omega) z.2)]
    exact wrong_none g5 (by show (p.stop : Int) < _; omega)
theorem wilds_get {ps : List Wild} {i : Nat} {d : D} (h : (ps.map Wild.d)[i]? = some d) : ∃ p, p ∈ ps ∧ ps[i]? = some p ∧ d = Wild.d p ∧ ps.drop i = p :: ps.drop (i + 1) := by
  rw [List.getElem?_map] at h
  cases e : ps[i]? with
  | none => rw [e] at h; cases h
  | some p =>
    rw [e] at h
    obtain ⟨hi, e2⟩ := List.getElem?_eq_some_iff.mp e
    refine ⟨p, List.mem_of_getElem? e, rfl, by simpa using h.symm, ?_⟩
    rw [List.drop_eq_getElem_cons hi, e2]
/-- check_change: it returns, or it raises -/
def W_checkX : WtX := fun ds M k kx => ∃ (l : List Nat) (ps : List Wild) (cd : D), ds = [.str (tx l), cd] ∧ seqD cd = some (ps.map Wild.d) ∧ M = [] ∧ l.length ≤ 100000 ∧
  (wrongAt l.length (-1) 0 ps = none → k .non []) ∧ (∀ i r, wrongAt l.length (-1) 0 ps = some (i, r) → kx [("reason", .str (rsn r)), ("number", .int (i : Nat))] [])
def W_wrong : Wt := fun ds M k => ∃ (n : Nat) (ps : List Wild), ds = [.int n, .lst (ps.map Wild.d)] ∧ M = [] ∧ ps.length ≤ 1000 ∧
  k (match wrongAt n (-1) 0 ps with | none => .non | some (i, r) => .tup [.int (i : Nat), .str (rsn r)]) []
section
variable {P : Program} {w : World} {K : PySem.W.Frag} {mg : Str → Option Value} {base : Heap}
theorem c__law_wrong (T : Top K mg) : Cal P w K mg base 1 "_law_wrong" (Spc K W_wrong) [] := cal_of T.d__law_wrong fun f fd F => by
  exact spc_ok F sc__law_wrong (fun ds M k h => by obtain ⟨n, ps, rfl, _⟩ := h; rfl) fun cdv A outer s H E hr => ⟨_, (pss_cons (ps_set (i := 2) sc__law_wrong.nd rfl (Or.inl rfl) (pe_un un_neg pe_int))
      (pss_cons (ps_for PassesOwn.never rfl (pi_range1 (by rfl) T.m_range (pa_cons (pe_callB (len_K (K := K)) (by rfl) T.m_len (by decide +kernel) (pa_cons (pv 1) pa_nil)) pa_nil)) (pg_name (i := 3) sc__law_wrong.nd rfl (Or.inl rfl))
      (pss_cons (ps_asg (pe_ix (ix_K (K := K)) (pv 1) (pv 3) (fun _ _ => rfl)) (gtup_K (K := K) (n := 3) rfl (pgs_cons (pg_name (i := 4) sc__law_wrong.nd rfl (Or.inl rfl)) (pgs_cons (pg_name (i := 5) sc__law_wrong.nd rfl (Or.inl rfl)) (pgs_cons (pg_name (i := 6) sc__law_wrong.nd rfl (Or.inl rfl)) pgs_nil)))))
      (pss_cons (ps_if (pw_or (pt_cmpR op_lt (pv 4) pe_int (nomark _)) (pw_or (pt_cmpR op_lt (pv 5) (pv 4) (nomark _)) (pw_or1 (pt_cmpR op_gt (pv 5) (pv 0) (nomark _))))).pt
      (pss_one (ps_ret (pe_tup (pa_cons (pv 3) (pa_cons pe_str pa_nil)))))
      pss_nil)
      (pss_cons (ps_if (pt_cmpR op_le (pv 4) (pv 2) (nomark _))
      (pss_one (ps_ret (pe_tup (pa_cons (pv 3) (pa_cons pe_str pa_nil)))))
      pss_nil)
      (pss_cons (ps_if (pw_and (pt_cmpR op_eq (pv 4) (pv 5) (nomark _)) (pw_and1 (pt_cmpR op_eq (pv 6) pe_str (nomark _)))).pt
      (pss_one (ps_ret (pe_tup (pa_cons (pv 3) (pa_cons pe_str pa_nil)))))
      pss_nil)
      (pss_one (ps_set (i := 2) sc__law_wrong.nd rfl (Or.inl rfl) (pv 5))))))))
      (pss_one (ps_ret pe_non)))), fun ds M kk hw => by
    obtain ⟨n, ps, rfl, rfl, hl, q⟩ := hw
    have hsz := sizeLine_eq
    generalize hW : wrongAt n (-1) 0 ps = W at q
    refine as_start (δ' := [some (.int n), some (.lst (ps.map Wild.d)), none, none, none, none, none]) rfl ?_
    walk_at "tg"
    refine ⟨by rw [List.length_map]; omega, by rw [List.length_map]; omega, ?_⟩
    refine ⟨fun i δ' M' => ∃ (x3 x4 x5 x6 : Option D) (b : Int), wrongAt n b i (ps.drop i) = W ∧ M' = [] ∧
      δ' = [some (.int n), some (.lst (ps.map Wild.d)), some (.int b), x3, x4, x5, x6], ⟨none, none, none, none, -1, hW, rfl, rfl⟩, ?_, ?_⟩
    · rintro i d δ' M' hd ⟨x3, x4, x5, x6, b, he, rfl, rfl⟩
      obtain ⟨hi, rfl⟩ := rng_get hd
      rw [List.length_map] at hi
      obtain ⟨p, hp1, hp2⟩ : ∃ p, ps[i]? = some p ∧ ps.drop i = p :: ps.drop (i + 1) := by
        have hi' : i < ps.length := by omega
        exact ⟨ps[i], List.getElem?_eq_getElem hi', List.drop_eq_getElem_cons hi'⟩
      have hat : atI (ps.map Wild.d) (0 + (i : Nat)) = some p.d := by
        rw [Int.zero_add]
        exact atI_nat (by rw [List.getElem?_map, hp1]; rfl)
      rw [hp2] at he
      unfold wrongAt at he
      walk_at "tg"
      refine aix_L hat ?_
      unfold Wild.d
      walk_at "tg"
      refine as_seq ?_
      walk_at "tg"
      have fin : ∀ (r : Nat), W = some (i, r) → kk (.tup [.int (0 + (i : Nat)), .str (rsn r)]) [] := fun r hr => by
        rw [Int.zero_add]
        rw [hr] at q
        exact q
      refine dcaseR (fun c1 => ?_) (fun c1 => ?_)
      · walk_at "tg"
        refine dcaseR (fun c2 => ?_) (fun c2 => ?_)
        · walk_at "tg"
          refine dcase (fun c3 => ?_) (fun c3 => ?_)
          · walk_at "tg"
            exact fin 0 (by rw [← he, if_pos (by omega)])
          · rw [if_neg (by omega)] at he
            walk_at "tg"
            refine as_seq ?_
            walk_at "tg"
            refine dcase (fun c4 => ?_) (fun c4 => ?_)
            · walk_at "tg"
              exact fin 1 (by rw [← he, if_pos c4])
            · rw [if_neg c4] at he
              walk_at "tg"
              refine as_seq ?_
              walk_at "tg"
              refine dcase (fun c5 => ?_) (fun c5 => ?_)
              · walk_at "tg"
                refine dcase (fun c6 => ?_) (fun c6 => ?_)
                · have c7 : p.put = [] := by
                    have c6' : tx p.put = tx [] := c6
                    exact tx_inj c6'
                  walk_at "tg"
                  exact fin 2 (by rw [← he, if_pos ⟨c5, c7⟩])
                · have c7 : p.put ≠ [] := fun z => c6 (by rw [z]; rfl)
                  rw [if_neg (fun z => c7 z.2)] at he
                  walk_at "tg"
                  exact ⟨_, _, _, _, _, he, rfl, rfl⟩
              · rw [if_neg (fun z => c5 z.1)] at he
                walk_at "tg"
                exact ⟨_, _, _, _, _, he, rfl, rfl⟩
        · walk_at "tg"
          exact fin 0 (by rw [← he, if_pos (by omega)])
      · walk_at "tg"
        exact fin 0 (by rw [← he, if_pos (by omega)])
    · rintro δ' M' ⟨x3, x4, x5, x6, b, he, rfl, rfl⟩
      rw [rng_len, List.length_map, Int.toNat_natCast, List.drop_length] at he
      have he' : none = W := he
      rw [← he'] at q
      walk_at "tg"
      exact q⟩
end

/-! ### the error of a change that is none -/
section
variable {P : Program} {w : World} {K : PySem.W.Frag} {mg : Str → Option Value} {base : Heap}
theorem ok_init_BadChange {C fI : Addr} {fd : FuncData} (e : ErrT_BadChange K mg C) (F : Fun K "__init__" "BadChange.__init__" s_BadChange_init fI fd) : FnOk P w K mg base CX0 1 fI fd ["self", "number", "reason"] (spIni K C "number" "reason") := by
  refine F.ok sc_BadChange_init (fun vs H Q E h => ?_) (fun cdv A outer s H vs Q E hr h => ?_)
  · obtain ⟨a, y, z, rfl, _⟩ := h
    rfl
  · obtain ⟨a, y, z, rfl, ha, q⟩ := h
    refine ⟨_, pss_cons (ps_ost (pv 0) (pv 1)) (pss_one (ps_ost (pv 0) (pv 2))), ?_⟩
    exact ⟨y, rfl, .ref a, rfl, a, C, rfl, e.o, e.n1, .inl ⟨ha, fun dx hdx hne => ⟨z, rfl, .ref a, rfl, a, C, rfl, e.o, e.n2, .inr ⟨dx, [("number", y)], upd_same, by rw [upd_ne hne, upd_same], by show 1 ≤ _; decide, q dx hdx hne⟩⟩⟩⟩
end

section
variable {P : Program} {w : World} {K : PySem.W.Frag} {mg : Str → Option Value} {base : Heap}
theorem c_check_changeX {C_BadChange : Addr} (T : Top K mg) (e_BadChange : ErrT_BadChange K mg C_BadChange) : CalX P w K mg base 3 "check_change" (SpcX K C_BadChange W_checkX) := by
  obtain ⟨fI, fdI, iA_BadChange, iT_BadChange, FI, iB_BadChange⟩ := e_BadChange.i
  have iF_BadChange := ok_init_BadChange (P := P) (w := w) (base := base) e_BadChange FI
  obtain ⟨f, fd, F, m, b⟩ := T.d_check_change.ex
  refine ⟨f, fd, ["text", "change"], ?_, m, F.kp, b⟩
  exact spc_okX F sc_check_change (fun ds M k kx h => by obtain ⟨l, ps, cd, rfl, _⟩ := h; rfl) fun cdv A outer s H E hr => ⟨_, (pss_cons (ps_set (i := 2) sc_check_change.nd rfl (Or.inl rfl) (pe_un un_neg pe_int))
      (pss_one (ps_for (passes_of rfl) rfl (enS_K (K := K) (pi_enS (by rfl) T.m_enumerate (pa_cons (pv 1) pa_nil))) (gtup_K (K := K) (n := 2) rfl (pgs_cons (pg_name (i := 3) sc_check_change.nd rfl (Or.inl rfl)) (pgs_cons (gtup_K (K := K) (n := 3) rfl (pgs_cons (pg_name (i := 4) sc_check_change.nd rfl (Or.inl rfl)) (pgs_cons (pg_name (i := 5) sc_check_change.nd rfl (Or.inl rfl)) (pgs_cons (pg_name (i := 6) sc_check_change.nd rfl (Or.inl rfl)) pgs_nil)))) pgs_nil)))
      (pss_cons (ps_if (pt_not (pt_chain3 op_le op_le op_le pe_int (pv 4) (pv 5) (pe_callB (len_K (K := K)) (by rfl) T.m_len (by decide +kernel) (pa_cons (pv 0) pa_nil))))
      (pss_one (ps_raiseO rfl (takes_of rfl rfl rfl rfl) e_BadChange.o iA_BadChange iT_BadChange iF_BadChange (hr.mono (by first | decide | omega)) iB_BadChange pass0 (by rfl) e_BadChange.m (pa_cons (pv 3) (pa_cons pe_str pa_nil))))
      pss_nil)
      (pss_cons (ps_if (pt_cmpR op_le (pv 4) (pv 2) (nomark _))
      (pss_one (ps_raiseO rfl (takes_of rfl rfl rfl rfl) e_BadChange.o iA_BadChange iT_BadChange iF_BadChange (hr.mono (by first | decide | omega)) iB_BadChange pass0 (by rfl) e_BadChange.m (pa_cons (pv 3) (pa_cons pe_str pa_nil))))
      pss_nil)
      (pss_cons (ps_if (pw_and (pt_cmpR op_eq (pv 4) (pv 5) (nomark _)) (pw_and1 (pt_cmpR op_eq (pv 6) pe_str (nomark _)))).pt
      (pss_one (ps_raiseO rfl (takes_of rfl rfl rfl rfl) e_BadChange.o iA_BadChange iT_BadChange iF_BadChange (hr.mono (by first | decide | omega)) iB_BadChange pass0 (by rfl) e_BadChange.m (pa_cons (pv 3) (pa_cons pe_str pa_nil))))
      pss_nil)
      (pss_one (ps_set (i := 2) sc_check_change.nd rfl (Or.inl rfl) (pv 5))))))))), fun ds M kk kx hw => by
    obtain ⟨l, ps, cd, rfl, hcd, rfl, h1, q, qx⟩ := hw
    have hsz := sizeLine_eq
    generalize hW : wrongAt l.length (-1) 0 ps = W at q qx
    have eK : (cxOf (L2.CX P w) P w K mg base ["text", "change", "behind", "index", "start", "stop", "put"] "check_change" (defScope s_check_change) f cdv A outer s H E).K = K := rfl
    refine as_start (δ' := [some (.str (tx l)), some cd, none, none, none, none, none]) rfl ?_
    walk_at "tg"
    refine ⟨cd, _, rfl, hcd, ?_⟩
    refine ⟨fun i δ' M' => ∃ (x3 x4 x5 x6 : Option D) (b : Int), wrongAt l.length b i (ps.drop i) = W ∧ M' = [] ∧
      δ' = [some (.str (tx l)), some cd, some (.int b), x3, x4, x5, x6], ⟨none, none, none, none, -1, hW, rfl, rfl⟩, ?_, ?_⟩
    · rintro i d δ' M' hd ⟨x3, x4, x5, x6, b, he, rfl, rfl⟩
      obtain ⟨c, hc, rfl⟩ := enumD_get hd
      obtain ⟨p, hm, hp1, rfl, e3⟩ := wilds_get hc
      rw [e3] at he
      unfold wrongAt at he
      unfold Wild.d
      have fin : ∀ (r : Nat) (A' : AEnds), W = some (i, r) → A'.W = (fun d H' => E (.ref C_BadChange) (some d) H') → A'.xs = kx → AS K (tRaiseO K C_BadChange "number" "reason" E (tCons (tVar 3) (tCons (tC (.str (rsn r))) tNil))) [some (.str (tx l)), some cd, some (.int b), some (.int (i : Nat)), some (.int p.start), some (.int p.stop), some (.str (tx p.put))] [] A' := fun r A' hr hA hx => by
        refine as_raise hA ?_
        walk_at "tg"
        rw [hx]
        exact ⟨_, _, rfl, qx i r hr⟩
      walk_at "tg"
      refine as_seq ?_
      walk_at "tg"
      refine dcase (fun c1 => ?_) (fun c1 => ?_)
      · walk_at "tg"
        refine dcase (fun c2 => ?_) (fun c2 => ?_)
        · walk_at "tg"
          refine dcaseN (fun c3 => ?_) (fun c3 => ?_)
          · exact fin 0 _ (by rw [← he, if_pos (by omega)]) rfl rfl
          · rw [if_neg (by omega)] at he
            walk_at "tg"
            refine as_seq ?_
            walk_at "tg"
            refine dcase (fun c4 => ?_) (fun c4 => ?_)
            · exact fin 1 _ (by rw [← he, if_pos c4]) rfl rfl
            · rw [if_neg c4] at he
              walk_at "tg"
              refine as_seq ?_
              walk_at "tg"
              refine dcase (fun c5 => ?_) (fun c5 => ?_)
              · walk_at "tg"
                refine dcase (fun c6 => ?_) (fun c6 => ?_)
                · have c7 : p.put = [] := by
                    have c6' : tx p.put = tx [] := c6
                    exact tx_inj c6'
                  exact fin 2 _ (by rw [← he, if_pos ⟨c5, c7⟩]) rfl rfl
                · have c7 : p.put ≠ [] := fun z => c6 (by rw [z]; rfl)
                  rw [if_neg (fun z => c7 z.2)] at he
                  walk_at "tg"
                  exact ⟨_, _, _, _, _, he, rfl, rfl⟩
              · rw [if_neg (fun z => c5 z.1)] at he
                walk_at "tg"
                exact ⟨_, _, _, _, _, he, rfl, rfl⟩
        · walk_at "tg"
          exact fin 0 _ (by rw [← he, if_pos (by omega)]) rfl rfl
      · walk_at "tg"
        exact fin 0 _ (by rw [← he, if_pos (by omega)]) rfl rfl
    · rintro δ' M' ⟨x3, x4, x5, x6, b, he, rfl, rfl⟩
      rw [enumD_len, List.length_map, List.drop_length] at he
      walk_at "tg"
      exact q he.symm⟩
end

/-! ### what check_change tells -/
def toldD : Option (Nat × Nat) → D
  | none => .non
  | some (i, r) => .tup [.int (i : Nat), .str (rsn r)]
def W_told : Wt := fun ds M k => ∃ (l : List Nat) (ps : List Wild) (cd : D), ds = [.str (tx l), cd] ∧ seqD cd = some (ps.map Wild.d) ∧ M = [] ∧ l.length ≤ 100000 ∧ k (toldD (wrongAt l.length (-1) 0 ps)) []
section
variable {P : Program} {w : World} {K : PySem.W.Frag} {mg : Str → Option Value} {base : Heap}
theorem c__law_told (T : Top K mg) : Cal P w K mg base 5 "_law_told" (Spc K W_told) [] := cal_of T.d__law_told fun f fd F => by
  obtain ⟨C_BadChange, C_TongueError, e_BadChange, t_TongueError, i1, i2⟩ := T.x_BadChange
  have c_check_change := c_check_changeX (P := P) (w := w) (base := base) T e_BadChange
  exact spc_ok F sc__law_told (fun ds M k h => by obtain ⟨l, ps, cd, rfl, _⟩ := h; rfl) fun cdv A outer s H E hr => ⟨_, (pss_cons (ps_try_as (i := 3) rfl rfl sc__law_told.nd rfl rfl ⟨by rfl, by decide, Or.inl e_BadChange.m⟩ takes0 (fun W pn xe tk _ => (pss_one (ps_set (i := 2) sc__law_told.nd rfl (Or.inl rfl) (pe_cX tk c_check_change hr (by first | decide | omega) (by rfl) (pa_cons (pv 0) (pa_cons (pv 1) pa_nil)))))) (fun a oe cls d pn hz hf => (pss_cons (ps_if (pw_or (pt_not (tru_K (K := K) (pe_callB (call_isX e_BadChange.ec hz hf) (by rfl) T.m_isinstance (by decide +kernel) (pa_cons (pv 3) (pa_cons (pe_glob (v := .ref C_TongueError) (by rfl) t_TongueError rfl) pa_nil))))) (pw_or1 (pt_not (tru_K (K := K) (pe_callB (call_isX e_BadChange.ec hz hf) (by rfl) T.m_isinstance (by decide +kernel) (pa_cons (pv 3) (pa_cons (pe_bltn (v := .ty "ValueError") (by rfl) T.m_ValueError (by decide +kernel) rfl) pa_nil))))))).pt
      (pss_one (ps_ret pe_str))
      pss_nil)
      (pss_one (ps_ret (pe_tup (pa_cons (pe_xf e_BadChange.xf e_BadChange.n1 hz hf (pv 3)) (pa_cons (pe_xf e_BadChange.xf e_BadChange.n2 hz hf (pv 3)) pa_nil))))))))
      (pss_cons (ps_if (pt_cmpR op_notN1 (pv 2) pe_non (nomark _))
      (pss_one (ps_ret pe_str))
      pss_nil)
      (pss_one (ps_ret pe_non)))), fun ds M kk hw => by
    obtain ⟨l, ps, cd, rfl, hcd, rfl, h1, q⟩ := hw
    have hsz := sizeLine_eq
    refine as_start (δ' := [some (.str (tx l)), some cd, none, none]) rfl ?_
    refine as_seq ?_
    refine as_tryX e_BadChange.self ?_
    walk_at "tg"
    refine ⟨[], [], fun d M => d = .non ∧ M = [] ∧ wrongAt l.length (-1) 0 ps = none, fun fs M => M = [] ∧ ∃ i r, wrongAt l.length (-1) 0 ps = some (i, r) ∧ fs = [(("reason" : Str), D.str (rsn r)), (("number" : Str), D.int (i : Nat))], rfl, ⟨l, ps, cd, rfl, hcd, rfl, h1, fun h => ⟨rfl, rfl, h⟩, fun i r h => ⟨rfl, i, r, h, rfl⟩⟩, ?_, ?_⟩
    · rintro _ _ ⟨rfl, rfl, hw⟩
      rw [hw] at q
      show AS K _ ([some (D.str (tx l)), some cd, none, none].set 2 (some D.non)) ([] ++ []) _
      walk_at "tg"
      refine as_seq ?_
      walk_at "tg"
      exact q
    · rintro _ _ a d ⟨rfl, i, r, hw, rfl⟩
      rw [hw] at q
      show AS K (tSeq (tIfS (tOr (tNot (tTruU K (tCB (rIsX K C_BadChange a (.ref C_BadChange) (some d)) (tCons (tVar 3) (tCons (tC (.ref C_TongueError)) tNil))))) (tNot (tTruU K (tCB (rIsX K C_BadChange a (.ref C_BadChange) (some d)) (tCons (tVar 3) (tCons (tC (.ty "ValueError")) tNil)))))) (tRet (tC (.str (Str.ofString "other")))) tNext)
          (tRet (tTup (tCons (tXf a (.ref C_BadChange) (some d) C_BadChange "number" (tVar 3)) (tCons (tXf a (.ref C_BadChange) (some d) C_BadChange "reason" (tVar 3)) tNil))))) [some (D.str (tx l)), some cd, none, some (.ref a)] [(d, MO.xd [("reason", D.str (rsn r)), ("number", D.int i)])] _
      refine as_seq ?_
      walk_at "tg"
      refine ae_refC ?_
      walk_at "tg"
      refine ac_isXref [] [] rfl i1 ?_
      walk_at "tg"
      refine ac_isXty [] [] rfl i2 ?_
      walk_at "tg"
      refine ae_xf ?_
      refine ae_var rfl ⟨rfl, [("reason", D.str (rsn r)), ("number", D.int (i : Nat))], _, [], [], rfl, rfl, ?_⟩
      walk_at "tg"
      refine ae_forget ?_
      refine ae_xf ?_
      refine ae_var rfl ⟨rfl, [("reason", D.str (rsn r)), ("number", D.int (i : Nat))], _, [], [], rfl, rfl, ?_⟩
      walk_at "tg"
      exact q⟩
end

/-! ### the drawn pieces -/
/-- drawn pieces are small -/
def SmallW (ps : List Wild) : Prop := ps.length ≤ 6 ∧ ∀ p ∈ ps, p.start.natAbs < 1000 ∧ p.stop.natAbs < 1000 ∧ p.put.length ≤ 1 ∧ ∀ c ∈ p.put, c < 128
def W_wild : Wt := fun ds M k => ∃ (a : Addr) (p : Pool) (n : Nat), ds = [.ref a, .int n] ∧ M = [(a, .lst p.d)] ∧ p.Ok ∧ n ≤ 600 ∧ ∀ (ps : List Wild) (p' : Pool), p'.Ok → SmallW ps → k (.lst (ps.map Wild.d)) [(a, .lst p'.d)]
theorem triple_at {i : Int} {x y z : D} {q : D → Prop} (h0 : 0 ≤ i) (h1 : i < 3) (hx : q x) (hy : q y) (hz : q z) : ∃ u, atI [x, y, z] i = some u ∧ q u := by
  have h : i = 0 ∨ i = 1 ∨ i = 2 := by omega
  rcases h with rfl | rfl | rfl
  · exact ⟨x, rfl, hx⟩
  · exact ⟨y, rfl, hy⟩
  · exact ⟨z, rfl, hz⟩
theorem mul_small {a b : Int} (a0 : 0 ≤ a) (a1 : a < 2) (b0 : 0 ≤ b) (n : Int) (b1 : b < n) : 0 ≤ a * b ∧ a * b < n := by
  have h : a = 0 ∨ a = 1 := by omega
  rcases h with rfl | rfl
  · rw [Int.zero_mul]; omega
  · rw [Int.one_mul]; omega
section
variable {P : Program} {w : World} {K : PySem.W.Frag} {mg : Str → Option Value} {base : Heap}
theorem c__law_wild (T : Top K mg) : Cal P w K mg base 3 "_law_wild" (Spc K W_wild) [] := cal_of T.d__law_wild fun f fd F => by
  have c__law_take := c__law_take (P := P) (w := w) (base := base) T 2
  exact spc_ok F sc__law_wild (fun ds M k h => by obtain ⟨a, p, n, rfl, _⟩ := h; rfl) fun cdv A outer s H E hr => ⟨_, (pss_cons (ps_set (i := 2) sc__law_wild.nd rfl (Or.inl rfl) (pe_lstM (pe_lst pa_nil)))
      (pss_cons (ps_set (i := 3) sc__law_wild.nd rfl (Or.inl rfl) pe_int)
      (pss_cons (ps_for PassesOwn.never rfl (pi_range1 (by rfl) T.m_range (pa_cons (pe_c c__law_take hr (by first | decide | omega) (by rfl) (pa_cons (pv 0) (pa_cons pe_int pa_nil))) pa_nil)) (pg_name (i := 4) sc__law_wild.nd rfl (Or.inl rfl))
      (pss_cons (ps_set (i := 5) sc__law_wild.nd rfl (Or.inl rfl) (pe_op op_sub (pe_op (add_K (K := K)) (pv 3) (pe_c c__law_take hr (by first | decide | omega) (by rfl) (pa_cons (pv 0) (pa_cons pe_int pa_nil)))) (pe_op op_mul (pe_c c__law_take hr (by first | decide | omega) (by rfl) (pa_cons (pv 0) (pa_cons pe_int pa_nil))) (pe_c c__law_take hr (by first | decide | omega) (by rfl) (pa_cons (pv 0) (pa_cons pe_int pa_nil))))))
      (pss_cons (ps_set (i := 6) sc__law_wild.nd rfl (Or.inl rfl) (pe_op op_sub (pe_op (add_K (K := K)) (pv 5) (pe_c c__law_take hr (by first | decide | omega) (by rfl) (pa_cons (pv 0) (pa_cons pe_int pa_nil)))) (pe_op op_mul (pe_c c__law_take hr (by first | decide | omega) (by rfl) (pa_cons (pv 0) (pa_cons pe_int pa_nil))) (pe_c c__law_take hr (by first | decide | omega) (by rfl) (pa_cons (pv 0) (pa_cons pe_int pa_nil))))))
      (pss_cons (ps_if (pt_cmpR op_eq (pe_c c__law_take hr (by first | decide | omega) (by rfl) (pa_cons (pv 0) (pa_cons pe_int pa_nil))) pe_int (nomark _))
      (pss_one (ps_set (i := 6) sc__law_wild.nd rfl (Or.inl rfl) (pe_op op_sub (pe_op (add_K (K := K)) (pv 1) (pe_c c__law_take hr (by first | decide | omega) (by rfl) (pa_cons (pv 0) (pa_cons pe_int pa_nil)))) pe_int)))
      pss_nil)
      (pss_cons (ps_expr (app_K (K := K) (pe_bm PySem.F.plainAttrs_list PySem.F.slot_list_append PySem.F.type_list_append mt_append (pv 2) (pa_cons (pe_tup (pa_cons (pv 5) (pa_cons (pv 6) (pa_cons (pe_ix (ix_K (K := K)) (pe_tup (pa_cons pe_str (pa_cons pe_str (pa_cons pe_str pa_nil)))) (pe_c c__law_take hr (by first | decide | omega) (by rfl) (pa_cons (pv 0) (pa_cons pe_int pa_nil))) (fun _ _ => rfl)) pa_nil)))) pa_nil))))
      (pss_one (ps_set (i := 3) sc__law_wild.nd rfl (Or.inl rfl) (pe_op (add_K (K := K)) (pv 6) (pe_c c__law_take hr (by first | decide | omega) (by rfl) (pa_cons (pv 0) (pa_cons pe_int pa_nil)))))))))))
      (pss_one (ps_ret (pv 2)))))), fun ds M kk hw => by
    obtain ⟨a, p, n, rfl, rfl, ok, hn, q⟩ := hw
    have hsz := sizeLine_eq
    refine as_start (δ' := [some (.ref a), some (.int n), none, none, none, none, none]) rfl ?_
    walk_at "tg"
    intro ar
    walk_at "tg"
    walk_at "take"
    rintro _ _ ⟨r, p1, ok1, r0, r1, rfl, rfl⟩
    walk_at "tg"
    refine ⟨by omega, by omega, fun i δ' M' => ∃ (x1 x2 x3 : Option D) (p' : Pool) (ps : List Wild) (at_ : Int), p'.Ok ∧ ps.length ≤ i ∧ (∀ p ∈ ps, p.start.natAbs < 1000 ∧ p.stop.natAbs < 1000 ∧ p.put.length ≤ 1 ∧ ∀ c ∈ p.put, c < 128) ∧ -(10 * (i : Int)) ≤ at_ ∧ at_ ≤ 610 + 10 * i ∧
      δ' = [some (.ref a), some (.int n), some (.ref ar), some (.int at_), x1, x2, x3] ∧ M' = [(a, .lst p'.d), (ar, .lst (ps.map Wild.d))],
      ⟨none, none, none, p1, [], 0, ok1, Nat.le_refl _, (fun _ h => nomatch h), by decide, by decide, rfl, rfl⟩, ?_, ?_⟩
    · rintro i d δ' M' hd ⟨x1, x2, x3, p2, ps, at_, ok2, hlen, hput, hat, hat2, rfl, rfl⟩
      obtain ⟨hi, rfl⟩ := rng_get hd
      walk_at "tg"
      walk_at "take"
      rintro _ _ ⟨a1, p3, ok3, a10, a11, rfl, rfl⟩
      walk_at "tg"
      walk_at "take"
      rintro _ _ ⟨a2, p4, ok4, a20, a21, rfl, rfl⟩
      walk_at "tg"
      walk_at "take"
      rintro _ _ ⟨a3, p5, ok5, a30, a31, rfl, rfl⟩
      walk_at "tg"
      obtain ⟨m1, m2⟩ := mul_small a20 a21 a30 4 a31
      generalize a2 * a3 = m at m1 m2 ⊢
      walk_at "tg"
      walk_at "take"
      rintro _ _ ⟨b1, p6, ok6, b10, b11, rfl, rfl⟩
      walk_at "tg"
      walk_at "take"
      rintro _ _ ⟨b2, p7, ok7, b20, b21, rfl, rfl⟩
      walk_at "tg"
      walk_at "take"
      rintro _ _ ⟨b3, p8, ok8, b30, b31, rfl, rfl⟩
      walk_at "tg"
      obtain ⟨m3, m4⟩ := mul_small b20 b21 b30 2 b31
      generalize b2 * b3 = m' at m3 m4 ⊢
      walk_at "tg"
      generalize hs1 : at_ + a1 - m = s1
      generalize hs2 : s1 + b1 - m' = s2
      refine as_cut (fun δ' M' => ∃ (st : Int) (p' : Pool), p'.Ok ∧ -(10 * (i : Int)) - 4 ≤ st ∧ st ≤ 617 + 10 * i ∧ δ' = [some (.ref a), some (.int n), some (.ref ar), some (.int at_), some (.int (0 + (i : Nat))), some (.int s1), some (.int st)] ∧ M' = [(a, .lst p'.d), (ar, .lst (ps.map Wild.d))]) ?_ ?_
      · walk_at "tg"
        walk_at "take"
        rintro _ _ ⟨c1, p9, ok9, c10, c11, rfl, rfl⟩
        walk_at "tg"
        refine dcase (fun c => ?_) (fun c => ?_)
        · walk_at "tg"
          walk_at "take"
          rintro _ _ ⟨c2, p10, ok10, c20, c21, rfl, rfl⟩
          walk_at "tg"
          exact ⟨_, p10, ok10, by omega, by omega, rfl, rfl⟩
        · walk_at "tg"
          exact ⟨_, p9, ok9, by omega, by omega, rfl, rfl⟩
      · rintro δ' M' ⟨st, p9, ok9, h1, h2, rfl, rfl⟩
        walk_at "tg"
        walk_at "take"
        rintro _ _ ⟨c2, p10, ok10, c20, c21, rfl, rfl⟩
        walk_at "tg"
        obtain ⟨z, hz, pt, hpt, hpc, rfl⟩ := triple_at (i := c2) (x := .str (Str.ofString "")) (y := .str (Str.ofString "y")) (z := .str (Str.ofString "")) (q := fun z => ∃ b : List Nat, b.length ≤ 1 ∧ (∀ c ∈ b, c < 128) ∧ z = .str (tx b)) c20 c21 ⟨[], by decide, by decide, rfl⟩ ⟨[121], by decide, by decide, rfl⟩ ⟨[], by decide, by decide, rfl⟩
        refine aix_T hz ?_
        walk_at "tg"
        refine app1 (by rw [List.length_map]; omega) ?_
        walk_at "tg"
        walk_at "take"
        rintro _ _ ⟨c3, p11, ok11, c30, c31, rfl, rfl⟩
        walk_at "tg"
        refine ⟨_, _, _, p11, ps ++ [⟨s1, st, pt⟩], st + c3, ok11, by rw [List.length_append]; show ps.length + 1 ≤ i + 1; omega, fun q hq => ?_, by omega, by omega, rfl, ?_⟩
        · rcases List.mem_append.mp hq with hq | hq
          · exact hput q hq
          · have e : q = ⟨s1, st, pt⟩ := by simpa using hq
            subst e
            exact ⟨by show s1.natAbs < 1000; omega, by show st.natAbs < 1000; omega, hpt, hpc⟩
        · rw [List.map_append]
          rfl
    · rintro δ' M' ⟨x1, x2, x3, p2, ps, at_, ok2, hlen, hput, hat, hat2, rfl, rfl⟩
      rw [rng_len] at hlen
      refine frz1 (s := 2) rfl ?_
      walk_at "tg"
      exact q ps p2 ok2 ⟨by omega, hput⟩⟩
end

/-! ### the law -/
def W_law : Wt := fun ds M k => ∃ ns : List Int, ds = [.lsk (ns.map D.int)] ∧ M = [] ∧ ns.length ≤ 63 ∧ ∀ M', k (.bl true) M'
theorem law_asks {K : PySem.W.Frag} {H : Hp} {a : Addr} {ns : List Int} (hS : SqL K H a (ns.map V.int)) (hl : ns.length ≤ 63) : Spc K W_law [.ref a] H (fun v _ => v = .bl true) (fun _ _ _ => False) := by
  refine ⟨H, [.lsk (ns.map D.int)], [], fun d _ => d = .bl true, Reps.one (rep_mk_lsk hS Reps.ofInts), ⟨Same.refl H, (fun p hp => nomatch hp), List.nodup_nil⟩, ⟨ns, rfl, rfl, hl, fun M' => rfl⟩, ?_⟩
  rintro d M' v G' H' rfl _ _ r
  exact rep_bl r
def poolK (a : Addr) : D → Mu → Prop := fun d M => ∃ p : Pool, p.Ok ∧ d = .ref a ∧ M = [(a, .lst p.d)]
def sizeK (a : Addr) : D → Mu → Prop := fun d M => ∃ (r : Nat) (p' : Pool), p'.Ok ∧ r < 600 ∧ d = .int r ∧ M = [(a, .lst p'.d)]
def changeK (a : Addr) (l : List Nat) : D → Mu → Prop := fun d M => ∃ (ps : List Piece) (p' : Pool), p'.Ok ∧ Chg l.length 0 ps ∧ ps.length ≤ 6 ∧ (∀ q ∈ ps, q.put.length ≤ 3) ∧ (∀ q ∈ ps, ∀ c ∈ q.put, c < 128) ∧ d = .lst (ps.map Piece.d) ∧ M = [(a, .lst p'.d)]
theorem puts_le : ∀ {ps : List Piece}, (∀ q ∈ ps, q.put.length ≤ 3) → puts ps ≤ 3 * ps.length
  | [], _ => by simp [puts]
  | p :: r, h => by
    have e2 : puts (p :: r) = p.put.length + puts r := by simp [puts]
    have h1 := puts_le (ps := r) fun q hq => h q (List.mem_cons_of_mem _ hq)
    have h2 := h p (List.mem_cons_self ..)
    rw [e2, List.length_cons]
    omega

/-! ### what is shown of a change and of drawn pieces -/
theorem sho_wilds : ∀ (ps : List Wild), (∀ p ∈ ps, p.start.natAbs < 1000 ∧ p.stop.natAbs < 1000 ∧ ∀ c ∈ p.put, c < 128) → Shos (ps.map Wild.d)
  | [], _ => by
    show Shos []
    unfold Shos
    exact True.intro
  | p :: r, h => by
    obtain ⟨h1, h2, h4⟩ := h p (List.mem_cons_self ..)
    show Shos (Wild.d p :: r.map Wild.d)
    unfold Shos
    refine ⟨?_, sho_wilds r fun q hq => h q (List.mem_cons_of_mem _ hq)⟩
    unfold Wild.d Sho Shos Shos Shos Shos Sho
    refine ⟨by omega, by omega, ?_, True.intro⟩
    rw [tx_cps]
    exact h4
theorem wt_wilds : ∀ (ps : List Wild), (∀ p ∈ ps, p.put.length ≤ 3) → wts (ps.map Wild.d) ≤ 9000 * ps.length
  | [], _ => by
    show wts [] ≤ _
    unfold wts
    exact Nat.zero_le _
  | p :: r, h => by
    have h3 := h p (List.mem_cons_self ..)
    have ih := wt_wilds r fun q hq => h q (List.mem_cons_of_mem _ hq)
    show wts (Wild.d p :: r.map Wild.d) ≤ _
    unfold wts
    have e : wt (Wild.d p) ≤ 8100 := by
      unfold Wild.d wt wts wts wts wts wt
      rw [tx_len]
      omega
    rw [List.length_cons]
    omega
theorem dep_wilds : ∀ (ps : List Wild), PyData.depthAll (toPys (ps.map Wild.d)) ≤ 1
  | [] => Nat.zero_le _
  | p :: r => by
    have ih := dep_wilds r
    show max (PyData.depth (toPy (Wild.d p))) (PyData.depthAll (toPys (r.map Wild.d))) ≤ 1
    have e : PyData.depth (toPy (Wild.d p)) = 1 := by
      simp [Wild.d, toPy, toPys, PyData.depth, PyData.depthAll]
    rw [e]
    omega
def keptD (l : List Nat) (ps : List Piece) (ws : List Wild) : List D := [.str (tx l), .lst (ps.map Piece.d), .lst (ws.map Wild.d)]
theorem kept_repr {K : PySem.W.Frag} {M : Mu} {k : D → Mu → Prop} {l : List Nat} {ps : List Piece} {ws : List Wild} (hl : l.length ≤ 600) (hc : ∀ c ∈ l, c < 128) (hn : l.length ≤ 600) (hch : Chg l.length 0 ps) (h6 : ps.length ≤ 6) (h3 : ∀ q ∈ ps, q.put.length ≤ 3) (h128 : ∀ q ∈ ps, ∀ c ∈ q.put, c < 128) (hw : SmallW ws)
    (q : k (.str (toPy (.tup (keptD l ps ws))).shown) M) : AC K (rRepr K) [.tup (keptD l ps ws)] M k := by
  have bound : ∀ {ps : List Piece} {lo n : Nat}, Chg n lo ps → ∀ p ∈ ps, p.start ≤ n ∧ p.stop ≤ n := by
    intro ps
    induction ps with
    | nil => intro lo n _ p hp; cases hp
    | cons p r ih =>
      intro lo n h q hq
      obtain ⟨g1, g2, g3, _, g5⟩ := h
      rcases List.mem_cons.mp hq with e | e
      · subst e
        exact ⟨by omega, g3⟩
      · exact ih g5 q e
  have hb := bound hch
  have pw : ∀ p ∈ ps.map Piece.w, p.start.natAbs < 1000 ∧ p.stop.natAbs < 1000 ∧ ∀ c ∈ p.put, c < 128 := fun p hp => by
    obtain ⟨q, hq, rfl⟩ := List.mem_map.mp hp
    obtain ⟨b1, b2⟩ := hb q hq
    exact ⟨by show ((q.start : Int)).natAbs < 1000; omega, by show ((q.stop : Int)).natAbs < 1000; omega, h128 q hq⟩
  have s1 := sho_wilds _ pw
  have s2 := sho_wilds ws fun p hp => by
    obtain ⟨a1, a2, _, a4⟩ := hw.2 p hp
    exact ⟨a1, a2, a4⟩
  have w1 := wt_wilds (ps.map Piece.w) fun p hp => by
    obtain ⟨q, hq, rfl⟩ := List.mem_map.mp hp
    exact h3 q hq
  have w2 := wt_wilds ws fun p hp => by
    obtain ⟨_, _, a3, _⟩ := hw.2 p hp
    omega
  have d1 := dep_wilds (ps.map Piece.w)
  have d2 := dep_wilds ws
  rw [wilds] at s1 w1 d1
  rw [List.length_map] at w1
  have hw6 := hw.1
  refine ac_repr ?_ ?_ ?_ q
  · unfold keptD Sho Shos Shos Shos Shos Sho
    exact ⟨by rw [tx_cps]; exact hc, s1, s2, True.intro⟩
  · unfold keptD wt wts wts wts wts wt
    rw [tx_len]
    omega
  · show max (PyData.depth (toPy (.str (tx l)))) (max (PyData.depth (toPy (.lst (ps.map Piece.d)))) (max (PyData.depth (toPy (.lst (ws.map Wild.d)))) 0)) + 1 ≤ 40
    have e1 : PyData.depth (toPy (.str (tx l))) = 0 := by simp [toPy, PyData.depth]
    have e2 : PyData.depth (toPy (.lst (ps.map Piece.d))) = PyData.depthAll (toPys (ps.map Piece.d)) + 1 := by simp [toPy, PyData.depth]
    have e3 : PyData.depth (toPy (.lst (ws.map Wild.d))) = PyData.depthAll (toPys (ws.map Wild.d)) + 1 := by simp [toPy, PyData.depth]
    rw [e1, e2, e3]
    omega
abbrev lawLevel : Nat := 6
section
variable {P : Program} {w : World} {K : PySem.W.Frag} {mg : Str → Option Value} {base : Heap}
theorem run_law (T : Top K mg) {f : Addr} {fd : FuncData} (F : Fun K "law" "law" s_law f fd) (hb : ∀ (s : Shared) (u : Value), BindsTo s fd ⟨[u], []⟩ [("script", u)]) {a0 : Addr} {ns : List Int} (hl : ns.length ≤ 63) {s : Shared} {H : Hp} (hS : SqL K H a0 (ns.map V.int)) (e0 : Env0 P w K mg base callerA [] s H) :
    codeAny (model P w) callerA (.call (.ref f) ⟨[.ref a0], []⟩) (CR CX0 [] P w H s (fun v _ => v = .bl true) fun _ _ _ => False) s := by
  have c__law_pool := c__law_pool (P := P) (w := w) (base := base) T
  have c__law_text := c__law_text (P := P) (w := w) (base := base) T
  have c__law_size := c__law_size (P := P) (w := w) (base := base) T
  have c__law_change := c__law_change (P := P) (w := w) (base := base) T
  have c__law_wild := c__law_wild (P := P) (w := w) (base := base) T
  have c__law_after := c__law_after (P := P) (w := w) (base := base) T
  have c__law_same := c__law_same (P := P) (w := w) (base := base) T 3
  have c__law_told := c__law_told (P := P) (w := w) (base := base) T
  have c__law_wrong := c__law_wrong (P := P) (w := w) (base := base) T
  have c_apply_change := c_apply_change (P := P) (w := w) (base := base) T
  have hr0 : Room (lawLevel + 1) callerA := ⟨rfl, by decide, by decide⟩
  refine run_at (ps := ["script"]) (vs := [.ref a0]) (us := [.ref a0]) F sc_law rfl hr0 e0 (hb s _) (.cons rfl .nil) fun cdv hr => ?_
  have hg : ((callerA.deeper (envOfC "law" (defScope s_law) s.heap.objs.size f cdv)).guards) = some [] := rfl
  have hu : (callerA.deeper (envOfC "law" (defScope s_law) s.heap.objs.size f cdv)).units + 64 < cLine := by show callerA.units + 3 + 64 < cLine; decide
  refine ⟨_, (pss_cons (ps_set (i := 1) sc_law.nd rfl (Or.inl rfl) (pe_c c__law_pool hr (by first | decide | omega) (by rfl) (pa_cons (pv 0) pa_nil)))
      (pss_cons (ps_set (i := 2) sc_law.nd rfl (Or.inl rfl) (pe_c c__law_text hr (by first | decide | omega) (by rfl) (pa_cons (pv 1) (pa_cons (pe_c c__law_size hr (by first | decide | omega) (by rfl) (pa_cons (pv 1) pa_nil)) pa_nil))))
      (pss_cons (ps_set (i := 3) sc_law.nd rfl (Or.inl rfl) (pe_c c__law_change hr (by first | decide | omega) (by rfl) (pa_cons (pv 1) (pa_cons (pv 2) pa_nil))))
      (pss_cons (ps_set (i := 4) sc_law.nd rfl (Or.inl rfl) (pe_c c__law_wild hr (by first | decide | omega) (by rfl) (pa_cons (pv 1) (pa_cons (pe_callB (len_K (K := K)) (by rfl) T.m_len (by decide +kernel) (pa_cons (pv 2) pa_nil)) pa_nil))))
      (pss_cons (ps_set (i := 5) sc_law.nd rfl (Or.inl rfl) (pe_callB (call_reprD hg hu) (by rfl) T.m_repr (by decide +kernel) (pa_cons (pe_tup (pa_cons (pv 2) (pa_cons (pv 3) (pa_cons (pv 4) pa_nil)))) pa_nil)))
      (pss_cons (ps_set (i := 6) sc_law.nd rfl (Or.inl rfl) (pe_c c__law_after hr (by first | decide | omega) (by rfl) (pa_cons (pv 2) (pa_cons (pv 3) pa_nil))))
      (pss_cons (ps_if (pw_or (pt_cmpR op_notN1 (pe_c c__law_told hr (by first | decide | omega) (by rfl) (pa_cons (pv 2) (pa_cons (pv 3) pa_nil))) pe_non (nomark _)) (pw_or1 (pt_cmpR op_notN1 (pe_c c__law_told hr (by first | decide | omega) (by rfl) (pa_cons (pv 2) (pa_cons (pe_callTy (tup_K (K := K)) (by rfl) T.m_tuple (by decide +kernel) (pa_cons (pv 3) pa_nil)) pa_nil))) pe_non (nomark _)))).pt
      (pss_one (ps_ret pe_bl))
      pss_nil)
      (pss_cons (ps_if (pw_or (pt_not (tru_K (K := K) (pe_c c__law_same hr (by first | decide | omega) (by rfl) (pa_cons (pe_c c_apply_change hr (by first | decide | omega) (by rfl) (pa_cons (pv 2) (pa_cons (pv 3) pa_nil))) (pa_cons (pv 6) pa_nil))))) (pw_or1 (pt_not (tru_K (K := K) (pe_c c__law_same hr (by first | decide | omega) (by rfl) (pa_cons (pe_c c_apply_change hr (by first | decide | omega) (by rfl) (pa_cons (pv 2) (pa_cons (pe_callTy (tup_K (K := K)) (by rfl) T.m_tuple (by decide +kernel) (pa_cons (pv 3) pa_nil)) pa_nil))) (pa_cons (pv 6) pa_nil))))))).pt
      (pss_one (ps_ret pe_bl))
      pss_nil)
      (pss_cons (ps_if (pt_not (tru_K (K := K) (pe_c c__law_same hr (by first | decide | omega) (by rfl) (pa_cons (pe_c c__law_told hr (by first | decide | omega) (by rfl) (pa_cons (pv 2) (pa_cons (pv 4) pa_nil))) (pa_cons (pe_c c__law_wrong hr (by first | decide | omega) (by rfl) (pa_cons (pe_callB (len_K (K := K)) (by rfl) T.m_len (by decide +kernel) (pa_cons (pv 2) pa_nil)) (pa_cons (pv 4) pa_nil))) pa_nil)))))
      (pss_one (ps_ret pe_bl))
      pss_nil)
      (pss_one (ps_ret (pe_cmpR op_eq (pe_callB (call_reprD hg hu) (by rfl) T.m_repr (by decide +kernel) (pa_cons (pe_tup (pa_cons (pv 2) (pa_cons (pv 3) (pa_cons (pv 4) pa_nil)))) pa_nil)) (pv 5) (nomark _))))))))))))), ?_⟩
  refine (?_ : AS K _ _ [] { nx := fun d _ => False, rt := fun d _ => d = .bl true }) _ H H _ (relS_start (ds := [.lsk (ns.map D.int)]) (Reps.one (rep_mk_lsk hS Reps.ofInts))) ⟨Same.refl H, (fun p hp => nomatch hp), List.nodup_nil⟩ ⟨?_, ?_, ?_, ?_, ?_⟩
  · have hsz := sizeLine_eq
    refine as_start (δ' := [some (.lsk (ns.map D.int)), none, none, none, none, none, none]) rfl ?_
    walk_at "tg"
    refine ⟨[], [], fun d M => ∃ (a : Addr) (p : Pool), p.Ok ∧ d = .ref a ∧ M = [(a, .lst p.d)], rfl, ⟨ns, rfl, rfl, hl, fun a p ok => ⟨a, p, ok, rfl, rfl⟩⟩, ?_⟩
    rintro _ _ ⟨a, p0, ok0, rfl, rfl⟩
    walk_at "tg"
    refine ⟨[_], _, sizeK a, rfl, ⟨a, p0, rfl, rfl, ok0, fun r p' ok' h => ⟨r, p', ok', h, rfl, rfl⟩⟩, ?_⟩
    rintro _ _ ⟨n, p1, ok1, hn, rfl, rfl⟩
    walk_at "tg"
    refine ⟨[_], _, textK a n, rfl, ⟨a, p1, n, rfl, rfl, ok1, by omega, fun l p' ok' h hc => ⟨l, p', ok', h, hc, rfl, rfl⟩⟩, ?_⟩
    rintro _ _ ⟨l, p2, ok2, hln, hlc, rfl, rfl⟩
    walk_at "tg"
    refine ⟨[_], _, changeK a l, rfl, ⟨a, p2, l, rfl, rfl, ok2, by omega, fun ps p' ok' h1 h2 h3 h4 => ⟨ps, p', ok', h1, h2, h3, h4, rfl, rfl⟩⟩, ?_⟩
    rintro _ _ ⟨ps, p3, ok3, hch, hps, hput, hputc, rfl, rfl⟩
    have hpt := puts_le hput
    have sm : Small l ps := ⟨by omega, by omega, by omega, hch⟩
    have hnone : wrongAt l.length (-1) 0 (ps.map Piece.w) = none := wrong_none hch (by decide)
    walk_at "tg"
    refine ⟨[_], _, fun d M => ∃ (ws : List Wild) (p' : Pool), p'.Ok ∧ SmallW ws ∧ d = .lst (ws.map Wild.d) ∧ M = [(a, .lst p'.d)], rfl, ⟨a, p3, _, rfl, rfl, ok3, by omega, fun ws p' ok' h => ⟨ws, p', ok', h, rfl, rfl⟩⟩, ?_⟩
    rintro _ _ ⟨ws, p4, ok4, hws, rfl, rfl⟩
    walk_at "tg"
    refine kept_repr (l := l) (ps := ps) (ws := ws) (by omega) hlc (by omega) hch hps hput hputc hws ?_
    walk_at "tg"
    refine ⟨[], _, isK _, rfl, ⟨l, ps, rfl, rfl, sm, ⟨rfl, rfl⟩⟩, ?_⟩
    rintro _ _ ⟨rfl, rfl⟩
    walk_at "tg"
    refine as_seq ?_
    walk_at "tg"
    have hws' : ws.length ≤ 6 := hws.1
    refine ⟨[], _, isK _, rfl, ⟨l, ps.map Piece.w, _, rfl, by rw [wilds]; rfl, rfl, by omega, ⟨rfl, rfl⟩⟩, ?_⟩
    rintro _ _ ⟨rfl, rfl⟩
    rw [hnone]
    unfold toldD
    walk_at "tg"
    refine ⟨[], _, isK _, rfl, ⟨l, ps.map Piece.w, _, rfl, by rw [wilds]; rfl, rfl, by omega, ⟨rfl, rfl⟩⟩, ?_⟩
    rintro _ _ ⟨rfl, rfl⟩
    rw [hnone]
    unfold toldD
    walk_at "tg"
    refine as_seq ?_
    walk_at "tg"
    refine ⟨[], _, isK _, rfl, ⟨l, ps, _, rfl, rfl, rfl, sm, ⟨rfl, rfl⟩⟩, ?_⟩
    rintro _ _ ⟨rfl, rfl⟩
    walk_at "tg"
    refine ⟨[], _, isK (.bl true), rfl, ⟨2, _, rfl, rfl, rfl, True.intro, ⟨rfl, rfl⟩⟩, ?_⟩
    rintro _ _ ⟨rfl, rfl⟩
    walk_at "tg"
    refine ⟨[], _, isK _, rfl, ⟨l, ps, _, rfl, rfl, rfl, sm, ⟨rfl, rfl⟩⟩, ?_⟩
    rintro _ _ ⟨rfl, rfl⟩
    walk_at "tg"
    refine ⟨[], _, isK (.bl true), rfl, ⟨2, _, rfl, rfl, rfl, True.intro, ⟨rfl, rfl⟩⟩, ?_⟩
    rintro _ _ ⟨rfl, rfl⟩
    walk_at "tg"
    refine as_seq ?_
    walk_at "tg"
    refine ⟨[], _, isK _, rfl, ⟨l, ws, _, rfl, rfl, rfl, by omega, ⟨rfl, rfl⟩⟩, ?_⟩
    rintro _ _ ⟨rfl, rfl⟩
    walk_at "tg"
    refine ⟨[], _, isK (toldD (wrongAt l.length (-1) 0 ws)), rfl, ⟨l.length, ws, rfl, rfl, by omega, ⟨by generalize wrongAt l.length (-1) 0 ws = o; cases o <;> rfl, rfl⟩⟩, ?_⟩
    rintro _ _ ⟨rfl, rfl⟩
    walk_at "tg"
    have hdep : ∀ o : Option (Nat × Nat), Dep 2 (toldD o) := fun o => by
      cases o with
      | none => exact True.intro
      | some p => exact ⟨by show 2 ≤ 100000; decide, fun x hx => by
          have hx' : x = .int (p.1 : Nat) ∨ x = .str (rsn p.2) := by simpa using hx
          rcases hx' with rfl | rfl <;> exact True.intro⟩
    refine ⟨[], _, isK (.bl true), rfl, ⟨2, _, rfl, rfl, rfl, hdep _, ⟨rfl, rfl⟩⟩, ?_⟩
    rintro _ _ ⟨rfl, rfl⟩
    walk_at "tg"
    refine kept_repr (l := l) (ps := ps) (ws := ws) (by omega) hlc (by omega) hch hps hput hputc hws ?_
    walk_at "tg"
    exact congrArg D.bl (decide_eq_true rfl)
  · intro δ' M' σ' G' H' a
    exact a.elim
  · rintro d M' v G' H' rfl s' st' rv
    exact rep_bl rv
  · intro δ' M' σ' G' H' a
    exact a.elim
  · intro δ' M' σ' G' H' a
    exact a.elim
  · intro fs M' d G' H' a
    exact a.elim
end

theorem all_mk {l : PySem.W.OpenLaw} {w : World} {K : PySem.W.Frag} {h : Heap} {mg : Str → Option Value} {fa f0 f1 f2 f3 f4 f5 f6 f7 f8 f9 f10 f11 f12 f13 f14 f15 : Addr} (X : K.In h) (G : h.Ns mainGlobals mg) (hfa : mg "law" = some (.ref fa))
    {od0 an0 od1 an1 od2 an2 od3 an3 od4 an4 od5 an5 od6 an6 od7 an7 od8 an8 od9 an9 od10 an10 od11 an11 od12 an12 od13 an13 od14 an14 od15 an15 : Option Addr} {sl0 sl1 sl2 sl3 sl4 sl5 sl6 sl7 sl8 sl9 sl10 sl11 sl12 sl13 sl14 sl15 : Array (Option Value)} {oc0 kV0 dc0 pm0 cd0 ct0 oc1 kV1 dc1 pm1 cd1 ct1 oc2 kV2 dc2 pm2 cd2 ct2 oc3 kV3 dc3 pm3 cd3 ct3 oc4 kV4 dc4 pm4 cd4 ct4 oc5 kV5 dc5 pm5 cd5 ct5 oc6 kV6 dc6 pm6 cd6 ct6 oc7 kV7 dc7 pm7 cd7 ct7 oc8 kV8 dc8 pm8 cd8 ct8 oc9 kV9 dc9 pm9 cd9 ct9 oc10 kV10 dc10 pm10 cd10 ct10 oc11 kV11 dc11 pm11 cd11 ct11 oc12 kV12 dc12 pm12 cd12 ct12 oc13 kV13 dc13 pm13 cd13 ct13 oc14 kV14 dc14 pm14 cd14 ct14 oc15 kV15 dc15 pm15 cd15 ct15 : Value}
    {CT : Addr} {C0 N0 fI0 : Addr} {nm0 q0 : Str} {bs0 sub0 : List Value} {sn0 : List Str} {ab0 : Bool} {col0 : Option Bool} {dd0 odI0 anI0 : Option Addr} {jj0_0 jj1_0 jj2_0 jj3_0 jj5_0 : Option Value} {slI0 : Array (Option Value)} {ocI0 kVI0 dcI0 pmI0 cdI0 ctI0 : Value}
    (a0 : PySem.W.nsIn K mainGlobals "check_change" = some (some (.ref f0))) (l0 : K.lookup f0 = some ⟨oc0, od0, .func (PySem.W.fnOf "check_change" "check_change" (defArgs s_check_change) (defBody s_check_change) (defScope s_check_change) .none kV0 dc0 pm0 an0 cd0 ct0), sl0⟩) (c0 : PySem.W.codeIn K cd0 "check_change" = true) (k0 : PySem.W.keepIn K (.ref f0) = true)
    (a1 : PySem.W.nsIn K mainGlobals "apply_change" = some (some (.ref f1))) (l1 : K.lookup f1 = some ⟨oc1, od1, .func (PySem.W.fnOf "apply_change" "apply_change" (defArgs s_apply_change) (defBody s_apply_change) (defScope s_apply_change) .none kV1 dc1 pm1 an1 cd1 ct1), sl1⟩) (c1 : PySem.W.codeIn K cd1 "apply_change" = true) (k1 : PySem.W.keepIn K (.ref f1) = true)
    (a2 : PySem.W.nsIn K mainGlobals "_law_pool" = some (some (.ref f2))) (l2 : K.lookup f2 = some ⟨oc2, od2, .func (PySem.W.fnOf "_law_pool" "_law_pool" (defArgs s__law_pool) (defBody s__law_pool) (defScope s__law_pool) .none kV2 dc2 pm2 an2 cd2 ct2), sl2⟩) (c2 : PySem.W.codeIn K cd2 "_law_pool" = true) (k2 : PySem.W.keepIn K (.ref f2) = true)
    (a3 : PySem.W.nsIn K mainGlobals "_law_take" = some (some (.ref f3))) (l3 : K.lookup f3 = some ⟨oc3, od3, .func (PySem.W.fnOf "_law_take" "_law_take" (defArgs s__law_take) (defBody s__law_take) (defScope s__law_take) .none kV3 dc3 pm3 an3 cd3 ct3), sl3⟩) (c3 : PySem.W.codeIn K cd3 "_law_take" = true) (k3 : PySem.W.keepIn K (.ref f3) = true)
    (a4 : PySem.W.nsIn K mainGlobals "_law_char" = some (some (.ref f4))) (l4 : K.lookup f4 = some ⟨oc4, od4, .func (PySem.W.fnOf "_law_char" "_law_char" (defArgs s__law_char) (defBody s__law_char) (defScope s__law_char) .none kV4 dc4 pm4 an4 cd4 ct4), sl4⟩) (c4 : PySem.W.codeIn K cd4 "_law_char" = true) (k4 : PySem.W.keepIn K (.ref f4) = true)
    (a5 : PySem.W.nsIn K mainGlobals "_law_text" = some (some (.ref f5))) (l5 : K.lookup f5 = some ⟨oc5, od5, .func (PySem.W.fnOf "_law_text" "_law_text" (defArgs s__law_text) (defBody s__law_text) (defScope s__law_text) .none kV5 dc5 pm5 an5 cd5 ct5), sl5⟩) (c5 : PySem.W.codeIn K cd5 "_law_text" = true) (k5 : PySem.W.keepIn K (.ref f5) = true)
    (a6 : PySem.W.nsIn K mainGlobals "_law_size" = some (some (.ref f6))) (l6 : K.lookup f6 = some ⟨oc6, od6, .func (PySem.W.fnOf "_law_size" "_law_size" (defArgs s__law_size) (defBody s__law_size) (defScope s__law_size) .none kV6 dc6 pm6 an6 cd6 ct6), sl6⟩) (c6 : PySem.W.codeIn K cd6 "_law_size" = true) (k6 : PySem.W.keepIn K (.ref f6) = true)
    (a7 : PySem.W.nsIn K mainGlobals "_law_change" = some (some (.ref f7))) (l7 : K.lookup f7 = some ⟨oc7, od7, .func (PySem.W.fnOf "_law_change" "_law_change" (defArgs s__law_change) (defBody s__law_change) (defScope s__law_change) .none kV7 dc7 pm7 an7 cd7 ct7), sl7⟩) (c7 : PySem.W.codeIn K cd7 "_law_change" = true) (k7 : PySem.W.keepIn K (.ref f7) = true)
    (a8 : PySem.W.nsIn K mainGlobals "_law_marked" = some (some (.ref f8))) (l8 : K.lookup f8 = some ⟨oc8, od8, .func (PySem.W.fnOf "_law_marked" "_law_marked" (defArgs s__law_marked) (defBody s__law_marked) (defScope s__law_marked) .none kV8 dc8 pm8 an8 cd8 ct8), sl8⟩) (c8 : PySem.W.codeIn K cd8 "_law_marked" = true) (k8 : PySem.W.keepIn K (.ref f8) = true)
    (a9 : PySem.W.nsIn K mainGlobals "_law_after" = some (some (.ref f9))) (l9 : K.lookup f9 = some ⟨oc9, od9, .func (PySem.W.fnOf "_law_after" "_law_after" (defArgs s__law_after) (defBody s__law_after) (defScope s__law_after) .none kV9 dc9 pm9 an9 cd9 ct9), sl9⟩) (c9 : PySem.W.codeIn K cd9 "_law_after" = true) (k9 : PySem.W.keepIn K (.ref f9) = true)
    (a10 : PySem.W.nsIn K mainGlobals "_law_is_integer" = some (some (.ref f10))) (l10 : K.lookup f10 = some ⟨oc10, od10, .func (PySem.W.fnOf "_law_is_integer" "_law_is_integer" (defArgs s__law_is_integer) (defBody s__law_is_integer) (defScope s__law_is_integer) .none kV10 dc10 pm10 an10 cd10 ct10), sl10⟩) (c10 : PySem.W.codeIn K cd10 "_law_is_integer" = true) (k10 : PySem.W.keepIn K (.ref f10) = true)
    (a11 : PySem.W.nsIn K mainGlobals "_law_same" = some (some (.ref f11))) (l11 : K.lookup f11 = some ⟨oc11, od11, .func (PySem.W.fnOf "_law_same" "_law_same" (defArgs s__law_same) (defBody s__law_same) (defScope s__law_same) .none kV11 dc11 pm11 an11 cd11 ct11), sl11⟩) (c11 : PySem.W.codeIn K cd11 "_law_same" = true) (k11 : PySem.W.keepIn K (.ref f11) = true)
    (a12 : PySem.W.nsIn K mainGlobals "_law_wild" = some (some (.ref f12))) (l12 : K.lookup f12 = some ⟨oc12, od12, .func (PySem.W.fnOf "_law_wild" "_law_wild" (defArgs s__law_wild) (defBody s__law_wild) (defScope s__law_wild) .none kV12 dc12 pm12 an12 cd12 ct12), sl12⟩) (c12 : PySem.W.codeIn K cd12 "_law_wild" = true) (k12 : PySem.W.keepIn K (.ref f12) = true)
    (a13 : PySem.W.nsIn K mainGlobals "_law_wrong" = some (some (.ref f13))) (l13 : K.lookup f13 = some ⟨oc13, od13, .func (PySem.W.fnOf "_law_wrong" "_law_wrong" (defArgs s__law_wrong) (defBody s__law_wrong) (defScope s__law_wrong) .none kV13 dc13 pm13 an13 cd13 ct13), sl13⟩) (c13 : PySem.W.codeIn K cd13 "_law_wrong" = true) (k13 : PySem.W.keepIn K (.ref f13) = true)
    (a14 : PySem.W.nsIn K mainGlobals "_law_told" = some (some (.ref f14))) (l14 : K.lookup f14 = some ⟨oc14, od14, .func (PySem.W.fnOf "_law_told" "_law_told" (defArgs s__law_told) (defBody s__law_told) (defScope s__law_told) .none kV14 dc14 pm14 an14 cd14 ct14), sl14⟩) (c14 : PySem.W.codeIn K cd14 "_law_told" = true) (k14 : PySem.W.keepIn K (.ref f14) = true)
    (a15 : PySem.W.nsIn K mainGlobals "law" = some (some (.ref f15))) (l15 : K.lookup f15 = some ⟨oc15, od15, .func (PySem.W.fnOf "law" "law" (defArgs s_law) (defBody s_law) (defScope s_law) .none kV15 dc15 pm15 an15 cd15 ct15), sl15⟩) (c15 : PySem.W.codeIn K cd15 "law" = true) (k15 : PySem.W.keepIn K (.ref f15) = true)
    (z0 : PySem.W.nsIn K mainGlobals "ValueError" = some none)    (z1 : PySem.W.nsIn K mainGlobals "all" = some none)    (z2 : PySem.W.nsIn K mainGlobals "bool" = some none)    (z3 : PySem.W.nsIn K mainGlobals "enumerate" = some none)    (z4 : PySem.W.nsIn K mainGlobals "int" = some none)    (z5 : PySem.W.nsIn K mainGlobals "isinstance" = some none)    (z6 : PySem.W.nsIn K mainGlobals "len" = some none)    (z7 : PySem.W.nsIn K mainGlobals "list" = some none)    (z8 : PySem.W.nsIn K mainGlobals "min" = some none)    (z9 : PySem.W.nsIn K mainGlobals "range" = some none)    (z10 : PySem.W.nsIn K mainGlobals "repr" = some none)    (z11 : PySem.W.nsIn K mainGlobals "str" = some none)    (z12 : PySem.W.nsIn K mainGlobals "tuple" = some none)    (aT : PySem.W.nsIn K mainGlobals "TongueError" = some (some (.ref CT))) (iT : PySem.W.isClsIn K CT = true) (yT : PySem.W.typeIn K (.ref CT) = some (.type "type"))
    (eC0 : PySem.W.nsIn K mainGlobals "BadChange" = some (some (.ref C0)))
    (xL0 : K.lookup C0 = some (excClassObj nm0 q0 C0 N0 bs0 [.ref CT, .type "ValueError", .type "Exception", .type "BaseException", .type "object"] true sn0 sub0 ab0 col0 dd0 jj0_0 jj1_0 jj2_0 jj3_0 jj5_0 "ValueError.__new__"))
    (sa0 : PySem.W.findIn K (.ref C0) "__setattr__" = some (some (.builtin "object.__setattr__")))
    (ga0 : PySem.W.findIn K (.ref C0) "__getattribute__" = some (some (.builtin "BaseException.__getattribute__")))
    (gg0 : PySem.W.findIn K (.ref C0) "__getattr__" = some none)
    (n1_0 : PySem.W.findIn K (.ref C0) "number" = some none)
    (n2_0 : PySem.W.findIn K (.ref C0) "reason" = some none)
    (iI0 : PySem.W.findIn K (.ref C0) "__init__" = some (some (.ref fI0)))
    (tI0 : PySem.W.typeIn K (.ref fI0) = some (.type "function"))
    (lI0 : K.lookup fI0 = some ⟨ocI0, odI0, .func (PySem.W.fnOf "__init__" "BadChange.__init__" (defArgs s_BadChange_init) (defBody s_BadChange_init) (defScope s_BadChange_init) .none kVI0 dcI0 pmI0 anI0 cdI0 ctI0), slI0⟩)
    (cI0 : PySem.W.codeIn K cdI0 "BadChange.__init__" = true)
    (kI0 : PySem.W.keepIn K (.ref fI0) = true)
    (kC0 : PySem.W.keepIn K (.ref C0) = true)
    (xC0 : PySem.W.subIn K (.ref C0) (.type "BaseException") = some true)
    (tC0 : PySem.W.typeIn K (.ref C0) = some (.type "type"))
    (hC0 : PySem.W.hasDictIn K C0 = true)
    (jC0 : PySem.W.isClsIn K C0 = true)
    (sC0 : PySem.W.subIn K (.ref C0) (.ref C0) = some true)
    (uC0 : PySem.W.subIn K (.ref C0) (.ref CT) = some true)
    (vC0 : PySem.W.subIn K (.ref C0) (.type "ValueError") = some true)
    (gC0 : PySem.W.findIn K (.ref C0) "__class__" = some (some (.builtin "object.__class__")))
    (oC0 : PySem.W.specialIn K (.builtin "object.__class__") "__get__" = some (some (.builtin "getset_descriptor.__get__")))
    (wC0 : PySem.W.takesIn K (.builtin "object.__class__") = some true)
    (mC0 : PySem.W.mroIn K C0 (.type "object") = some true)
 {aS : Addr} {ns : List Int} {s : Shared} {base : Heap} {H : Hp} (hl : ns.length ≤ 63) (hS : SqL K H aS (ns.map V.int)) (e0 : Env0 l.prog w K mg base callerA [] s H) :
    codeAny (model l.prog w) callerA (.call (.ref fa) ⟨[.ref aS], []⟩) (CR CX0 [] l.prog w H s (fun v _ => v = .bl true) fun _ _ _ => False) s := by
  have e := hfa.symm.trans (PySem.W.mg_of X G a15)
  cases e
  have T : Top K mg := ⟨⟨f0, _, fun_mk (st := s_check_change) l0 c0 k0, PySem.W.mg_of X G a0, (fun_mk (st := s_check_change) l0 c0 k0).binds (ps := ["text", "change"]) fun _ _ _ _ _ _ us hl => match us, hl with | [_, _], _ => rfl⟩, ⟨f1, _, fun_mk (st := s_apply_change) l1 c1 k1, PySem.W.mg_of X G a1, (fun_mk (st := s_apply_change) l1 c1 k1).binds (ps := ["text", "change"]) fun _ _ _ _ _ _ us hl => match us, hl with | [_, _], _ => rfl⟩, ⟨f2, _, fun_mk (st := s__law_pool) l2 c2 k2, PySem.W.mg_of X G a2, (fun_mk (st := s__law_pool) l2 c2 k2).binds (ps := ["script"]) fun _ _ _ _ _ _ us hl => match us, hl with | [_], _ => rfl⟩, ⟨f3, _, fun_mk (st := s__law_take) l3 c3 k3, PySem.W.mg_of X G a3, (fun_mk (st := s__law_take) l3 c3 k3).binds (ps := ["pool", "many"]) fun _ _ _ _ _ _ us hl => match us, hl with | [_, _], _ => rfl⟩, ⟨f4, _, fun_mk (st := s__law_char) l4 c4 k4, PySem.W.mg_of X G a4, (fun_mk (st := s__law_char) l4 c4 k4).binds (ps := ["cell"]) fun _ _ _ _ _ _ us hl => match us, hl with | [_], _ => rfl⟩, ⟨f5, _, fun_mk (st := s__law_text) l5 c5 k5, PySem.W.mg_of X G a5, (fun_mk (st := s__law_text) l5 c5 k5).binds (ps := ["pool", "size"]) fun _ _ _ _ _ _ us hl => match us, hl with | [_, _], _ => rfl⟩, ⟨f6, _, fun_mk (st := s__law_size) l6 c6 k6, PySem.W.mg_of X G a6, (fun_mk (st := s__law_size) l6 c6 k6).binds (ps := ["pool"]) fun _ _ _ _ _ _ us hl => match us, hl with | [_], _ => rfl⟩, ⟨f7, _, fun_mk (st := s__law_change) l7 c7 k7, PySem.W.mg_of X G a7, (fun_mk (st := s__law_change) l7 c7 k7).binds (ps := ["pool", "text"]) fun _ _ _ _ _ _ us hl => match us, hl with | [_, _], _ => rfl⟩, ⟨f8, _, fun_mk (st := s__law_marked) l8 c8 k8, PySem.W.mg_of X G a8, (fun_mk (st := s__law_marked) l8 c8 k8).binds (ps := ["text", "change"]) fun _ _ _ _ _ _ us hl => match us, hl with | [_, _], _ => rfl⟩, ⟨f9, _, fun_mk (st := s__law_after) l9 c9 k9, PySem.W.mg_of X G a9, (fun_mk (st := s__law_after) l9 c9 k9).binds (ps := ["text", "change"]) fun _ _ _ _ _ _ us hl => match us, hl with | [_, _], _ => rfl⟩, ⟨f10, _, fun_mk (st := s__law_is_integer) l10 c10 k10, PySem.W.mg_of X G a10, (fun_mk (st := s__law_is_integer) l10 c10 k10).binds (ps := ["actual"]) fun _ _ _ _ _ _ us hl => match us, hl with | [_], _ => rfl⟩, ⟨f11, _, fun_mk (st := s__law_same) l11 c11 k11, PySem.W.mg_of X G a11, (fun_mk (st := s__law_same) l11 c11 k11).binds (ps := ["actual", "due"]) fun _ _ _ _ _ _ us hl => match us, hl with | [_, _], _ => rfl⟩, ⟨f12, _, fun_mk (st := s__law_wild) l12 c12 k12, PySem.W.mg_of X G a12, (fun_mk (st := s__law_wild) l12 c12 k12).binds (ps := ["pool", "size"]) fun _ _ _ _ _ _ us hl => match us, hl with | [_, _], _ => rfl⟩, ⟨f13, _, fun_mk (st := s__law_wrong) l13 c13 k13, PySem.W.mg_of X G a13, (fun_mk (st := s__law_wrong) l13 c13 k13).binds (ps := ["size", "pieces"]) fun _ _ _ _ _ _ us hl => match us, hl with | [_, _], _ => rfl⟩, ⟨f14, _, fun_mk (st := s__law_told) l14 c14 k14, PySem.W.mg_of X G a14, (fun_mk (st := s__law_told) l14 c14 k14).binds (ps := ["text", "pieces"]) fun _ _ _ _ _ _ us hl => match us, hl with | [_, _], _ => rfl⟩, PySem.W.mg_none_of X G z0, PySem.W.mg_none_of X G z1, PySem.W.mg_none_of X G z2, PySem.W.mg_none_of X G z3, PySem.W.mg_none_of X G z4, PySem.W.mg_none_of X G z5, PySem.W.mg_none_of X G z6, PySem.W.mg_none_of X G z7, PySem.W.mg_none_of X G z8, PySem.W.mg_none_of X G z9, PySem.W.mg_none_of X G z10, PySem.W.mg_none_of X G z11, PySem.W.mg_none_of X G z12, ⟨C0, CT, ⟨⟨⟨nm0, q0, N0, bs0, _, sn0, sub0, ab0, col0, dd0, jj0_0, jj1_0, jj2_0, jj3_0, jj5_0, xL0, rfl⟩, sa0, xC0, tC0, kC0⟩, PySem.W.mg_of X G eC0, ⟨fI0, _, iI0, tI0, fun_mk (st := s_BadChange_init) lI0 cI0 kI0, (fun_mk (st := s_BadChange_init) lI0 cI0 kI0).binds (ps := ["self", "number", "reason"]) fun _ _ _ _ _ _ us hl => match us, hl with | [_, _, _], _ => rfl⟩, n1_0, n2_0, ⟨ga0, gg0, xC0, hC0⟩, exm_self xC0 jC0 tC0 sC0, ⟨ga0, gg0, xC0, hC0, gC0, oC0, wC0, mC0⟩⟩, PySem.W.mg_of X G aT, kit_ref iT yT uC0, kit_ty (by decide +kernel) vC0⟩⟩
  exact run_law T (fun_mk (st := s_law) l15 c15 k15) (fun s v => .of_eq rfl) hl hS e0


end PK

open PySem PySem.W PyProof.Rows
set_option maxHeartbeats 0 in
theorem PySem.Challenge.cw_tongues_k01_changes_holds : PySem.Challenge.rw_tongues_k01_changes.Holds := by
  w_on; o_law; k_head; (case hw => w_witness2)
  k_fill
  refine Tg.walk_at_law (l := PySem.Challenge.rw_tongues_k01_changes) (n := 63) rfl (by decide) rfl (fun w h Y => PySem.W.kIn_of Y) ?F
  case F =>
    intro w mg fa a h ns s base H KX G hmg hlen k2 n2 sq e0
    refine' PK.all_mk KX G hmg ?a0 ?l0 ?c0 ?k0 ?a1 ?l1 ?c1 ?k1 ?a2 ?l2 ?c2 ?k2 ?a3 ?l3 ?c3 ?k3 ?a4 ?l4 ?c4 ?k4 ?a5 ?l5 ?c5 ?k5 ?a6 ?l6 ?c6 ?k6 ?a7 ?l7 ?c7 ?k7 ?a8 ?l8 ?c8 ?k8 ?a9 ?l9 ?c9 ?k9 ?a10 ?l10 ?c10 ?k10 ?a11 ?l11 ?c11 ?k11 ?a12 ?l12 ?c12 ?k12 ?a13 ?l13 ?c13 ?k13 ?a14 ?l14 ?c14 ?k14 ?a15 ?l15 ?c15 ?k15 ?z0 ?z1 ?z2 ?z3 ?z4 ?z5 ?z6 ?z7 ?z8 ?z9 ?z10 ?z11 ?z12 ?aT ?iT ?yT ?eC0 ?xL0 ?sa0 ?ga0 ?gg0 ?n1_0 ?n2_0 ?iI0 ?tI0 ?lI0 ?cI0 ?kI0 ?kC0 ?xC0 ?tC0 ?hC0 ?jC0 ?sC0 ?uC0 ?vC0 ?gC0 ?oC0 ?wC0 ?mC0 hlen sq e0
    (case a0 => k_is); (case l0 => k_is); (case c0 => k_is); (case k0 => k_is); (case a1 => k_is); (case l1 => k_is); (case c1 => k_is); (case k1 => k_is); (case a2 => k_is); (case l2 => k_is); (case c2 => k_is); (case k2 => k_is); (case a3 => k_is); (case l3 => k_is); (case c3 => k_is); (case k3 => k_is); (case a4 => k_is); (case l4 => k_is); (case c4 => k_is); (case k4 => k_is); (case a5 => k_is); (case l5 => k_is); (case c5 => k_is); (case k5 => k_is); (case a6 => k_is); (case l6 => k_is); (case c6 => k_is); (case k6 => k_is); (case a7 => k_is); (case l7 => k_is); (case c7 => k_is); (case k7 => k_is); (case a8 => k_is); (case l8 => k_is); (case c8 => k_is); (case k8 => k_is); (case a9 => k_is); (case l9 => k_is); (case c9 => k_is); (case k9 => k_is); (case a10 => k_is); (case l10 => k_is); (case c10 => k_is); (case k10 => k_is); (case a11 => k_is); (case l11 => k_is); (case c11 => k_is); (case k11 => k_is); (case a12 => k_is); (case l12 => k_is); (case c12 => k_is); (case k12 => k_is); (case a13 => k_is); (case l13 => k_is); (case c13 => k_is); (case k13 => k_is); (case a14 => k_is); (case l14 => k_is); (case c14 => k_is); (case k14 => k_is); (case a15 => k_is); (case l15 => k_is); (case c15 => k_is); (case k15 => k_is); (case z0 => k_is); (case z1 => k_is); (case z2 => k_is); (case z3 => k_is); (case z4 => k_is); (case z5 => k_is); (case z6 => k_is); (case z7 => k_is); (case z8 => k_is); (case z9 => k_is); (case z10 => k_is); (case z11 => k_is); (case z12 => k_is); (case aT => k_is); (case iT => k_is); (case yT => k_is); (case eC0 => k_is); (case xL0 => k_is); (case sa0 => k_is); (case ga0 => k_is); (case gg0 => k_is); (case n1_0 => k_is); (case n2_0 => k_is); (case iI0 => k_is); (case tI0 => k_is); (case lI0 => k_is); (case cI0 => k_is); (case kI0 => k_is); (case kC0 => k_is); (case xC0 => k_is); (case tC0 => k_is); (case hC0 => k_is); (case jC0 => k_is); (case sC0 => k_is); (case uC0 => k_is); (case vC0 => k_is); (case gC0 => k_is); (case oC0 => k_is); (case wC0 => k_is); (case mC0 => k_is)
