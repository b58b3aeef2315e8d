import PyProof.Rows.All
import Wide.All
import OpenK.AllK
import Wide.FinOn
import HandS.ForMost
import HandS.IsInst
import HandS.Codes
import HandS.Steps
import HandS.Exc
import HandS.TupAny
import HandS.StrMore
import HandS.Flow
import HandS.Small
import HandS.Conv
import PyProof.Rows.RegReprOcc
import PyProof.StrLawsLast
import KE.GoesEnum
import HandS.ForExc
import HandS.ExcInit
import HandS.ExcField
import HandS.ExcIs
import KE.KExcIs
import PyProof.ReprLen
import PyProof.ReprRoads
import PyProof.StrLawsRepr
import PyProof.FitsInt
import HandS.Ends
import Wide.All
import OpenK.AllK
import Wide.FinOn
import HandS.More
import HandS.Replace
import PyProof.AutoSeq1
import KE.KIntText
import KE.IntTextLaws
import OpenK.Peek
import HandS.CallLocal
import HandS.Star
import HandS.Deep
import HandS.Wide
import PySem.Challenge.RW_tongues_k45_values
set_option Elab.async false
set_option linter.all false
set_option maxRecDepth 100000
set_option maxHeartbeats 1000000
/-! Tg: readings over deep data: what a reading asks, said of values without addresses. -/
namespace Tg
open PySem L2

/-! ### deep data -/
inductive D where
  | non | bl (b : Bool) | int (i : Int) | str (s : Str) | ty (n : String) | ref (a : Addr)
  | tup (ds : List D) | lst (ds : List D) | lsk (ds : List D)

mutual
def Rep (K : PySem.W.Frag) (G : Hp) : D → V → Prop
  | .non, v => v = .non
  | .bl b, v => v = .bl b
  | .int i, v => v = .int i
  | .str s, v => v = .str s
  | .ty n, v => v = .ty n
  | .ref a, v => v = .ref a
  | .tup ds, v => ∃ a xs, v = .ref a ∧ SqT K G a xs ∧ Reps K G ds xs
  | .lst ds, v => ∃ a xs, v = .ref a ∧ G a = some (.lst xs) ∧ Reps K G ds xs
  | .lsk ds, v => ∃ a xs, v = .ref a ∧ SqL K G a xs ∧ Reps K G ds xs
def Reps (K : PySem.W.Frag) (G : Hp) : List D → List V → Prop
  | [], xs => xs = []
  | d :: ds, xs => ∃ x r, xs = x :: r ∧ Rep K G d x ∧ Reps K G ds r
end

section
variable {K : PySem.W.Frag} {G G' H H' : Hp}
theorem Same.seqT {a : Addr} {xs : List V} (e : Same G G') (h : SqT K G a xs) : SqT K G' a xs := by
  rcases h with (h | ⟨o, h⟩) | h
  · exact .inl (.inl (e _ _ h))
  · exact .inl (.inr ⟨o, e _ _ h⟩)
  · exact .inr h
mutual
theorem Rep.mono (e : Same G G') : ∀ (d : D) (v : V), Rep K G d v → Rep K G' d v
  | .non, _, h => h
  | .bl _, _, h => h
  | .int _, _, h => h
  | .str _, _, h => h
  | .ty _, _, h => h
  | .ref _, _, h => h
  | .tup ds, _, h => by
    unfold Rep at h ⊢
    obtain ⟨a, xs, r, q, s⟩ := h
    exact ⟨a, xs, r, Same.seqT e q, Reps.mono e ds xs s⟩
  | .lst ds, _, h => by
    unfold Rep at h ⊢
    obtain ⟨a, xs, r, q, s⟩ := h
    exact ⟨a, xs, r, e _ _ q, Reps.mono e ds xs s⟩
  | .lsk ds, _, h => by
    unfold Rep at h ⊢
    obtain ⟨a, xs, r, q, s⟩ := h
    exact ⟨a, xs, r, e.seq q, Reps.mono e ds xs s⟩
theorem Reps.mono (e : Same G G') : ∀ (ds : List D) (xs : List V), Reps K G ds xs → Reps K G' ds xs
  | [], _, h => h
  | d :: ds, _, h => by
    unfold Reps at h ⊢
    obtain ⟨x, r, q, s, t⟩ := h
    exact ⟨x, r, q, Rep.mono e d x s, Reps.mono e ds r t⟩
end
theorem Reps.len : ∀ {ds : List D} {xs : List V}, Reps K G ds xs → xs.length = ds.length
  | [], _, h => by
    unfold Reps at h
    rw [h]
    rfl
  | d :: ds, _, h => by
    unfold Reps at h
    obtain ⟨x, r, q, _, t⟩ := h
    rw [q, List.length_cons, List.length_cons, Reps.len t]
theorem Reps.get : ∀ {ds : List D} {xs : List V} {i : Nat} {d : D}, Reps K G ds xs → ds[i]? = some d → ∃ x, xs[i]? = some x ∧ Rep K G d x
  | [], _, i, d, _, e => by simp at e
  | d :: ds, _, i, d', h, e => by
    unfold Reps at h
    obtain ⟨x, r, q, s, t⟩ := h
    subst q
    cases i with
    | zero =>
      have e1 : d = d' := by simpa using e
      subst e1
      exact ⟨x, rfl, s⟩
    | succ i =>
      have e1 : ds[i]? = some d' := by simpa using e
      obtain ⟨y, e2, s2⟩ := Reps.get t e1
      exact ⟨y, by simpa using e2, s2⟩
theorem Reps.get' : ∀ {ds : List D} {xs : List V} {i : Nat} {x : V}, Reps K G ds xs → xs[i]? = some x → ∃ d, ds[i]? = some d ∧ Rep K G d x
  | [], _, i, x, h, e => by
    unfold Reps at h
    rw [h] at e
    simp at e
  | d :: ds, _, i, x', h, e => by
    unfold Reps at h
    obtain ⟨x, r, q, s, t⟩ := h
    subst q
    cases i with
    | zero =>
      have e1 : x = x' := by simpa using e
      subst e1
      exact ⟨d, rfl, s⟩
    | succ i =>
      have e1 : r[i]? = some x' := by simpa using e
      obtain ⟨y, e2, s2⟩ := Reps.get' t e1
      exact ⟨y, by simpa using e2, s2⟩
theorem Reps.append : ∀ {ds es : List D} {xs ys : List V}, Reps K G ds xs → Reps K G es ys → Reps K G (ds ++ es) (xs ++ ys)
  | [], es, xs, ys, h, g => by
    unfold Reps at h
    rw [h]
    exact g
  | d :: ds, es, xs, ys, h, g => by
    unfold Reps at h
    obtain ⟨x, r, q, s, t⟩ := h
    subst q
    show Reps K G (d :: (ds ++ es)) (x :: (r ++ ys))
    unfold Reps
    exact ⟨x, _, rfl, s, Reps.append t g⟩
theorem Reps.one {d : D} {x : V} (h : Rep K G d x) : Reps K G [d] [x] := by
  unfold Reps
  exact ⟨x, [], rfl, h, by unfold Reps; rfl⟩
theorem Reps.nil : Reps K G [] [] := by
  unfold Reps
  rfl
theorem Reps.cons {d : D} {x : V} {ds : List D} {xs : List V} (h : Rep K G d x) (t : Reps K G ds xs) : Reps K G (d :: ds) (x :: xs) := by
  unfold Reps
  exact ⟨x, xs, rfl, h, t⟩
theorem Reps.uncons {d : D} {ds : List D} {xs : List V} (h : Reps K G (d :: ds) xs) : ∃ x r, xs = x :: r ∧ Rep K G d x ∧ Reps K G ds r := by
  unfold Reps at h
  exact h
theorem Reps.set : ∀ {ds : List D} {xs : List V} {i : Nat} {d : D} {x : V}, Reps K G ds xs → Rep K G d x → Reps K G (ds.set i d) (xs.set i x)
  | [], _, i, d, x, h, g => by
    unfold Reps at h
    rw [h]
    simp only [List.set_nil]
    exact Reps.nil
  | c :: ds, _, i, d, x, h, g => by
    obtain ⟨y, r, q, s, t⟩ := Reps.uncons h
    subst q
    cases i with
    | zero => exact Reps.cons g t
    | succ i => exact Reps.cons s (Reps.set t g)
theorem Reps.drop : ∀ {ds : List D} {xs : List V} (n : Nat), Reps K G ds xs → Reps K G (ds.drop n) (xs.drop n)
  | _, _, 0, h => h
  | [], _, n + 1, h => by
    unfold Reps at h
    rw [h]
    exact Reps.nil
  | c :: ds, _, n + 1, h => by
    obtain ⟨y, r, q, s, t⟩ := Reps.uncons h
    subst q
    exact Reps.drop n t
theorem Reps.take : ∀ {ds : List D} {xs : List V} (n : Nat), Reps K G ds xs → Reps K G (ds.take n) (xs.take n)
  | _, _, 0, h => Reps.nil
  | [], _, n + 1, h => by
    unfold Reps at h
    rw [h]
    exact Reps.nil
  | c :: ds, _, n + 1, h => by
    obtain ⟨y, r, q, s, t⟩ := Reps.uncons h
    subst q
    exact Reps.cons s (Reps.take n t)
theorem Reps.ints : ∀ {is : List Int} {xs : List V}, Reps K G (is.map D.int) xs → xs = is.map V.int
  | [], xs, h => by
    unfold Reps at h
    rw [h]
    rfl
  | i :: is, xs, h => by
    obtain ⟨x, r, q, s, t⟩ := Reps.uncons h
    unfold Rep at s
    rw [q, s, Reps.ints t]
    rfl
theorem Reps.ofInts : ∀ {is : List Int}, Reps K G (is.map D.int) (is.map V.int)
  | [] => Reps.nil
  | i :: is => Reps.cons (by unfold Rep; rfl) Reps.ofInts
theorem Reps.bls : ∀ {is : List Bool} {xs : List V}, Reps K G (is.map D.bl) xs → xs = is.map V.bl
  | [], xs, h => by
    unfold Reps at h
    rw [h]
    rfl
  | i :: is, xs, h => by
    obtain ⟨x, r, q, s, t⟩ := Reps.uncons h
    unfold Rep at s
    rw [q, s, Reps.bls t]
    rfl
theorem Reps.strs : ∀ {is : List Str} {xs : List V}, Reps K G (is.map D.str) xs → xs = is.map V.str
  | [], xs, h => by
    unfold Reps at h
    rw [h]
    rfl
  | i :: is, xs, h => by
    obtain ⟨x, r, q, s, t⟩ := Reps.uncons h
    unfold Rep at s
    rw [q, s, Reps.strs t]
    rfl
theorem rep_int {i : Int} {v : V} (h : Rep K G (.int i) v) : v = .int i := by
  unfold Rep at h
  exact h
theorem rep_str {i : Str} {v : V} (h : Rep K G (.str i) v) : v = .str i := by
  unfold Rep at h
  exact h
theorem rep_bl {i : Bool} {v : V} (h : Rep K G (.bl i) v) : v = .bl i := by
  unfold Rep at h
  exact h
theorem rep_non {v : V} (h : Rep K G .non v) : v = .non := by
  unfold Rep at h
  exact h
theorem rep_ref {a : Addr} {v : V} (h : Rep K G (.ref a) v) : v = .ref a := by
  unfold Rep at h
  exact h
theorem rep_ty {n : String} {v : V} (h : Rep K G (.ty n) v) : v = .ty n := by
  unfold Rep at h
  exact h
theorem rep_tup {ds : List D} {v : V} (h : Rep K G (.tup ds) v) : ∃ a xs, v = .ref a ∧ SqT K G a xs ∧ Reps K G ds xs := by
  unfold Rep at h
  exact h
theorem rep_lst {ds : List D} {v : V} (h : Rep K G (.lst ds) v) : ∃ a xs, v = .ref a ∧ G a = some (.lst xs) ∧ Reps K G ds xs := by
  unfold Rep at h
  exact h
theorem rep_lsk {ds : List D} {v : V} (h : Rep K G (.lsk ds) v) : ∃ a xs, v = .ref a ∧ SqL K G a xs ∧ Reps K G ds xs := by
  unfold Rep at h
  exact h
theorem rep_mk_tup {ds : List D} {a : Addr} {xs : List V} (h : SqT K G a xs) (r : Reps K G ds xs) : Rep K G (.tup ds) (.ref a) := by
  unfold Rep
  exact ⟨a, xs, rfl, h, r⟩
theorem rep_mk_lst {ds : List D} {a : Addr} {xs : List V} (h : G a = some (.lst xs)) (r : Reps K G ds xs) : Rep K G (.lst ds) (.ref a) := by
  unfold Rep
  exact ⟨a, xs, rfl, h, r⟩
theorem rep_mk_lsk {ds : List D} {a : Addr} {xs : List V} (h : SqL K G a xs) (r : Reps K G ds xs) : Rep K G (.lsk ds) (.ref a) := by
  unfold Rep
  exact ⟨a, xs, rfl, h, r⟩
theorem rep_of_int {i : Int} : Rep K G (.int i) (.int i) := by unfold Rep; rfl
theorem rep_of_str {i : Str} : Rep K G (.str i) (.str i) := by unfold Rep; rfl
theorem rep_of_bl {i : Bool} : Rep K G (.bl i) (.bl i) := by unfold Rep; rfl
theorem rep_of_non : Rep K G .non .non := by unfold Rep; rfl
theorem rep_of_ref {a : Addr} : Rep K G (.ref a) (.ref a) := by unfold Rep; rfl
theorem rep_of_ty {n : String} : Rep K G (.ty n) (.ty n) := by unfold Rep; rfl
end

/-! ### what may change: lists, dicts with int and text keys, instances -/
inductive MO where
  | lst (ds : List D)
  | dK (kvs : List (Key × D))
  | ins (C dx : Addr) (fs : List (Str × D))
  | xd (fs : List (Str × D))
abbrev Mu := List (Addr × MO)
def RepKV (K : PySem.W.Frag) (G : Hp) {κ : Type} : List (κ × D) → List (κ × V) → Prop
  | [], xs => xs = []
  | (k, d) :: ds, xs => ∃ x r, xs = (k, x) :: r ∧ Rep K G d x ∧ RepKV K G ds r
def RepM (K : PySem.W.Frag) (G : Hp) : MO → HO → Prop
  | .lst ds, o => ∃ xs, o = .lst xs ∧ Reps K G ds xs
  | .dK kvs, o => ∃ ps, o = .dK ps ∧ RepKV K G kvs ps
  | .ins C dx fs, o => ∃ ps, o = .ins C dx ps ∧ RepKV K G fs ps
  | .xd fs, o => ∃ ps, o = .xd ps ∧ RepKV K G fs ps
section
variable {K : PySem.W.Frag} {G G' H H' : Hp}
theorem RepKV.mono {κ : Type} (e : Same G G') : ∀ {ds : List (κ × D)} {xs : List (κ × V)}, RepKV K G ds xs → RepKV K G' ds xs
  | [], _, h => h
  | (k, d) :: ds, _, h => by
    unfold RepKV at h ⊢
    obtain ⟨x, r, q, s, t⟩ := h
    exact ⟨x, r, q, Rep.mono e _ _ s, RepKV.mono e t⟩
theorem RepM.mono (e : Same G G') {m : MO} {o : HO} (h : RepM K G m o) : RepM K G' m o := by
  cases m with
  | lst ds =>
    obtain ⟨xs, r, s⟩ := h
    exact ⟨xs, r, Reps.mono e _ _ s⟩
  | dK kvs =>
    obtain ⟨xs, r, s⟩ := h
    exact ⟨xs, r, RepKV.mono e s⟩
  | ins C dx fs =>
    obtain ⟨xs, r, s⟩ := h
    exact ⟨xs, r, RepKV.mono e s⟩
  | xd fs =>
    obtain ⟨xs, r, s⟩ := h
    exact ⟨xs, r, RepKV.mono e s⟩
end

/-- the state: G the part of the heap that stays, M what may change -/
structure S (K : PySem.W.Frag) (G H : Hp) (M : Mu) : Prop where
  same : Same G H
  mu : ∀ p ∈ M, G p.1 = none ∧ ∃ o, H p.1 = some o ∧ RepM K G p.2 o
  nd : (M.map (·.1)).Nodup
/-- from (G, H) with what may change at A, to (G', H') with what may change at A' -/
structure Step (A : List Addr) (G H : Hp) (A' : List Addr) (G' H' : Hp) : Prop where
  gg : Same G G'
  fr : ∀ b, H b ≠ none → b ∉ A → G' b = G b
  keep : ∀ b o, b ∉ A → H b = some o → H' b = some o
  alive : ∀ b, H b ≠ none → H' b ≠ none
  own : ∀ b ∈ A', b ∈ A ∨ H b = none
abbrev ads (M : Mu) : List Addr := M.map (·.1)

section
variable {K : PySem.W.Frag} {G G' G1 G2 H H' H1 H2 : Hp} {A A1 A2 : List Addr} {M M' M1 M2 : Mu}
theorem Step.refl : Step A G H A G H := ⟨Same.refl G, fun _ _ _ => rfl, fun _ _ _ h => h, fun _ h => h, fun _ h => .inl h⟩
theorem Step.trans (a : Step A G H A1 G1 H1) (b : Step A1 G1 H1 A2 G2 H2) : Step A G H A2 G2 H2 := by
  have no : ∀ c, H c ≠ none → c ∉ A → c ∉ A1 := fun c h n z => by
    rcases a.own c z with q | q
    · exact n q
    · exact h q
  refine ⟨a.gg.trans b.gg, fun c h n => ?_, fun c o n h => ?_, fun c h => b.alive c (a.alive c h), fun c h => ?_⟩
  · rw [b.fr c (a.alive c h) (no c h n), a.fr c h n]
  · exact b.keep c o (no c (by rw [h]; exact fun z => nomatch z) n) (a.keep c o n h)
  · rcases b.own c h with q | q
    · exact a.own c q
    · right
      cases e : H c with
      | none => rfl
      | some o => exact absurd q (a.alive c (by rw [e]; exact fun z => nomatch z))
/-- forgetting some of what may change -/
theorem S.sub (s : S K G H (M1 ++ M2)) : S K G H M1 := ⟨s.same, fun p hp => s.mu p (List.mem_append_left _ hp), by
  have h := s.nd
  rw [List.map_append] at h
  exact (List.nodup_append.mp h).1⟩
/-- a new frozen object -/
theorem S.frozen (s : S K G H M) {p : Addr} {o : HO} (hp : H p = none) : S K (upd G p o) (upd H p o) M ∧ Step (ads M) G H (ads M) (upd G p o) (upd H p o) ∧ Same G (upd G p o) := by
  have gp : G p = none := s.same.free hp
  have gs : Same G (upd G p o) := fun b u e => by
    rw [upd_ne (ne_of_none e gp)]
    exact e
  refine ⟨⟨fun b u e => ?_, fun q hq => ?_, s.nd⟩, ⟨gs, fun b hb _ => ?_, fun b u _ e => ?_, fun b e => ?_, fun b hb => .inl hb⟩, gs⟩
  · by_cases hb : b = p
    · subst hb
      rw [upd_same] at e ⊢
      exact e
    · rw [upd_ne hb] at e ⊢
      exact s.same b u e
  · obtain ⟨g1, o1, h1, r1⟩ := s.mu q hq
    have ne : q.1 ≠ p := ne_of_none h1 hp
    exact ⟨by rw [upd_ne ne]; exact g1, o1, by rw [upd_ne ne]; exact h1, r1.mono gs⟩
  · rw [upd_ne (fun z => hb (by rw [z]; exact hp))]
  · rw [upd_ne (ne_of_none e hp)]
    exact e
  · by_cases hb : b = p
    · subst hb
      rw [upd_same]
      exact fun z => nomatch z
    · rw [upd_ne hb]
      exact e
/-- a new object that may change -/
theorem S.fresh (s : S K G H M) {p : Addr} {o : HO} {m : MO} (hp : H p = none) (r : RepM K G m o) : S K G (upd H p o) (M ++ [(p, m)]) ∧ Step (ads M) G H (ads (M ++ [(p, m)])) G (upd H p o) := by
  have gp : G p = none := s.same.free hp
  refine ⟨⟨fun b u e => ?_, fun q hq => ?_, ?_⟩, ⟨Same.refl G, fun b hb _ => rfl, fun b u _ e => ?_, fun b e => ?_, fun b hb => ?_⟩⟩
  · rw [upd_ne (ne_of_none e gp)]
    exact s.same b u e
  · rcases List.mem_append.mp hq with hq | hq
    · obtain ⟨g1, o1, h1, r1⟩ := s.mu q hq
      exact ⟨g1, o1, by rw [upd_ne (ne_of_none h1 hp)]; exact h1, r1⟩
    · have e : q = (p, m) := by simpa using hq
      subst e
      exact ⟨gp, o, upd_same, r⟩
  · rw [List.map_append, List.nodup_append]
    refine ⟨s.nd, by simp, fun a ha b hb => ?_⟩
    have e : b = p := by simpa using hb
    subst e
    obtain ⟨q, hq, rfl⟩ := List.mem_map.mp ha
    obtain ⟨_, o1, h1, _⟩ := s.mu q hq
    exact ne_of_none h1 hp
  · rw [upd_ne (ne_of_none e hp)]
    exact e
  · by_cases hb : b = p
    · subst hb
      rw [upd_same]
      exact fun z => nomatch z
    · rw [upd_ne hb]
      exact e
  · have hb' : b ∈ M.map (·.1) ++ [p] := by simpa [ads] using hb
    rcases List.mem_append.mp hb' with hb | hb
    · exact .inl hb
    · have e : b = p := by simpa using hb
      subst e
      exact .inr hp
/-- what may change is changed -/
theorem S.write (s : S K G H (M1 ++ (p, m) :: M2)) {o : HO} {m' : MO} (r : RepM K G m' o) : S K G (upd H p o) (M1 ++ (p, m') :: M2) ∧ Step (ads (M1 ++ (p, m) :: M2)) G H (ads (M1 ++ (p, m') :: M2)) G (upd H p o) := by
  obtain ⟨gp, o0, hp, r0⟩ := s.mu (p, m) (by simp)
  have nd := s.nd
  have ads_eq : ads (M1 ++ (p, m') :: M2) = ads (M1 ++ (p, m) :: M2) := by simp [ads]
  have nd' : (M1.map (·.1) ++ p :: M2.map (·.1)).Nodup := by simpa using nd
  have out : ∀ q, q ∈ M1 ∨ q ∈ M2 → q.1 ≠ p := fun q hq z => by
    rw [List.nodup_append] at nd'
    obtain ⟨_, h2, h3⟩ := nd'
    rcases hq with hq | hq
    · exact h3 q.1 (List.mem_map.mpr ⟨q, hq, rfl⟩) p (by simp) z
    · exact (List.nodup_cons.mp h2).1 (List.mem_map.mpr ⟨q, hq, z⟩)
  refine ⟨⟨fun b u e => ?_, fun q hq => ?_, by rw [show (M1 ++ (p, m') :: M2).map (·.1) = (M1 ++ (p, m) :: M2).map (·.1) from ads_eq]; exact nd⟩, ⟨Same.refl G, fun b hb _ => rfl, fun b u hb e => ?_, fun b e => ?_, fun b hb => .inl (by rw [← ads_eq]; exact hb)⟩⟩
  · rw [upd_ne (ne_of_none e gp)]
    exact s.same b u e
  · have old : ∀ q, q ∈ M1 ∨ q ∈ M2 → G q.1 = none ∧ ∃ o1, upd H p o q.1 = some o1 ∧ RepM K G q.2 o1 := fun q hq => by
      obtain ⟨g1, o1, h1, r1⟩ := s.mu q (by rcases hq with hq | hq <;> simp [hq])
      exact ⟨g1, o1, by rw [upd_ne (out q hq)]; exact h1, r1⟩
    rcases List.mem_append.mp hq with hq | hq
    · exact old q (.inl hq)
    · rcases List.mem_cons.mp hq with e | hq
      · subst e
        exact ⟨gp, o, upd_same, r⟩
      · exact old q (.inr hq)
  · have ne : b ≠ p := fun z => hb (by simp [ads, z])
    rw [upd_ne ne]
    exact e
  · by_cases hb : b = p
    · subst hb
      rw [upd_same]
      exact fun z => nomatch z
    · rw [upd_ne hb]
      exact e
/-- what may change is frozen -/
theorem S.freeze {p : Addr} {ds : List D} (s : S K G H (M1 ++ (p, .lst ds) :: M2)) : ∃ xs, S K (upd G p (.lst xs)) H (M1 ++ M2) ∧ Step (ads (M1 ++ (p, .lst ds) :: M2)) G H (ads (M1 ++ M2)) (upd G p (.lst xs)) H ∧ Same G (upd G p (.lst xs)) ∧ Rep K (upd G p (.lst xs)) (.lst ds) (.ref p) := by
  obtain ⟨gp, o0, hp, r0⟩ := s.mu (p, .lst ds) (by simp)
  obtain ⟨xs, rfl, rx⟩ := r0
  have gs : Same G (upd G p (.lst xs)) := fun b u e => by
    rw [upd_ne (ne_of_none e gp)]
    exact e
  have nd := s.nd
  have nd' : (M1.map (·.1) ++ p :: M2.map (·.1)).Nodup := by simpa using nd
  have out : ∀ q, q ∈ M1 ∨ q ∈ M2 → q.1 ≠ p := fun q hq z => by
    rw [List.nodup_append] at nd'
    obtain ⟨_, h2, h3⟩ := nd'
    rcases hq with hq | hq
    · exact h3 q.1 (List.mem_map.mpr ⟨q, hq, rfl⟩) p (by simp) z
    · exact (List.nodup_cons.mp h2).1 (List.mem_map.mpr ⟨q, hq, z⟩)
  refine ⟨xs, ⟨fun b u e => ?_, fun q hq => ?_, ?_⟩, ⟨gs, fun b hb hn => ?_, fun b u hb e => e, fun b e => e, fun b hb => .inl ?_⟩, gs, ?_⟩
  · by_cases hb : b = p
    · subst hb
      rw [upd_same] at e
      rw [← e]
      exact hp
    · rw [upd_ne hb] at e
      exact s.same b u e
  · have hq' := List.mem_append.mp hq
    obtain ⟨g1, o1, h1, r1⟩ := s.mu q (by rcases hq' with z | z <;> simp [z])
    exact ⟨by rw [upd_ne (out q hq')]; exact g1, o1, h1, r1.mono gs⟩
  · rw [List.map_append]
    rw [List.nodup_append] at nd' ⊢
    obtain ⟨h1, h2, h3⟩ := nd'
    exact ⟨h1, (List.nodup_cons.mp h2).2, fun a ha b hb => h3 a ha b (List.mem_cons_of_mem _ hb)⟩
  · rw [upd_ne]
    intro z
    exact hn (by simp [ads, z])
  · simp only [ads, List.map_append, List.mem_append, List.map_cons, List.mem_cons] at hb ⊢
    rcases hb with z | z
    · exact .inl z
    · exact .inr (.inr z)
  · exact rep_mk_lst upd_same (Reps.mono gs _ _ rx)
end

/-! ### slots -/
abbrev DS := List (Option D)
structure RelS (K : PySem.W.Frag) (G : Hp) (δ : DS) (σ : L2.St) : Prop where
  len : δ.length = σ.length
  at_ : ∀ (i : Nat) (d : D), δ[i]? = some (some d) → ∃ v, σ[i]? = some (some v) ∧ Rep K G d v
section
variable {K : PySem.W.Frag} {G G' H H' : Hp} {δ : DS} {σ : L2.St}
theorem RelS.mono (e : Same G G') (r : RelS K G δ σ) : RelS K G' δ σ := ⟨r.len, fun i d h => let ⟨v, a, b⟩ := r.at_ i d h; ⟨v, a, Rep.mono e _ _ b⟩⟩
theorem RelS.set (r : RelS K G δ σ) (i : Nat) {d : D} {v : V} (h : Rep K G d v) : RelS K G (δ.set i (some d)) (σ.set i (some v)) := by
  refine ⟨by rw [List.length_set, List.length_set]; exact r.len, fun j e hj => ?_⟩
  by_cases hij : i = j
  · subst hij
    rw [List.getElem?_set] at hj ⊢
    rw [if_pos rfl] at hj ⊢
    rw [← r.len]
    split at hj
    · rename_i hl
      have e1 : d = e := by simpa using hj
      subst e1
      rw [if_pos hl]
      exact ⟨v, rfl, h⟩
    · cases hj
  · rw [List.getElem?_set_ne hij] at hj ⊢
    exact r.at_ j e hj
theorem RelS.setD (r : RelS K G δ σ) (i : Nat) {d : D} {v : V} (e : σ[i]? = some (some v)) (h : Rep K G d v) : RelS K G (δ.set i (some d)) σ := by
  refine ⟨by rw [List.length_set]; exact r.len, fun j f hj => ?_⟩
  by_cases hij : i = j
  · subst hij
    rw [List.getElem?_set, if_pos rfl] at hj
    split at hj
    · have e1 : d = f := by simpa using hj
      subst e1
      exact ⟨v, e, h⟩
    · cases hj
  · rw [List.getElem?_set_ne hij] at hj
    exact r.at_ j f hj
theorem RelS.drop (r : RelS K G δ σ) (i : Nat) : RelS K G (δ.set i none) (σ.set i none) := by
  refine ⟨by rw [List.length_set, List.length_set]; exact r.len, fun j e hj => ?_⟩
  by_cases hij : i = j
  · subst hij
    rw [List.getElem?_set, if_pos rfl] at hj
    split at hj <;> cases hj
  · rw [List.getElem?_set_ne hij] at hj ⊢
    exact r.at_ j e hj
/-- forgetting slots -/
theorem RelS.weak {δ' : DS} (r : RelS K G δ σ) (hl : δ'.length = δ.length) (h : ∀ (i : Nat) (d : D), δ'[i]? = some (some d) → δ[i]? = some (some d)) : RelS K G δ' σ := ⟨hl.trans r.len, fun i d e => r.at_ i d (h i d e)⟩
end
def startD (n : Nat) (ds : List D) : DS := ds.map some ++ List.replicate (n - ds.length) none
theorem relS_start {K : PySem.W.Frag} {G : Hp} {N : List Str} {ds : List D} {vs : List V} (r : Reps K G ds vs) : RelS K G (startD N.length ds) (L2.start N vs) := by
  have hl := r.len
  refine ⟨by simp [startD, L2.start, hl], fun i d h => ?_⟩
  unfold startD at h
  unfold L2.start
  by_cases hi : i < ds.length
  · rw [List.getElem?_append_left (by simpa using hi), List.getElem?_map] at h
    cases e : ds[i]? with
    | none => rw [e] at h; cases h
    | some d' =>
      rw [e] at h
      have e1 : d' = d := by simpa using h
      subst e1
      obtain ⟨x, e2, q⟩ := r.get e
      refine ⟨x, ?_, q⟩
      rw [List.getElem?_append_left (by simp [hl]; exact hi), List.getElem?_map, e2]
      rfl
  · rw [List.getElem?_append_right (by simpa using hi), List.getElem?_replicate] at h
    split at h <;> cases h

/-! ### readings over deep data -/
section
variable (K : PySem.W.Frag)
/-- behind an evaluation: the value d, what may change is M' -/
def AE (te : TE) (δ : DS) (M : Mu) (k : D → Mu → Prop) : Prop := ∀ σ G H Q, RelS K G δ σ → S K G H M →
  (∀ d M' v G' H', k d M' → S K G' H' M' → Step (ads M) G H (ads M') G' H' → Rep K G' d v → Q v H') → te σ H Q
def AT (tt : TT) (δ : DS) (M : Mu) (k : Bool → Mu → Prop) : Prop := ∀ σ G H Q, RelS K G δ σ → S K G H M →
  (∀ b M' G' H', k b M' → S K G' H' M' → Step (ads M) G H (ads M') G' H' → Q b H') → tt σ H Q
def AA (ta : TA) (δ : DS) (M : Mu) (k : List D → Mu → Prop) : Prop := ∀ σ G H Q, RelS K G δ σ → S K G H M →
  (∀ ds M' vs G' H', k ds M' → S K G' H' M' → Step (ads M) G H (ads M') G' H' → Reps K G' ds vs → Q vs H') → ta σ H Q
def AO (to : TO) (δ : DS) (M : Mu) (k : Option Int → Mu → Prop) : Prop := ∀ σ G H Q, RelS K G δ σ → S K G H M →
  (∀ o M' G' H', k o M' → S K G' H' M' → Step (ads M) G H (ads M') G' H' → Q o H') → to σ H Q
/-- an operation on two values, on one, on a list of values -/
def AR (r : R2) (x y : D) (M : Mu) (k : D → Mu → Prop) : Prop := ∀ vx vy G H Q, Rep K G x vx → Rep K G y vy → S K G H M →
  (∀ d M' v G' H', k d M' → S K G' H' M' → Step (ads M) G H (ads M') G' H' → Rep K G' d v → Q v H') → r vx vy H Q
def AU (r : V → Hp → VK → Prop) (x : D) (M : Mu) (k : D → Mu → Prop) : Prop := ∀ vx G H Q, Rep K G x vx → S K G H M →
  (∀ d M' v G' H', k d M' → S K G' H' M' → Step (ads M) G H (ads M') G' H' → Rep K G' d v → Q v H') → r vx H Q
def AC (r : List V → Hp → VK → Prop) (xs : List D) (M : Mu) (k : D → Mu → Prop) : Prop := ∀ vs G H Q, Reps K G xs vs → S K G H M →
  (∀ d M' v G' H', k d M' → S K G' H' M' → Step (ads M) G H (ads M') G' H' → Rep K G' d v → Q v H') → r vs H Q
/-- a method of x on a list of values -/
def AM (r : V → List V → Hp → VK → Prop) (x : D) (xs : List D) (M : Mu) (k : D → Mu → Prop) : Prop := ∀ vx vs G H Q, Rep K G x vx → Reps K G xs vs → S K G H M →
  (∀ d M' v G' H', k d M' → S K G' H' M' → Step (ads M) G H (ads M') G' H' → Rep K G' d v → Q v H') → r vx vs H Q
def AG (g : TG) (d : D) (δ : DS) (M : Mu) (k : DS → Mu → Prop) : Prop := ∀ v σ G H Q, Rep K G d v → RelS K G δ σ → S K G H M →
  (∀ δ' M' σ' G' H', k δ' M' → RelS K G' δ' σ' → S K G' H' M' → Step (ads M) G H (ads M') G' H' → Q σ' H') → g v σ H Q
def AGs (g : TGs) (ds : List D) (δ : DS) (M : Mu) (k : DS → Mu → Prop) : Prop := ∀ vs σ G H Q, Reps K G ds vs → RelS K G δ σ → S K G H M →
  (∀ δ' M' σ' G' H', k δ' M' → RelS K G' δ' σ' → S K G' H' M' → Step (ads M) G H (ads M') G' H' → Q σ' H') → g vs σ H Q
/-- what is wanted behind a statement -/
structure AEnds where
  nx : DS → Mu → Prop
  rt : D → Mu → Prop
  bk : DS → Mu → Prop := fun _ _ => False
  ct : DS → Mu → Prop := fun _ _ => False
  /-- what is raised: the error's fields; W, who takes it (the error's own dict, the heap) -/
  xs : List (Str × D) → Mu → Prop := fun _ _ => False
  W : Addr → Hp → Prop := fun _ _ => False
structure Fit (A : AEnds) (M : Mu) (G H : Hp) (E : Ends) : Prop where
  nx : ∀ δ' M' σ' G' H', A.nx δ' M' → RelS K G' δ' σ' → S K G' H' M' → Step (ads M) G H (ads M') G' H' → E.nx σ' H'
  rt : ∀ d M' v G' H', A.rt d M' → S K G' H' M' → Step (ads M) G H (ads M') G' H' → Rep K G' d v → E.rt v H'
  bk : ∀ δ' M' σ' G' H', A.bk δ' M' → RelS K G' δ' σ' → S K G' H' M' → Step (ads M) G H (ads M') G' H' → E.bk σ' H'
  ct : ∀ δ' M' σ' G' H', A.ct δ' M' → RelS K G' δ' σ' → S K G' H' M' → Step (ads M) G H (ads M') G' H' → E.ct σ' H'
  xs : ∀ fs M' d G' H', A.xs fs M' → S K G' H' (M' ++ [(d, .xd fs)]) → Step (ads M) G H (ads (M' ++ [(d, .xd fs)])) G' H' → A.W d H'
def AS (ts : TS) (δ : DS) (M : Mu) (A : AEnds) : Prop := ∀ σ G H E, RelS K G δ σ → S K G H M → Fit K A M G H E → ts E σ H
/-- what a for walks: the items ds -/
def ItOk (J : It) (G : Hp) (ds : List D) : Prop := ∀ i G1 H1 M, Same G G1 → S K G1 H1 M →
  (∀ d, ds[i]? = some d → J.go i H1 ∧ ∀ x H', J.yld i H1 x H' → ∃ G', S K G' H' M ∧ Step (ads M) G1 H1 (ads M) G' H' ∧ Rep K G' d x) ∧ (i = ds.length → J.stop i H1)
def AI (wi : TI) (δ : DS) (M : Mu) (k : List D → Mu → Prop) : Prop := ∀ σ G H R, RelS K G δ σ → S K G H M →
  (∀ ds M' G' H' J, k ds M' → S K G' H' M' → Step (ads M) G H (ads M') G' H' → ItOk K J G' ds → R J H') → wi σ H R
end
end Tg
set_option Elab.async false
set_option linter.all false
set_option maxRecDepth 100000
set_option maxHeartbeats 1000000
namespace Tg
open PySem L2
section
variable {K : PySem.W.Frag} {δ : DS} {M : Mu} {ta tb te to ti : TE} {k : D → Mu → Prop} {i : Nat} {d x y : D}
/-! ### expressions -/
theorem ae_var (h : δ[i]? = some (some d)) (q : k d M) : AE K (tVar i) δ M k := fun σ G H Q r s f =>
  let ⟨v, e, rv⟩ := r.at_ i d h
  ⟨v, e, f d M v G H q s Step.refl rv⟩
theorem ae_c {v : V} (h : ∀ G, Rep K G d v) (q : k d M) : AE K (tC v) δ M k := fun σ G H Q r s f => f d M v G H q s Step.refl (h G)
theorem ae_int {j : Int} (q : k (.int j) M) : AE K (tC (.int j)) δ M k := ae_c (fun _ => rep_of_int) q
theorem ae_bl {b : Bool} (q : k (.bl b) M) : AE K (tC (.bl b)) δ M k := ae_c (fun _ => rep_of_bl) q
theorem ae_non (q : k .non M) : AE K (tC .non) δ M k := ae_c (fun _ => rep_of_non) q
theorem ae_str {z : Str} (q : k (.str z) M) : AE K (tC (.str z)) δ M k := ae_c (fun _ => rep_of_str) q
theorem ae_ref {a : Addr} (q : k (.ref a) M) : AE K (tC (.ref a)) δ M k := ae_c (fun _ => rep_of_ref) q
theorem ae_ty {n : String} (q : k (.ty n) M) : AE K (tC (.ty n)) δ M k := ae_c (fun _ => rep_of_ty) q
theorem ae_op {r : R2} (h : AE K ta δ M fun x M1 => AE K tb δ M1 fun y M2 => AR K r x y M2 k) : AE K (tOp r ta tb) δ M k := fun σ G H Q rs s f =>
  h σ G H _ rs s fun x M1 vx G1 H1 h1 s1 st1 r1 => h1 σ G1 H1 _ (rs.mono st1.gg) s1 fun y M2 vy G2 H2 h2 s2 st2 r2 =>
    h2 vx vy G2 H2 Q (Rep.mono st2.gg _ _ r1) r2 s2 fun d M3 v G3 H3 q s3 st3 r3 => f d M3 v G3 H3 q s3 ((st1.trans st2).trans st3) r3
theorem ae_un {r : V → Hp → VK → Prop} (h : AE K ta δ M fun x M1 => AU K r x M1 k) : AE K (tUn r ta) δ M k := fun σ G H Q rs s f =>
  h σ G H _ rs s fun x M1 vx G1 H1 h1 s1 st1 r1 => h1 vx G1 H1 Q r1 s1 fun d M3 v G3 H3 q s3 st3 r3 => f d M3 v G3 H3 q s3 (st1.trans st3) r3
theorem ae_andV (h : AE K ta δ M fun x M1 => ∃ b, x = .bl b ∧ (b = true → AE K tb δ M1 k) ∧ (b = false → k (.bl false) M1)) : AE K (tAndV ta tb) δ M k := fun σ G H Q rs s f =>
  h σ G H _ rs s fun x M1 vx G1 H1 ⟨b, e, h1, h2⟩ s1 st1 r1 => by
    subst e
    refine ⟨b, rep_bl r1, ?_⟩
    cases b with
    | true =>
      rw [if_pos rfl]
      exact h1 rfl σ G1 H1 Q (rs.mono st1.gg) s1 fun d M3 v G3 H3 q s3 st3 r3 => f d M3 v G3 H3 q s3 (st1.trans st3) r3
    | false =>
      rw [if_neg Bool.false_ne_true]
      exact f _ M1 _ G1 H1 (h2 rfl) s1 st1 rep_of_bl
theorem ae_orV (h : AE K ta δ M fun x M1 => ∃ b, x = .bl b ∧ (b = false → AE K tb δ M1 k) ∧ (b = true → k (.bl true) M1)) : AE K (tOrV ta tb) δ M k := fun σ G H Q rs s f =>
  h σ G H _ rs s fun x M1 vx G1 H1 ⟨b, e, h1, h2⟩ s1 st1 r1 => by
    subst e
    refine ⟨b, rep_bl r1, ?_⟩
    cases b with
    | false =>
      rw [if_neg Bool.false_ne_true]
      exact h1 rfl σ G1 H1 Q (rs.mono st1.gg) s1 fun d M3 v G3 H3 q s3 st3 r3 => f d M3 v G3 H3 q s3 (st1.trans st3) r3
    | true =>
      rw [if_pos rfl]
      exact f _ M1 _ G1 H1 (h2 rfl) s1 st1 rep_of_bl
theorem ae_notV (h : AE K ta δ M fun x M1 => ∃ b, x = .bl b ∧ k (.bl (!b)) M1) : AE K (tNotV ta) δ M k := fun σ G H Q rs s f =>
  h σ G H _ rs s fun x M1 vx G1 H1 ⟨b, e, h1⟩ s1 st1 r1 => by
    subst e
    exact ⟨b, rep_bl r1, f _ M1 _ G1 H1 h1 s1 st1 rep_of_bl⟩
theorem ae_if {t : TT} (h : AT K t δ M fun b M1 => (b = true → AE K ta δ M1 k) ∧ (b = false → AE K tb δ M1 k)) : AE K (tIf t ta tb) δ M k := fun σ G H Q rs s f =>
  h σ G H _ rs s fun b M1 G1 H1 ⟨h1, h2⟩ s1 st1 => by
    cases b with
    | true =>
      rw [if_pos rfl]
      exact h1 rfl σ G1 H1 Q (rs.mono st1.gg) s1 fun d M3 v G3 H3 q s3 st3 r3 => f d M3 v G3 H3 q s3 (st1.trans st3) r3
    | false =>
      rw [if_neg Bool.false_ne_true]
      exact h2 rfl σ G1 H1 Q (rs.mono st1.gg) s1 fun d M3 v G3 H3 q s3 st3 r3 => f d M3 v G3 H3 q s3 (st1.trans st3) r3
/-! ### tests -/
variable {t u : TT} {kb : Bool → Mu → Prop}
theorem at_test (h : AE K te δ M fun d M' => ∃ b, d = .bl b ∧ kb b M') : AT K (tTest te) δ M kb := fun σ G H Q rs s f =>
  h σ G H _ rs s fun x M1 vx G1 H1 ⟨b, e, h1⟩ s1 st1 r1 => by
    subst e
    exact ⟨b, rep_bl r1, f b M1 G1 H1 h1 s1 st1⟩
theorem at_B (h : AE K te δ M fun d M' => ∃ b, d = .bl b ∧ kb b M') : AT K (tB te) δ M kb := fun σ G H Q rs s f =>
  h σ G H _ rs s fun x M1 vx G1 H1 ⟨b, e, h1⟩ s1 st1 r1 => by
    subst e
    exact ⟨b, rep_bl r1, f b M1 G1 H1 h1 s1 st1⟩
theorem at_and (h : AT K t δ M fun b M1 => (b = true → AT K u δ M1 kb) ∧ (b = false → kb false M1)) : AT K (tAnd t u) δ M kb := fun σ G H Q rs s f =>
  h σ G H _ rs s fun b M1 G1 H1 ⟨h1, h2⟩ s1 st1 => by
    cases b with
    | true =>
      rw [if_pos rfl]
      exact h1 rfl σ G1 H1 Q (rs.mono st1.gg) s1 fun d M3 G3 H3 q s3 st3 => f d M3 G3 H3 q s3 (st1.trans st3)
    | false =>
      rw [if_neg Bool.false_ne_true]
      exact f _ M1 G1 H1 (h2 rfl) s1 st1
theorem at_or (h : AT K t δ M fun b M1 => (b = false → AT K u δ M1 kb) ∧ (b = true → kb true M1)) : AT K (tOr t u) δ M kb := fun σ G H Q rs s f =>
  h σ G H _ rs s fun b M1 G1 H1 ⟨h1, h2⟩ s1 st1 => by
    cases b with
    | false =>
      rw [if_neg Bool.false_ne_true]
      exact h1 rfl σ G1 H1 Q (rs.mono st1.gg) s1 fun d M3 G3 H3 q s3 st3 => f d M3 G3 H3 q s3 (st1.trans st3)
    | true =>
      rw [if_pos rfl]
      exact f _ M1 G1 H1 (h2 rfl) s1 st1
theorem at_not (h : AT K t δ M fun b M1 => kb (!b) M1) : AT K (tNot t) δ M kb := fun σ G H Q rs s f =>
  h σ G H _ rs s fun b M1 G1 H1 h1 s1 st1 => f _ M1 G1 H1 h1 s1 st1
/-- a value's truth -/
def truD : D → Bool
  | .non => false
  | .bl b => b
  | .int i => i != 0
  | .str z => ((z.length : Int) != 0)
  | .tup ds => !ds.isEmpty
  | .lst ds => !ds.isEmpty
  | .lsk ds => !ds.isEmpty
  | _ => true
def TruOk : D → Prop
  | .str z => z.length ≤ sizeLine
  | .ref _ => False
  | .ty _ => False
  | _ => True
theorem isEmpty_len {α β : Type} {xs : List α} {ys : List β} (h : xs.length = ys.length) : xs.isEmpty = ys.isEmpty := by
  cases xs <;> cases ys <;> simp_all
theorem truV_of {G H : Hp} {v : V} (e : Same G H) (o : TruOk d) (r : Rep K G d v) : TruV K v H (truD d) := by
  cases d with
  | non => rw [rep_non r]; rfl
  | bl b => rw [rep_bl r]; rfl
  | int i => rw [rep_int r]; rfl
  | str z => rw [rep_str r]; exact ⟨o, rfl⟩
  | ty n => exact o.elim
  | ref a => exact o.elim
  | tup ds =>
    obtain ⟨a, xs, rfl, h, rs⟩ := rep_tup r
    exact .inr (.inl ⟨xs, Same.seqT e h, by rw [show truD (.tup ds) = !ds.isEmpty from rfl, isEmpty_len rs.len]⟩)
  | lst ds =>
    obtain ⟨a, xs, rfl, h, rs⟩ := rep_lst r
    exact .inl ⟨xs, .inl (.inl (e _ _ h)), by rw [show truD (.lst ds) = !ds.isEmpty from rfl, isEmpty_len rs.len]⟩
  | lsk ds =>
    obtain ⟨a, xs, rfl, h, rs⟩ := rep_lsk r
    exact .inl ⟨xs, e.seq h, by rw [show truD (.lsk ds) = !ds.isEmpty from rfl, isEmpty_len rs.len]⟩
def tTruU (K : PySem.W.Frag) (ta : TE) : TT := fun σ H Q => ta σ H fun x H' => ∃ k, TruV K x H' k ∧ Q k H'
theorem pt_tru {X : Cx} {a : Expr} (ha : PE X a ta) (he : ∀ whole, isTrue a X.env whole = (do let v ← whole; standAt a.pos; holding [v] (truthy v)) := by intro _; rfl) : PT X a (tTruU X.K ta) := pt_truth ha he
theorem at_tru (h : AE K te δ M fun d M' => TruOk d ∧ kb (truD d) M') : AT K (tTruU K te) δ M kb := fun σ G H Q rs s f =>
  h σ G H _ rs s fun x M1 vx G1 H1 ⟨o, h1⟩ s1 st1 r1 => ⟨truD x, truV_of s1.same o r1, f _ M1 G1 H1 h1 s1 st1⟩
/-! ### operations -/
theorem ar_int {g : Int → Int → Int} {a b : Int} (q : k (.int (g a b)) M) : AR K (rI0 fun i j => .int (g i j)) (.int a) (.int b) M k := fun vx vy G H Q rx ry s f =>
  ⟨a, b, rep_int rx, rep_int ry, f _ M _ G H q s Step.refl rep_of_int⟩
theorem ar_cmp {g : Int → Int → Bool} {a b : Int} (q : k (.bl (g a b)) M) : AR K (rI0 fun i j => .bl (g i j)) (.int a) (.int b) M k := fun vx vy G H Q rx ry s f =>
  ⟨a, b, rep_int rx, rep_int ry, f _ M _ G H q s Step.refl rep_of_bl⟩
theorem ar_intC {C : Int → Int → Prop} {g : Int → Int → Int} {a b : Int} (c : C a b) (q : k (.int (g a b)) M) : AR K (rI C fun i j => .int (g i j)) (.int a) (.int b) M k := fun vx vy G H Q rx ry s f =>
  ⟨a, b, rep_int rx, rep_int ry, c, f _ M _ G H q s Step.refl rep_of_int⟩
theorem ar_add {a b : Int} (q : k (.int (a + b)) M) : AR K (rI0 fun i j => .int (i + j)) (.int a) (.int b) M k := ar_int (g := fun i j => i + j) q
theorem ar_sub {a b : Int} (q : k (.int (a - b)) M) : AR K (rI0 fun i j => .int (i - j)) (.int a) (.int b) M k := ar_int (g := fun i j => i - j) q
theorem ar_or1 {r1 r2 : R2} (h : AR K r1 x y M k) : AR K (fun x y H Q => r1 x y H Q ∨ r2 x y H Q) x y M k := fun vx vy G H Q rx ry s f => .inl (h vx vy G H Q rx ry s f)
theorem ar_or2 {r1 r2 : R2} (h : AR K r2 x y M k) : AR K (fun x y H Q => r1 x y H Q ∨ r2 x y H Q) x y M k := fun vx vy G H Q rx ry s f => .inr (h vx vy G H Q rx ry s f)
theorem au_neg {a : Int} (q : k (.int (-a)) M) : AU K (rU fun i => .int (-i)) (.int a) M k := fun vx G H Q rx s f => ⟨a, rep_int rx, f _ M _ G H q s Step.refl rep_of_int⟩
/-- equality of two scalars -/
def sclD : D → D → Option Bool
  | .int a, .int b => some (decide (a = b))
  | .str a, .str b => some (decide (a = b))
  | .bl a, .bl b => some (decide (a = b))
  | .non, .non => some true
  | .non, .int _ => some false
  | .int _, .non => some false
  | .non, .str _ => some false
  | .str _, .non => some false
  | _, _ => none
theorem ar_eqD {b : Bool} (h : sclD x y = some b) (q : k (.bl b) M) : AR K rEq x y M k := fun vx vy G H Q rx ry s f => by
  have go : ∀ (c : Bool), scal vx vy = true → decide (vx = vy) = c → c = b → rEq vx vy H Q := fun c h1 h2 h3 => ⟨h1, by
    rw [h2, h3]
    exact f _ M _ G H q s Step.refl rep_of_bl⟩
  cases x <;> cases y <;> simp only [sclD, Option.some.injEq, reduceCtorEq] at h
  · rw [rep_non rx, rep_non ry] at go ⊢
    exact go true rfl (by simp) h
  · rename_i j
    rw [rep_non rx, rep_int ry] at go ⊢
    exact go false rfl (by simp) h
  · rename_i j
    rw [rep_non rx, rep_str ry] at go ⊢
    exact go false rfl (by simp) h
  · rename_i i j
    rw [rep_bl rx, rep_bl ry] at go ⊢
    exact go _ rfl (by simp) h
  · rw [rep_int rx, rep_non ry] at go ⊢
    exact go false rfl (by simp) h
  · rename_i i j
    rw [rep_int rx, rep_int ry] at go ⊢
    exact go _ rfl (by simp) h
  · rw [rep_str rx, rep_non ry] at go ⊢
    exact go false rfl (by simp) h
  · rename_i i j
    rw [rep_str rx, rep_str ry] at go ⊢
    exact go _ rfl (by simp) h
theorem ar_neD {b : Bool} (h : sclD x y = some b) (q : k (.bl (!b)) M) : AR K rNe x y M k := fun vx vy G H Q rx ry s f => by
  have go : ∀ (c : Bool), scal vx vy = true → decide (vx = vy) = c → c = b → rNe vx vy H Q := fun c h1 h2 h3 => ⟨h1, by
    rw [h2, h3]
    exact f _ M _ G H q s Step.refl rep_of_bl⟩
  cases x <;> cases y <;> simp only [sclD, Option.some.injEq, reduceCtorEq] at h
  · rw [rep_non rx, rep_non ry] at go ⊢
    exact go true rfl (by simp) h
  · rename_i j
    rw [rep_non rx, rep_int ry] at go ⊢
    exact go false rfl (by simp) h
  · rename_i j
    rw [rep_non rx, rep_str ry] at go ⊢
    exact go false rfl (by simp) h
  · rename_i i j
    rw [rep_bl rx, rep_bl ry] at go ⊢
    exact go _ rfl (by simp) h
  · rw [rep_int rx, rep_non ry] at go ⊢
    exact go false rfl (by simp) h
  · rename_i i j
    rw [rep_int rx, rep_int ry] at go ⊢
    exact go _ rfl (by simp) h
  · rw [rep_str rx, rep_non ry] at go ⊢
    exact go false rfl (by simp) h
  · rename_i i j
    rw [rep_str rx, rep_str ry] at go ⊢
    exact go _ rfl (by simp) h
def isNon : D → Bool
  | .non => true
  | _ => false
theorem isNon_of {G : Hp} {v : V} (r : Rep K G d v) : decide (v = V.non) = isNon d := by
  cases d with
  | non => rw [rep_non r]; rfl
  | bl b => rw [rep_bl r]; rfl
  | int i => rw [rep_int r]; rfl
  | str z => rw [rep_str r]; rfl
  | ty n => rw [rep_ty r]; rfl
  | ref a => rw [rep_ref r]; rfl
  | tup ds => obtain ⟨a, xs, rfl, _⟩ := rep_tup r; rfl
  | lst ds => obtain ⟨a, xs, rfl, _⟩ := rep_lst r; rfl
  | lsk ds => obtain ⟨a, xs, rfl, _⟩ := rep_lsk r; rfl
theorem ar_isN (q : k (.bl (isNon x)) M) : AR K rIsN x .non M k := fun vx vy G H Q rx ry s f => ⟨rep_non ry, by
  rw [isNon_of rx]
  exact f _ M _ G H q s Step.refl rep_of_bl⟩
theorem ar_notN (q : k (.bl (!isNon x)) M) : AR K rNotN x .non M k := fun vx vy G H Q rx ry s f => ⟨rep_non ry, by
  rw [isNon_of rx]
  exact f _ M _ G H q s Step.refl rep_of_bl⟩
/-! ### items -/
theorem atI_rep {G : Hp} {ds : List D} {xs : List V} {j : Int} (r : Reps K G ds xs) (h : atI ds j = some d) : ∃ v, atI xs j = some v ∧ Rep K G d v := by
  unfold atI at h ⊢
  rw [r.len]
  cases e : ixN ds.length j with
  | none => rw [e] at h; cases h
  | some m =>
    rw [e] at h
    exact r.get h
theorem ar_ixL {ds : List D} {j : Int} (h : atI ds j = some d) (q : k d M) : AR K (rIxL K) (.lst ds) (.int j) M k := fun vx vy G H Q rx ry s f => by
  obtain ⟨a, xs, rfl, ha, rs⟩ := rep_lst rx
  obtain ⟨v, e, rv⟩ := atI_rep rs h
  exact ⟨a, xs, j, v, rfl, rep_int ry, .inl (.inl (s.same _ _ ha)), e, f d M v G H q s Step.refl rv⟩
theorem ar_ixK {ds : List D} {j : Int} (h : atI ds j = some d) (q : k d M) : AR K (rIxL K) (.lsk ds) (.int j) M k := fun vx vy G H Q rx ry s f => by
  obtain ⟨a, xs, rfl, ha, rs⟩ := rep_lsk rx
  obtain ⟨v, e, rv⟩ := atI_rep rs h
  exact ⟨a, xs, j, v, rfl, rep_int ry, s.same.seq ha, e, f d M v G H q s Step.refl rv⟩
theorem ar_ixT {ds : List D} {j : Int} (h : atI ds j = some d) (q : k d M) : AR K (rIxT K) (.tup ds) (.int j) M k := fun vx vy G H Q rx ry s f => by
  obtain ⟨a, xs, rfl, ha, rs⟩ := rep_tup rx
  obtain ⟨v, e, rv⟩ := atI_rep rs h
  exact ⟨a, xs, j, v, rfl, rep_int ry, Same.seqT s.same ha, e, f d M v G H q s Step.refl rv⟩
theorem ar_ixS {z : Str} {j : Int} {c : Nat} (hz : z.length ≤ sizeLine) (h : atI z.cps.toList j = some c) (q : k (.str ⟨#[c]⟩) M) : AR K rIxS (.str z) (.int j) M k := fun vx vy G H Q rx ry s f =>
  ⟨z, j, c, rep_str rx, rep_int ry, hz, h, f _ M _ G H q s Step.refl rep_of_str⟩
/-- an item of a list that may change -/
theorem ar_ixM {a : Addr} {M1 M2 : Mu} {ds : List D} {j : Int} (e : M = M1 ++ (a, .lst ds) :: M2) (h : atI ds j = some d) (q : k d M) : AR K (rIxL K) (.ref a) (.int j) M k := fun vx vy G H Q rx ry s f => by
  obtain ⟨_, o, ho, r⟩ := s.mu (a, .lst ds) (by rw [e]; simp)
  obtain ⟨xs, rfl, rs⟩ := r
  obtain ⟨v, e2, rv⟩ := atI_rep rs h
  exact ⟨a, xs, j, v, rep_ref rx, rep_int ry, .inl (.inl ho), e2, f d M v G H q s Step.refl rv⟩
theorem aix_L {ds : List D} {j : Int} (h : atI ds j = some d) (q : k d M) : AR K (rIx K) (.lst ds) (.int j) M k := ar_or1 (ar_ixL h q)
theorem aix_K {ds : List D} {j : Int} (h : atI ds j = some d) (q : k d M) : AR K (rIx K) (.lsk ds) (.int j) M k := ar_or1 (ar_ixK h q)
theorem aix_T {ds : List D} {j : Int} (h : atI ds j = some d) (q : k d M) : AR K (rIx K) (.tup ds) (.int j) M k := ar_or2 (ar_or1 (ar_ixT h q))
theorem aix_S {z : Str} {j : Int} {c : Nat} (hz : z.length ≤ sizeLine) (h : atI z.cps.toList j = some c) (q : k (.str ⟨#[c]⟩) M) : AR K (rIx K) (.str z) (.int j) M k := ar_or2 (ar_or2 (ar_ixS hz h q))
theorem aix_M {a : Addr} {M1 M2 : Mu} {ds : List D} {j : Int} (e : M = M1 ++ (a, .lst ds) :: M2) (h : atI ds j = some d) (q : k d M) : AR K (rIx K) (.ref a) (.int j) M k := ar_or1 (ar_ixM e h q)
/-! ### arguments, calls -/
variable {kl : List D → Mu → Prop}
theorem aa_nil (q : kl [] M) : AA K tNil δ M kl := fun σ G H Q r s f => f [] M [] G H q s Step.refl Reps.nil
theorem aa_cons {tr : TA} (h : AE K te δ M fun d M1 => AA K tr δ M1 fun ds M2 => kl (d :: ds) M2) : AA K (tCons te tr) δ M kl := fun σ G H Q rs s f =>
  h σ G H _ rs s fun x M1 vx G1 H1 h1 s1 st1 r1 => h1 σ G1 H1 _ (rs.mono st1.gg) s1 fun ds M2 vs G2 H2 h2 s2 st2 r2 =>
    f (x :: ds) M2 (vx :: vs) G2 H2 h2 s2 (st1.trans st2) (Reps.cons (Rep.mono st2.gg _ _ r1) r2)
theorem ae_tup {ts : TA} (h : AA K ts δ M fun ds M1 => ds.length ≤ sizeLine ∧ k (.tup ds) M1) : AE K (tTup ts) δ M k := fun σ G H Q rs s f =>
  h σ G H _ rs s fun ds M1 vs G1 H1 ⟨hl, h1⟩ s1 st1 r1 => ⟨by rw [r1.len]; exact hl, fun p hp => by
    obtain ⟨s2, st2, e2⟩ := s1.frozen (o := .tup vs) hp
    exact f _ M1 _ _ _ h1 s2 (st1.trans st2) (rep_mk_tup (.inl (.inl upd_same)) (Reps.mono e2 _ _ r1))⟩
theorem ae_lst {ts : TA} (h : AA K ts δ M fun ds M1 => ds.length ≤ sizeLine ∧ k (.lst ds) M1) : AE K (tLst ts) δ M k := fun σ G H Q rs s f =>
  h σ G H _ rs s fun ds M1 vs G1 H1 ⟨hl, h1⟩ s1 st1 r1 => ⟨by rw [r1.len]; exact hl, fun p hp => by
    obtain ⟨s2, st2, e2⟩ := s1.frozen (o := .lst vs) hp
    exact f _ M1 _ _ _ h1 s2 (st1.trans st2) (rep_mk_lst upd_same (Reps.mono e2 _ _ r1))⟩
/-- a list that is to change -/
def tLstM (t : TA) : TE := tLst t
theorem pe_lstM {X : Cx} {es : List Expr} {t : TA} {pos : Pos} (h : PE X (.List es pos) (tLst t)) : PE X (.List es pos) (tLstM t) := h
theorem ae_lstM {ts : TA} (h : AA K ts δ M fun ds M1 => ds.length ≤ sizeLine ∧ ∀ a, k (.ref a) (M1 ++ [(a, .lst ds)])) : AE K (tLstM ts) δ M k := fun σ G H Q rs s f =>
  h σ G H _ rs s fun ds M1 vs G1 H1 ⟨hl, h1⟩ s1 st1 r1 => ⟨by rw [r1.len]; exact hl, fun p hp => by
    obtain ⟨s2, st2⟩ := s1.fresh (m := .lst ds) (o := .lst vs) hp ⟨vs, rfl, r1⟩
    exact f _ _ _ _ _ (h1 p) s2 (st1.trans st2) rep_of_ref⟩
theorem ae_cb {r : List V → Hp → VK → Prop} {ts : TA} (h : AA K ts δ M fun ds M1 => AC K r ds M1 k) : AE K (tCB r ts) δ M k := fun σ G H Q rs s f =>
  h σ G H _ rs s fun ds M1 vs G1 H1 h1 s1 st1 r1 => h1 vs G1 H1 Q r1 s1 fun d M3 v G3 H3 q s3 st3 r3 => f d M3 v G3 H3 q s3 (st1.trans st3) r3
theorem ac_or1 {r1 r2 : List V → Hp → VK → Prop} {xs : List D} (h : AC K r1 xs M k) : AC K (fun xs H Q => r1 xs H Q ∨ r2 xs H Q) xs M k := fun vs G H Q rx s f => .inl (h vs G H Q rx s f)
theorem ac_or2 {r1 r2 : List V → Hp → VK → Prop} {xs : List D} (h : AC K r2 xs M k) : AC K (fun xs H Q => r1 xs H Q ∨ r2 xs H Q) xs M k := fun vs G H Q rx s f => .inr (h vs G H Q rx s f)
/-! ### a def's promise over deep data -/
def Spc (K : PySem.W.Frag) (W : List D → Mu → (D → Mu → Prop) → Prop) : Sp := fun vs H Q _ => ∃ G ds M k, Reps K G ds vs ∧ S K G H M ∧ W ds M k ∧
  ∀ d M' v G' H', k d M' → S K G' H' M' → Step (ads M) G H (ads M') G' H' → Rep K G' d v → Q v H'
abbrev Wt := List D → Mu → (D → Mu → Prop) → Prop
theorem S.join {G H G' H' : Hp} {Mc R Mc' : Mu} (s : S K G H (Mc ++ R)) (s' : S K G' H' Mc') (st : Step (ads Mc) G H (ads Mc') G' H') :
    S K G' H' (Mc' ++ R) ∧ Step (ads (Mc ++ R)) G H (ads (Mc' ++ R)) G' H' := by
  have nd := s.nd
  rw [List.map_append, List.nodup_append] at nd
  obtain ⟨n1, n2, n3⟩ := nd
  have rout : ∀ p ∈ R, p.1 ∉ ads Mc := fun p hp z => n3 p.1 z p.1 (List.mem_map.mpr ⟨p, hp, rfl⟩) rfl
  have ral : ∀ p ∈ R, H p.1 ≠ none := fun p hp z => by
    obtain ⟨_, o, ho, _⟩ := s.mu p (List.mem_append_right _ hp)
    rw [z] at ho
    cases ho
  refine ⟨⟨s'.same, fun p hp => ?_, ?_⟩, ⟨st.gg, fun b hb hn => st.fr b hb fun z => hn ?_, fun b o hn e => st.keep b o (fun z => hn ?_) e, st.alive, fun b hb => ?_⟩⟩
  · rcases List.mem_append.mp hp with hp | hp
    · exact s'.mu p hp
    · obtain ⟨g1, o, ho, r⟩ := s.mu p (List.mem_append_right _ hp)
      exact ⟨by rw [st.fr _ (ral p hp) (rout p hp)]; exact g1, o, st.keep _ _ (rout p hp) ho, r.mono st.gg⟩
  · rw [List.map_append, List.nodup_append]
    refine ⟨s'.nd, n2, fun a ha b hb e => ?_⟩
    subst e
    obtain ⟨p, hp, rfl⟩ := List.mem_map.mp hb
    rcases st.own _ ha with q | q
    · exact rout p hp q
    · exact ral p hp q
  · simp only [ads, List.map_append, List.mem_append]
    exact .inl z
  · simp only [ads, List.map_append, List.mem_append]
    exact .inl z
  · simp only [ads, List.map_append, List.mem_append] at hb ⊢
    rcases hb with hb | hb
    · rcases st.own b hb with q | q
      · exact .inl (.inl q)
      · exact .inr q
    · exact .inl (.inr hb)
/-- a call of a def whose promise is W: Mc is what it may change, R what it does not see, kc what is known behind it -/
theorem ae_call {W : Wt} {E : XK} {ts : TA} (h : AA K ts δ M fun ds M1 => ∃ Mc R kc, M1 = Mc ++ R ∧ W ds Mc kc ∧ ∀ d Mc', kc d Mc' → k d (Mc' ++ R)) : AE K (tCall (Spc K W) [] E ts) δ M k := fun σ G H Q rs s f =>
  h σ G H _ rs s fun ds M1 vs G1 H1 ⟨Mc, R, kc, e, hw, hk⟩ s1 st1 r1 => by
    subst e
    refine ⟨G1, ds, Mc, kc, by rw [List.append_nil]; exact r1, s1.sub, hw, fun d M' v G' H' hd s' st' rv => ?_⟩
    obtain ⟨s2, st2⟩ := s1.join s' st'
    exact f d _ v G' H' (hk d M' hd) s2 (st1.trans st2) rv
/-- freezing, ahead of what follows -/
theorem k_freeze {a : Addr} {ds : List D} {M1 M2 : Mu} {te : TE} (h : AE K te δ M fun d M' => d = .ref a ∧ M' = M1 ++ (a, .lst ds) :: M2 ∧ k (.lst ds) (M1 ++ M2)) : AE K te δ M k := fun σ G H Q rs s f =>
  h σ G H _ rs s fun x M1 vx G1 H1 ⟨e1, e2, h1⟩ s1 st1 r1 => by
    subst e1 e2
    obtain ⟨xs, s2, st2, e3, r2⟩ := s1.freeze
    rw [rep_ref r1]
    exact f _ _ _ _ _ h1 s2 (st1.trans st2) r2
/-! ### targets -/
variable {kg : DS → Mu → Prop}
theorem ag_name (q : kg (δ.set i (some d)) M) : AG K (gName i) d δ M kg := fun v σ G H Q rv rs s f => f _ M _ G H q (rs.set i rv) s Step.refl
theorem ag_tup {n : Nat} {g : TGs} {ds : List D} (hl : ds.length = n) (h : AGs K g ds δ M kg) : AG K (gTup K n g) (.tup ds) δ M kg := fun v σ G H Q rv rs s f => by
  obtain ⟨a, xs, rfl, ha, rx⟩ := rep_tup rv
  exact ⟨a, xs, rfl, Same.seqT s.same ha, by rw [rx.len, hl], h xs σ G H Q rx rs s f⟩
theorem ags_nil (q : kg δ M) : AGs K gNil [] δ M kg := fun v σ G H Q rv rs s f => by
  unfold Reps at rv
  exact ⟨rv, f _ M _ G H q rs s Step.refl⟩
theorem ags_cons {t : TG} {u : TGs} {r : List D} (h : AG K t d δ M fun δ1 M1 => AGs K u r δ1 M1 kg) : AGs K (gCons t u) (d :: r) δ M kg := fun v σ G H Q rv rs s f => by
  obtain ⟨x, xs, rfl, r1, r2⟩ := rv.uncons
  exact ⟨x, xs, rfl, h x σ G H _ r1 rs s fun δ1 M1 σ1 G1 H1 h1 rs1 s1 st1 => h1 xs σ1 G1 H1 Q (Reps.mono st1.gg _ _ r2) rs1 s1 fun δ2 M2 σ2 G2 H2 h2 rs2 s2 st2 => f δ2 M2 σ2 G2 H2 h2 rs2 s2 (st1.trans st2)⟩
/-- a[j] = d, of a list that may change -/
def PutM (o i v : D) (M : Mu) (q : Mu → Prop) : Prop := ∃ a ds M1 M2 j n, o = .ref a ∧ i = .int j ∧ M = M1 ++ (a, .lst ds) :: M2 ∧ ixN ds.length j = some n ∧ q (M1 ++ (a, .lst (ds.set n v)) :: M2)
theorem ag_setL (h : AE K to δ M fun o M1 => AE K ti δ M1 fun j M2 => PutM o j d M2 fun M3 => kg δ M3) : AG K (gSub to ti rSetL) d δ M kg := fun v σ G H Q rv rs s f =>
  h σ G H _ rs s fun o M1 vo G1 H1 h1 s1 st1 r1 => h1 σ G1 H1 _ (rs.mono st1.gg) s1 fun j M2 vj G2 H2 h2 s2 st2 r2 => by
    obtain ⟨a, ds, N1, N2, jj, n, rfl, rfl, rfl, hn, q⟩ := h2
    obtain ⟨g0, o, ho, r⟩ := s2.mu (a, .lst ds) (by simp)
    obtain ⟨xs, rfl, rx⟩ := r
    obtain ⟨s3, st3⟩ := s2.write (o := .lst (xs.set n v)) (m' := .lst (ds.set n d)) ⟨_, rfl, Reps.set rx (Rep.mono (st1.trans st2).gg _ _ rv)⟩
    exact ⟨a, xs, jj, n, rep_ref r1, rep_int r2, ho, by rw [rx.len]; exact hn, f δ _ σ G2 _ q (rs.mono (st1.trans st2).gg) s3 ((st1.trans st2).trans st3)⟩
end
/-! ### statements -/
section
variable {K : PySem.W.Frag} {δ : DS} {M : Mu} {ta tb te to ti : TE} {i : Nat} {A : AEnds} {t u : TS} {tt : TT}
theorem Fit.go {M' : Mu} {G H G' H' : Hp} {E : Ends} (f : Fit K A M G H E) (st : Step (ads M) G H (ads M') G' H') : Fit K A M' G' H' E :=
  ⟨fun δ' M2 σ' G2 H2 a r s st2 => f.nx δ' M2 σ' G2 H2 a r s (st.trans st2), fun d M2 v G2 H2 a s st2 r => f.rt d M2 v G2 H2 a s (st.trans st2) r,
   fun δ' M2 σ' G2 H2 a r s st2 => f.bk δ' M2 σ' G2 H2 a r s (st.trans st2), fun δ' M2 σ' G2 H2 a r s st2 => f.ct δ' M2 σ' G2 H2 a r s (st.trans st2),
   fun fs M2 d G2 H2 a s st2 => f.xs fs M2 d G2 H2 a s (st.trans st2)⟩
theorem as_next (q : A.nx δ M) : AS K tNext δ M A := fun σ G H E rs s f => f.nx δ M σ G H q rs s Step.refl
theorem as_seq (h : AS K t δ M { A with nx := fun δ' M' => AS K u δ' M' A }) : AS K (tSeq t u) δ M A := fun σ G H E rs s f =>
  h σ G H { E with nx := u E } rs s ⟨fun δ' M' σ' G' H' a rs' s' st => a σ' G' H' E rs' s' (f.go st), f.rt, f.bk, f.ct, f.xs⟩
theorem as_asg {g : TG} (h : AE K te δ M fun d M1 => AG K g d δ M1 A.nx) : AS K (tAsg te g) δ M A := fun σ G H E rs s f =>
  h σ G H _ rs s fun d M1 v G1 H1 h1 s1 st1 r1 => h1 v σ G1 H1 E.nx r1 (rs.mono st1.gg) s1 fun δ' M' σ' G' H' a rs' s' st => f.nx δ' M' σ' G' H' a rs' s' (st1.trans st)
theorem as_set (h : AE K te δ M fun d M1 => A.nx (δ.set i (some d)) M1) : AS K (tAsg te (gName i)) δ M A := as_asg fun σ G H Q rs s f => h σ G H Q rs s fun d M' v G' H' q => f d M' v G' H' (ag_name q)
theorem as_ret (h : AE K te δ M A.rt) : AS K (tRet te) δ M A := fun σ G H E rs s f => h σ G H E.rt rs s fun d M1 v G1 H1 h1 s1 st1 r1 => f.rt d M1 v G1 H1 h1 s1 st1 r1
theorem as_retN (h : A.rt .non M) : AS K tRetN δ M A := fun σ G H E rs s f => f.rt .non M .non G H h s Step.refl rep_of_non
theorem as_if (h : AT K tt δ M fun b M1 => (b = true → AS K t δ M1 A) ∧ (b = false → AS K u δ M1 A)) : AS K (tIfS tt t u) δ M A := fun σ G H E rs s f =>
  h σ G H _ rs s fun b M1 G1 H1 ⟨h1, h2⟩ s1 st1 => by
    cases b with
    | true =>
      rw [if_pos rfl]
      exact h1 rfl σ G1 H1 E (rs.mono st1.gg) s1 (f.go st1)
    | false =>
      rw [if_neg Bool.false_ne_true]
      exact h2 rfl σ G1 H1 E (rs.mono st1.gg) s1 (f.go st1)
theorem as_drop (h : AE K te δ M fun _ M1 => A.nx δ M1) : AS K (tDrop te) δ M A := fun σ G H E rs s f => h σ G H _ rs s fun d M1 v G1 H1 h1 s1 st1 r1 => f.nx δ M1 σ G1 H1 h1 (rs.mono st1.gg) s1 st1
theorem as_brk (h : A.bk δ M) : AS K tBreak δ M A := fun σ G H E rs s f => f.bk δ M σ G H h rs s Step.refl
theorem as_cont (h : A.ct δ M) : AS K tCont δ M A := fun σ G H E rs s f => f.ct δ M σ G H h rs s Step.refl
theorem as_aug {r : TIp} {x : D} (hx : δ[i]? = some (some x)) (h : AE K te δ M fun y M1 => AR K r x y M1 fun z M2 => A.nx (δ.set i (some z)) M2) : AS K (tAug i te r) δ M A := fun σ G H E rs s f => by
  obtain ⟨v, e, rv⟩ := rs.at_ i x hx
  exact ⟨v, e, h σ G H _ rs s fun y M1 vy G1 H1 h1 s1 st1 r1 => h1 v vy G1 H1 _ (Rep.mono st1.gg _ _ rv) r1 s1 fun z M2 vz G2 H2 h2 s2 st2 r2 =>
    f.nx _ M2 _ G2 H2 h2 ((rs.mono (st1.trans st2).gg).set i r2) s2 (st1.trans st2)⟩
theorem as_while (I : Nat → DS → Mu → Prop) (m : Nat) (h0 : I m δ M) (h : ∀ m δ' M', I m δ' M' → AT K tt δ' M' fun b M1 => (b = true → AS K t δ' M1 { A with nx := fun δ2 M2 => ∃ m', m' < m ∧ I m' δ2 M2, ct := fun δ2 M2 => ∃ m', m' < m ∧ I m' δ2 M2, bk := A.nx }) ∧ (b = false → A.nx δ' M1)) : AS K (tWhile tt t) δ M A := fun σ G H E rs s f =>
  ⟨fun m σ' H' => ∃ δ' M' G', I m δ' M' ∧ RelS K G' δ' σ' ∧ S K G' H' M' ∧ Step (ads M) G H (ads M') G' H', ⟨m, δ, M, G, h0, rs, s, Step.refl⟩, fun m σ' H' ⟨δ', M', G', hI, rs', s', st'⟩ =>
    h m δ' M' hI σ' G' H' _ rs' s' fun b M1 G1 H1 ⟨h1, h2⟩ s1 st1 => by
      cases b with
      | true =>
        rw [if_pos rfl]
        refine ⟨fun σ2 H2 => ∃ m', m' < m ∧ ∃ δ' M' G', I m' δ' M' ∧ RelS K G' δ' σ2 ∧ S K G' H2 M' ∧ Step (ads M) G H (ads M') G' H2, fun σ2 H2 ⟨m', hm, q⟩ => ⟨m', hm, q⟩, ?_⟩
        refine h1 rfl σ' G1 H1 _ (rs'.mono st1.gg) s1 ⟨?_, ?_, ?_, ?_, ?_⟩
        · rintro δ2 M2 σ2 G2 H2 ⟨m', hm, q⟩ rs2 s2 st2
          exact ⟨m', hm, δ2, M2, G2, q, rs2, s2, (st'.trans st1).trans st2⟩
        · intro d M2 v G2 H2 q s2 st2 r2
          exact f.rt d M2 v G2 H2 q s2 ((st'.trans st1).trans st2) r2
        · intro δ2 M2 σ2 G2 H2 q rs2 s2 st2
          exact f.nx δ2 M2 σ2 G2 H2 q rs2 s2 ((st'.trans st1).trans st2)
        · rintro δ2 M2 σ2 G2 H2 ⟨m', hm, q⟩ rs2 s2 st2
          exact ⟨m', hm, δ2, M2, G2, q, rs2, s2, (st'.trans st1).trans st2⟩
        · intro fs M2 d G2 H2 q s2 st2
          exact f.xs fs M2 d G2 H2 q s2 ((st'.trans st1).trans st2)
      | false =>
        rw [if_neg Bool.false_ne_true]
        exact f.nx δ' M1 σ' G1 H1 (h2 rfl) (rs'.mono st1.gg) s1 (st'.trans st1)⟩
theorem as_for {wi : TI} {g : TG} (h : AI K wi δ M fun ds M1 => ∃ I : Nat → DS → Mu → Prop, I 0 δ M1 ∧
      (∀ i d δ' M', ds[i]? = some d → I i δ' M' → AG K g d δ' M' fun δ2 M2 => AS K t δ2 M2 { A with nx := I (i + 1), ct := I (i + 1), bk := A.nx }) ∧
      (∀ δ' M', I ds.length δ' M' → A.nx δ' M')) : AS K (tFor wi g t) δ M A := fun σ G H E rs s f =>
  h σ G H _ rs s fun ds M1 G1 H1 J ⟨I, h0, hs, he⟩ s1 st1 ok => by
    refine ⟨fun i m σ' H' => m = ds.length - i ∧ i ≤ ds.length ∧ ∃ δ' M' G', I i δ' M' ∧ RelS K G' δ' σ' ∧ S K G' H' M' ∧ Step (ads M1) G1 H1 (ads M') G' H', ⟨ds.length, by simp, Nat.zero_le _, δ, M1, G1, h0, rs.mono st1.gg, s1, Step.refl⟩, ?_⟩
    rintro i m σ' H' ⟨rfl, hi, δ', M', G', hI, rs', s', st'⟩
    obtain ⟨o1, o2⟩ := ok i G' H' M' st'.gg s'
    by_cases hl : i < ds.length
    · obtain ⟨hgo, hy⟩ := o1 ds[i] (List.getElem?_eq_getElem hl)
      refine .inr ⟨hgo, fun σ2 H2 => ∃ δ' M' G', I (i + 1) δ' M' ∧ RelS K G' δ' σ2 ∧ S K G' H2 M' ∧ Step (ads M1) G1 H1 (ads M') G' H2, fun σ2 H2 q => ⟨ds.length - (i + 1), by omega, rfl, hl, q⟩, fun x H2 y => ?_⟩
      obtain ⟨G2, s2, st2, r2⟩ := hy x H2 y
      refine hs i ds[i] δ' M' (List.getElem?_eq_getElem hl) hI x σ' G2 H2 _ r2 (rs'.mono st2.gg) s2 fun δ3 M3 σ3 G3 H3 h3 rs3 s3 st3 => ?_
      refine h3 σ3 G3 H3 _ rs3 s3 ⟨?_, ?_, ?_, ?_, ?_⟩
      · intro δ4 M4 σ4 G4 H4 q rs4 s4 st4
        exact ⟨δ4, M4, G4, q, rs4, s4, ((st'.trans st2).trans st3).trans st4⟩
      · intro d M4 v G4 H4 q s4 st4 r4
        exact f.rt d M4 v G4 H4 q s4 (st1.trans (((st'.trans st2).trans st3).trans st4)) r4
      · intro δ4 M4 σ4 G4 H4 q rs4 s4 st4
        exact f.nx δ4 M4 σ4 G4 H4 q rs4 s4 (st1.trans (((st'.trans st2).trans st3).trans st4))
      · intro δ4 M4 σ4 G4 H4 q rs4 s4 st4
        exact ⟨δ4, M4, G4, q, rs4, s4, ((st'.trans st2).trans st3).trans st4⟩
      · intro fs M4 d G4 H4 q s4 st4
        exact f.xs fs M4 d G4 H4 q s4 (st1.trans (((st'.trans st2).trans st3).trans st4))
    · have e : i = ds.length := by omega
      subst e
      exact .inl ⟨o2 rfl, f.nx δ' M' σ' G' H' (he δ' M' hI) rs' s' (st1.trans st')⟩
/-- the freezing of a slot -/
theorem as_freeze {a : Addr} {ds : List D} {M1 M2 : Mu} (hi : δ[i]? = some (some (.ref a))) (e : M = M1 ++ (a, .lst ds) :: M2) (h : AS K t (δ.set i (some (.lst ds))) (M1 ++ M2) A) : AS K t δ M A := fun σ G H E rs s f => by
  subst e
  obtain ⟨xs, s2, st2, e3, r2⟩ := s.freeze
  obtain ⟨v, hv, rv⟩ := rs.at_ i _ hi
  rw [rep_ref rv] at hv
  exact h σ _ H E ((rs.mono e3).setD i hv r2) s2 (f.go st2)
/-- what follows, by another word -/
theorem AS.mono {A' : AEnds} (h : AS K t δ M A') (h1 : ∀ δ M, A'.nx δ M → A.nx δ M) (h2 : ∀ d M, A'.rt d M → A.rt d M) (h3 : ∀ δ M, A'.bk δ M → A.bk δ M) (h4 : ∀ δ M, A'.ct δ M → A.ct δ M) (h5 : ∀ fs M, A'.xs fs M → A.xs fs M) (h6 : ∀ d H, A.W d H → A'.W d H) : AS K t δ M A := fun σ G H E rs s f =>
  h σ G H E rs s ⟨fun δ' M' σ' G' H' q => f.nx δ' M' σ' G' H' (h1 _ _ q), fun d M' v G' H' q => f.rt d M' v G' H' (h2 _ _ q), fun δ' M' σ' G' H' q => f.bk δ' M' σ' G' H' (h3 _ _ q), fun δ' M' σ' G' H' q => f.ct δ' M' σ' G' H' (h4 _ _ q), fun fs M' d G' H' q s' st => h6 _ _ (f.xs fs M' d G' H' (h5 _ _ q) s' st)⟩
end
end Tg
set_option Elab.async false
set_option linter.all false
set_option maxRecDepth 100000
set_option maxHeartbeats 1000000
namespace Tg
open PySem L2 PyProof.Rows
/-! ### what is walked -/
section
variable {K : PySem.W.Frag} {G : Hp}
theorem itOk_list {a : Addr} {xs : List V} {ds : List D} (h : SqL K G a xs) (r : Reps K G ds xs) : ItOk K (Itl K a) G ds := fun i G1 H1 M e s => by
  have hq : SqL K H1 a xs := s.same.seq (e.seq h)
  refine ⟨fun d hd => ?_, fun hi => ⟨xs, hq, by rw [r.len, hi]; exact Nat.le_refl _⟩⟩
  obtain ⟨x, hx, rx⟩ := r.get hd
  refine ⟨⟨xs, x, hq, hx⟩, fun y H' hy => ?_⟩
  obtain ⟨rfl, hy⟩ := hy
  have e2 : x = y := Option.some.inj (hx.symm.trans (hy xs hq))
  subst e2
  exact ⟨G1, s, Step.refl, Rep.mono e _ _ rx⟩
theorem itOk_tup {a : Addr} {xs : List V} {ds : List D} (h : SqT K G a xs) (r : Reps K G ds xs) : ItOk K (Itt K a) G ds := fun i G1 H1 M e s => by
  have hq : SqT K H1 a xs := Same.seqT s.same (Same.seqT e h)
  refine ⟨fun d hd => ?_, fun hi => ⟨xs, hq, by rw [r.len, hi]; exact Nat.le_refl _⟩⟩
  obtain ⟨x, hx, rx⟩ := r.get hd
  refine ⟨⟨xs, x, hq, hx⟩, fun y H' hy => ?_⟩
  obtain ⟨rfl, hy⟩ := hy
  have e2 : x = y := Option.some.inj (hx.symm.trans (hy xs hq))
  subst e2
  exact ⟨G1, s, Step.refl, Rep.mono e _ _ rx⟩
/-- the ints from lo on -/
def rng (lo : Int) (n : Nat) : List D := (List.range n).map fun i => .int (lo + (i : Nat))
theorem rng_len (lo : Int) (n : Nat) : (rng lo n).length = n := by simp [rng]
theorem rng_get {lo : Int} {n i : Nat} {d : D} (h : (rng lo n)[i]? = some d) : i < n ∧ d = .int (lo + (i : Nat)) := by
  unfold rng at h
  rw [List.getElem?_map] at h
  by_cases hi : i < n
  · rw [List.getElem?_range hi] at h
    exact ⟨hi, by simpa using h.symm⟩
  · rw [List.getElem?_eq_none (by simpa using hi)] at h
    cases h
theorem itOk_rng {lo : Int} {n : Nat} : ItOk K (Itr lo n) G (rng lo n) := fun i G1 H1 M e s => by
  refine ⟨fun d hd => ?_, fun hi => ?_⟩
  · obtain ⟨hi, rfl⟩ := rng_get hd
    refine ⟨hi, fun y H' hy => ?_⟩
    obtain ⟨rfl, rfl⟩ := hy
    exact ⟨G1, s, Step.refl, rep_of_int⟩
  · rw [rng_len] at hi
    exact Nat.le_of_eq hi.symm
def signs (z : Str) : List D := z.cps.toList.map fun c => .str ⟨#[c]⟩
theorem itOk_str {z : Str} : ItOk K (Its z) G (signs z) := fun i G1 H1 M e s => by
  refine ⟨fun d hd => ?_, fun hi => ?_⟩
  · unfold signs at hd
    rw [List.getElem?_map] at hd
    cases hc : z.cps.toList[i]? with
    | none => rw [hc] at hd; cases hd
    | some c =>
      rw [hc] at hd
      have e1 : D.str ⟨#[c]⟩ = d := by simpa using hd
      subst e1
      have hi : i < z.cps.size := by
        have h2 := (List.getElem?_eq_some_iff.mp hc).1
        simpa using h2
      refine ⟨hi, fun y H' hy => ?_⟩
      obtain ⟨rfl, c', h1, rfl⟩ := hy
      have e2 : c = c' := by
        have h3 : z.cps[i]? = some c := by simpa using hc
        rw [h1] at h3
        exact (Option.some.inj h3).symm
      subst e2
      exact ⟨G1, s, Step.refl, rep_of_str⟩
  · have h2 : z.cps.size ≤ i := by
      rw [hi]
      simp [signs]
    exact h2
/-- pairs of a number and an item -/
def enumD (ds : List D) : List D := ds.zipIdx.map fun p => .tup [.int (p.2 : Nat), p.1]
theorem itOk_enum {a : Addr} {xs : List V} {ds : List D} (h : SqL K G a xs) (r : Reps K G ds xs) : ItOk K (Ite K a) G (enumD ds) := fun i G1 H1 M e s => by
  have hq : SqL K H1 a xs := s.same.seq (e.seq h)
  refine ⟨fun d hd => ?_, fun hi => ⟨xs, hq, by rw [r.len, hi]; simp [enumD]⟩⟩
  unfold enumD at hd
  rw [List.getElem?_map, List.getElem?_zipIdx] at hd
  cases hc : ds[i]? with
  | none => rw [hc] at hd; cases hd
  | some c =>
    rw [hc] at hd
    have e1 : D.tup [.int ((0 + i : Nat) : Int), c] = d := by simpa using hd
    rw [Nat.zero_add] at e1
    subst e1
    obtain ⟨x, hx, rx⟩ := r.get hc
    refine ⟨⟨xs, x, hq, hx⟩, fun y H' hy => ?_⟩
    obtain ⟨T, x', rfl, nT, rfl, hy⟩ := hy
    have e2 : x = x' := Option.some.inj (hx.symm.trans (hy xs hq))
    subst e2
    obtain ⟨s2, st2, e3⟩ := s.frozen (o := .tup [.int (i : Nat), x]) nT
    exact ⟨_, s2, st2, rep_mk_tup (.inl (.inl upd_same)) (Reps.cons rep_of_int (Reps.one (Rep.mono (e.trans e3) _ _ rx)))⟩
end
/-- a list, a tuple, a text -/
def iSeq (K : PySem.W.Frag) (tl : TE) : TI := fun σ H R => tl σ H fun x H1 => (∃ a, x = .ref a ∧ (∃ xs, SqL K H1 a xs) ∧ R (Itl K a) H1) ∨ (∃ a, x = .ref a ∧ (∃ xs, SqT K H1 a xs) ∧ R (Itt K a) H1) ∨ (∃ z, x = .str z ∧ R (Its z) H1)
theorem pi_seq {X : Cx} {tg l : Expr} {tl : TE} (hl : PE X l tl) : PI X tg l (iSeq X.K tl) := by
  refine ⟨fun pins s σ H R I h => ?_⟩
  refine thn (hl.run pins s σ H _ I h) fun v s1 ⟨x, H1, I1, r1, q1⟩ => ?_
  rcases q1 with ⟨a, e, ⟨xs, hq⟩, q⟩ | ⟨a, e, ⟨xs, hq⟩, q⟩ | ⟨z, e, q⟩
  · subst e
    cases r1
    obtain ⟨its, rv, p, hz⟩ := I1.list hq
    refine wpAny_pyIter_list p.isList ?_
    refine ⟨s1.heap.objs.size, [s1.heap.objs.size], _, _, H1, rfl, I1.kept (t' := s1.toks) fun b o e => Heap.get?_push_of_some _ e, turn_list a _, ⟨_, Heap.get?_push_size _ rfl, rfl, rfl⟩, fun b hb => ?_, q⟩
    have e : b = s1.heap.objs.size := by simpa using hb
    subst e
    exact I1.fpOk (Nat.le_refl _) (I1.hok.fresh (Nat.le_refl _))
  · subst e
    cases r1
    obtain ⟨its, rv, p, hz⟩ := I1.tuple hq
    refine wpAny_pyIter_tuple (show s1.heap.IsTuple a its.toArray from p) ?_
    refine ⟨s1.heap.objs.size, [s1.heap.objs.size], _, _, H1, rfl, I1.kept (t' := s1.toks) fun b o e => Heap.get?_push_of_some _ e, turn_tuple a _, ⟨_, Heap.get?_push_size _ rfl, rfl, rfl⟩, fun b hb => ?_, q⟩
    have e : b = s1.heap.objs.size := by simpa using hb
    subst e
    exact I1.fpOk (Nat.le_refl _) (I1.hok.fresh (Nat.le_refl _))
  · subst e
    obtain ⟨t, rfl⟩ := r1
    cases ha : z.cps.all (· < 128)
    · exact wpAny_pyIter_wide ha (pi_one (tk := s1.toks) I1 _ (turn_str _ z t "str_iterator" (.inr rfl)) ⟨_, Heap.get?_push_size _ rfl, rfl, rfl⟩ q)
    · exact wpAny_pyIter_ascii ha (pi_one (tk := s1.toks) I1 _ (turn_str _ z t "str_ascii_iterator" (.inl rfl)) ⟨_, Heap.get?_push_size _ rfl, rfl, rfl⟩ q)
/-- the items of a deep value -/
def itemsD : D → Option (List D)
  | .lst ds => some ds
  | .lsk ds => some ds
  | .tup ds => some ds
  | .str z => some (signs z)
  | _ => none
section
variable {K : PySem.W.Frag} {δ : DS} {M : Mu} {ta tb te tl : TE} {k : D → Mu → Prop} {ki : List D → Mu → Prop}
theorem ai_seq (h : AE K tl δ M fun d M1 => ∃ ds, itemsD d = some ds ∧ ki ds M1) : AI K (iSeq K tl) δ M ki := fun σ G H R rs s f =>
  h σ G H _ rs s fun d M1 v G1 H1 ⟨ds, e, h1⟩ s1 st1 r1 => by
    cases d <;> simp only [itemsD, Option.some.injEq, reduceCtorEq] at e
    · subst e
      rw [rep_str r1]
      exact .inr (.inr ⟨_, rfl, f _ M1 G1 H1 _ h1 s1 st1 itOk_str⟩)
    · subst e
      obtain ⟨a, xs, rfl, ha, rx⟩ := rep_tup r1
      exact .inr (.inl ⟨a, rfl, ⟨xs, Same.seqT s1.same ha⟩, f _ M1 G1 H1 _ h1 s1 st1 (itOk_tup ha rx)⟩)
    · subst e
      obtain ⟨a, xs, rfl, ha, rx⟩ := rep_lst r1
      exact .inl ⟨a, rfl, ⟨xs, .inl (.inl (s1.same _ _ ha))⟩, f _ M1 G1 H1 _ h1 s1 st1 (itOk_list (.inl (.inl ha)) rx)⟩
    · subst e
      obtain ⟨a, xs, rfl, ha, rx⟩ := rep_lsk r1
      exact .inl ⟨a, rfl, ⟨xs, s1.same.seq ha⟩, f _ M1 G1 H1 _ h1 s1 st1 (itOk_list ha rx)⟩
theorem ai_range1 {ts : TA} (h : AA K ts δ M fun ds M1 => ∃ j : Int, ds = [.int j] ∧ -(2 ^ 62) ≤ j ∧ j < 2 ^ 62 ∧ ki (rng 0 j.toNat) M1) : AI K (iRng1 ts) δ M ki := fun σ G H R rs s f =>
  h σ G H _ rs s fun ds M1 vs G1 H1 ⟨j, e, h2, h3, h1⟩ s1 st1 r1 => by
    subst e
    obtain ⟨x, r, rfl, rx, rr⟩ := r1.uncons
    unfold Reps at rr
    subst rr
    exact ⟨j, by rw [rep_int rx], h2, h3, f _ M1 G1 H1 _ h1 s1 st1 itOk_rng⟩
theorem ai_range2 {ts : TA} (h : AA K ts δ M fun ds M1 => ∃ i j : Int, ds = [.int i, .int j] ∧ (-(2 ^ 62) ≤ i ∧ i < 2 ^ 62 ∧ -(2 ^ 62) ≤ j ∧ j < 2 ^ 62) ∧ ki (rng i (j - i).toNat) M1) : AI K (iRng2 ts) δ M ki := fun σ G H R rs s f =>
  h σ G H _ rs s fun ds M1 vs G1 H1 ⟨i, j, e, h2, h1⟩ s1 st1 r1 => by
    subst e
    obtain ⟨x, r, rfl, rx, rr⟩ := r1.uncons
    obtain ⟨y, r2, rfl, ry, rr⟩ := rr.uncons
    unfold Reps at rr
    subst rr
    exact ⟨i, j, by rw [rep_int rx, rep_int ry], h2, f _ M1 G1 H1 _ h1 s1 st1 itOk_rng⟩
/-! ### comprehensions -/
def wipeD (δ : DS) : List Nat → DS
  | [] => δ
  | v :: vs => (wipeD δ vs).set v none
theorem relS_wipe {G : Hp} {σ : L2.St} (r : RelS K G δ σ) : ∀ vs : List Nat, RelS K G (wipeD δ vs) (wipe σ vs)
  | [] => r
  | v :: vs => (relS_wipe r vs).drop v
/-- the target of a comprehension stores into the wiped slots alone -/
structure OwnG (vs : List Nat) (g : TG) : Prop where
  run : ∀ x σ H (Q : L2.St → Hp → Prop), g x σ H Q → g x σ H fun σ2 H2 => wipe σ2 vs = wipe σ vs ∧ Q σ2 H2
theorem wipe_set {σ : L2.St} {i : Nat} {v : Option V} : ∀ {vs : List Nat}, i ∈ vs → wipe (σ.set i v) vs = wipe σ vs
  | w :: vs, h => by
    show (wipe (σ.set i v) vs).set w none = (wipe σ vs).set w none
    by_cases hi : i ∈ vs
    · rw [wipe_set hi]
    · have e : i = w := by
        rcases List.mem_cons.mp h with e | e
        · exact e
        · exact absurd e hi
      subst e
      have aux : ∀ us : List Nat, (wipe (σ.set i v) us).set i none = (wipe σ us).set i none := by
        intro us
        induction us with
        | nil => show (σ.set i v).set i none = σ.set i none; rw [List.set_set]
        | cons u us ih =>
          show ((wipe (σ.set i v) us).set u none).set i none = ((wipe σ us).set u none).set i none
          by_cases hu : u = i
          · subst hu
            rw [List.set_set, List.set_set]
            exact ih
          · rw [List.set_comm _ _ hu, List.set_comm _ _ hu, ih]
      exact aux vs
theorem wipe_wipe {σ : L2.St} : ∀ vs : List Nat, wipe (wipe σ vs) vs = wipe σ vs := by
  have aux : ∀ (us vs : List Nat), (∀ u ∈ us, u ∈ vs) → wipe (wipe σ us) vs = wipe σ vs := by
    intro us
    induction us with
    | nil => intro vs _; rfl
    | cons u us ih =>
      intro vs h
      show wipe ((wipe σ us).set u none) vs = wipe σ vs
      rw [wipe_set (h u (by simp))]
      exact ih vs fun w hw => h w (List.mem_cons_of_mem _ hw)
  exact fun vs => aux vs vs fun _ h => h
theorem ownG_name {i : Nat} {vs : List Nat} (h : i ∈ vs) : OwnG vs (gName i) := ⟨fun x σ H Q q => ⟨wipe_set h, q⟩⟩
/-- several names -/
structure OwnGs (vs : List Nat) (g : TGs) : Prop where
  run : ∀ xs σ H (Q : L2.St → Hp → Prop), g xs σ H Q → g xs σ H fun σ2 H2 => wipe σ2 vs = wipe σ vs ∧ Q σ2 H2
theorem ownGs_nil {vs : List Nat} : OwnGs vs gNil := ⟨fun xs σ H Q ⟨e, q⟩ => ⟨e, rfl, q⟩⟩
theorem ownGs_cons {i : Nat} {vs : List Nat} {u : TGs} (h : i ∈ vs) (hu : OwnGs vs u) : OwnGs vs (gCons (gName i) u) := ⟨fun xs σ H Q ⟨v, r, e, q⟩ => ⟨v, r, e, by
  have q2 : u r (σ.set i (some v)) H Q := q
  have q3 := hu.run r (σ.set i (some v)) H Q q2
  rw [wipe_set h] at q3
  exact q3⟩⟩
theorem ownG_tup {n : Nat} {vs : List Nat} {u : TGs} (hu : OwnGs vs u) : OwnG vs (gTup K n u) := ⟨fun x σ H Q ⟨a, xs, e, hs, hl, q⟩ => ⟨a, xs, e, hs, hl, hu.run xs σ H Q q⟩⟩
theorem ae_lc {wi : TI} {g : TG} {tt : TT} {vs : List Nat} (og : OwnG vs g) (h : AI K wi δ M fun ds M1 => ds.length < sizeLine ∧ ∃ I : Nat → List D → Mu → Prop, I 0 [] M1 ∧
      (∀ i d acc M', ds[i]? = some d → I i acc M' → AG K g d (wipeD δ vs) M' fun δ2 M2 => AT K tt δ2 M2 fun b M3 => (b = true → AE K te δ2 M3 fun y M4 => I (i + 1) (acc ++ [y]) M4) ∧ (b = false → I (i + 1) acc M3)) ∧
      (∀ acc M', I ds.length acc M' → k (.lst acc) M')) : AE K (tLc wi g tt te vs) δ M k := fun σ G H Q rs s f =>
  h σ G H _ rs s fun ds M1 G1 H1 J ⟨hz, I, h0, hs, he⟩ s1 st1 ok Dl nD => by
    have gD : G1 Dl = none := s1.same.free nD
    have nM : ∀ p ∈ M1, p.1 ≠ Dl := fun p hp => by
      obtain ⟨_, o, ho, _⟩ := s1.mu p hp
      exact ne_of_none ho nD
    -- the state behind i turns; the list at Dl beside
    refine ⟨fun i m H' => m = ds.length - i ∧ i ≤ ds.length ∧ ∃ acc xs M' G', acc.length ≤ i ∧ I i acc M' ∧ H' Dl = some (.lst xs) ∧ Reps K G' acc xs ∧ G' Dl = none ∧ Dl ∉ ads M' ∧ S K G' H' M' ∧ Step (ads M1) G1 H1 (ads M') G' H',
      ⟨ds.length, by simp, Nat.zero_le _, [], [], M1, G1, Nat.le_refl _, h0, upd_same, Reps.nil, gD, fun z => ?_, ?_, ?_⟩, ?_⟩
    · obtain ⟨p, hp, e⟩ := List.mem_map.mp z
      exact nM p hp e
    · refine ⟨fun b u e => ?_, fun p hp => ?_, s1.nd⟩
      · rw [upd_ne (ne_of_none e gD)]
        exact s1.same b u e
      · obtain ⟨g1, o, ho, r⟩ := s1.mu p hp
        exact ⟨g1, o, by rw [upd_ne (nM p hp)]; exact ho, r⟩
    · refine ⟨Same.refl _, fun _ _ _ => rfl, fun b o _ e => ?_, fun b e => ?_, fun b hb => .inl hb⟩
      · rw [upd_ne (ne_of_none e nD)]
        exact e
      · by_cases hb : b = Dl
        · subst hb
          rw [upd_same]
          exact fun z => nomatch z
        · rw [upd_ne hb]
          exact e
    rintro i m H' ⟨rfl, hi, acc, xs, M', G', hal, hI, hD, rx, gD', nD', s', st'⟩
    obtain ⟨o1, o2⟩ := ok i G' H' M' st'.gg s'
    by_cases hl : i < ds.length
    · obtain ⟨hgo, hy⟩ := o1 ds[i] (List.getElem?_eq_getElem hl)
      -- the list at Dl beside any further step
      have beside : ∀ {A2 : List Addr} {G2 H2 : Hp}, Step (ads M') G' H' A2 G2 H2 → H2 Dl = some (.lst xs) ∧ G2 Dl = none ∧ Dl ∉ A2 := fun {A2 G2 H2} st => by
        refine ⟨st.keep _ _ nD' hD, ?_, fun z => ?_⟩
        · rw [st.fr Dl (by rw [hD]; exact fun z => nomatch z) nD']
          exact gD'
        · rcases st.own _ z with q | q
          · exact nD' q
          · rw [hD] at q
            cases q
      refine .inr ⟨hgo, fun H2 => ∃ acc xs M' G', acc.length ≤ i + 1 ∧ I (i + 1) acc M' ∧ H2 Dl = some (.lst xs) ∧ Reps K G' acc xs ∧ G' Dl = none ∧ Dl ∉ ads M' ∧ S K G' H2 M' ∧ Step (ads M1) G1 H1 (ads M') G' H2, fun H2 q => ⟨ds.length - (i + 1), by omega, rfl, hl, q⟩, fun x H2 y => ?_⟩
      obtain ⟨G2, s2, st2, r2⟩ := hy x H2 y
      have rsw : RelS K G2 (wipeD δ vs) (wipe σ vs) := relS_wipe (rs.mono (st1.gg.trans (st'.gg.trans st2.gg))) vs
      have body := hs i ds[i] acc M' (List.getElem?_eq_getElem hl) hI x (wipe σ vs) G2 H2 (fun σ2 H3 => tt σ2 H3 fun b H4 =>
        if b = true then te σ2 H4 fun y H5 => ∃ acc, H5 Dl = some (.lst acc) ∧ acc.length < sizeLine ∧ (fun H2 => ∃ acc xs M' G', acc.length ≤ i + 1 ∧ I (i + 1) acc M' ∧ H2 Dl = some (.lst xs) ∧ Reps K G' acc xs ∧ G' Dl = none ∧ Dl ∉ ads M' ∧ S K G' H2 M' ∧ Step (ads M1) G1 H1 (ads M') G' H2) (upd H5 Dl (.lst (acc ++ [y])))
        else (fun H2 => ∃ acc xs M' G', acc.length ≤ i + 1 ∧ I (i + 1) acc M' ∧ H2 Dl = some (.lst xs) ∧ Reps K G' acc xs ∧ G' Dl = none ∧ Dl ∉ ads M' ∧ S K G' H2 M' ∧ Step (ads M1) G1 H1 (ads M') G' H2) H4) r2 rsw s2 ?_
      · have fin := og.run x (wipe σ vs) H2 _ body
        rw [wipe_wipe] at fin
        exact fin
      · intro δ3 M3 σ3 G3 H3 h3 rs3 s3 st3
        refine h3 σ3 G3 H3 _ rs3 s3 fun b M4 G4 H4 ⟨h4, h5⟩ s4 st4 => ?_
        cases b with
        | true =>
          rw [if_pos rfl]
          refine h4 rfl σ3 G4 H4 _ (rs3.mono st4.gg) s4 fun y M5 vy G5 H5 q5 s5 st5 r5 => ?_
          have sta := ((st2.trans st3).trans st4).trans st5
          obtain ⟨b1, b2, b3⟩ := beside sta
          refine ⟨xs, b1, by rw [rx.len]; exact Nat.lt_of_le_of_lt hal (Nat.lt_of_lt_of_le hl (Nat.le_of_lt hz)), acc ++ [y], xs ++ [vy], M5, G5, by rw [List.length_append]; exact Nat.succ_le_succ hal, q5, upd_same, (Reps.mono sta.gg _ _ rx).append (Reps.one r5), b2, b3, ?_, ?_⟩
          · refine ⟨fun c u e => ?_, fun p hp => ?_, s5.nd⟩
            · rw [upd_ne (ne_of_none e b2)]
              exact s5.same c u e
            · obtain ⟨g1, o, ho, r⟩ := s5.mu p hp
              exact ⟨g1, o, by rw [upd_ne (fun z => b3 (List.mem_map.mpr ⟨p, hp, z⟩))]; exact ho, r⟩
          · have stb := st'.trans sta
            refine ⟨stb.gg, stb.fr, fun c o hc e => ?_, fun c e => ?_, stb.own⟩
            · rw [upd_ne (ne_of_none e nD)]
              exact stb.keep c o hc e
            · by_cases hcD : c = Dl
              · subst hcD
                rw [upd_same]
                exact fun z => nomatch z
              · rw [upd_ne hcD]
                exact stb.alive c e
        | false =>
          rw [if_neg Bool.false_ne_true]
          have sta := (st2.trans st3).trans st4
          obtain ⟨b1, b2, b3⟩ := beside sta
          exact ⟨acc, xs, M4, G4, Nat.le_succ_of_le hal, h5 rfl, b1, Reps.mono sta.gg _ _ rx, b2, b3, s4, st'.trans sta⟩
    · have e : i = ds.length := by omega
      subst e
      refine .inl ⟨o2 rfl, ?_⟩
      -- the list is frozen
      have sD : S K G' H' ([] ++ (Dl, .lst acc) :: M') := ⟨s'.same, fun p hp => by
        rcases List.mem_cons.mp hp with e | hp
        · subst e
          exact ⟨gD', _, hD, xs, rfl, rx⟩
        · exact s'.mu p hp, by
        show ((Dl, MO.lst acc) :: M' |>.map (·.1)).Nodup
        rw [List.map_cons, List.nodup_cons]
        exact ⟨nD', s'.nd⟩⟩
      obtain ⟨ys, s5, st5, e5, r5⟩ := sD.freeze
      refine f (.lst acc) M' (.ref Dl) _ H' (he acc M' hI) s5 (st1.trans ?_) r5
      refine ⟨st'.gg.trans e5, fun b hb hn => ?_, st'.keep, st'.alive, st'.own⟩
      rw [upd_ne (fun z => by rw [z] at hb; exact hb nD)]
      exact st'.fr b hb hn
end
/-! ### a def -/
section
variable {P : Program} {w : World} {K : PySem.W.Frag} {mg : Str → Option Value} {base : Heap}
theorem spc_ok {W : Wt} {x qual : Str} {st : Stmt} {f : Addr} {fd : FuncData} {N ps : List Str} {k : Nat} (F : Fun K x qual st f fd) (Sc : FnScope N ps (defScope st)) (len : ∀ ds M kk, W ds M kk → ds.length = ps.length)
    (hbody : ∀ (cdv : Value) (A : Around) (outer : List Env) (s : Shared) (H : Hp) (E : XK), Room k (A.deeper (envOfC qual (defScope st) s.heap.objs.size f cdv)) →
      ∃ t, PSs (cxOf CX0 P w K mg base N qual (defScope st) f cdv A outer s H E).nox (defBody st) t ∧ ∀ ds M kk, W ds M kk → AS K t (startD N.length ds) M { nx := fun _ M' => kk .non M', rt := kk }) : FnOk P w K mg base CX0 (k + 1) f fd ps (Spc K W) := by
  refine F.ok Sc (fun vs H Q E h => ?_) (fun cdv A outer s H vs Q E hr h => ?_)
  · obtain ⟨G, ds, M, kk, r, _, hw, _⟩ := h
    rw [r.len]
    exact len ds M kk hw
  · obtain ⟨G, ds, M, kk, r, hs, hw, q⟩ := h
    obtain ⟨t, pt, ht⟩ := hbody cdv A outer s H E hr
    refine ⟨t, pt, ht ds M kk hw (start N vs) G H _ (relS_start r) hs ⟨?_, ?_, ?_, ?_, ?_⟩⟩
    · intro δ' M' σ' G' H' a rs' s' st'
      exact q .non M' .non G' H' a s' st' rep_of_non
    · intro d M' v G' H' a s' st' rv
      exact q d M' v G' H' a s' st' rv
    · intro δ' M' σ' G' H' a
      exact a.elim
    · intro δ' M' σ' G' H' a
      exact a.elim
    · intro fs M' d G' H' a
      exact a.elim
end
end Tg
set_option Elab.async false
set_option linter.all false
set_option maxRecDepth 100000
set_option maxHeartbeats 1000000
namespace Tg
open PySem L2 PyProof.Rows
/-! ### texts by their codes -/
def tx (l : List Nat) : Str := ⟨l.toArray⟩
theorem tx_len (l : List Nat) : (tx l).length = l.length := by
  show l.toArray.size = l.length
  simp
theorem tx_codes (z : Str) : tx z.cps.toList = z := by
  cases z
  simp [tx]
theorem tx_cps (l : List Nat) : (tx l).cps.toList = l := by simp [tx]
theorem tx_inj {a b : List Nat} (h : tx a = tx b) : a = b := by
  have := congrArg (fun z : Str => z.cps.toList) h
  simpa [tx] using this
theorem tx_app (a b : List Nat) : tx a ++ tx b = tx (a ++ b) := by
  show (⟨a.toArray ++ b.toArray⟩ : Str) = ⟨(a ++ b).toArray⟩
  simp
theorem tx_nil : tx [] = (⟨#[]⟩ : Str) := rfl
theorem tx_signs (l : List Nat) : signs (tx l) = l.map fun c => .str (tx [c]) := by
  unfold signs
  rw [tx_cps]
  rfl
theorem tx_eq {a b : List Nat} : decide (tx a = tx b) = decide (a = b) := by
  by_cases h : a = b
  · subst h; simp
  · rw [decide_eq_false h, decide_eq_false fun z => h (tx_inj z)]
theorem tx_join (ls : List (List Nat)) : Txt.join (tx []) (ls.map tx) = tx ls.flatten := by
  rw [TL.join_eq]
  induction ls with
  | nil => rfl
  | cons a r ih =>
    cases r with
    | nil =>
      show tx a = _
      simp
    | cons b r =>
      show tx a ++ tx [] ++ Str.join (tx []) ((b :: r).map tx) = _
      rw [ih, tx_app, tx_app]
      simp
theorem tx_cut (l : List Nat) (lo hi : Option Int) : cutS (tx l) lo hi = tx ((l.drop (HT.sIx l.length 0 lo)).take (HT.sIx l.length l.length hi - HT.sIx l.length 0 lo)) := by
  unfold cutS
  rw [tx_len, tx_cps]
  rfl
/-! ### universal operations -/
section
variable {X : Cx}
abbrev rAddU (K : PySem.W.Frag) : R2 := fun x y H Q => (rI0 fun i j => .int (i + j)) x y H Q ∨ ((fun x y H Q => ∃ i j, x = .str i ∧ y = .str j ∧ i.length + j.length ≤ sizeLine ∧ Q (.str (i ++ j)) H) x y H Q ∨ (rCat x y H Q ∨ rCatA K x y H Q))
theorem op_addU : OpR X (binaryOp .Add) (rAddU X.K) := op_add.or (op_add_str.or (op_cat.or op_catA))
abbrev rIAddU : R2 := fun x y H Q => (rI0 fun i j => .int (i + j)) x y H Q ∨ ((fun x y H Q => ∃ i j, x = .str i ∧ y = .str j ∧ i.length + j.length ≤ sizeLine ∧ Q (.str (i ++ j)) H) x y H Q)
theorem ip_addU : PIp X .Add rIAddU := iop_add.or iop_add_str
theorem ip_subU : PIp X .Sub (rI0 fun i j => .int (i - j)) := iop_sub
def rSlU (K : PySem.W.Frag) : V → Option Int → Option Int → Hp → VK → Prop := fun x lo hi H Q => rSlL K x lo hi H Q ∨ (rSlS x lo hi H Q ∨ rSlA K x lo hi H Q)
theorem sl_any : SlR X (rSlU X.K) := by
  intro pins s σ H x v vl vu lo hi sl Q I rx hs pl pu h
  rcases h with h | h | h
  · exact sl_list pins s σ H x v vl vu lo hi sl Q I rx hs pl pu h
  · exact sl_str pins s σ H x v vl vu lo hi sl Q I rx hs pl pu h
  · exact sl_tupA pins s σ H x v vl vu lo hi sl Q I rx hs pl pu h
def rLenU (K : PySem.W.Frag) : List V → Hp → VK → Prop := fun xs H Q => (∃ p ys, xs = [.ref p] ∧ (SqL K H p ys ∨ SqT K H p ys) ∧ Q (.int ys.length) H) ∨ (∃ z, xs = [.str z] ∧ z.length ≤ sizeLine ∧ Q (.int z.length) H)
theorem call_lenU : CallR X (.builtin "len") (rLenU X.K) := call_len_seq.or call_len_str
def rTupU (K : PySem.W.Frag) : List V → Hp → VK → Prop := fun xs H Q => ∃ p ys, xs = [.ref p] ∧ ((SqL K H p ys ∧ ∀ l, H l = none → Q (.ref l) (upd H l (.tup ys))) ∨ (SqT K H p ys ∧ Q (.ref p) H))
theorem call_tupU : CallR X (.type "tuple") (rTupU X.K) := call_tuple_of
def rListU (K : PySem.W.Frag) : List V → Hp → VK → Prop := fun xs H Q => ∃ p ys, xs = [.ref p] ∧ (SqL K H p ys ∨ SqT K H p ys) ∧ ∀ l, H l = none → Q (.ref l) (upd H l (.lst ys))
theorem call_listU : CallR X (.type "list") (rListU X.K) := call_list_of
def rIntU : List V → Hp → VK → Prop := fun xs H Q => (∃ i, xs = [.int i] ∧ Q (.int i) H) ∨ ∃ k, xs = [.bl k] ∧ Q (.int (if k then 1 else 0)) H
theorem call_intU : CallR X (.type "int") rIntU := call_int1
def rMin2 : List V → Hp → VK → Prop := fun xs H Q => ∃ i j, xs = [.int i, .int j] ∧ Q (.int (if j < i then j else i)) H
theorem call_minU (hc : X.calm = true) : CallR X (.builtin "min") rMin2 := call_min2 hc
end
section
variable {K : PySem.W.Frag} {δ : DS} {M : Mu} {ta tb te to : TE} {k : D → Mu → Prop} {x y d : D}
theorem au_int {a b : Int} (q : k (.int (a + b)) M) : AR K (rAddU K) (.int a) (.int b) M k := ar_or1 (ar_int q)
theorem au_str {a b : List Nat} (h : a.length + b.length ≤ sizeLine) (q : k (.str (tx (a ++ b))) M) : AR K (rAddU K) (.str (tx a)) (.str (tx b)) M k := ar_or2 (ar_or1 fun vx vy G H Q rx ry s f =>
  ⟨tx a, tx b, rep_str rx, rep_str ry, by rw [tx_len, tx_len]; exact h, by rw [tx_app]; exact f _ M _ G H q s Step.refl rep_of_str⟩)
theorem au_lst {a b : List D} (h : a.length + b.length ≤ sizeLine) (q : k (.lst (a ++ b)) M) : AR K (rAddU K) (.lst a) (.lst b) M k := ar_or2 (ar_or2 (ar_or1 fun vx vy G H Q rx ry s f => by
  obtain ⟨p, xs, rfl, hp, r1⟩ := rep_lst rx
  obtain ⟨q', ys, rfl, hq, r2⟩ := rep_lst ry
  refine ⟨p, q', xs, ys, rfl, rfl, s.same _ _ hp, s.same _ _ hq, by rw [r1.len, r2.len]; exact h, fun l hl => ?_⟩
  obtain ⟨s2, st2, e2⟩ := s.frozen (o := .lst (xs ++ ys)) hl
  exact f _ M _ _ _ q s2 st2 (rep_mk_lst upd_same (Reps.mono e2 _ _ (r1.append r2)))))
theorem au_tup {a b : List D} (h : a.length + b.length ≤ sizeLine) (q : k (.tup (a ++ b)) M) : AR K (rAddU K) (.tup a) (.tup b) M k := ar_or2 (ar_or2 (ar_or2 fun vx vy G H Q rx ry s f => by
  obtain ⟨p, xs, rfl, hp, r1⟩ := rep_tup rx
  obtain ⟨q', ys, rfl, hq, r2⟩ := rep_tup ry
  refine ⟨p, q', xs, ys, rfl, rfl, Same.seqT s.same hp, Same.seqT s.same hq, by rw [r1.len, r2.len]; exact h, fun e => ?_, fun e1 e2 => ?_, fun e1 e2 l hl => ?_⟩
  · refine f _ M _ G H q s Step.refl (rep_mk_tup hq ?_)
    have e1 : a = [] := List.length_eq_zero_iff.mp (by rw [← r1.len, e]; rfl)
    subst e1
    exact r2
  · refine f _ M _ G H q s Step.refl (rep_mk_tup hp ?_)
    have e1 : b = [] := List.length_eq_zero_iff.mp (by rw [← r2.len, e2]; rfl)
    subst e1
    rw [List.append_nil]
    exact r1
  · obtain ⟨s2, st2, e2⟩ := s.frozen (o := .tup (xs ++ ys)) hl
    exact f _ M _ _ _ q s2 st2 (rep_mk_tup (.inl (.inl upd_same)) (Reps.mono e2 _ _ (r1.append r2)))))
theorem ai_int {a b : Int} (q : k (.int (a + b)) M) : AR K rIAddU (.int a) (.int b) M k := ar_or1 (ar_int q)
theorem ai_str {a b : List Nat} (h : a.length + b.length ≤ sizeLine) (q : k (.str (tx (a ++ b))) M) : AR K rIAddU (.str (tx a)) (.str (tx b)) M k := ar_or2 fun vx vy G H Q rx ry s f =>
  ⟨tx a, tx b, rep_str rx, rep_str ry, by rw [tx_len, tx_len]; exact h, by rw [tx_app]; exact f _ M _ G H q s Step.refl rep_of_str⟩
theorem au_ixS {l : List Nat} {j : Int} {c : Nat} (hz : l.length ≤ sizeLine) (h : atI l j = some c) (q : k (.str (tx [c])) M) : AR K (rIx K) (.str (tx l)) (.int j) M k :=
  aix_S (by rw [tx_len]; exact hz) (by rw [tx_cps]; exact h) q
/-! ### slices -/
variable {ko : Option Int → Mu → Prop}
theorem ao_none (q : ko none M) : AO K tNoPart δ M ko := fun σ G H Q rs s f => f none M G H q s Step.refl
theorem ao_some (h : AE K te δ M fun d M1 => ∃ i, d = .int i ∧ ko (some i) M1) : AO K (tPart te) δ M ko := fun σ G H Q rs s f =>
  h σ G H _ rs s fun d M1 v G1 H1 ⟨i, e, q⟩ s1 st1 r1 => by
    subst e
    exact ⟨i, rep_int r1, f _ M1 G1 H1 q s1 st1⟩
/-- a slice of a value -/
def ASl (K : PySem.W.Frag) (r : V → Option Int → Option Int → Hp → VK → Prop) (x : D) (lo hi : Option Int) (M : Mu) (k : D → Mu → Prop) : Prop := ∀ vx G H Q, Rep K G x vx → S K G H M →
  (∀ d M' v G' H', k d M' → S K G' H' M' → Step (ads M) G H (ads M') G' H' → Rep K G' d v → Q v H') → r vx lo hi H Q
theorem ae_sl {r : V → Option Int → Option Int → Hp → VK → Prop} {tl th : TO} (h : AE K te δ M fun x M1 => AO K tl δ M1 fun lo M2 => AO K th δ M2 fun hi M3 => ASl K r x lo hi M3 k) : AE K (L2.tSl r te tl th) δ M k := fun σ G H Q rs s f =>
  h σ G H _ rs s fun x M1 v G1 H1 h1 s1 st1 r1 => h1 σ G1 H1 _ (rs.mono st1.gg) s1 fun lo M2 G2 H2 h2 s2 st2 => h2 σ G2 H2 _ (rs.mono (st1.trans st2).gg) s2 fun hi M3 G3 H3 h3 s3 st3 =>
    h3 v G3 H3 Q (Rep.mono (st2.trans st3).gg _ _ r1) s3 fun d M4 v4 G4 H4 q s4 st4 r4 => f d M4 v4 G4 H4 q s4 (((st1.trans st2).trans st3).trans st4) r4
def cutD {α : Type} (xs : List α) (lo hi : Option Int) : List α := (xs.drop (HT.sIx xs.length 0 lo)).take (HT.sIx xs.length xs.length hi - HT.sIx xs.length 0 lo)
theorem cutD_len {α : Type} (xs : List α) (lo hi : Option Int) : (cutD xs lo hi).length ≤ xs.length := by
  unfold cutD
  rw [List.length_take, List.length_drop]
  omega
theorem reps_cut {G : Hp} {ds : List D} {xs : List V} (r : Reps K G ds xs) (lo hi : Option Int) : Reps K G (cutD ds lo hi) (cutV xs lo hi) := by
  unfold cutD cutV
  rw [r.len]
  exact (r.drop _).take _
theorem asl_lst {ds : List D} {lo hi : Option Int} (q : k (.lst (cutD ds lo hi)) M) : ASl K (rSlU K) (.lst ds) lo hi M k := fun vx G H Q rx s f => by
  obtain ⟨a, xs, rfl, ha, rs⟩ := rep_lst rx
  refine .inl ⟨a, xs, rfl, .inl (.inl (s.same _ _ ha)), fun l hl => ?_⟩
  obtain ⟨s2, st2, e2⟩ := s.frozen (o := .lst (cutV xs lo hi)) hl
  exact f _ M _ _ _ q s2 st2 (rep_mk_lst upd_same (Reps.mono e2 _ _ (reps_cut rs lo hi)))
theorem asl_str {l : List Nat} {lo hi : Option Int} (hz : l.length ≤ sizeLine) (q : k (.str (tx (cutD l lo hi))) M) : ASl K (rSlU K) (.str (tx l)) lo hi M k := fun vx G H Q rx s f =>
  .inr (.inl ⟨tx l, rep_str rx, by rw [tx_len]; exact hz, by
    rw [tx_cut]
    exact f _ M _ G H q s Step.refl rep_of_str⟩)
/-! ### built-ins -/

def lenD : D → Option Nat
  | .lst ds => some ds.length
  | .lsk ds => some ds.length
  | .tup ds => some ds.length
  | _ => none
theorem ac_lenD {n : Nat} (h : lenD x = some n) (q : k (.int (n : Int)) M) : AC K (rLenU K) [x] M k := fun vs G H Q rx s f => by
  obtain ⟨v, r, rfl, r1, rr⟩ := rx.uncons
  unfold Reps at rr
  subst rr
  cases x <;> simp only [lenD, Option.some.injEq, reduceCtorEq] at h
  · obtain ⟨a, xs, rfl, ha, rs⟩ := rep_tup r1
    refine .inl ⟨a, xs, rfl, .inr (Same.seqT s.same ha), ?_⟩
    rw [rs.len, h]
    exact f _ M _ G H q s Step.refl rep_of_int
  · obtain ⟨a, xs, rfl, ha, rs⟩ := rep_lst r1
    refine .inl ⟨a, xs, rfl, .inl (.inl (.inl (s.same _ _ ha))), ?_⟩
    rw [rs.len, h]
    exact f _ M _ G H q s Step.refl rep_of_int
  · obtain ⟨a, xs, rfl, ha, rs⟩ := rep_lsk r1
    refine .inl ⟨a, xs, rfl, .inl (s.same.seq ha), ?_⟩
    rw [rs.len, h]
    exact f _ M _ G H q s Step.refl rep_of_int
theorem ac_lenS {l : List Nat} (hz : l.length ≤ sizeLine) (q : k (.int (l.length : Int)) M) : AC K (rLenU K) [.str (tx l)] M k := fun vs G H Q rx s f => by
  obtain ⟨v, r, rfl, r1, rr⟩ := rx.uncons
  unfold Reps at rr
  subst rr
  refine .inr ⟨tx l, by rw [rep_str r1], by rw [tx_len]; exact hz, ?_⟩
  rw [tx_len]
  exact f _ M _ G H q s Step.refl rep_of_int
theorem ac_lenM {a : Addr} {M1 M2 : Mu} {ds : List D} (e : M = M1 ++ (a, .lst ds) :: M2) (q : k (.int (ds.length : Int)) M) : AC K (rLenU K) [.ref a] M k := fun vs G H Q rx s f => by
  obtain ⟨v, r, rfl, r1, rr⟩ := rx.uncons
  unfold Reps at rr
  subst rr
  obtain ⟨_, o, ho, r⟩ := s.mu (a, .lst ds) (by rw [e]; simp)
  obtain ⟨xs, rfl, rs⟩ := r
  refine .inl ⟨a, xs, by rw [rep_ref r1], .inl (.inl (.inl ho)), ?_⟩
  rw [rs.len]
  exact f _ M _ G H q s Step.refl rep_of_int
theorem ac_int {i : Int} (q : k (.int i) M) : AC K rIntU [.int i] M k := fun vs G H Q rx s f => by
  obtain ⟨v, r, rfl, r1, rr⟩ := rx.uncons
  unfold Reps at rr
  subst rr
  exact .inl ⟨i, by rw [rep_int r1], f _ M _ G H q s Step.refl rep_of_int⟩
theorem ac_min {i j : Int} (q : k (.int (if j < i then j else i)) M) : AC K rMin2 [.int i, .int j] M k := fun vs G H Q rx s f => by
  obtain ⟨v, r, rfl, r1, rr⟩ := rx.uncons
  obtain ⟨u, r, rfl, r2, rr⟩ := rr.uncons
  unfold Reps at rr
  subst rr
  exact ⟨i, j, by rw [rep_int r1, rep_int r2], f _ M _ G H q s Step.refl rep_of_int⟩
theorem ac_tupL {ds : List D} (q : k (.tup ds) M) : AC K (rTupU K) [.lst ds] M k := fun vs G H Q rx s f => by
  obtain ⟨v, r, rfl, r1, rr⟩ := rx.uncons
  unfold Reps at rr
  subst rr
  obtain ⟨a, xs, rfl, ha, rs⟩ := rep_lst r1
  refine ⟨a, xs, rfl, .inl ⟨.inl (.inl (s.same _ _ ha)), fun l hl => ?_⟩⟩
  obtain ⟨s2, st2, e2⟩ := s.frozen (o := .tup xs) hl
  exact f _ M _ _ _ q s2 st2 (rep_mk_tup (.inl (.inl upd_same)) (Reps.mono e2 _ _ rs))
theorem ac_tupT {ds : List D} (q : k (.tup ds) M) : AC K (rTupU K) [.tup ds] M k := fun vs G H Q rx s f => by
  obtain ⟨v, r, rfl, r1, rr⟩ := rx.uncons
  unfold Reps at rr
  subst rr
  obtain ⟨a, xs, rfl, ha, rs⟩ := rep_tup r1
  exact ⟨a, xs, rfl, .inr ⟨Same.seqT s.same ha, f _ M _ G H q s Step.refl (rep_mk_tup ha rs)⟩⟩
theorem ac_tupM {a : Addr} {M1 M2 : Mu} {ds : List D} (e : M = M1 ++ (a, .lst ds) :: M2) (q : k (.tup ds) M) : AC K (rTupU K) [.ref a] M k := fun vs G H Q rx s f => by
  obtain ⟨v, r, rfl, r1, rr⟩ := rx.uncons
  unfold Reps at rr
  subst rr
  obtain ⟨_, o, ho, r⟩ := s.mu (a, .lst ds) (by rw [e]; simp)
  obtain ⟨xs, rfl, rs⟩ := r
  refine ⟨a, xs, by rw [rep_ref r1], .inl ⟨.inl (.inl ho), fun l hl => ?_⟩⟩
  obtain ⟨s2, st2, e2⟩ := s.frozen (o := .tup xs) hl
  exact f _ M _ _ _ q s2 st2 (rep_mk_tup (.inl (.inl upd_same)) (Reps.mono e2 _ _ rs))
theorem ac_list {ds : List D} (h : x = .lst ds ∨ x = .tup ds ∨ x = .lsk ds) (q : k (.lst ds) M) : AC K (rListU K) [x] M k := fun vs G H Q rx s f => by
  obtain ⟨v, r, rfl, r1, rr⟩ := rx.uncons
  unfold Reps at rr
  subst rr
  have go : ∀ (a : Addr) (xs : List V), v = .ref a → (SqL K H a xs ∨ SqT K H a xs) → Reps K G ds xs → rListU K [v] H Q := fun a xs e h1 h2 => ⟨a, xs, by rw [e], h1, fun l hl => by
    obtain ⟨s2, st2, e2⟩ := s.frozen (o := .lst xs) hl
    exact f _ M _ _ _ q s2 st2 (rep_mk_lst upd_same (Reps.mono e2 _ _ h2))⟩
  rcases h with rfl | rfl | rfl
  · obtain ⟨a, xs, e, ha, rs⟩ := rep_lst r1
    exact go a xs e (.inl (.inl (.inl (s.same _ _ ha)))) rs
  · obtain ⟨a, xs, e, ha, rs⟩ := rep_tup r1
    exact go a xs e (.inr (Same.seqT s.same ha)) rs
  · obtain ⟨a, xs, e, ha, rs⟩ := rep_lsk r1
    exact go a xs e (.inl (s.same.seq ha)) rs
theorem ac_listM {ds : List D} (h : x = .lst ds ∨ x = .tup ds ∨ x = .lsk ds) (q : ∀ a, k (.ref a) (M ++ [(a, .lst ds)])) : AC K (rListU K) [x] M k := fun vs G H Q rx s f => by
  obtain ⟨v, r, rfl, r1, rr⟩ := rx.uncons
  unfold Reps at rr
  subst rr
  have go : ∀ (a : Addr) (xs : List V), v = .ref a → (SqL K H a xs ∨ SqT K H a xs) → Reps K G ds xs → rListU K [v] H Q := fun a xs e h1 h2 => ⟨a, xs, by rw [e], h1, fun l hl => by
    obtain ⟨s2, st2⟩ := s.fresh (o := .lst xs) (m := .lst ds) hl ⟨xs, rfl, h2⟩
    exact f _ _ _ _ _ (q l) s2 st2 rep_of_ref⟩
  rcases h with rfl | rfl | rfl
  · obtain ⟨a, xs, e, ha, rs⟩ := rep_lst r1
    exact go a xs e (.inl (.inl (.inl (s.same _ _ ha)))) rs
  · obtain ⟨a, xs, e, ha, rs⟩ := rep_tup r1
    exact go a xs e (.inr (Same.seqT s.same ha)) rs
  · obtain ⟨a, xs, e, ha, rs⟩ := rep_lsk r1
    exact go a xs e (.inl (s.same.seq ha)) rs
theorem ac_all {bs : List Bool} (q : k (.bl (bs.all id)) M) : AC K (rAll K) [.lst (bs.map .bl)] M k := fun vs G H Q rx s f => by
  obtain ⟨v, r, rfl, r1, rr⟩ := rx.uncons
  unfold Reps at rr
  subst rr
  obtain ⟨a, xs, rfl, ha, rs⟩ := rep_lst r1
  rw [rs.bls] at ha
  exact ⟨a, bs, rfl, .inl (.inl (s.same _ _ ha)), f _ M _ G H q s Step.refl rep_of_bl⟩
theorem ac_any {bs : List Bool} (q : k (.bl (bs.any id)) M) : AC K (rAny K) [.lst (bs.map .bl)] M k := fun vs G H Q rx s f => by
  obtain ⟨v, r, rfl, r1, rr⟩ := rx.uncons
  unfold Reps at rr
  subst rr
  obtain ⟨a, xs, rfl, ha, rs⟩ := rep_lst r1
  rw [rs.bls] at ha
  exact ⟨a, bs, rfl, .inl (.inl (s.same _ _ ha)), f _ M _ G H q s Step.refl rep_of_bl⟩
/-! ### isinstance -/
def typeD : D → Option String
  | .non => some "NoneType"
  | .bl _ => some "bool"
  | .int _ => some "int"
  | .str _ => some "str"
  | .tup _ => some "tuple"
  | .lst _ => some "list"
  | _ => none
theorem tyX_of {G H : Hp} {v : V} {n : String} (e : Same G H) (h : typeD d = some n) (r : Rep K G d v) : TyX K H v (.type n) := by
  cases d <;> simp only [typeD, Option.some.injEq, reduceCtorEq] at h
  · rw [rep_non r, ← h]
    exact .base .non
  · rw [rep_bl r, ← h]
    exact .base (.bl _)
  · rw [rep_int r, ← h]
    exact .base (.int _)
  · rw [rep_str r, ← h]
    exact .base (.str _)
  · obtain ⟨a, xs, rfl, ha, _⟩ := rep_tup r
    rw [← h]
    rcases Same.seqT e ha with (q | ⟨o, q⟩) | ⟨o, its, n, q1, q2, q3⟩
    · exact .base (.tup q)
    · exact .fTuple q
    · exact .kTuple q1 q2
  · obtain ⟨a, xs, rfl, ha, _⟩ := rep_lst r
    rw [← h]
    exact .base (.lst (e _ _ ha))
theorem ac_isi {n c : String} {b : Bool} (h : typeD x = some n) (hk : PySem.W.kitOne K (.type n) (.type c) = some b) (q : k (.bl b) M) : AC K (rIsi K) [x, .ty c] M k := fun vs G H Q rx s f => by
  obtain ⟨v, r, rfl, r1, rr⟩ := rx.uncons
  obtain ⟨u, r, rfl, r2, rr⟩ := rr.uncons
  unfold Reps at rr
  subst rr
  exact ⟨v, u, .type n, .type c, b, rfl, by rw [rep_ty r2]; exact .ty c, tyX_of s.same h r1, hk, f _ M _ G H q s Step.refl rep_of_bl⟩
/-! ### methods -/
/-- a method of a list -/
def LstM (x : D) (M1 : Mu) : Prop := (∃ ds, x = D.lst ds) ∨ (∃ ds, x = D.lsk ds) ∨ ∃ a ds N1 N2, x = D.ref a ∧ M1 = N1 ++ (a, MO.lst ds) :: N2
theorem lstM_ref {a : Addr} {ds : List D} {M1 N1 N2 : Mu} (e : M1 = N1 ++ (a, MO.lst ds) :: N2) : LstM (.ref a) M1 := .inr (.inr ⟨a, ds, N1, N2, rfl, e⟩)
theorem ae_lm {r : V → List V → Hp → VK → Prop} {ts : TA} (h : AE K to δ M fun x M1 => LstM x M1 ∧ AA K ts δ M1 fun xs M2 => AM K r x xs M2 k) : AE K (tBM K "list" r to ts) δ M k := fun σ G H Q rs s f =>
  h σ G H _ rs s fun x M1 v G1 H1 ⟨ht, h1⟩ s1 st1 r1 => by
    refine ⟨?_, h1 σ G1 H1 _ (rs.mono st1.gg) s1 fun xs M2 vs G2 H2 h2 s2 st2 r2 => h2 v vs G2 H2 Q (Rep.mono st2.gg _ _ r1) r2 s2 fun d M3 v3 G3 H3 q s3 st3 r3 => f d M3 v3 G3 H3 q s3 ((st1.trans st2).trans st3) r3⟩
    rcases ht with ⟨ds, e⟩ | ⟨ds, e⟩ | ⟨a, ds, N1, N2, e, e2⟩
    · subst e
      obtain ⟨a, xs, rfl, ha, _⟩ := rep_lst r1
      exact .inl ⟨rfl, xs, .inl (.inl (s1.same _ _ ha))⟩
    · subst e
      obtain ⟨a, xs, rfl, ha, _⟩ := rep_lsk r1
      exact .inl ⟨rfl, xs, s1.same.seq ha⟩
    · subst e
      rw [rep_ref r1]
      obtain ⟨_, o, ho, r⟩ := s1.mu (a, .lst ds) (by rw [e2]; simp)
      obtain ⟨xs, rfl, rs⟩ := r
      exact .inl ⟨rfl, xs, .inl (.inl ho)⟩
theorem am_append {a : Addr} {ds : List D} {M1 M2 : Mu} (e : M = M1 ++ (a, .lst ds) :: M2) (hz : ds.length < sizeLine) (q : k .non (M1 ++ (a, .lst (ds ++ [d])) :: M2)) : AM K rAppend (.ref a) [d] M k := fun vx vs G H Q rx rxs s f => by
  subst e
  obtain ⟨v, r, rfl, r1, rr⟩ := rxs.uncons
  unfold Reps at rr
  subst rr
  obtain ⟨g0, o, ho, r⟩ := s.mu (a, .lst ds) (by simp)
  obtain ⟨xs, rfl, rs⟩ := r
  obtain ⟨s2, st2⟩ := s.write (o := .lst (xs ++ [v])) (m' := .lst (ds ++ [d])) ⟨_, rfl, rs.append (Reps.one r1)⟩
  exact ⟨a, xs, v, rep_ref rx, rfl, ho, by rw [rs.len]; exact hz, f _ _ _ _ _ q s2 st2 rep_of_non⟩
theorem am_extend {a : Addr} {ds es : List D} {M1 M2 : Mu} (e : M = M1 ++ (a, .lst ds) :: M2) (hz : ds.length + es.length ≤ sizeLine) (q : k .non (M1 ++ (a, .lst (ds ++ es)) :: M2)) : AM K rExtend (.ref a) [.lst es] M k := fun vx vs G H Q rx rxs s f => by
  subst e
  obtain ⟨v, r, rfl, r1, rr⟩ := rxs.uncons
  unfold Reps at rr
  subst rr
  obtain ⟨b, ys, rfl, hb, r2⟩ := rep_lst r1
  obtain ⟨g0, o, ho, r⟩ := s.mu (a, .lst ds) (by simp)
  obtain ⟨xs, rfl, rs⟩ := r
  obtain ⟨s2, st2⟩ := s.write (o := .lst (xs ++ ys)) (m' := .lst (ds ++ es)) ⟨_, rfl, rs.append r2⟩
  exact ⟨a, b, xs, ys, rep_ref rx, rfl, ho, s.same _ _ hb, by rw [rs.len, r2.len]; exact hz, f _ _ _ _ _ q s2 st2 rep_of_non⟩
abbrev rJoin (K : PySem.W.Frag) : V → List V → Hp → VK → Prop := fun x xs H Q => ∃ a p, ∃ ys : List Str, x = .str a ∧ xs = [.ref p] ∧ (SqL K H p (ys.map V.str) ∨ SqT K H p (ys.map V.str)) ∧
      (ys.map (·.length)).sum + ys.length * a.length ≤ 16777216 ∧ Q (.str (Txt.join a ys)) H
theorem ae_m1 {r : V → List V → Hp → VK → Prop} (h : AE K to δ M fun x M1 => (∃ z, x = .str z) ∧ AE K te δ M1 fun y M2 => AM K r x [y] M2 k) : AE K (tM1 r to te) δ M k := fun σ G H Q rs s f =>
  h σ G H _ rs s fun x M1 v G1 H1 ⟨⟨z, hz⟩, h1⟩ s1 st1 r1 => by
    subst hz
    refine ⟨⟨z, rep_str r1⟩, h1 σ G1 H1 _ (rs.mono st1.gg) s1 fun y M2 vy G2 H2 h2 s2 st2 r2 => h2 v [vy] G2 H2 Q (Rep.mono st2.gg _ _ r1) (Reps.one r2) s2 fun d M3 v3 G3 H3 q s3 st3 r3 => f d M3 v3 G3 H3 q s3 ((st1.trans st2).trans st3) r3⟩
theorem am_join {ls : List (List Nat)} (hz : (ls.map (·.length)).sum ≤ 16777216) (q : k (.str (tx ls.flatten)) M) : AM K (rJoin K) (.str (tx [])) [.lst (ls.map fun l => .str (tx l))] M k := fun vx vs G H Q rx rxs s f => by
  obtain ⟨v, r, rfl, r1, rr⟩ := rxs.uncons
  unfold Reps at rr
  subst rr
  obtain ⟨b, ys, rfl, hb, r2⟩ := rep_lst r1
  have e : ys = (ls.map tx).map V.str := by
    have h2 : ls.map (fun l => D.str (tx l)) = (ls.map tx).map D.str := by simp
    rw [h2] at r2
    exact r2.strs
  refine ⟨tx [], b, ls.map tx, rep_str rx, rfl, .inl (.inl (.inl (by rw [← e]; exact s.same _ _ hb))), ?_, ?_⟩
  · have h1 : ((ls.map tx).map (·.length)) = ls.map (·.length) := by
      rw [List.map_map]
      exact List.map_congr_left fun l _ => tx_len l
    rw [h1, tx_len]
    simpa using hz
  · rw [tx_join]
    exact f _ M _ G H q s Step.refl rep_of_str
end
end Tg
set_option Elab.async false
set_option linter.all false
set_option maxRecDepth 100000
set_option maxHeartbeats 1000000
namespace Tg
open PySem L2 PyProof.Rows
/-! ### the rules with the written part by its name -/
section
variable {X : Cx} {K : PySem.W.Frag} {e a b : Expr} {ta tb te tl : TE} {pos : Pos}
theorem ix_K (h : X.K = K := by rfl) : IxR X (rIx K) := h ▸ ix_seq
theorem add_K (h : X.K = K := by rfl) : OpR X (binaryOp .Add) (rAddU K) := h ▸ op_addU
theorem sl_K (h : X.K = K := by rfl) : SlR X (rSlU K) := h ▸ sl_any
theorem len_K (h : X.K = K := by rfl) : CallR X (.builtin "len") (rLenU K) := h ▸ call_lenU
theorem tup_K (h : X.K = K := by rfl) : CallR X (.type "tuple") (rTupU K) := h ▸ call_tupU
theorem list_K (h : X.K = K := by rfl) : CallR X (.type "list") (rListU K) := h ▸ call_listU
theorem all_K (hc : X.calm = true) (h : X.K = K := by rfl) : CallR X (.builtin "all") (rAll K) := h ▸ cr_all hc
theorem any_K (hc : X.calm = true) (h : X.K = K := by rfl) : CallR X (.builtin "any") (rAny K) := h ▸ cr_any hc
theorem isi_K (h : X.K = K := by rfl) : CallR X (.builtin "isinstance") (rIsi K) := h ▸ call_isi
theorem seq_K {tg l : Expr} (hl : PE X l tl) (h : X.K = K := by rfl) : PI X tg l (iSeq K tl) := h ▸ pi_seq hl
theorem tru_K {t : TE} (ha : PE X a t) (h : X.K = K := by rfl) (he : ∀ whole, isTrue a X.env whole = (do let v ← whole; standAt a.pos; holding [v] (truthy v)) := by intro _; rfl) : PT X a (tTruU K t) := h ▸ pt_tru ha he
theorem gtup_K {es : List Expr} {k : Nat} {t : TGs} {n : Nat} (hc : X.calm = true) (hg : PGs X es t) (h : X.K = K := by rfl)
    (hn : (assignEach es X.env).length = n := by rfl) (hst : (assignEach es X.env).findIdx? (·.1) = none := by rfl) : PG X (.Tuple es k pos) (gTup K n t) := h ▸ pg_tup hc hg hn hst
theorem app_K {o : Expr} {es : List Expr} {to : TE} {t : TA} {apos cpos : Pos} (h0 : PE X (.Call (.Attribute o "append" apos) (e :: es) [] cpos) (tBM X.K "list" rAppend to t)) (h : X.K = K := by rfl) : PE X (.Call (.Attribute o "append" apos) (e :: es) [] cpos) (tBM K "list" rAppend to t) := h ▸ h0
theorem ext_K {o : Expr} {es : List Expr} {to : TE} {t : TA} {apos cpos : Pos} (h0 : PE X (.Call (.Attribute o "extend" apos) (e :: es) [] cpos) (tBM X.K "list" rExtend to t)) (h : X.K = K := by rfl) : PE X (.Call (.Attribute o "extend" apos) (e :: es) [] cpos) (tBM K "list" rExtend to t) := h ▸ h0
theorem popAt_K {o : Expr} {es : List Expr} {to : TE} {t : TA} {apos cpos : Pos} (h0 : PE X (.Call (.Attribute o "pop" apos) (e :: es) [] cpos) (tBM X.K "list" rPopAt to t)) (h : X.K = K := by rfl) : PE X (.Call (.Attribute o "pop" apos) (e :: es) [] cpos) (tBM K "list" rPopAt to t) := h ▸ h0
theorem join_K {o : Expr} {to : TE} {apos cpos : Pos} (h0 : PE X (.Call (.Attribute o "join" apos) [e] [] cpos) (tM1 (rJoin X.K) to te)) (h : X.K = K := by rfl) : PE X (.Call (.Attribute o "join" apos) [e] [] cpos) (tM1 (rJoin K) to te) := h ▸ h0
/-! ### three comparisons in a row -/
def tChain3 (r r' r2 : R2) (ta tb tc td : TE) : TE := fun σ H Q => ta σ H fun x H1 => tb σ H1 fun y H2 => r x y H2 fun z H3 => ∃ k, z = .bl k ∧ (if k = true then tc σ H3 fun w' H4 => r' y w' H4 fun z2 H5 => ∃ k2, z2 = .bl k2 ∧ (if k2 = true then td σ H5 fun w2 H6 => r2 w' w2 H6 Q else Q (.bl false) H5) else Q (.bl false) H3)
end
section
variable {X : Cx} {pins : List (Addr × Obj)} {a b c d : Expr} {ta tb tc td : TE} {pos : Pos}
theorem pt_chain3 {op op' op2 : CmpOp} {r r' r2 : R2} (ho : OpR X (compareOp op) r) (ho' : OpR X (compareOp op') r') (ho2 : OpR X (compareOp op2) r2) (ha : PE X a ta) (hb : PE X b tb) (hc : PE X c tc) (hd : PE X d td)
    (hm : lastMarks [op, op', op2] [b, c, d] = false := by with_unfolding_all rfl) : PT X (.Compare a [op, op', op2] [b, c, d] pos) (tTest (tChain3 r r' r2 ta tb tc td)) := by
  refine ⟨fun pins s σ H Q I h => ?_⟩
  refine isTrue_chain (thn (ha.run pins s σ H _ I h) fun v s1 ⟨x, H1, I1, r1, q1⟩ => test_link (thn (hb.run pins s1 σ H1 _ I1 q1) fun u s2 ⟨y, H2, I2, ry, q2⟩ =>
    thn (ho pins s2 σ H2 x y v u _ I2 r1 ry q2) fun dd s3 ⟨z, H3, I3, r3, k, e, q3⟩ => ?_)) hm
  subst e
  cases r3
  refine wpAny_truthy_bool ?_
  cases k with
  | false =>
    obtain ⟨k', e', q'⟩ := q3
    cases e'
    exact ite_ff ⟨H3, I3, q'⟩
  | true =>
    refine ite_tt (test_link (thn (hc.run pins s3 σ H3 _ I3 q3) fun w' s4 ⟨z', H4, I4, r4, q4⟩ => thn (ho' pins s4 σ H4 y z' u w' _ I4 ry r4 q4) fun d' s5 ⟨z2, H5, I5, r5, k2, e2, q5⟩ => ?_))
    subst e2
    cases r5
    refine wpAny_truthy_bool ?_
    cases k2 with
    | false =>
      obtain ⟨k', e', q'⟩ := q5
      cases e'
      exact ite_ff ⟨H5, I5, q'⟩
    | true =>
      refine ite_tt (test_last (thn (hd.run pins s5 σ H5 _ I5 q5) fun w2 s6 ⟨z3, H6, I6, r6, q6⟩ => thn (ho2 pins s6 σ H6 z' z3 w' w2 _ I6 r4 r6 q6) fun d2 s7 ⟨z4, H7, I7, r7, k3, e3, q7⟩ => ?_))
      subst e3
      cases r7
      exact wpAny_truthy_bool ⟨H7, I7, q7⟩
end
section
variable {K : PySem.W.Frag} {δ : DS} {M : Mu} {ta tb tc td te to ti tx : TE} {k : D → Mu → Prop} {x y d : D}
theorem ae_chain {r r' : R2} (h : AE K ta δ M fun x M1 => AE K tb δ M1 fun y M2 => AR K r x y M2 fun z M3 => ∃ b, z = .bl b ∧ (b = true → AE K tc δ M3 fun w M4 => AR K r' y w M4 k) ∧ (b = false → k (.bl false) M3)) : AE K (tChain r r' ta tb tc) δ M k := fun σ G H Q rs s f =>
  h σ G H _ rs s fun x M1 vx G1 H1 h1 s1 st1 r1 => h1 σ G1 H1 _ (rs.mono st1.gg) s1 fun y M2 vy G2 H2 h2 s2 st2 r2 =>
    h2 vx vy G2 H2 _ (Rep.mono st2.gg _ _ r1) r2 s2 fun z M3 vz G3 H3 ⟨b, e, q1, q2⟩ s3 st3 r3 => by
      subst e
      refine ⟨b, rep_bl r3, ?_⟩
      have st := (st1.trans st2).trans st3
      cases b with
      | true =>
        rw [if_pos rfl]
        exact q1 rfl σ G3 H3 _ (rs.mono st.gg) s3 fun w M4 vw G4 H4 h4 s4 st4 r4 => h4 vy vw G4 H4 Q (Rep.mono (st3.trans st4).gg _ _ r2) r4 s4 fun d M5 v G5 H5 q s5 st5 r5 => f d M5 v G5 H5 q s5 ((st.trans st4).trans st5) r5
      | false =>
        rw [if_neg Bool.false_ne_true]
        exact f _ M3 _ G3 H3 (q2 rfl) s3 st rep_of_bl
theorem ae_chain3 {r r' r2 : R2} (h : AE K ta δ M fun x M1 => AE K tb δ M1 fun y M2 => AR K r x y M2 fun z M3 => ∃ b, z = .bl b ∧ (b = true → AE K tc δ M3 fun w M4 => AR K r' y w M4 fun z2 M5 => ∃ b2, z2 = .bl b2 ∧ (b2 = true → AE K td δ M5 fun w2 M6 => AR K r2 w w2 M6 k) ∧ (b2 = false → k (.bl false) M5)) ∧ (b = false → k (.bl false) M3)) : AE K (tChain3 r r' r2 ta tb tc td) δ M k := fun σ G H Q rs s f =>
  h σ G H _ rs s fun x M1 vx G1 H1 h1 s1 st1 r1 => h1 σ G1 H1 _ (rs.mono st1.gg) s1 fun y M2 vy G2 H2 h2 s2 st2 ry =>
    h2 vx vy G2 H2 _ (Rep.mono st2.gg _ _ r1) ry s2 fun z M3 vz G3 H3 ⟨b, e, q1, q2⟩ s3 st3 r3 => by
      subst e
      refine ⟨b, rep_bl r3, ?_⟩
      have st := (st1.trans st2).trans st3
      cases b with
      | true =>
        rw [if_pos rfl]
        exact q1 rfl σ G3 H3 _ (rs.mono st.gg) s3 fun w M4 vw G4 H4 h4 s4 st4 r4 => h4 vy vw G4 H4 _ (Rep.mono (st3.trans st4).gg _ _ ry) r4 s4 fun d M5 v G5 H5 ⟨b2, e2, q3, q4⟩ s5 st5 r5 => by
          subst e2
          refine ⟨b2, rep_bl r5, ?_⟩
          have st' := (st.trans st4).trans st5
          cases b2 with
          | true =>
            rw [if_pos rfl]
            exact q3 rfl σ G5 H5 _ (rs.mono st'.gg) s5 fun w2 M6 vw2 G6 H6 h6 s6 st6 r6 => h6 vw vw2 G6 H6 Q (Rep.mono (st5.trans st6).gg _ _ r4) r6 s6 fun d M7 v G7 H7 q s7 st7 r7 => f d M7 v G7 H7 q s7 ((st'.trans st6).trans st7) r7
          | false =>
            rw [if_neg Bool.false_ne_true]
            exact f _ M5 _ G5 H5 (q4 rfl) s5 st' rep_of_bl
      | false =>
        rw [if_neg Bool.false_ne_true]
        exact f _ M3 _ G3 H3 (q2 rfl) s3 st rep_of_bl
/-! ### the slots at the entry -/
theorem as_start {n : Nat} {ds : List D} {δ' : DS} {t : TS} {A : AEnds} (e : startD n ds = δ') (h : AS K t δ' M A) : AS K t (startD n ds) M A := e ▸ h
theorem as_slots {δ' : DS} {t : TS} {A : AEnds} (e : δ = δ') (h : AS K t δ' M A) : AS K t δ M A := e ▸ h
/-! ### list(range(..)) -/
theorem ae_listRg1 {ta : TE} (h : AE K ta δ M fun d M1 => ∃ j : Int, d = .int j ∧ 0 ≤ j ∧ j ≤ 16777216 ∧ k (.lst (rng 0 j.toNat)) M1) : AE K (tLstRg (tRg1 ta)) δ M k := fun σ G H Q rs s f =>
  h σ G H _ rs s fun d M1 v G1 H1 ⟨j, e, h0, h2, q⟩ s1 st1 r1 => by
    subst e
    refine ⟨j, rep_int r1, RgOk.of_le (Int.le_refl 0) h2 (by decide) h0, fun l hl => ?_⟩
    obtain ⟨s2, st2, e2⟩ := s1.frozen (o := .lst (rgV 0 j)) hl
    refine f _ M1 _ _ _ q s2 (st1.trans st2) (rep_mk_lst upd_same ?_)
    have e3 : rgV 0 j = (((List.range j.toNat).map fun (i : Nat) => ((0 : Int) + (i : Nat))).map V.int) := by
      unfold rgV
      rw [List.map_map, Int.sub_zero]
      rfl
    have e4 : rng 0 j.toNat = (((List.range j.toNat).map fun (i : Nat) => ((0 : Int) + (i : Nat))).map D.int) := by
      unfold rng
      rw [List.map_map]
      rfl
    rw [e3, e4]
    exact Reps.ofInts
/-! ### dicts -/
def valD {κ : Type} [DecidableEq κ] (kvs : List (κ × D)) (q : κ) : Option D := (kvs.find? fun kv => decide (kv.1 = q)).map (·.2)
def putD {κ : Type} [DecidableEq κ] (kvs : List (κ × D)) (q : κ) (v : D) : List (κ × D) :=
  if (kvs.any fun kv => decide (kv.1 = q)) = true then kvs.map (fun kv => if kv.1 = q then (kv.1, v) else kv) else kvs ++ [(q, v)]
def keyD : Key → D
  | .inl i => .int i
  | .inr z => .str z
theorem rep_key {G : Hp} {v : V} : ∀ {q : Key}, Rep K G (keyD q) v → v = kV q
  | .inl _, h => rep_int h
  | .inr _, h => rep_str h
theorem repKV_len {κ : Type} {G : Hp} : ∀ {ds : List (κ × D)} {xs : List (κ × V)}, RepKV K G ds xs → xs.length = ds.length
  | [], _, h => by
    unfold RepKV at h
    rw [h]
    rfl
  | (q, d) :: ds, _, h => by
    unfold RepKV at h
    obtain ⟨x, r, e, _, t⟩ := h
    rw [e, List.length_cons, List.length_cons, repKV_len t]
theorem repKV_get {κ : Type} [DecidableEq κ] {G : Hp} {q : κ} : ∀ {ds : List (κ × D)} {xs : List (κ × V)}, RepKV K G ds xs → (∀ d, valD ds q = some d → ∃ v, valV xs q = some v ∧ Rep K G d v) ∧ (valD ds q = none → valV xs q = none)
  | [], _, h => by
    unfold RepKV at h
    rw [h]
    exact ⟨fun d e => by simp [valD] at e, fun _ => rfl⟩
  | (q', d') :: ds, _, h => by
    unfold RepKV at h
    obtain ⟨x, r, e, rx, t⟩ := h
    subst e
    have ih := repKV_get (q := q) t
    by_cases hq : q' = q
    · subst hq
      refine ⟨fun d e => ⟨x, by simp [valV], ?_⟩, fun e => ?_⟩
      · have e1 : d' = d := by simpa [valD] using e
        subst e1
        exact rx
      · simp [valD] at e
    · have e1 : valD ((q', d') :: ds) q = valD ds q := by simp [valD, hq]
      have e2 : valV ((q', x) :: r) q = valV r q := by simp [valV, hq]
      rw [e1, e2]
      exact ih
theorem repKV_any {κ : Type} [DecidableEq κ] {G : Hp} {q : κ} : ∀ {ds : List (κ × D)} {xs : List (κ × V)}, RepKV K G ds xs → (xs.any fun kv => decide (kv.1 = q)) = (ds.any fun kv => decide (kv.1 = q))
  | [], _, h => by
    unfold RepKV at h
    rw [h]
    rfl
  | (q', d') :: ds, _, h => by
    unfold RepKV at h
    obtain ⟨x, r, e, rx, t⟩ := h
    subst e
    rw [List.any_cons, List.any_cons, repKV_any t]
theorem repKV_map {κ : Type} [DecidableEq κ] {G : Hp} {q : κ} {d : D} {v : V} (hv : Rep K G d v) : ∀ {ds : List (κ × D)} {xs : List (κ × V)}, RepKV K G ds xs → RepKV K G (ds.map fun kv => if kv.1 = q then (kv.1, d) else kv) (xs.map fun kv => if kv.1 = q then (kv.1, v) else kv)
  | [], _, h => by
    unfold RepKV at h
    rw [h]
    show RepKV K G [] []
    unfold RepKV
    rfl
  | (q', d') :: ds, _, h => by
    unfold RepKV at h
    obtain ⟨x, r, e, rx, t⟩ := h
    subst e
    rw [List.map_cons, List.map_cons]
    by_cases hq : q' = q
    · rw [if_pos hq, if_pos hq]
      unfold RepKV
      exact ⟨v, _, rfl, hv, repKV_map hv t⟩
    · rw [if_neg hq, if_neg hq]
      unfold RepKV
      exact ⟨x, _, rfl, rx, repKV_map hv t⟩
theorem repKV_snoc {κ : Type} {G : Hp} {q : κ} {d : D} {v : V} (hv : Rep K G d v) : ∀ {ds : List (κ × D)} {xs : List (κ × V)}, RepKV K G ds xs → RepKV K G (ds ++ [(q, d)]) (xs ++ [(q, v)])
  | [], _, h => by
    unfold RepKV at h
    rw [h]
    show RepKV K G [(q, d)] [(q, v)]
    unfold RepKV
    exact ⟨v, [], rfl, hv, by unfold RepKV; rfl⟩
  | (q', d') :: ds, _, h => by
    unfold RepKV at h
    obtain ⟨x, r, e, rx, t⟩ := h
    subst e
    show RepKV K G ((q', d') :: (ds ++ [(q, d)])) ((q', x) :: (r ++ [(q, v)]))
    unfold RepKV
    exact ⟨x, _, rfl, rx, repKV_snoc hv t⟩
theorem repKV_put {κ : Type} [DecidableEq κ] {G : Hp} {q : κ} {d : D} {v : V} (hv : Rep K G d v) {ds : List (κ × D)} {xs : List (κ × V)} (h : RepKV K G ds xs) : RepKV K G (putD ds q d) (putK xs q v) := by
  unfold putD putK
  rw [repKV_any h]
  split
  · exact repKV_map hv h
  · exact repKV_snoc hv h
theorem ae_dnew (q : ∀ a, k (.ref a) (M ++ [(a, .dK [])])) : AE K tDNewK δ M k := fun σ G H Q rs s f p hp => by
  obtain ⟨s2, st2⟩ := s.fresh (o := .dK []) (m := .dK []) hp ⟨[], rfl, by unfold RepKV; rfl⟩
  exact f _ _ _ _ _ (q p) s2 st2 rep_of_ref
def rSetU : TSet := fun o i v H Q => rSetL o i v H Q ∨ rSetD o i v H Q
theorem set_any {X : Cx} (hu : X.A.units + 1 < cLine) : PSet X rSetU := fun pins s σ H o i v ov iv u Q I ro ri rv h => by
  rcases h with h | h
  · exact set_list pins s σ H o i v ov iv u Q I ro ri rv h
  · exact set_dict hu pins s σ H o i v ov iv u Q I ro ri rv h
/-- o[i] = v, of a list or a dict that may change -/
def PutU (o i v : D) (M : Mu) (q : Mu → Prop) : Prop := PutM o i v M q ∨ ∃ a kvs M1 M2 key, o = .ref a ∧ i = keyD key ∧ M = M1 ++ (a, .dK kvs) :: M2 ∧ kvs.length < sizeLine ∧ q (M1 ++ (a, .dK (putD kvs key v)) :: M2)
theorem put_l {a : Addr} {ds : List D} {M1 M2 : Mu} {j : Int} {n : Nat} {v : D} {q : Mu → Prop} (e : M = M1 ++ (a, .lst ds) :: M2) (hn : ixN ds.length j = some n) (h : q (M1 ++ (a, .lst (ds.set n v)) :: M2)) : PutU (.ref a) (.int j) v M q := .inl ⟨a, ds, M1, M2, j, n, rfl, rfl, e, hn, h⟩
theorem put_d {a : Addr} {kvs : List (Key × D)} {M1 M2 : Mu} {i : D} {key : Key} {v : D} {q : Mu → Prop} (e : M = M1 ++ (a, .dK kvs) :: M2) (hi : i = keyD key) (hl : kvs.length < sizeLine) (h : q (M1 ++ (a, .dK (putD kvs key v)) :: M2)) : PutU (.ref a) i v M q := .inr ⟨a, kvs, M1, M2, key, rfl, hi, e, hl, h⟩
theorem ag_setU {kg : DS → Mu → Prop} (h : AE K to δ M fun o M1 => AE K ti δ M1 fun j M2 => PutU o j d M2 fun M3 => kg δ M3) : AG K (gSub to ti rSetU) d δ M kg := fun v σ G H Q rv rs s f =>
  h σ G H _ rs s fun o M1 vo G1 H1 h1 s1 st1 r1 => h1 σ G1 H1 _ (rs.mono st1.gg) s1 fun j M2 vj G2 H2 h2 s2 st2 r2 => by
    have rv2 := Rep.mono (st1.trans st2).gg _ _ rv
    have rs2 := rs.mono (st1.trans st2).gg
    rcases h2 with ⟨a, ds, N1, N2, jj, n, rfl, rfl, rfl, hn, q⟩ | ⟨a, kvs, N1, N2, key, rfl, rfl, rfl, hl, q⟩
    · obtain ⟨g0, o, ho, r⟩ := s2.mu (a, .lst ds) (by simp)
      obtain ⟨xs, rfl, rx⟩ := r
      obtain ⟨s3, st3⟩ := s2.write (o := .lst (xs.set n v)) (m' := .lst (ds.set n d)) ⟨_, rfl, Reps.set rx rv2⟩
      exact .inl ⟨a, xs, jj, n, rep_ref r1, rep_int r2, ho, by rw [rx.len]; exact hn, f δ _ σ G2 _ q rs2 s3 ((st1.trans st2).trans st3)⟩
    · obtain ⟨g0, o, ho, r⟩ := s2.mu (a, .dK kvs) (by simp)
      obtain ⟨xs, rfl, rx⟩ := r
      obtain ⟨s3, st3⟩ := s2.write (o := .dK (putK xs key v)) (m' := .dK (putD kvs key d)) ⟨_, rfl, repKV_put rv2 rx⟩
      exact .inr ⟨a, _, rep_ref r1, by rw [rep_key r2]; exact DPut.k ho (by rw [repKV_len rx]; exact hl), f δ _ σ G2 _ q rs2 s3 ((st1.trans st2).trans st3)⟩
/-- a dict that may change, asked -/
theorem ae_dget2 (h : AE K td δ M fun o M1 => (∃ a kvs N1 N2, o = .ref a ∧ M1 = N1 ++ (a, MO.dK kvs) :: N2) ∧ AE K te δ M1 fun i M2 => AE K tx δ M2 fun z M3 => ∃ a kvs N1 N2 key, o = .ref a ∧ i = keyD key ∧ M3 = N1 ++ (a, MO.dK kvs) :: N2 ∧ k ((valD kvs key).getD z) M3) : AE K (tDGet2 td te tx) δ M k := fun σ G H Q rs s f =>
  h σ G H _ rs s fun o M1 vo G1 H1 ⟨⟨a, kvs, N1, N2, e1, e2⟩, h1⟩ s1 st1 r1 => by
    subst e1
    refine ⟨a, rep_ref r1, ?_, h1 σ G1 H1 _ (rs.mono st1.gg) s1 fun i M2 vi G2 H2 h2 s2 st2 r2 => h2 σ G2 H2 _ (rs.mono (st1.trans st2).gg) s2 fun z M3 vz G3 H3 h3 s3 st3 r3 => ?_⟩
    · obtain ⟨g0, o, ho, r⟩ := s1.mu (a, .dK kvs) (by rw [e2]; simp)
      obtain ⟨xs, rfl, rx⟩ := r
      exact .inl ⟨xs, .inl ho⟩
    · obtain ⟨a', kvs, N1, N2, key, e3, e4, e5, q⟩ := h3
      cases e3
      subst e4
      obtain ⟨g0, o, ho, r⟩ := s3.mu (a, .dK kvs) (by rw [e5]; simp)
      obtain ⟨xs, rfl, rx⟩ := r
      have st := (st1.trans st2).trans st3
      rw [rep_key r2]
      refine ⟨valV xs key, DGet.k ho, ?_⟩
      obtain ⟨g1, g2⟩ := repKV_get (q := key) rx
      cases hv : valD kvs key with
      | none =>
        rw [hv] at q
        rw [g2 hv]
        exact f z M3 vz G3 H3 q s3 st r3
      | some dv =>
        rw [hv] at q
        obtain ⟨v, e6, r6⟩ := g1 dv hv
        rw [e6]
        exact f dv M3 v G3 H3 q s3 st r6
end
end Tg
namespace Tg
open PySem L2
theorem dcase {p : Prop} [Decidable p] {A B : Prop} (h1 : p → A) (h2 : ¬ p → B) : (decide p = true → A) ∧ (decide p = false → B) := ⟨fun c => h1 (of_decide_eq_true c), fun c => h2 (of_decide_eq_false c)⟩
theorem dcaseN {p : Prop} [Decidable p] {A B : Prop} (h1 : ¬ p → A) (h2 : p → B) : ((!decide p) = true → A) ∧ ((!decide p) = false → B) := ⟨fun c => h1 (by
  intro q
  rw [decide_eq_true q] at c
  cases c), fun c => h2 (by
  by_cases q : p
  · exact q
  · rw [decide_eq_false q] at c
    cases c)⟩
theorem dcaseR {p : Prop} [Decidable p] {A B : Prop} (h1 : ¬ p → A) (h2 : p → B) : (decide p = false → A) ∧ (decide p = true → B) := ⟨fun c => h1 (of_decide_eq_false c), fun c => h2 (of_decide_eq_true c)⟩
theorem bcaseT {A B : Prop} (h : A) : (true = true → A) ∧ (true = false → B) := ⟨fun _ => h, fun c => nomatch c⟩
theorem bcaseF {A B : Prop} (h : B) : (false = true → A) ∧ (false = false → B) := ⟨fun c => (nomatch c), fun _ => h⟩
theorem bcaseTR {A B : Prop} (h : B) : (true = false → A) ∧ (true = true → B) := ⟨fun c => (nomatch c), fun _ => h⟩
theorem bcaseFR {A B : Prop} (h : A) : (false = false → A) ∧ (false = true → B) := ⟨fun _ => h, fun c => nomatch c⟩
theorem cmul_l {i j : Int} (h1 : -(2 ^ 64) < i) (h2 : i < 2 ^ 64) : CMul i j := .inl ⟨h1, h2⟩
theorem cmul_r {i j : Int} (h1 : -(2 ^ 64) < j) (h2 : j < 2 ^ 64) : CMul i j := .inr ⟨h1, h2⟩
theorem at_yes {K : PySem.W.Frag} {δ : DS} {M : Mu} {kb : Bool → Mu → Prop} (q : kb true M) : AT K tYes δ M kb := fun σ G H Q rs s f => f true M G H q s Step.refl
end Tg
namespace Tg
open PySem L2
section
variable {K : PySem.W.Frag} {M : Mu} {k : D → Mu → Prop} {a : Addr} {ds es : List D} {M2 : Mu} {x y : Addr × MO} {j : Int} {n : Nat} {v d i : D} {q : Mu → Prop} {kvs : List (Key × D)} {key : Key}
theorem put_l0 (hn : ixN ds.length j = some n) (h : q ((a, .lst (ds.set n v)) :: M2)) : PutU (.ref a) (.int j) v ((a, .lst ds) :: M2) q := put_l (M1 := []) rfl hn h
theorem put_l1 (hn : ixN ds.length j = some n) (h : q (x :: (a, .lst (ds.set n v)) :: M2)) : PutU (.ref a) (.int j) v (x :: (a, .lst ds) :: M2) q := put_l (M1 := [x]) rfl hn h
theorem put_d0 (hi : i = keyD key) (hl : kvs.length < sizeLine) (h : q ((a, .dK (putD kvs key v)) :: M2)) : PutU (.ref a) i v ((a, .dK kvs) :: M2) q := put_d (M1 := []) rfl hi hl h
theorem put_d1 (hi : i = keyD key) (hl : kvs.length < sizeLine) (h : q (x :: (a, .dK (putD kvs key v)) :: M2)) : PutU (.ref a) i v (x :: (a, .dK kvs) :: M2) q := put_d (M1 := [x]) rfl hi hl h
theorem aix0 (h : atI ds j = some d) (q : k d ((a, .lst ds) :: M2)) : AR K (rIx K) (.ref a) (.int j) ((a, .lst ds) :: M2) k := aix_M (M1 := []) rfl h q
theorem aix1 (h : atI ds j = some d) (q : k d (x :: (a, .lst ds) :: M2)) : AR K (rIx K) (.ref a) (.int j) (x :: (a, .lst ds) :: M2) k := aix_M (M1 := [x]) rfl h q
theorem app0 (hz : ds.length < sizeLine) (q : k .non ((a, .lst (ds ++ [d])) :: M2)) : AM K rAppend (.ref a) [d] ((a, .lst ds) :: M2) k := am_append (M1 := []) rfl hz q
theorem app1 (hz : ds.length < sizeLine) (q : k .non (x :: (a, .lst (ds ++ [d])) :: M2)) : AM K rAppend (.ref a) [d] (x :: (a, .lst ds) :: M2) k := am_append (M1 := [x]) rfl hz q
theorem app2 (hz : ds.length < sizeLine) (q : k .non (x :: y :: (a, .lst (ds ++ [d])) :: M2)) : AM K rAppend (.ref a) [d] (x :: y :: (a, .lst ds) :: M2) k := am_append (M1 := [x, y]) rfl hz q
theorem ext0 (hz : ds.length + es.length ≤ sizeLine) (q : k .non ((a, .lst (ds ++ es)) :: M2)) : AM K rExtend (.ref a) [.lst es] ((a, .lst ds) :: M2) k := am_extend (M1 := []) rfl hz q
theorem lst0 : LstM (.ref a) ((a, MO.lst ds) :: M2) := lstM_ref (N1 := []) rfl
theorem lst1 : LstM (.ref a) (x :: (a, MO.lst ds) :: M2) := lstM_ref (N1 := [x]) rfl
theorem lst2 : LstM (.ref a) (x :: y :: (a, MO.lst ds) :: M2) := lstM_ref (N1 := [x, y]) rfl
theorem lenM0 (q : k (.int (ds.length : Int)) ((a, .lst ds) :: M2)) : AC K (rLenU K) [.ref a] ((a, .lst ds) :: M2) k := ac_lenM (M1 := []) rfl q
theorem lenM1 (q : k (.int (ds.length : Int)) (x :: (a, .lst ds) :: M2)) : AC K (rLenU K) [.ref a] (x :: (a, .lst ds) :: M2) k := ac_lenM (M1 := [x]) rfl q
theorem tupM0 (q : k (.tup ds) ((a, .lst ds) :: M2)) : AC K (rTupU K) [.ref a] ((a, .lst ds) :: M2) k := ac_tupM (M1 := []) rfl q
theorem tupM1 (q : k (.tup ds) (x :: (a, .lst ds) :: M2)) : AC K (rTupU K) [.ref a] (x :: (a, .lst ds) :: M2) k := ac_tupM (M1 := [x]) rfl q
variable {δ : DS} {t : TS} {A : AEnds} {s : Nat}
theorem frz0 (hi : δ[s]? = some (some (.ref a))) (h : AS K t (δ.set s (some (.lst ds))) M2 A) : AS K t δ ((a, .lst ds) :: M2) A := as_freeze (M1 := []) hi rfl h
theorem frz1 (hi : δ[s]? = some (some (.ref a))) (h : AS K t (δ.set s (some (.lst ds))) (x :: M2) A) : AS K t δ (x :: (a, .lst ds) :: M2) A := as_freeze (M1 := [x]) hi rfl h
theorem frz2 (hi : δ[s]? = some (some (.ref a))) (h : AS K t (δ.set s (some (.lst ds))) (x :: y :: M2) A) : AS K t δ (x :: y :: (a, .lst ds) :: M2) A := as_freeze (M1 := [x, y]) hi rfl h
end
end Tg
namespace Tg
open PySem L2
theorem as_cut {K : PySem.W.Frag} {δ : DS} {M : Mu} {A : AEnds} {t u : TS} (J : DS → Mu → Prop) (h1 : AS K t δ M { A with nx := J }) (h2 : ∀ δ' M', J δ' M' → AS K u δ' M' A) : AS K (tSeq t u) δ M A :=
  as_seq (h1.mono (fun δ M q => h2 δ M q) (fun _ _ q => q) (fun _ _ q => q) (fun _ _ q => q) (fun _ _ q => q) (fun _ _ q => q))
end Tg
namespace Tg
open PySem L2
theorem len_ok {ds : List D} (n : Nat) (h : ds.length = n) (hn : n ≤ 1000 := by decide) : ds.length ≤ sizeLine := by
  rw [h]
  exact Nat.le_trans hn (by decide)
end Tg
set_option Elab.async false
set_option linter.all false
set_option maxRecDepth 100000
set_option maxHeartbeats 1000000
namespace Tg
open PySem L2 PyProof.Rows
/-! ### methods of texts -/
section
variable {X : Cx} {e : Expr}
abbrev rCount : V → List V → Hp → VK → Prop := fun x xs H Q => ∃ a b, x = .str a ∧ xs = [.str b] ∧ Q (.int (Txt.count a b)) H
abbrev rRfind4 : V → List V → Hp → VK → Prop := fun x xs H Q => ∃ (a b : Str) (i j : Int), x = .str a ∧ xs = [.str b, .int i, .int j] ∧ Q (.int (Txt.rfindIn a b i j)) H
theorem rf_K {K : PySem.W.Frag} {o : Expr} {es : List Expr} {to : TE} {t : TA} {apos cpos : Pos} (h0 : PE X (.Call (.Attribute o "rfind" apos) (e :: es) [] cpos) (tBM X.K "str" rRfind4 to t)) (h : X.K = K := by rfl) : PE X (.Call (.Attribute o "rfind" apos) (e :: es) [] cpos) (tBM K "str" rRfind4 to t) := h ▸ h0
end
section
variable {K : PySem.W.Frag} {δ : DS} {M : Mu} {to : TE} {k : D → Mu → Prop}
theorem ae_sm {r : V → List V → Hp → VK → Prop} {ts : TA} (h : AE K to δ M fun x M1 => (∃ z, x = D.str z) ∧ AA K ts δ M1 fun xs M2 => AM K r x xs M2 k) : AE K (tBM K "str" r to ts) δ M k := fun σ G H Q rs s f =>
  h σ G H _ rs s fun x M1 v G1 H1 ⟨⟨z, e⟩, h1⟩ s1 st1 r1 => by
    subst e
    refine ⟨by rw [rep_str r1]; exact rfl, h1 σ G1 H1 _ (rs.mono st1.gg) s1 fun xs M2 vs G2 H2 h2 s2 st2 r2 => h2 v vs G2 H2 Q (Rep.mono st2.gg _ _ r1) r2 s2 fun d M3 v3 G3 H3 q s3 st3 r3 => f d M3 v3 G3 H3 q s3 ((st1.trans st2).trans st3) r3⟩
/-- how often a code stands in a list -/
def nls (l : List Nat) : Nat := (l.filter fun c => decide (c = 10)).length
def col : List Nat → Nat → Nat
  | [], n => n
  | c :: r, n => col r (if c = 10 then 1 else n + 1)
theorem col_snoc (c : Nat) : ∀ (l : List Nat) (n : Nat), col (l ++ [c]) n = if c = 10 then 1 else col l n + 1
  | [], n => rfl
  | d :: l, n => col_snoc c l _
theorem nls_snoc (l : List Nat) (c : Nat) : nls (l ++ [c]) = if c = 10 then nls l + 1 else nls l := by
  unfold nls
  rw [List.filter_append, List.length_append]
  by_cases h : c = 10
  · subst h
    simp
  · simp [h]
theorem nls_cnt : ∀ l : List Nat, cnt 10 l = (nls l : Int)
  | [] => rfl
  | c :: r => by
    rw [cnt_cons, nls_cnt r]
    unfold nls
    by_cases h : c = 10
    · subst h
      simp
      omega
    · simp [h]
theorem am_nls {l : List Nat} (q : k (.int (nls l)) M) : AM K rCount (.str (tx l)) [.str (Str.ofString "\n")] M k := fun vx vs G H Q rx rxs s f => by
  obtain ⟨v, r, rfl, r1, rr⟩ := rxs.uncons
  unfold Reps at rr
  subst rr
  refine ⟨tx l, Str.ofString "\n", rep_str rx, by rw [rep_str r1], ?_⟩
  have e : Txt.count (tx l) (Str.ofString "\n") = (nls l : Int) := by
    rw [show Str.ofString "\n" = (⟨#[10]⟩ : Str) from by decide +kernel, count_cnt, tx_cps, nls_cnt]
  rw [e]
  exact f _ M _ G H q s Step.refl rep_of_int
/-- the column behind the signs of l -/
theorem rfind_col (l : List Nat) (j : Nat) (hj : j ≤ l.length) : (j : Int) - Txt.rfindIn (tx l) (Str.ofString "\n") 0 j = (col (l.take j) 1 : Nat) := by
  have e1 : Str.ofString "\n" = (⟨#[10]⟩ : Str) := by decide +kernel
  rw [e1]
  unfold Txt.rfindIn
  have e2 : fromIndex (tx l).length 0 = 0 := by
    unfold fromIndex
    simp
  have e3 : toIndexW (tx l).length (j : Int) = j := by
    unfold toIndexW
    rw [tx_len, if_neg (by omega)]
    omega
  rw [e2, e3, StrLaws.last_eq]
  have key := StrLaws.last_run (tx l) ⟨#[10]⟩ j (List.range' 0 (j + 1 - 0)) [] none (fun _ h => nomatch h) (fun _ h => nomatch h) (by simpa using List.pairwise_lt_range' (s := 0) (n := j + 1 - 0))
  rw [List.nil_append] at key
  have at_iff : ∀ i, StrLaws.At (tx l) ⟨#[10]⟩ j i ↔ i < j ∧ l[i]? = some 10 := fun i => by
    have h0 := StrLaws.subAt_one (tx l) 10 i
    rw [tx_cps] at h0
    have h1 : (⟨#[10]⟩ : Str).length = 1 := rfl
    unfold StrLaws.At
    constructor
    · rintro ⟨h2, h3⟩
      rw [h1] at h2
      exact ⟨by omega, h0.mp ⟨by rw [h1, tx_len]; omega, h3⟩⟩
    · rintro ⟨h2, h3⟩
      exact ⟨by rw [h1]; omega, (h0.mpr h3).2⟩
  -- the column by the last line feed
  have main : ∀ j, j ≤ l.length → (∀ a, a < j → l[a]? = some 10 → (∀ i, a < i → i < j → l[i]? ≠ some 10) → (col (l.take j) 1 : Int) = j - a) ∧ ((∀ i, i < j → l[i]? ≠ some 10) → (col (l.take j) 1 : Int) = j + 1) := by
    intro j
    induction j with
    | zero =>
      intro _
      exact ⟨fun a h => absurd h (by omega), fun _ => by simp [col]⟩
    | succ j ih =>
      intro hj
      obtain ⟨i1, i2⟩ := ih (by omega)
      have hl : j < l.length := by omega
      have e : l.take (j + 1) = l.take j ++ [l[j]] := by
        rw [List.take_add_one, List.getElem?_eq_getElem hl]
        rfl
      rw [e, col_snoc]
      by_cases h : l[j] = 10
      · rw [if_pos h]
        have hs : l[j]? = some 10 := by rw [List.getElem?_eq_getElem hl, h]
        refine ⟨fun a ha h1 h2 => ?_, fun h2 => absurd hs (h2 j (by omega))⟩
        by_cases hc : a = j
        · subst hc
          omega
        · exact absurd hs (h2 j (by omega) (by omega))
      · rw [if_neg h]
        have hs : l[j]? ≠ some 10 := by
          rw [List.getElem?_eq_getElem hl]
          exact fun z => h (Option.some.inj z)
        refine ⟨fun a ha h1 h2 => ?_, fun h2 => ?_⟩
        · have hc : a ≠ j := fun z => hs (by rw [← z]; exact h1)
          have := i1 a (by omega) h1 fun i hi hi2 => h2 i hi (by omega)
          omega
        · have := i2 fun i hi => h2 i (by omega)
          omega
  obtain ⟨m1, m2⟩ := main j hj
  have mem : ∀ i, i < j → i ∈ List.range' 0 (j + 1 - 0) := fun i hi => by simp [List.mem_range']; omega
  cases hr : (forIn (List.range' 0 (j + 1 - 0)) none (StrLaws.lastBody (tx l) ⟨#[10]⟩ j)).run with
  | none =>
    rw [hr] at key
    have := m2 fun i hi hs => key i (mem i hi) ((at_iff i).mpr ⟨hi, hs⟩)
    show (j : Int) - (-1) = _
    omega
  | some a =>
    rw [hr] at key
    obtain ⟨k1, k2⟩ := key
    obtain ⟨h1, h2⟩ := (at_iff a).mp k1
    have := m1 a h1 h2 fun i hi hi2 hs => k2 i (mem i hi2) hi ((at_iff i).mpr ⟨hi2, hs⟩)
    show (j : Int) - (a : Int) = _
    omega
theorem am_rfind {l : List Nat} {j : Nat} {i1 : Int} {b : Str} (hi : i1 = 0) (hb : b = Str.ofString "\n") (q : k (.int (Txt.rfindIn (tx l) (Str.ofString "\n") 0 j)) M) : AM K rRfind4 (.str (tx l)) [.str b, .int i1, .int j] M k := fun vx vs G H Q rx rxs s f => by
  subst hi hb
  obtain ⟨v, r, rfl, r1, rr⟩ := rxs.uncons
  obtain ⟨v2, r, rfl, r2, rr⟩ := rr.uncons
  obtain ⟨v3, r, rfl, r3, rr⟩ := rr.uncons
  unfold Reps at rr
  subst rr
  exact ⟨tx l, _, 0, j, rep_str rx, by rw [rep_str r1, rep_int r2, rep_int r3], f _ M _ G H q s Step.refl rep_of_int⟩
theorem tru_ok_bl {b : Bool} : TruOk (.bl b) := True.intro
theorem tru_ok_int {i : Int} : TruOk (.int i) := True.intro
theorem tru_ok_lst {ds : List D} : TruOk (.lst ds) := True.intro
theorem caseT {b : Bool} {A B : Prop} (h : b = true) (q : A) : (b = true → A) ∧ (b = false → B) := ⟨fun _ => q, fun c => nomatch h.symm.trans c⟩
theorem caseF {b : Bool} {A B : Prop} (h : b = false) (q : B) : (b = true → A) ∧ (b = false → B) := ⟨fun c => (nomatch h.symm.trans c), fun _ => q⟩
theorem caseTR {b : Bool} {A B : Prop} (h : b = true) (q : B) : (b = false → A) ∧ (b = true → B) := ⟨fun c => (nomatch h.symm.trans c), fun _ => q⟩
theorem caseFR {b : Bool} {A B : Prop} (h : b = false) (q : A) : (b = false → A) ∧ (b = true → B) := ⟨fun _ => q, fun c => nomatch h.symm.trans c⟩
theorem ac_isiT {x : D} {n c : String} (h : typeD x = some n) (hk : PySem.W.kitOne K (.type n) (.type c) = some true) (q : k (.bl true) M) : AC K (rIsi K) [x, .ty c] M k := ac_isi h hk q
theorem ac_isiF {x : D} {n c : String} (h : typeD x = some n) (hk : PySem.W.kitOne K (.type n) (.type c) = some false) (q : k (.bl false) M) : AC K (rIsi K) [x, .ty c] M k := ac_isi h hk q
/-! ### dicts, asked -/
theorem val_put {κ : Type} [DecidableEq κ] {kvs : List (κ × D)} {q q' : κ} {v : D} : valD (putD kvs q v) q' = if q = q' then some v else valD kvs q' := by
  unfold putD
  by_cases h : (kvs.any fun kv => decide (kv.1 = q)) = true
  · rw [if_pos h]
    induction kvs with
    | nil => simp at h
    | cons kv r ih =>
      obtain ⟨p, d⟩ := kv
      rw [List.map_cons]
      by_cases hp : p = q
      · subst hp
        rw [if_pos rfl]
        by_cases hq : p = q'
        · subst hq
          simp [valD]
        · rw [if_neg hq]
          have e : ∀ r : List (κ × D), valD (r.map fun kv => if kv.1 = p then (kv.1, v) else kv) q' = valD r q' := by
            intro r
            induction r with
            | nil => rfl
            | cons kv r ih =>
              obtain ⟨p2, d2⟩ := kv
              rw [List.map_cons]
              by_cases h2 : p2 = p
              · subst h2
                rw [if_pos rfl]
                have a : valD ((p2, v) :: r.map fun kv => if kv.1 = p2 then (kv.1, v) else kv) q' = valD (r.map fun kv => if kv.1 = p2 then (kv.1, v) else kv) q' := by simp [valD, hq]
                have b : valD ((p2, d2) :: r) q' = valD r q' := by simp [valD, hq]
                rw [a, b, ih]
              · rw [if_neg h2]
                by_cases h3 : p2 = q'
                · simp [valD, h3]
                · have a : valD ((p2, d2) :: r.map fun kv => if kv.1 = p then (kv.1, v) else kv) q' = valD (r.map fun kv => if kv.1 = p then (kv.1, v) else kv) q' := by simp [valD, h3]
                  have b : valD ((p2, d2) :: r) q' = valD r q' := by simp [valD, h3]
                  rw [a, b, ih]
          have a : valD ((p, v) :: r.map fun kv => if kv.1 = p then (kv.1, v) else kv) q' = valD (r.map fun kv => if kv.1 = p then (kv.1, v) else kv) q' := by simp [valD, hq]
          have b : valD ((p, d) :: r) q' = valD r q' := by simp [valD, hq]
          rw [a, b, e]
      · rw [if_neg hp]
        have h' : (r.any fun kv => decide (kv.1 = q)) = true := by simpa [hp] using h
        by_cases hq : p = q'
        · subst hq
          rw [if_neg (Ne.symm hp)]
          simp [valD]
        · have a : valD ((p, d) :: r.map fun kv => if kv.1 = q then (kv.1, v) else kv) q' = valD (r.map fun kv => if kv.1 = q then (kv.1, v) else kv) q' := by simp [valD, hq]
          have b : valD ((p, d) :: r) q' = valD r q' := by simp [valD, hq]
          rw [a, b, ih h']
  · rw [if_neg h]
    induction kvs with
    | nil =>
      by_cases hq : q = q'
      · simp [valD, hq]
      · simp [valD, hq]
    | cons kv r ih =>
      obtain ⟨p, d⟩ := kv
      have hp : p ≠ q := fun z => h (by simp [z])
      have h' : ¬ (r.any fun kv => decide (kv.1 = q)) = true := fun z => h (by rw [List.any_cons, z, Bool.or_true])
      by_cases hq : p = q'
      · subst hq
        rw [if_neg (Ne.symm hp)]
        simp [valD]
      · have a : valD ((p, d) :: r ++ [(q, v)]) q' = valD (r ++ [(q, v)]) q' := by simp [valD, hq]
        have b : valD ((p, d) :: r) q' = valD r q' := by simp [valD, hq]
        rw [a, b, ih h']
theorem put_len {κ : Type} [DecidableEq κ] {kvs : List (κ × D)} {q : κ} {v : D} : (putD kvs q v).length ≤ kvs.length + 1 := by
  unfold putD
  split
  · rw [List.length_map]
    omega
  · rw [List.length_append]
    exact Nat.le_refl _
end
end Tg
set_option Elab.async false
set_option linter.all false
set_option maxRecDepth 100000
set_option maxHeartbeats 1000000
namespace Tg
open PySem L2 PyProof.Rows
/-! ### numbers ahead of what a tuple holds -/
/-- the tuple at a, turn by turn, its items behind their numbers in pairs that are new -/
def Iet (K : PySem.W.Frag) (a : Addr) : It where
  go := fun i H => ∃ ys y, SqT K H a ys ∧ ys[i]? = some y
  yld := fun i H v H' => ∃ p y, v = .ref p ∧ H p = none ∧ H' = upd H p (.tup [.int (i : Nat), y]) ∧ ∀ ys, SqT K H a ys → ys[i]? = some y
  stop := fun i H => ∃ ys, SqT K H a ys ∧ ys.length ≤ i
/-- how the two cells of the walk stand ahead of turn i -/
def EtAt (a en it : Addr) (i : Nat) (h : Heap) : Prop := (∃ old, IsEnum h en it (i : Int) old) ∧ h.IsTupleIter it a i ∧ en ≠ it
theorem turn_enumT {P : Program} {w : World} {K : PySem.W.Frag} {es : List Expr} {n : Nat} {tp : Pos} (a en it : Addr) : Turn P w K (.Tuple es n tp) (Iet K a) [en, it] en (EtAt a en it) where
  mem := List.mem_cons_self ..
  obj := by
    rintro i h ⟨⟨old, he⟩, ⟨o, ho, hc, hd⟩, _⟩ b hb
    rcases List.mem_cons.mp hb with rfl | hb
    · exact ⟨_, he, fun _ q => nomatch q⟩
    · cases List.mem_singleton.mp hb
      refine ⟨o, ho, fun v q => ?_⟩
      rw [hd] at q
      cases q
  keep := by
    rintro i h h' ⟨⟨old, he⟩, hi, ne⟩ k
    exact ⟨⟨old, k en (List.mem_cons_self ..) _ he⟩, hi.at fun o q => k it (by simp) o q, ne⟩
  item := by
    rintro X rfl rfl rfl calm i pins s σ H E I hf ⟨⟨old, he⟩, hit, ne⟩ ⟨ys, y, hq, hy⟩
    obtain ⟨its, rv, tp', hz⟩ := I.tuple hq
    obtain ⟨u, hu, ru⟩ := rv.get hy
    have ta : s.heap.IsTuple a its.toArray := tp'
    have lt : i < its.toArray.size := by
      have := (List.getElem?_eq_some_iff.mp hu).1
      simpa using this
    have ea : a ≠ en := by
      rintro rfl
      obtain ⟨o, ho, hc, _⟩ := ta
      rw [he] at ho
      cases ho
      exact absurd (Value.type.inj hc) (by decide)
    have ia : a ≠ it := by
      rintro rfl
      obtain ⟨o, ho, hc, _⟩ := ta
      obtain ⟨o2, ho2, hc2, _⟩ := hit
      rw [ho] at ho2
      cases ho2
      rw [hc] at hc2
      exact absurd (Value.type.inj hc2) (by decide)
    have sen : en < s.heap.objs.size := Heap.lt_size he
    have sit : it < s.heap.objs.size := by
      obtain ⟨_, q, _⟩ := hit
      exact Heap.lt_size q
    have nofp : en ∉ [it, a] := fun z => by
      rcases List.mem_cons.mp z with z | z
      · exact ne z
      · exact ea (List.mem_singleton.mp z).symm
    refine wpAny_pyNext_enum_itemD (Draws.tuple (A := X.A.in1) (I.ok.hd calm) it a ia its.toArray) he ⟨hit, ta⟩ lt ne nofp fun v h1 tk hv out st1 hT hs1 hk => ?_
    have ev : v = u := by
      have h2 : its[i]? = some v := by simpa using hv
      rw [hu] at h2
      exact (Option.some.inj h2).symm
    subst ev
    refine ⟨_, rfl, wpAny_letOwnedTupleGo_enum (s := { s with heap := h1, toks := tk + 1 }) out fun h2 he2 sb => ?_⟩
    have hT2 : h2.get? s.heap.objs.size = some { cls := .type "tuple", data := .seq #[.int i tk, v] } := by
      rw [sb.2 _ (Nat.ne_of_gt sen)]
      exact hT
    have fresh : ObjOk X.prog X.w (upd H s.heap.objs.size (.tup [.int (i : Nat), y])) h2 s.heap.objs.size (.tup [.int (i : Nat), y]) := by
      refine ⟨by show 2 ≤ sizeLine; decide, [.int i tk, v], ?_, _, hT2, rfl, _, rfl⟩
      exact .cons ⟨_, rfl⟩ (.cons ru .nil)
    have kept : ∀ b ob, b ∉ [en, it] → s.heap.get? b = some ob → h2.get? b = some ob := fun b ob hb q => by
      rw [sb.2 b fun z => hb (by simp [z])]
      exact hk b ob (fun z => hb (by simp [z])) (fun z => hb (by simp [z])) q
    have I2 : Inv X pins σ (upd H s.heap.objs.size (.tup [.int (i : Nat), y])) { s with heap := h2, toks := tk + 1 } := I.turnedNew (ch := [en, it]) kept hf (Nat.le_refl _) fresh
    refine ⟨.ref s.heap.objs.size, _, I2, rfl, ⟨_, y, rfl, I.hok.fresh (Nat.le_refl _), rfl, fun zs hz => ?_⟩, ⟨⟨v, ?_⟩, ?_, ne⟩, fun b hb => ?_⟩
    · rw [I.tuple_inj hz hq]
      exact hy
    · rw [show ((i + 1 : Nat) : Int) = (i : Int) + 1 by omega]
      exact he2
    · exact st1.1.at fun o q => (sb.2 it (Ne.symm ne)).trans q
    · have lb : b < s.heap.objs.size := by
        rcases List.mem_cons.mp hb with rfl | hb
        · exact sen
        · cases List.mem_singleton.mp hb
          exact sit
      rw [upd_ne (Nat.ne_of_lt lb)]
      exact (hf b hb).1
  done := by
    rintro X rfl rfl rfl calm i pins s σ H E I hf ⟨⟨old, he⟩, hit, ne⟩ ⟨ys, hq, hy⟩
    obtain ⟨its, rv, tp', hz⟩ := I.tuple hq
    have ta : s.heap.IsTuple a its.toArray := tp'
    obtain ⟨f0, f1, f2, f3, f4, f5⟩ := hf it (by simp)
    have hn : its.toArray[i]? = none := by
      have := rv.length
      simp
      omega
    have hT : s.TypeIs (.ref en) "enumerate" := ⟨_, he, rfl⟩
    unfold pyNext
    refine wpAny_bind (wpAny_attempt (wpAny_callSpecial?_slot (name := Str.ofString "__next__") hT F.slot_enumerate_next (wpAny_call_entry F.slot_enumerate_next hT F.entry_enumerate_next ?_ (F.args_enumerate_next_1 _))))
    show wpAny _ _ (field (.ref en) 2 >>= _) _ _ _
    refine wpAny_bind (wpAny_field he rfl (x := .ref it) rfl (wpAny_bind (wpAny_nextOf_tuple_end (I.ok.hd calm) hit ta hn fun h' x he' hx' => ?_)))
    obtain ⟨o, ho, hc⟩ := hx'
    refine wpAny_bind (wpAny_isInstance (T := "StopIteration") (b := true) ⟨o, ho, hc⟩ isSubtype_stop (wpAny_pure ⟨rfl, ?_⟩))
    exact I.turned (t' := s.toks) (fun b o hb q => he' b o hb q) f0 f1 f3 f4 f5
  self := by
    rintro A i s Q E ⟨⟨_, he⟩, _⟩ h
    exact wpAny_pyIter_enum he h
set_option maxHeartbeats 2000000 in
/-- what enumerate(v) makes -/
theorem new_enum {v : Value} {o : Obj} {H0 : Heap → Prop} (B : Begins v o H0) : Meets (Builtin.«enumerate.__new__» ⟨[.type "enumerate", v], []⟩) (fun _ R s => H0 s.heap ∧
    R (.ok (.ret (.ref (s.heap.push o).objs.size))) { s with heap := (s.heap.push o).push { cls := .type "enumerate", data := .fields #[.none, .bool false, .ref s.heap.objs.size, rawInt 0, .none, .none] } }) :=
  .of_wp fun prog w A R s hh => by
    obtain ⟨hp, g, d, tk, os⟩ := s
    obtain ⟨hH, hR⟩ := hh
    have hsub := sub_enumerate
    have begun : ∀ {A' : Around} {E Q : Value → Shared → Prop}, Q (.ref hp.objs.size) ⟨hp.push o, g, d, tk, os⟩ → wpAny (model prog w) A' (pyIter v) Q E ⟨hp, g, d, tk, os⟩ := fun q => B.iter _ _ _ _ ⟨hp, g, d, tk, os⟩ _ hH q
    wp_walk using begun
    refine wpAny_stack_any fun st => wpAny_pure ?_
    split
    · rename_i c _ _ _ _ _
      rcases c == Value.type "enumerate" with _ | _ <;> (wp_walk using begun; exact ⟨_, rfl, hR⟩)
    · wp_walk using begun
      exact ⟨_, rfl, hR⟩
theorem call_enumT {prog : Program} {w : World} {A : Around} {E : Value → Shared → Prop} {s : Shared} {a : Addr} {its : Array Value} {Q : Value → Shared → Prop} (ta : s.heap.IsTuple a its)
    (q : ∀ h', IsEnum h' (s.heap.objs.size + 1) s.heap.objs.size 0 .none → h'.IsTupleIter s.heap.objs.size a 0 → (∀ b o, s.heap.get? b = some o → h'.get? b = some o) → Q (.ref (s.heap.objs.size + 1)) { s with heap := h' }) :
    wpAny (model prog w) A (call (.type "enumerate") [.ref a]) Q E s := by
  refine callType_new F.called_enumerate (by decide) (F.typeCall_enumerate_1 _) (F.newCall_enumerate_1 _) (fun obj => F.args_object_init_2 obj _) F.entry_enumerate_new (new_enum (begins_tuple a its)) ⟨ta, ?_⟩
  show _ ∧ _
  have sz : (s.heap.push { cls := .type "tuple_iterator", data := .fields #[.ref a, .int 0 0] }).objs.size = s.heap.objs.size + 1 := Heap.size_push ..
  rw [sz]
  have he : IsEnum ((s.heap.push { cls := .type "tuple_iterator", data := .fields #[.ref a, .int 0 0] }).push { cls := .type "enumerate", data := .fields #[.none, .bool false, .ref s.heap.objs.size, rawInt 0, .none, .none] }) (s.heap.objs.size + 1) s.heap.objs.size 0 .none := by
    have h0 := Heap.get?_push_size (s.heap.push { cls := .type "tuple_iterator", data := .fields #[.ref a, .int 0 0] }) (o := { cls := .type "enumerate", data := .fields #[.none, .bool false, .ref s.heap.objs.size, rawInt 0, .none, .none] }) rfl
    rw [sz] at h0
    exact h0
  exact ⟨⟨_, he, rfl⟩, q _ he ⟨_, Heap.get?_push_of_some _ (Heap.get?_push_size _ rfl), rfl, rfl⟩ fun b o x => Heap.get?_push_of_some _ (Heap.get?_push_of_some _ x)⟩
/-- enumerate of a list or of a tuple -/
def iEnS (K : PySem.W.Frag) (ta : TA) : TI := fun σ H R => ta σ H fun vs H1 => ∃ a xs, vs = [.ref a] ∧ ((SqL K H1 a xs ∧ R (Ite K a) H1) ∨ (SqT K H1 a xs ∧ R (Iet K a) H1))
theorem pi_enS {X : Cx} {e : Expr} {ta : TA} {p pos tp : Pos} {es : List Expr} {n : Nat} (hg : Gl X "enumerate") (hm : X.mg "enumerate" = none) (ha : PA X [e] ta) (hs : starEach [e] X.env = [(false, eval e X.env)] := by rfl) : PI X (.Tuple es n tp) (.Call (.Name "enumerate" p) [e] [] pos) (iEnS X.K ta) := by
  refine ⟨fun pins s σ H R I h => ?_⟩
  refine Call_ (ld_blt I hg hm boot_enumerate (PyProof.Rows.callWith_type1 (thn (ha.run pos pins s σ H _ I h) fun us s1 ⟨vs, H1, I1, r1, a, xs, ex, alt⟩ => ?_) hs rfl))
  subst ex
  obtain ⟨u, rfl, ru⟩ : ∃ u, us = [u] ∧ RelV (.ref a) u := by
    cases r1 with
    | cons r rr =>
      cases rr
      exact ⟨_, rfl, r⟩
  cases ru
  have fp : ∀ b ∈ [s1.heap.objs.size + 1, s1.heap.objs.size], FpOk X pins H1 b := fun b hb => by
    have le : s1.heap.objs.size ≤ b := by
      rcases List.mem_cons.mp hb with rfl | hb
      · exact Nat.le_succ _
      · exact Nat.le_of_eq (List.mem_singleton.mp hb).symm
    exact I1.fpOk le (I1.hok.fresh le)
  rcases alt with ⟨hq, q⟩ | ⟨hq, q⟩
  · obtain ⟨its, rv, p', _⟩ := I1.list hq
    exact call_enumerate_list p'.isList fun h' he hit _ hk => wpAny_pyIter_enum he ⟨_, _, _, _, H1, rfl, I1.kept (t' := s1.toks) hk, turn_enum a (s1.heap.objs.size + 1) s1.heap.objs.size, ⟨⟨.none, he⟩, hit, Nat.succ_ne_self _⟩, fp, q⟩
  · obtain ⟨its, rv, p', _⟩ := I1.tuple hq
    exact call_enumT (show s1.heap.IsTuple a its.toArray from p') fun h' he hit hk => wpAny_pyIter_enum he ⟨_, _, _, _, H1, rfl, I1.kept (t' := s1.toks) hk, turn_enumT a (s1.heap.objs.size + 1) s1.heap.objs.size, ⟨⟨.none, he⟩, hit, Nat.succ_ne_self _⟩, fp, q⟩
section
variable {K : PySem.W.Frag} {G : Hp} {δ : DS} {M : Mu} {ki : List D → Mu → Prop}
theorem itOk_enumT {a : Addr} {xs : List V} {ds : List D} (h : SqT K G a xs) (r : Reps K G ds xs) : ItOk K (Iet K a) G (enumD ds) := fun i G1 H1 M e s => by
  have hq : SqT K H1 a xs := Same.seqT s.same (Same.seqT e h)
  refine ⟨fun d hd => ?_, fun hi => ⟨xs, hq, by rw [r.len, hi]; simp [enumD]⟩⟩
  unfold enumD at hd
  rw [List.getElem?_map, List.getElem?_zipIdx] at hd
  cases hc : ds[i]? with
  | none => rw [hc] at hd; cases hd
  | some c =>
    rw [hc] at hd
    have e1 : D.tup [.int ((0 + i : Nat) : Int), c] = d := by simpa using hd
    rw [Nat.zero_add] at e1
    subst e1
    obtain ⟨x, hx, rx⟩ := r.get hc
    refine ⟨⟨xs, x, hq, hx⟩, fun y H' hy => ?_⟩
    obtain ⟨T, x', rfl, nT, rfl, hy⟩ := hy
    have e2 : x = x' := Option.some.inj (hx.symm.trans (hy xs hq))
    subst e2
    obtain ⟨s2, st2, e3⟩ := s.frozen (o := .tup [.int (i : Nat), x]) nT
    exact ⟨_, s2, st2, rep_mk_tup (.inl (.inl upd_same)) (Reps.cons rep_of_int (Reps.one (Rep.mono (e.trans e3) _ _ rx)))⟩
def seqD : D → Option (List D)
  | .lst ds => some ds
  | .tup ds => some ds
  | _ => none
theorem ai_enum {ts : TA} (h : AA K ts δ M fun ds M1 => ∃ d es, ds = [d] ∧ seqD d = some es ∧ ki (enumD es) M1) : AI K (iEnS K ts) δ M ki := fun σ G H R rs s f =>
  h σ G H _ rs s fun ds M1 vs G1 H1 ⟨d, es, e, he, h1⟩ s1 st1 r1 => by
    subst e
    obtain ⟨x, r, rfl, rx, rr⟩ := r1.uncons
    unfold Reps at rr
    subst rr
    cases d <;> simp only [seqD, Option.some.injEq, reduceCtorEq] at he
    · subst he
      obtain ⟨a, xs, rfl, ha, rs2⟩ := rep_tup rx
      exact ⟨a, xs, rfl, .inr ⟨Same.seqT s1.same ha, f _ M1 G1 H1 _ h1 s1 st1 (itOk_enumT ha rs2)⟩⟩
    · subst he
      obtain ⟨a, xs, rfl, ha, rs2⟩ := rep_lst rx
      exact ⟨a, xs, rfl, .inl ⟨.inl (.inl (s1.same _ _ ha)), f _ M1 G1 H1 _ h1 s1 st1 (itOk_enum (.inl (.inl ha)) rs2)⟩⟩
theorem enumD_get {ds : List D} {i : Nat} {d : D} (h : (enumD ds)[i]? = some d) : ∃ c, ds[i]? = some c ∧ d = .tup [.int (i : Nat), c] := by
  unfold enumD at h
  rw [List.getElem?_map, List.getElem?_zipIdx] at h
  cases hc : ds[i]? with
  | none => rw [hc] at h; cases h
  | some c =>
    rw [hc] at h
    have e1 : D.tup [.int ((0 + i : Nat) : Int), c] = d := by simpa using h
    rw [Nat.zero_add] at e1
    exact ⟨c, rfl, e1.symm⟩
theorem enumD_len (ds : List D) : (enumD ds).length = ds.length := by simp [enumD]
end
section
variable {X : Cx} {K : PySem.W.Frag}
theorem enS_K {e : Expr} {ta : TA} {p pos tp : Pos} {es : List Expr} {n : Nat} (h0 : PI X (.Tuple es n tp) (.Call (.Name "enumerate" p) [e] [] pos) (iEnS X.K ta)) (h : X.K = K := by rfl) : PI X (.Tuple es n tp) (.Call (.Name "enumerate" p) [e] [] pos) (iEnS K ta) := h ▸ h0
end
end Tg
set_option Elab.async false
set_option linter.all false
set_option maxRecDepth 100000
set_option maxHeartbeats 1000000
namespace Tg
open PySem L2 PyProof.Rows
section
variable {K : PySem.W.Frag} {δ : DS} {M M1 M2 : Mu} {te : TE} {k : D → Mu → Prop} {kb : Bool → Mu → Prop} {a : Addr} {ds : List D} {x : Addr × MO}
/-- a list, some times over -/
theorem ar_rep {j : Int} (h0 : 0 ≤ j) (h1 : ds.length * j.toNat ≤ 16777216) (h2 : j < 16777217) (q : k (.lst (List.replicate j.toNat ds).flatten) M) : AR K rRep (.lst ds) (.int j) M k := fun vx vy G H Q rx ry s f => by
  obtain ⟨p, xs, rfl, hp, r1⟩ := rep_lst rx
  refine ⟨p, j, xs, rfl, rep_int ry, s.same _ _ hp, by omega, by omega, by rw [r1.len]; exact h1, fun l hl => ?_⟩
  obtain ⟨s2, st2, e2⟩ := s.frozen (o := .lst (List.replicate j.toNat xs).flatten) hl
  refine f _ M _ _ _ q s2 st2 (rep_mk_lst upd_same ?_)
  have go : ∀ n : Nat, Reps K (upd G l (.lst (List.replicate j.toNat xs).flatten)) (List.replicate n ds).flatten (List.replicate n xs).flatten := by
    intro n
    induction n with
    | zero => exact Reps.nil
    | succ n ih =>
      rw [List.replicate_succ, List.replicate_succ, List.flatten_cons, List.flatten_cons]
      exact (Reps.mono e2 _ _ r1).append ih
  exact go _
theorem reps_erase {G : Hp} : ∀ {ds : List D} {xs : List V} (n : Nat), Reps K G ds xs → Reps K G (ds.eraseIdx n) (xs.eraseIdx n)
  | [], _, n, h => by
    unfold Reps at h
    rw [h]
    simp only [List.eraseIdx_nil]
    exact Reps.nil
  | c :: ds, _, n, h => by
    obtain ⟨y, r, q, s, t⟩ := Reps.uncons h
    subst q
    cases n with
    | zero => exact t
    | succ n => exact Reps.cons s (reps_erase n t)
theorem am_popAt {i : Nat} {d : D} (e : M = M1 ++ (a, .lst ds) :: M2) (hi : ds[i]? = some d) (hz : ds.length ≤ 16777216) (q : k d (M1 ++ (a, .lst (ds.eraseIdx i)) :: M2)) : AM K rPopAt (.ref a) [.int i] M k := fun vx vs G H Q rx rxs s f => by
  subst e
  obtain ⟨v, r, rfl, r1, rr⟩ := rxs.uncons
  unfold Reps at rr
  subst rr
  obtain ⟨g0, o, ho, r⟩ := s.mu (a, .lst ds) (by simp)
  obtain ⟨xs, rfl, rs⟩ := r
  obtain ⟨y, hy, ry⟩ := rs.get hi
  have hl := (List.getElem?_eq_some_iff.mp hi).1
  obtain ⟨s2, st2⟩ := s.write (o := .lst (xs.eraseIdx i)) (m' := .lst (ds.eraseIdx i)) ⟨_, rfl, reps_erase i rs⟩
  refine ⟨a, xs, i, i, y, rep_ref rx, by rw [rep_int r1], ho, by omega, by omega, ?_, hy, f _ _ _ _ _ q s2 st2 ry⟩
  rw [rs.len]
  unfold seqIndex?
  have e1 : (if (i : Int) < 0 then (i : Int) + (ds.length : Int) else (i : Int)) = i := if_neg (by omega)
  simp only [e1]
  rw [if_pos (by simp; omega), Int.toNat_natCast]
theorem at_truM (h : AE K te δ M fun d M' => ∃ a ds N1 N2, d = .ref a ∧ M' = N1 ++ (a, MO.lst ds) :: N2 ∧ kb (!ds.isEmpty) M') : AT K (tTruU K te) δ M kb := fun σ G H Q rs s f =>
  h σ G H _ rs s fun d M1 vx G1 H1 ⟨a, ds, N1, N2, e1, e2, h1⟩ s1 st1 r1 => by
    subst e1
    obtain ⟨g0, o, ho, r⟩ := s1.mu (a, .lst ds) (by rw [e2]; simp)
    obtain ⟨xs, rfl, rx⟩ := r
    refine ⟨!ds.isEmpty, ?_, f _ M1 G1 H1 h1 s1 st1⟩
    rw [rep_ref r1]
    exact .inl ⟨xs, .inl (.inl ho), by rw [isEmpty_len rx.len]⟩
theorem ext1 {es : List D} (hz : ds.length + es.length ≤ sizeLine) (q : k .non (x :: (a, .lst (ds ++ es)) :: M2)) : AM K rExtend (.ref a) [.lst es] (x :: (a, .lst ds) :: M2) k := am_extend (M1 := [x]) rfl hz q
end
end Tg
set_option Elab.async false
set_option linter.all false
set_option maxRecDepth 100000
set_option maxHeartbeats 1000000
/-! Tg: what is raised: an own error with two fields. -/
namespace Tg
open PySem L2 PyProof.Rows
/-! ### the promise of a def that may raise an error of the class C -/
abbrev WtX := List D → Mu → (D → Mu → Prop) → (List (Str × D) → Mu → Prop) → Prop
def SpcX (K : PySem.W.Frag) (C : Addr) (W : WtX) : Sp := fun vs H Q E => ∃ G ds M k kx, Reps K G ds vs ∧ S K G H M ∧ W ds M k kx ∧
  (∀ d M' v G' H', k d M' → S K G' H' M' → Step (ads M) G H (ads M') G' H' → Rep K G' d v → Q v H') ∧
  ∀ fs M' d G' H', kx fs M' → S K G' H' (M' ++ [(d, .xd fs)]) → Step (ads M) G H (ads (M' ++ [(d, .xd fs)])) G' H' → E (.ref C) (some d) H'
section
variable {P : Program} {w : World} {K : PySem.W.Frag} {mg : Str → Option Value} {base : Heap}
theorem spc_okX {C : Addr} {W : WtX} {x qual : Str} {st : Stmt} {f : Addr} {fd : FuncData} {N ps : List Str} {k : Nat} (F : Fun K x qual st f fd) (Sc : FnScope N ps (defScope st)) (len : ∀ ds M kk kx, W ds M kk kx → ds.length = ps.length)
    (hbody : ∀ (cdv : Value) (A : Around) (outer : List Env) (s : Shared) (H : Hp) (E : XK), Room k (A.deeper (envOfC qual (defScope st) s.heap.objs.size f cdv)) →
      ∃ t, PSs (cxOf (L2.CX P w) P w K mg base N qual (defScope st) f cdv A outer s H E) (defBody st) t ∧
        ∀ ds M kk kx, W ds M kk kx → AS K t (startD N.length ds) M { nx := fun _ M' => kk .non M', rt := kk, xs := kx, W := fun d H' => E (.ref C) (some d) H' }) : FnOk P w K mg base (L2.CX P w) (k + 1) f fd ps (SpcX K C W) := by
  refine F.okX Sc (fun vs H Q E h => ?_) (fun cdv A outer s H vs Q E hr h => ?_)
  · obtain ⟨G, ds, M, kk, kx, r, _, hw, _⟩ := h
    rw [r.len]
    exact len ds M kk kx hw
  · obtain ⟨G, ds, M, kk, kx, r, hs, hw, q, qx⟩ := h
    obtain ⟨t, pt, ht⟩ := hbody cdv A outer s H E hr
    refine ⟨t, pt, ht ds M kk kx hw (start N vs) G H _ (relS_start r) hs ⟨?_, ?_, ?_, ?_, ?_⟩⟩
    · intro δ' M' σ' G' H' a rs' s' st'
      exact q .non M' .non G' H' a s' st' rep_of_non
    · intro d M' v G' H' a s' st' rv
      exact q d M' v G' H' a s' st' rv
    · intro δ' M' σ' G' H' a
      exact a.elim
    · intro δ' M' σ' G' H' a
      exact a.elim
    · intro fs M' d G' H' a s' st'
      exact qx fs M' d G' H' a s' st'
end
/-! ### raising -/
/-- what __init__ of an error with two fields leaves -/
def spIni (K : PySem.W.Frag) (C : Addr) (f1 f2 : Str) : Sp := fun vs H Q _ => ∃ a y z, vs = [.ref a, y, z] ∧ H a = some (exo a C none) ∧
  ∀ dx, H dx = none → dx ≠ a → Q .non (upd (upd (upd H dx (exd dx [(f1, y)])) a (exo a C (some dx))) dx (exd dx [(f2, z), (f1, y)]))
/-- raise X(e1, e2) -/
def tRaiseO (K : PySem.W.Frag) (C : Addr) (f1 f2 : Str) (E : XK) (ta : TA) : TS := fun _ σ H => tMkO C (spIni K C f1 f2) [] ta σ H fun cls d H' => E cls d H'
section
variable {K : PySem.W.Frag} {δ : DS} {M : Mu} {A : AEnds} {C : Addr} {f1 f2 : Str} {E : XK} {ta : TA}
theorem upd_swap {H : Hp} {a b : Addr} {o u : HO} (h : a ≠ b) : upd (upd H a o) b u = upd (upd H b u) a o := by
  funext c
  by_cases h1 : c = b
  · subst h1
    rw [upd_same, upd_ne (Ne.symm h), upd_same]
  · rw [upd_ne h1]
    by_cases h2 : c = a
    · subst h2
      rw [upd_same, upd_same]
    · rw [upd_ne h2, upd_ne h2, upd_ne h1]
theorem as_raise (hA : A.W = fun d H' => E (.ref C) (some d) H') (h : AA K ta δ M fun ds M1 => ∃ y z, ds = [y, z] ∧ A.xs [(f2, z), (f1, y)] M1) : AS K (tRaiseO K C f1 f2 E ta) δ M A := fun σ G H E' rs s f =>
  h σ G H _ rs s fun ds M1 vs G1 H1 ⟨y, z, e, hx⟩ s1 st1 r1 => by
    subst e
    obtain ⟨vy, r, rfl, ry, rr⟩ := r1.uncons
    obtain ⟨vz, r, rfl, rz, rr⟩ := rr.uncons
    unfold Reps at rr
    subst rr
    refine ⟨by show 2 ≤ 1000; decide, fun a ha => ⟨a, vy, vz, rfl, upd_same, fun dx hdx hne => ⟨rfl, dx, [(f2, vz), (f1, vy)], ?_, upd_same, ?_, ?_⟩⟩⟩
    · rw [upd_ne (Ne.symm hne), upd_same]
    · have h0 := hdx
      rw [upd_ne hne] at h0
      exact h0
    · have hd1 : H1 dx = none := by
        have h0 := hdx
        rw [upd_ne hne] at h0
        exact h0
      have e : upd (del (upd (upd (upd (upd H1 a (exo a C none)) dx (exd dx [(f1, vy)])) a (exo a C (some dx))) dx (exd dx [(f2, vz), (f1, vy)])) a) dx (.xd [(f2, vz), (f1, vy)]) = upd H1 dx (.xd [(f2, vz), (f1, vy)]) := by
        funext b
        by_cases h1 : b = dx
        · subst h1
          rw [upd_same, upd_same]
        · rw [upd_ne h1, upd_ne h1]
          by_cases h2 : b = a
          · subst h2
            rw [del_same, ha]
          · rw [del_ne h2, upd_ne h1, upd_ne h2, upd_ne h1, upd_ne h2]
      rw [e]
      obtain ⟨s2, st2⟩ := s1.fresh (o := .xd [(f2, vz), (f1, vy)]) (m := .xd [(f2, z), (f1, y)]) hd1 ⟨_, rfl, by
        unfold RepKV
        refine ⟨vz, _, rfl, rz, ?_⟩
        unfold RepKV
        exact ⟨vy, [], rfl, ry, by unfold RepKV; rfl⟩⟩
      have q := f.xs _ M1 dx G1 _ hx s2 (st1.trans st2)
      rw [hA] at q
      exact q
end
section
variable {X : Cx} {K : PySem.W.Frag} {C fI : Addr} {k : Nat} {fd : FuncData} {f1 f2 x : Str} {e e2 : Expr} {es : List Expr} {ta : TA} {p pos pos2 : Pos} {CX : CXT} {E : XK}
theorem ps_raiseO (hc : X.calm = true) (tk : Takes X (fun cls d _ H => E cls d H)) (T : OexC X.K C) (iC : PySem.W.findIn X.K (.ref C) "__init__" = some (some (.ref fI))) (tI : PySem.W.typeIn X.K (.ref fI) = some (.type "function"))
    (F1 : FnOk X.prog X.w X.K X.mg X.base CX k fI fd ["self", f1, f2] (spIni X.K C f1 f2)) (hr : Room (k + 1) X.A) (hb : Binds X.K fd ["self", f1, f2] []) (hx : Passes CX X (fun _ _ _ => False)) (hg : Gl X x) (hm : X.mg x = some (.ref C)) (ha : PA X (e :: es) ta)
    (hdb : (x == ("__debug__" : Str)) = false := by decide) (he : starEach (e :: es) X.env = (false, eval e X.env) :: starEach es X.env := by rfl) (hpl : (backTo pos (starEach es X.env)).any (·.1) = false := by rfl) :
    PS X (.Raise (some (.Call (.Name x p) (e :: es) [] pos)) none pos2) (tRaiseO X.K C f1 f2 E ta) := ps_raise hc tk (pmk_oex T iC tI F1 hr hb .nil hx hg hm ha hdb he hpl)
end
/-! ### an error caught -/
section
variable {K : PySem.W.Frag} {δ : DS} {M : Mu} {A : AEnds} {C : Addr} {W : WtX} {ta : TA} {ib i : Nat} {ts : Addr → Value → Option Addr → TS}
/-- try: x = f(..) except X as n: suite -/
def tTryX (K : PySem.W.Frag) (C : Addr) (W : WtX) (ta : TA) (ib i : Nat) (ts : Addr → Value → Option Addr → TS) : TS := fun D σ H => tAsg (tCallS (SpcX K C W) (WE (wAs K (.ref C) i ts (fun _ _ _ _ => False) D)) ta) (gName ib) D σ H
theorem as_tryX (te : PySem.W.exmOne K (.ref C) (.ref C) = some true) (h : AA K ta δ M fun ds M1 => ∃ Mc R kc kx, M1 = Mc ++ R ∧ W ds Mc kc kx ∧ (∀ d Mc', kc d Mc' → A.nx (δ.set ib (some d)) (Mc' ++ R)) ∧
      ∀ fs Mc' a d, kx fs Mc' → AS K (ts a (.ref C) (some d)) (δ.set i (some (.ref a))) ((Mc' ++ [(d, .xd fs)]) ++ R) { A with nx := fun δ' M' => A.nx (δ'.set i none) M', bk := fun δ' M' => A.bk (δ'.set i none) M', ct := fun δ' M' => A.ct (δ'.set i none) M' }) :
    AS K (tTryX K C W ta ib i ts) δ M A := fun σ G H E rs s f =>
  h σ G H _ rs s fun ds M1 vs G1 H1 ⟨Mc, R, kc, kx, e, hw, hn, hx⟩ s1 st1 r1 => by
    subst e
    refine ⟨G1, ds, Mc, kc, kx, r1, s1.sub, hw, fun d M' v G' H' hd s' st' rv => ?_, fun fs M' d G' H' hk s' st' => ?_⟩
    · obtain ⟨s2, st2⟩ := s1.join s' st'
      exact f.nx _ _ _ G' H' (hn d M' hd) ((rs.mono (st1.trans st2).gg).set ib rv) s2 (st1.trans st2)
    · obtain ⟨s2, st2⟩ := s1.join s' st'
      have st := st1.trans st2
      have fg := f.go st
      refine ⟨true, te, fun _ a ha => ?_, fun q => nomatch q⟩
      refine hx fs M' a d hk (σ.set i (some (.ref a))) G' H' _ ((rs.mono st.gg).set i rep_of_ref) s2 ⟨?_, fg.rt, ?_, ?_, fg.xs⟩
      · intro δ' M2 σ' G2 H2 q r s3 st3
        exact fg.nx _ M2 _ G2 H2 q (r.drop i) s3 st3
      · intro δ' M2 σ' G2 H2 q r s3 st3
        exact fg.bk _ M2 _ G2 H2 q (r.drop i) s3 st3
      · intro δ' M2 σ' G2 H2 q r s3 st3
        exact fg.ct _ M2 _ G2 H2 q (r.drop i) s3 st3
theorem repKV_look {G : Hp} {f : Str} {d : D} : ∀ {ds : List (Str × D)} {xs : List (Str × V)}, RepKV K G ds xs → ds.lookup f = some d → ∃ v, xs.lookup f = some v ∧ Rep K G d v
  | [], _, _, e => nomatch e
  | (q, d') :: ds, _, h, e => by
    unfold RepKV at h
    obtain ⟨x, r, rfl, rx, t⟩ := h
    rw [List.lookup_cons] at e ⊢
    cases hq : f == q with
    | true =>
      rw [hq] at e
      cases e
      exact ⟨x, rfl, rx⟩
    | false =>
      rw [hq] at e
      exact repKV_look t e
variable {a d : Addr} {f : Str} {te : TE} {k : D → Mu → Prop}
theorem ae_xf (h : AE K te δ M fun x M1 => x = .ref a ∧ ∃ fs y N1 N2, M1 = N1 ++ (d, .xd fs) :: N2 ∧ fs.lookup f = some y ∧ k y M1) : AE K (tXf a (.ref C) (some d) C f te) δ M k := fun σ G H Q rs s f' =>
  h σ G H _ rs s fun x M1 v G1 H1 ⟨e1, fs, y, N1, N2, e2, hl, q⟩ s1 st1 r1 => by
    subst e1
    obtain ⟨g0, o, ho, r⟩ := s1.mu (d, .xd fs) (by rw [e2]; simp)
    obtain ⟨ps, rfl, rp⟩ := r
    obtain ⟨v, hv, rv⟩ := repKV_look rp hl
    exact ⟨rep_ref r1, rfl, d, ps, v, rfl, ho, hv, f' y M1 v G1 H1 q s1 st1 rv⟩
end
/-! ### isinstance of the error that is caught -/
/-- e the error at a of the class D with its dict -/
def rIsX (K : PySem.W.Frag) (D a : Addr) (cls : Value) (d : Option Addr) : List V → Hp → VK → Prop := fun xs H Q => ∃ (dd : Addr) (c : V) (cv : Value) (b : Bool) (fs : List (Str × V)), cls = .ref D ∧ d = some dd ∧ xs = [.ref a, c] ∧ H dd = some (.xd fs) ∧ (∀ u, RelV c u → u = cv) ∧ PySem.W.kitOne K (.ref D) cv = some b ∧ Q (.bl b) H
theorem call_isX {X : Cx} {a D : Addr} {cls : Value} {d : Option Addr} {oe : Obj} {pn : List (Addr × Obj)} (C : ExcC X.K D) (hz : Zc cls d oe) (hf : ∃ vs, oe.data = .fields vs) : CallR (X.suite a ((a, oe) :: pn)) (.builtin "isinstance") (rIsX X.K D a cls d) := by
  rintro pins s σ H xs us Q I r ⟨dd, c, cv, b, fs, ec1, ed1, rfl, hdd, hcv, e, q⟩
  subst ec1 ed1
  obtain ⟨u1, u2, rfl, r1, r2⟩ : ∃ u1 u2, us = [u1, u2] ∧ RelV (.ref a) u1 ∧ RelV c u2 := by
    cases r with
    | cons rx rr =>
      cases rr with
      | cons rt rr =>
        cases rr
        exact ⟨_, _, rfl, rx, rt⟩
  cases r1
  have ec := hcv _ r2
  subst ec
  have at_a := (I.pin (a, oe) (List.mem_append_left _ (List.mem_cons_self ..))).1
  obtain ⟨mA, hns, _⟩ : ObjOk X.prog X.w H s.heap dd (.xd fs) := I.hok dd _ hdd
  obtain ⟨od, ho, _⟩ := lookIn_ns hns
  obtain ⟨vs, hv⟩ := hf
  have J : PySem.W.InstAt s.heap a oe D (some od) := ⟨at_a, hz.1, by unfold PySem.W.notCls; rw [hv] <;> rfl, by rw [hz.2]; exact ho⟩
  have hcl : (PySem.W.clsIn X.K D).isSome = true := by
    obtain ⟨cd, h1, _⟩ := PySem.W.any_some C.hd
    rw [h1]
    rfl
  exact PySem.W.kia_one (PySem.W.kitx_exc hcl C.hg C.hk C.hs C.ha C.hn C.ht C.hm) I.kIn J e (fun z => nomatch z) fun tk => ⟨.bl b, H, I.kept (t' := tk) fun _ _ z => z, rfl, q⟩
section
variable {K : PySem.W.Frag} {M : Mu} {k : D → Mu → Prop} {a d C : Addr}
theorem ac_isXref {Cx : Addr} {b : Bool} {fs : List (Str × D)} (N1 N2 : Mu) (hM : M = N1 ++ (d, .xd fs) :: N2) (hk : PySem.W.kitOne K (.ref C) (.ref Cx) = some b) (q : k (.bl b) M) : AC K (rIsX K C a (.ref C) (some d)) [.ref a, .ref Cx] M k := fun vs G H Q rx s f => by
  obtain ⟨v, r, rfl, r1, rr⟩ := rx.uncons
  obtain ⟨u, r, rfl, r2, rr⟩ := rr.uncons
  unfold Reps at rr
  subst rr
  obtain ⟨g0, o, ho, r⟩ := s.mu (d, .xd fs) (by rw [hM]; simp)
  obtain ⟨ps, rfl, _⟩ := r
  exact ⟨d, u, .ref Cx, b, ps, rfl, rfl, by rw [rep_ref r1], ho, fun z hz => by rw [rep_ref r2] at hz; exact hz, hk, f _ M _ G H q s Step.refl rep_of_bl⟩
theorem ac_isXty {n : String} {b : Bool} {fs : List (Str × D)} (N1 N2 : Mu) (hM : M = N1 ++ (d, .xd fs) :: N2) (hk : PySem.W.kitOne K (.ref C) (.type n) = some b) (q : k (.bl b) M) : AC K (rIsX K C a (.ref C) (some d)) [.ref a, .ty n] M k := fun vs G H Q rx s f => by
  obtain ⟨v, r, rfl, r1, rr⟩ := rx.uncons
  obtain ⟨u, r, rfl, r2, rr⟩ := rr.uncons
  unfold Reps at rr
  subst rr
  obtain ⟨g0, o, ho, r⟩ := s.mu (d, .xd fs) (by rw [hM]; simp)
  obtain ⟨ps, rfl, _⟩ := r
  exact ⟨d, u, .type n, b, ps, rfl, rfl, by rw [rep_ref r1], ho, fun z hz => by rw [rep_ty r2] at hz; exact hz, hk, f _ M _ G H q s Step.refl rep_of_bl⟩
end
/-! ### what the written part says of an own error's class -/
structure ErrC (K : PySem.W.Frag) (mg : Str → Option Value) (x qual : Str) (st : Stmt) (f1 f2 : Str) (C : Addr) : Prop where
  o : OexC K C
  m : mg x = some (.ref C)
  i : ∃ fI fd, PySem.W.findIn K (.ref C) "__init__" = some (some (.ref fI)) ∧ PySem.W.typeIn K (.ref fI) = some (.type "function") ∧ Fun K "__init__" qual st fI fd ∧ Binds K fd ["self", f1, f2] []
  n1 : PySem.W.findIn K (.ref C) f1 = some none
  n2 : PySem.W.findIn K (.ref C) f2 = some none
  xf : XfC K C
  self : PySem.W.exmOne K (.ref C) (.ref C) = some true
  ec : ExcC K C
/-- a def that may raise, by its name -/
structure CalX (P : Program) (w : World) (K : PySem.W.Frag) (mg : Str → Option Value) (base : Heap) (k : Nat) (x : Str) (sp : Sp) : Prop where
  ex : ∃ (f : Addr) (fd : FuncData) (ps : List Str), FnOk P w K mg base (L2.CX P w) k f fd ps sp ∧ mg x = some (.ref f) ∧ PySem.W.keepIn K (.ref f) = true ∧ Binds K fd ps []
section
variable {X : Cx} {k j : Nat} {x : Str} {sp : Sp} {W : WX} {e : Expr} {es : List Expr} {t : TA} {p pos : Pos}
theorem pe_cX (tk : Takes X W) (c : CalX X.prog X.w X.K X.mg X.base k x sp) (hr : Room j X.A) (hk : k ≤ j) (hg : Gl X x) (ha : PA X (e :: es) t)
    (hdb : (x == ("__debug__" : Str)) = false := by decide) (he : starEach (e :: es) X.env = (false, eval e X.env) :: starEach es X.env := by rfl) (hpl : (backTo pos (starEach es X.env)).any (·.1) = false := by rfl) :
    PE X (.Call (.Name x p) (e :: es) [] pos) (tCallS sp (WE W) t) := by
  obtain ⟨f, fd, ps, F, hm, kp, b⟩ := c.ex
  exact pe_callS F (hr.mono hk) hg hm kp b (fun σ => passAt tk σ) ha hdb he hpl
end
/-! ### what is known of a class by its name -/
theorem ae_refC {K : PySem.W.Frag} {δ : DS} {M : Mu} {k : D → Mu → Prop} {a : Addr} (q : k (.ref a) M) : AE K (tC (.ref a)) δ M k := fun σ G H Q rs s f => f _ M _ G H q s Step.refl rep_of_ref
/-- what may change is forgotten -/
theorem ae_forget {K : PySem.W.Frag} {δ : DS} {M : Mu} {k : D → Mu → Prop} {te : TE} (h : AE K te δ M fun d _ => k d []) : AE K te δ M k := fun σ G H Q rs s f =>
  h σ G H Q rs s fun d M' v G' H' q s' st r => f d [] v G' H' q ⟨s'.same, (fun _ h => nomatch h), List.nodup_nil⟩ ⟨st.gg, st.fr, st.keep, st.alive, (fun _ h => nomatch h)⟩ r
/-! ### facts of classes -/
theorem exm_self {K : PySem.W.Frag} {S : Addr} (h1 : PySem.W.subIn K (.ref S) (.type "BaseException") = some true) (h2 : PySem.W.isClsIn K S = true) (h3 : PySem.W.typeIn K (.ref S) = some (.type "type")) (h4 : PySem.W.subIn K (.ref S) (.ref S) = some true) :
    PySem.W.exmOne K (.ref S) (.ref S) = some true := by
  have h2' : (PySem.W.clsIn K S).isSome = true := h2
  unfold PySem.W.exmOne PySem.W.kitCls
  rw [h1, if_pos (by decide)]
  show (if ((PySem.W.clsIn K S).isSome && PySem.W.typeIn K (.ref S) == some (.type "type")) = true then PySem.W.subIn K (.ref S) (.ref S) else none) = some true
  rw [h2', h3, if_pos (by decide), h4]
theorem kit_ref {K : PySem.W.Frag} {S : Addr} {t : Value} (h2 : PySem.W.isClsIn K S = true) (h3 : PySem.W.typeIn K (.ref S) = some (.type "type")) (h4 : PySem.W.subIn K t (.ref S) = some true) : PySem.W.kitOne K t (.ref S) = some true := by
  have h2' : (PySem.W.clsIn K S).isSome = true := h2
  unfold PySem.W.kitOne
  split
  · rfl
  · show (if ((PySem.W.clsIn K S).isSome && PySem.W.typeIn K (.ref S) == some (.type "type")) = true then PySem.W.subIn K t (.ref S) else none) = some true
    rw [h2', h3, if_pos (by decide), h4]
theorem kit_ty {K : PySem.W.Frag} {T : String} {t : Value} (h2 : PySem.W.kitMeta T = true) (h4 : PySem.W.subIn K t (.type T) = some true) : PySem.W.kitOne K t (.type T) = some true := by
  unfold PySem.W.kitOne
  split
  · rfl
  · show (if PySem.W.kitMeta T = true then PySem.W.subIn K t (.type T) else none) = some true
    rw [if_pos h2, h4]
end Tg
set_option Elab.async false
set_option linter.all false
set_option maxRecDepth 100000
set_option maxHeartbeats 1000000
/-! Tg: the text of deep data. -/
namespace Tg
open PySem L2 PyProof.Rows
mutual
def toPy : D → PyData
  | .non => .none
  | .bl b => .bool b
  | .int i => .int i
  | .str z => .str z
  | .tup ds => .tuple (toPys ds)
  | .lst ds => .list (toPys ds)
  | .lsk ds => .list (toPys ds)
  | .ty _ => .none
  | .ref _ => .none
def toPys : List D → List PyData
  | [] => []
  | d :: ds => toPy d :: toPys ds
end
mutual
/-- data that can be shown: plain, small ints, signs that are signs -/
def Sho : D → Prop
  | .non => True
  | .bl _ => True
  | .int i => i.natAbs < 1000000
  | .str z => ∀ c ∈ z.cps.toList, c < 128
  | .tup ds => Shos ds
  | .lst ds => Shos ds
  | .lsk ds => Shos ds
  | .ty _ => False
  | .ref _ => False
def Shos : List D → Prop
  | [] => True
  | d :: ds => Sho d ∧ Shos ds
end
mutual
/-- no text of it is longer -/
def wt : D → Nat
  | .non => 4
  | .bl _ => 5
  | .int _ => 4000
  | .str z => 10 * z.length + 2
  | .tup ds => wts ds + 3
  | .lst ds => wts ds + 3
  | .lsk ds => wts ds + 3
  | .ty _ => 4
  | .ref _ => 4
def wts : List D → Nat
  | [] => 0
  | d :: ds => wt d + 2 + wts ds
end
theorem log_small {i : Int} (h : i.natAbs < 1000000) : i.natAbs.log2 < 1920 := by
  by_cases e : i.natAbs = 0
  · rw [e]
    decide
  · rw [Nat.log2_lt e]
    exact Nat.lt_of_lt_of_le h (Nat.le_trans (by decide : 1000000 ≤ 2 ^ 20) (Nat.pow_le_pow_right (by decide) (by decide)))
mutual
theorem show_ok : ∀ d : D, Sho d → (toPy d).showable = true ∧ (toPy d).hasDict = false ∧ (toPy d).shown.length ≤ wt d
  | .non, _ => ⟨rfl, rfl, by decide +kernel⟩
  | .bl true, _ => ⟨rfl, rfl, by decide +kernel⟩
  | .bl false, _ => ⟨rfl, rfl, by decide +kernel⟩
  | .int i, h => by
    unfold Sho at h
    have hl := log_small h
    refine ⟨decide_eq_true hl, rfl, ?_⟩
    have e := int_text_length_le (k := 1920) (by decide) hl
    show (Str.ofString (toString i)).length ≤ 4000
    rw [PySem.ofString_length]
    omega
  | .str z, h => by
    unfold Sho at h
    exact ⟨rfl, rfl, StrLaws.reprText_len z fun c hc => Nat.lt_trans (h c hc) (by decide)⟩
  | .tup ds, h => by
    unfold Sho at h
    obtain ⟨h1, h2, h3, h4⟩ := show_oks ds h
    refine ⟨h1, h2, ?_⟩
    have e := tupleText_len_le (PyData.shownAll (toPys ds))
    show (tupleText (PyData.shownAll (toPys ds))).length ≤ wts ds + 3
    omega
  | .lst ds, h => by
    unfold Sho at h
    obtain ⟨h1, h2, h3, h4⟩ := show_oks ds h
    refine ⟨h1, h2, ?_⟩
    have e := listText_len_le (PyData.shownAll (toPys ds))
    show (listText (PyData.shownAll (toPys ds))).length ≤ wts ds + 3
    omega
  | .lsk ds, h => by
    unfold Sho at h
    obtain ⟨h1, h2, h3, h4⟩ := show_oks ds h
    refine ⟨h1, h2, ?_⟩
    have e := listText_len_le (PyData.shownAll (toPys ds))
    show (listText (PyData.shownAll (toPys ds))).length ≤ wts ds + 3
    omega
  | .ty _, h => by
    unfold Sho at h
    exact h.elim
  | .ref _, h => by
    unfold Sho at h
    exact h.elim
theorem show_oks : ∀ ds : List D, Shos ds → PyData.showableAll (toPys ds) = true ∧ PyData.hasDictAll (toPys ds) = false ∧ ((PyData.shownAll (toPys ds)).map (·.length)).sum + 2 * (PyData.shownAll (toPys ds)).length ≤ wts ds ∧ True
  | [], _ => ⟨rfl, rfl, Nat.le_refl _, True.intro⟩
  | d :: ds, h => by
    unfold Shos at h
    obtain ⟨a1, a2, a3⟩ := show_ok d h.1
    obtain ⟨b1, b2, b3, _⟩ := show_oks ds h.2
    refine ⟨?_, ?_, ?_, True.intro⟩
    · show ((toPy d).showable && PyData.showableAll (toPys ds)) = true
      rw [a1, b1]
      rfl
    · show ((toPy d).hasDict || PyData.hasDictAll (toPys ds)) = false
      rw [a2, b2]
      rfl
    · show (((toPy d).shown :: PyData.shownAll (toPys ds)).map (·.length)).sum + 2 * ((toPy d).shown :: PyData.shownAll (toPys ds)).length ≤ wt d + 2 + wts ds
      rw [List.map_cons, List.sum_cons, List.length_cons]
      omega
end
section
variable {K : PySem.W.Frag} {G H : Hp}
mutual
theorem dp_of (e : Same G H) : ∀ (d : D) (v : V), Sho d → Rep K G d v → Dp K H v (toPy d)
  | .non, _, _, r => by
    rw [rep_non r]
    exact .non
  | .bl b, _, _, r => by
    rw [rep_bl r]
    exact .bl b
  | .int i, _, _, r => by
    rw [rep_int r]
    exact .int i
  | .str z, _, _, r => by
    rw [rep_str r]
    exact .str z
  | .tup ds, _, h, r => by
    unfold Sho at h
    obtain ⟨a, xs, rfl, q, rs⟩ := rep_tup r
    exact .tup (Same.seqT e q) (dps_of e ds xs h rs)
  | .lst ds, _, h, r => by
    unfold Sho at h
    obtain ⟨a, xs, rfl, q, rs⟩ := rep_lst r
    exact .lst (.inl (.inl (e _ _ q))) (dps_of e ds xs h rs)
  | .lsk ds, _, h, r => by
    unfold Sho at h
    obtain ⟨a, xs, rfl, q, rs⟩ := rep_lsk r
    exact .lst (e.seq q) (dps_of e ds xs h rs)
  | .ty _, _, h, _ => by
    unfold Sho at h
    exact h.elim
  | .ref _, _, h, _ => by
    unfold Sho at h
    exact h.elim
theorem dps_of (e : Same G H) : ∀ (ds : List D) (vs : List V), Shos ds → Reps K G ds vs → DpAll K H vs (toPys ds)
  | [], _, _, r => by
    unfold Reps at r
    rw [r]
    exact .nil
  | d :: ds, _, h, r => by
    unfold Shos at h
    obtain ⟨x, xs, rfl, r1, r2⟩ := r.uncons
    exact .cons (dp_of e d x h.1 r1) (dps_of e ds xs h.2 r2)
end
end
/-! ### repr -/
def rRepr (K : PySem.W.Frag) : List V → Hp → VK → Prop := fun xs H Q => ∃ a d, xs = [.ref a] ∧ Dp K H (.ref a) d ∧ d.showable = true ∧ d.hasDict = false ∧ d.depth ≤ 40 ∧ d.shown.length ≤ sizeLine ∧ Q (.str d.shown) H
theorem call_reprD {X : Cx} (hg : X.A.guards = some []) (hu : X.A.units + 64 < cLine) : CallR X (.builtin "repr") (rRepr X.K) := by
  rintro pins s σ H xs us Q I r ⟨a, d, rfl, hd, h1, h2, h3, h4, q⟩
  obtain ⟨u, rfl, ru⟩ : ∃ u, us = [u] ∧ RelV (.ref a) u := by
    cases r with
    | cons rx rr =>
      cases rr
      exact ⟨_, rfl, rx⟩
  obtain rfl : u = Value.ref a := ru
  obtain ⟨as, rd⟩ := Dp.reads I d (.ref a) _ hd rfl
  exact repr_of_reads' rd h1 (fun z => absurd (h2.symm.trans z) Bool.false_ne_true) hg (by omega) (fun _ _ e => e) (fun h' u tk hk => ⟨.str d.shown, H, I.kept (t' := tk) hk, ⟨_, rfl⟩, q⟩) h4
section
variable {K : PySem.W.Frag} {M : Mu} {k : D → Mu → Prop}
theorem ac_repr {ds : List D} (hs : Sho (.tup ds)) (hw : wt (.tup ds) ≤ 16777216) (hd : (toPy (.tup ds)).depth ≤ 40) (q : k (.str (toPy (.tup ds)).shown) M) : AC K (rRepr K) [.tup ds] M k := fun vs G H Q rx s f => by
  obtain ⟨v, r, rfl, r1, rr⟩ := rx.uncons
  unfold Reps at rr
  subst rr
  obtain ⟨h1, h2, h3⟩ := show_ok _ hs
  have hsz := sizeLine_eq
  have dp := dp_of s.same _ v hs r1
  obtain ⟨a, xs, rfl, _⟩ := rep_tup r1
  exact ⟨a, _, rfl, dp, h1, h2, hd, by omega, f _ M _ G H q s Step.refl rep_of_str⟩
end
end Tg
set_option Elab.async false
set_option linter.all false
set_option maxRecDepth 100000
set_option maxHeartbeats 2000000
/-! Tg: the law's own call, where it is known that nothing is being shown. -/
namespace Tg
open PySem L2 PySem.Spec PyProof.Rows
/-- one call of a def, around which A stands -/
theorem run_at {P : Program} {w : World} {K : PySem.W.Frag} {mg : Str → Option Value} {base : Heap} {k : Nat} {x qual : Str} {st : Stmt} {f : Addr} {fd : FuncData} {N ps : List Str} {A : Around} {outer : List Env} {s : Shared} {H : Hp} {args : Args} {us : List Value} {vs : List V} {Q : VK} {E : XK}
    (F : Fun K x qual st f fd) (Sc : FnScope N ps (defScope st)) (hl : vs.length = ps.length) (hr : Room (k + 1) A) (e0 : Env0 P w K mg base A outer s H) (hb : BindsTo s fd args (ps.zip us)) (r : Vals vs us)
    (body : ∀ cdv : Value, Room k (A.deeper (envOfC qual (defScope st) s.heap.objs.size f cdv)) → ∃ t, PSs (cxOf CX0 P w K mg base N qual (defScope st) f cdv A outer s H E) (defBody st) t ∧ t { nx := fun _ H' => Q .non H', rt := Q } (start N vs) H) :
    codeAny (model P w) A (.call (.ref f) args) (CR CX0 outer P w H s Q E) s := by
  obtain ⟨oc, od, kV, doc, pm, an, cdv, ct, osl, rfl, lk, hcd⟩ := F.ex
  have kin : K.In s.heap := e0.mod.kin.keeps fun b o q => (e0.bs b o q).1
  have kinds : ∀ y ∈ ps.zip us, (defScope st).names.lookup y.1 = some .local ∨ ((defScope st).names.lookup y.1 = some .cell ∧ ((cellsFrom (s.heap.objs.size + 1) (defScope st).names []).lookup y.1).isSome = true) := by
    rintro ⟨n, v⟩ hy
    rcases Sc.par n (List.of_mem_zip hy).1 with z | z
    · exact .inl z
    · exact .inr ⟨z, PySem.W.cellsFrom_some _ _ _ (.inl z)⟩
  refine codeAny_call_function hr.depth (kin _ _ lk) rfl Sc.co Sc.gen rfl (PySem.W.codeRec_of kin hcd) (hb _ _ _ _ (wpAny_newFunctionEnv_cells Sc.kind kinds fun env he s1 ic => ?_))
  subst he
  refine ⟨(e0.mod.nolimit.keeps fun b o q => (e0.bs b o q).1).keeps ic.toInCall.keep, codeAny_func ?_⟩
  obtain ⟨t, ht, hq⟩ := body cdv (hr.deeper _)
  refine wpAny_mono (ht.run [] s1 (start N vs) H _ (inv_start Sc hr.hd e0 hl r ic) hq) ?_ fun e s' z => z
  intro fl s' z
  cases fl with
  | ret u =>
    obtain ⟨v, σ', H', J, rv, q⟩ := z
    exact ⟨v, H', J.os, J.bare, J.base, J.hok, rv, q⟩
  | next =>
    obtain ⟨σ', H', J, q⟩ := z
    exact ⟨V.non, H', J.os, J.bare, J.base, J.hok, rfl, q⟩
  | brk =>
    obtain ⟨_, _, _, q⟩ := z
    exact q.elim
  | cont =>
    obtain ⟨_, _, _, q⟩ := z
    exact q.elim
/-- the law's call behind the top -/
theorem law_at {P : Program} {w : World} {K : PySem.W.Frag} {mg mb : Str → Option Value} {fa a : Addr} {s : Shared} {vs : List Value} {ns : List Int}
    (kin : K.In s.heap) (hns : s.heap.Ns mainGlobals mg) (hb : s.heap.Ns builtinsNs mb) (hbb : ∀ x : Str, x ≠ "__name__" → mb x = bootBuiltins x) (hlim : s.heap.NoLimit) (hg : s.gens = #[])
    (ha : s.heap.get? a = some { cls := .type "list", data := .seq vs.toArray }) (hi : IntsAre vs ns) (hl : ns.length ≤ sizeLine)
    (run : ∀ (base : Heap) (H : Hp), K.In base → base.Ns mainGlobals mg → SqL K H a (ns.map V.int) → Env0 P w K mg base callerA [] s H → codeAny (model P w) callerA (.call (.ref fa) ⟨[.ref a], []⟩) (CR CX0 [] P w H s (fun v _ => v = .bl true) fun _ _ _ => False) s) :
    codeAny (model P w) callerA (.call (.ref fa) ⟨[.ref a], []⟩) (fun r s' => r = .ok (.ret (.bool true)) ∧ OldK s.heap s'.heap ∧ s'.os = s.os ∧ AllBare s'.gens) s := by
  have lenV := hi.length
  have main : ∀ H : Hp, Only H → SqL K H a (ns.map V.int) → HOk P w H s.heap → (∀ b, H b ≠ none → b = a ∧ K.lookup a = none) →
      codeAny (model P w) callerA (.call (.ref fa) ⟨[.ref a], []⟩) (fun r s' => r = .ok (.ret (.bool true)) ∧ OldK s.heap s'.heap ∧ s'.os = s.os ∧ AllBare s'.gens) s := by
    intro H only sq hok at_a
    have hid : ∀ {b : Addr} {o : Obj}, s.heap.get? b = some o → H b = none → (hidT s.heap H).get? b = some o := hidT_get
    have free : ∀ {b : Addr} {m : Str → Option Value}, s.heap.Ns b m → H b = none := by
      rintro b m ⟨o, es, ep, e, d, _⟩
      by_cases z : H b = none
      · exact z
      · obtain ⟨e1, _⟩ := at_a b z
        subst e1
        rw [ha] at e
        cases e
        exact nomatch (show Data.seq vs.toArray _ = Data.dict es ep from d)
    have ns2 : ∀ {b : Addr} {m : Str → Option Value}, s.heap.Ns b m → (hidT s.heap H).Ns b m := fun {b m} n => by
      have z := free n
      obtain ⟨o, es, ep, e, d, r⟩ := n
      exact ⟨o, es, ep, hid e z, d, r⟩
    have kin2 : K.In (hidT s.heap H) := fun b o e => by
      refine hid (kin b o e) ?_
      by_cases z : H b = none
      · exact z
      · obtain ⟨e1, e2⟩ := at_a b z
        subst e1
        rw [e2] at e
        cases e
    have mod : Mod K mg (hidT s.heap H) := by
      obtain ⟨mc, h1, h2⟩ := hlim
      exact ⟨kin2, ns2 hns, ⟨mb, ns2 hb, hbb⟩, mc, ns2 h1, h2⟩
    have none_in : ∀ b : Addr, b ∉ ([] : List Addr) := fun b z => nomatch z
    refine codeAny_mono (run _ H kin2 (ns2 hns) sq ⟨rfl, mod, fun b o e => of_hidT e, Nat.le_of_eq (hidT_size _ _), trivial, fun b z => absurd z (none_in b), hok, .of_eq hg⟩) ?_
    intro r s' h
    rcases r with e | fl
    · exact False.elim h
    · cases fl with
      | next => exact False.elim h
      | brk => exact False.elim h
      | cont => exact False.elim h
      | ret u =>
        obtain ⟨v, H', os, bare, un, hok2, rv, q⟩ := h
        cases (show v = .bl true from q)
        cases (show u = Value.bool true from rv)
        refine ⟨rfl, OldK.of_keep fun b o e => ?_, os, bare⟩
        by_cases z : H b = none
        · exact un.keep b o e z (none_in b) (by simp)
        · rcases only b with z2 | ⟨ob, xs, z2⟩
          · exact absurd z2 z
          · obtain ⟨e1, _⟩ := hok b _ z2
            obtain ⟨e2, _⟩ := hok2 b _ (un.frzs b ob _ z2)
            rw [e] at e1
            cases e1
            exact e2
  have rv := vals_ints hi
  by_cases hk : K.lookup a = none
  · refine main (fun b => if b = a then some (.frz { cls := .type "list", data := .seq vs.toArray } (.lst (ns.map V.int))) else none) (fun b => ?_) (.inl (.inr ⟨_, if_pos rfl⟩)) (fun b u z => ?_) fun b z => ?_
    · by_cases e : b = a
      · exact .inr ⟨_, _, if_pos e⟩
      · exact .inl (if_neg e)
    · by_cases e : b = a
      · subst e
        cases (if_pos rfl).symm.trans z
        exact ⟨ha, by rw [List.length_map]; exact hl, vs, _, rv, ha⟩
      · cases (if_neg e).symm.trans z
    · by_cases e : b = a
      · exact ⟨e, hk⟩
      · exact absurd (if_neg e) z
  · obtain ⟨o, ho⟩ := Option.ne_none_iff_exists'.mp hk
    have e := kin a o ho
    rw [ha] at e
    cases e
    exact main (fun _ => none) (fun _ => .inl rfl) (.inr ⟨_, vs.toArray, _, ho, rfl, rfl, rfl, by rw [List.size_toArray, lenV]; exact hl, by simpa using rv⟩) (fun b u z => nomatch z) fun b z => absurd rfl z
/-- the end of a law row, by what its call comes to -/
theorem walk_at_law {l : PySem.W.OpenLaw} {n : Nat} {q : Program} {loose : List Str} {XP : (Str → Option Value) → Heap → Prop} {YP : World → Heap → Prop} {d : DefRec} {K : Params → PySem.W.Frag}
    (hn : l.most = some n) (hn2 : n ≤ sizeLine) (hdf : d.params.defaults = []) (hY : ∀ (w : World) (h : Heap), YP w h → (K w.params).In h)
    (run : ∀ (w : World) (mg : Str → Option Value) (fa a : Addr) (h : Heap) (ns : List Int) (s : Shared) (base : Heap) (H : Hp), (K w.params).In h → h.Ns mainGlobals mg → mg d.name = some (.ref fa) → ns.length ≤ n → (K w.params).In base → base.Ns mainGlobals mg →
      SqL (K w.params) H a (ns.map V.int) → Env0 l.prog w (K w.params) mg base callerA [] s H → codeAny (model l.prog w) callerA (.call (.ref fa) ⟨[.ref a], []⟩) (CR CX0 [] l.prog w H s (fun v _ => v = .bl true) fun _ _ _ => False) s) :
    PySem.W.WalkO q loose XP YP l.row.toRowW d [] (fun f vs => PySem.call f vs) := by
  refine Att.attach_call hn hdf fun w s₀ s1 mg mb fa o pm cd doc a vs ns G Y ho hd hcd hmg hobj hints hlen hg => ?_
  have kin := hY w _ Y
  exact law_at kin G.T.g G.T.b G.T.builtins G.T.nolimit hg hobj hints (Nat.le_trans hlen hn2) fun base H k2 n2 sq e0 => run w mg fa a _ ns s1 base H kin G.T.g hmg hlen k2 n2 sq e0
end Tg
set_option Elab.async false
set_option linter.all false
set_option maxRecDepth 100000
set_option maxHeartbeats 1000000
/-! Tg, objects: fields, methods, making; written dicts; further words. -/
namespace Tg
open PySem L2 PyProof.Rows
section
variable {K : PySem.W.Frag} {G G' H H' : Hp} {M M1 M2 R : Mu}
def putFD (f : Str) (v : D) : List (Str × D) → List (Str × D)
  | [] => [(f, v)]
  | (g, x) :: r => if g = f then (g, v) :: r else (g, x) :: putFD f v r
theorem repKV_putF {f : Str} {d : D} {v : V} (hv : Rep K G d v) : ∀ {ds : List (Str × D)} {xs : List (Str × V)}, RepKV K G ds xs → RepKV K G (putFD f d ds) (putF f v xs)
  | [], _, h => by
    unfold RepKV at h
    rw [h]
    show RepKV K G [(f, d)] [(f, v)]
    unfold RepKV
    exact ⟨v, [], rfl, hv, by unfold RepKV; rfl⟩
  | (g, e) :: ds, _, h => by
    unfold RepKV at h
    obtain ⟨x, r, q, s, t⟩ := h
    subst q
    show RepKV K G (if g = f then (g, d) :: ds else (g, e) :: putFD f d ds) (if g = f then (g, v) :: r else (g, x) :: putF f v r)
    by_cases c : g = f
    · rw [if_pos c, if_pos c]
      unfold RepKV
      exact ⟨v, r, rfl, hv, t⟩
    · rw [if_neg c, if_neg c]
      unfold RepKV
      exact ⟨x, _, rfl, s, repKV_putF hv t⟩
theorem repKV_no {f : Str} : ∀ {ds : List (Str × D)} {xs : List (Str × V)}, RepKV K G ds xs → ds.lookup f = none → xs.lookup f = none
  | [], _, h, _ => by
    unfold RepKV at h
    rw [h]
    rfl
  | (g, e) :: ds, _, h, l => by
    unfold RepKV at h
    obtain ⟨x, r, q, s, t⟩ := h
    subst q
    unfold List.lookup at l ⊢
    cases c : (f == g) with
    | true => rw [c] at l; cases l
    | false =>
      rw [c] at l
      exact repKV_no t l
/-- an object that nobody speaks of -/
theorem S.junk (s : S K G H M) {p : Addr} {o : HO} (hp : H p = none) : S K G (upd H p o) M ∧ Step (ads M) G H (ads M) G (upd H p o) := by
  have gp : G p = none := s.same.free hp
  refine ⟨⟨fun b u e => ?_, fun q hq => ?_, s.nd⟩, ⟨Same.refl G, fun b hb _ => rfl, fun b u _ e => ?_, fun b e => ?_, fun b hb => .inl hb⟩⟩
  · rw [upd_ne (ne_of_none e gp)]
    exact s.same b u e
  · obtain ⟨g1, o1, h1, r1⟩ := s.mu q hq
    exact ⟨g1, o1, by rw [upd_ne (ne_of_none h1 hp)]; exact h1, r1⟩
  · rw [upd_ne (ne_of_none e hp)]
    exact e
  · by_cases hb : b = p
    · subst hb
      rw [upd_same]
      exact fun z => nomatch z
    · rw [upd_ne hb]
      exact e
theorem S.perm (s : S K G H M) (h : M.Perm M') : S K G H M' := ⟨s.same, fun p hp => s.mu p (h.mem_iff.mpr hp), (h.map (·.1)).nodup_iff.mp s.nd⟩
theorem Step.perm {A B A' B' : List Addr} (st : Step A G H A' G' H') (h : ∀ b, b ∈ A ↔ b ∈ B) (h' : ∀ b, b ∈ A' ↔ b ∈ B') : Step B G H B' G' H' :=
  ⟨st.gg, fun b hb n => st.fr b hb fun z => n ((h b).mp z), fun b o n e => st.keep b o (fun z => n ((h b).mp z)) e, st.alive, fun b hb => by
    rcases st.own b ((h' b).mpr hb) with q | q
    · exact .inl ((h b).mp q)
    · exact .inr q⟩
theorem ads_perm {M M' : Mu} (h : M.Perm M') : ∀ b, b ∈ ads M ↔ b ∈ ads M' := fun b => (h.map (·.1)).mem_iff
end
section
variable {K : PySem.W.Frag} {δ : DS} {M : Mu} {ta tb te to ti tv : TE} {k : D → Mu → Prop} {i : Nat} {d x y : D} {A : AEnds} {t u : TS} {f m : Str} {C : Addr}
/-! ### fields -/
theorem ae_fld (h : AE K te δ M fun x M1 => ∃ a C dx fs d N1 N2, x = .ref a ∧ M1 = N1 ++ (a, MO.ins C dx fs) :: N2 ∧ Cls K C ∧ NoAttr K C f ∧ fs.lookup f = some d ∧ k d M1) : AE K (tFld K te f) δ M k := fun σ G H Q rs s f' =>
  h σ G H _ rs s fun x M1 vx G1 H1 ⟨a, C, dx, fs, d, N1, N2, e1, e2, c, n, l, q⟩ s1 st1 r1 => by
    subst e1
    obtain ⟨g0, o, ho, ps, rfl, rk⟩ := s1.mu (a, .ins C dx fs) (by rw [e2]; simp)
    obtain ⟨v, lv, rv⟩ := repKV_look rk l
    exact ⟨a, C, dx, ps, v, rep_ref r1, ho, c, n, lv, f' d M1 v G1 H1 q s1 st1 rv⟩
theorem as_sfld (h : AE K tv δ M fun y M1 => AE K te δ M1 fun x M2 => ∃ a C dx fs N1 N2, x = .ref a ∧ M2 = N1 ++ (a, MO.ins C dx fs) :: N2 ∧ Cls K C ∧ NoAttr K C f ∧ fs.length < 1000 ∧ A.nx δ (N1 ++ (a, MO.ins C dx (putFD f y fs)) :: N2)) : AS K (sFld K te tv f) δ M A := fun σ G H E rs s ft =>
  h σ G H _ rs s fun y M1 vy G1 H1 h1 s1 st1 r1 => h1 σ G1 H1 _ (rs.mono st1.gg) s1 fun x M2 vx G2 H2 ⟨a, C, dx, fs, N1, N2, e1, e2, c, n, l, q⟩ s2 st2 r2 => by
    subst e1 e2
    obtain ⟨g0, o, ho, ps, rfl, rk⟩ := s2.mu (a, .ins C dx fs) (by simp)
    obtain ⟨s3, st3⟩ := s2.write (o := .ins C dx (putF f vy ps)) (m' := .ins C dx (putFD f y fs)) ⟨_, rfl, repKV_putF (Rep.mono st2.gg _ _ r1) rk⟩
    exact ⟨a, C, dx, ps, rep_ref r2, ho, c, n, by rw [repKV_len rk]; exact l, ft.nx _ _ _ _ _ q (rs.mono (st1.trans st2).gg) s3 ((st1.trans st2).trans st3)⟩
/-- self.f += e, of ints -/
theorem as_sfldaug (h : AE K te δ M fun x M1 => ∃ a C dx fs j, x = .ref a ∧ (∃ N1 N2, M1 = N1 ++ (a, MO.ins C dx fs) :: N2) ∧ Cls K C ∧ NoAttr K C f ∧ fs.lookup f = some (.int j) ∧
      AE K tv δ M1 fun y M2 => ∃ b fs' N1 N2, y = .int b ∧ M2 = N1 ++ (a, MO.ins C dx fs') :: N2 ∧ fs'.length < 1000 ∧ A.nx δ (N1 ++ (a, MO.ins C dx (putFD f (.int (j + b)) fs')) :: N2)) : AS K (sFldAug K te tv rAdd f) δ M A := fun σ G H E rs s ft =>
  h σ G H _ rs s fun x M1 vx G1 H1 ⟨a, C, dx, fs, j, e1, ⟨N1, N2, e2⟩, c, n, l, h1⟩ s1 st1 r1 => by
    subst e1
    obtain ⟨g0, o, ho, ps, rfl, rk⟩ := s1.mu (a, .ins C dx fs) (by rw [e2]; simp)
    obtain ⟨v, lv, rv⟩ := repKV_look rk l
    refine ⟨a, C, dx, ps, v, rep_ref r1, ho, c, n, lv, h1 σ G1 H1 _ (rs.mono st1.gg) s1 ?_⟩
    rintro y M2 vy G2 H2 ⟨b, fs', P1, P2, rfl, rfl, l', q⟩ s2 st2 r2
    obtain ⟨g0', o', ho', ps', rfl, rk'⟩ := s2.mu (a, .ins C dx fs') (by simp)
    obtain ⟨s3, st3⟩ := s2.write (o := .ins C dx (putF f (.int (j + b)) ps')) (m' := .ins C dx (putFD f (.int (j + b)) fs')) ⟨_, rfl, repKV_putF rep_of_int rk'⟩
    exact ⟨j, b, rep_int rv, rep_int r2, dx, ps', ho', by rw [repKV_len rk']; exact l', ft.nx _ _ _ _ _ q (rs.mono (st1.trans st2).gg) s3 ((st1.trans st2).trans st3)⟩
/-! ### methods -/
theorem ae_meth {W : Wt} {E : XK} {ts : TA} (h : AE K te δ M fun x M1 => ∃ a dx fs, x = .ref a ∧ (∃ N1 N2, M1 = N1 ++ (a, MO.ins C dx fs) :: N2) ∧ fs.lookup m = none ∧
      AA K ts δ M1 fun ds M2 => ∃ Mc R kc, M2 = Mc ++ R ∧ W (.ref a :: ds) Mc kc ∧ ∀ d Mc', kc d Mc' → k d (Mc' ++ R)) : AE K (tMeth C m (Spc K W) [] E te ts) δ M k := fun σ G H Q rs s f' =>
  h σ G H _ rs s fun x M1 vx G1 H1 ⟨a, dx, fs, e1, ⟨N1, N2, e2⟩, l, h1⟩ s1 st1 r1 => by
    subst e1
    obtain ⟨g0, o, ho, ps, rfl, rk⟩ := s1.mu (a, .ins C dx fs) (by rw [e2]; simp)
    refine ⟨a, dx, ps, rep_ref r1, ho, repKV_no rk l, h1 σ G1 H1 _ (rs.mono st1.gg) s1 ?_⟩
    rintro ds M2 vs G2 H2 ⟨Mc, R, kc, rfl, hw, hk⟩ s2 st2 r2
    rw [rep_ref r1, List.append_nil]
    refine ⟨G2, _, Mc, kc, Reps.cons rep_of_ref r2, s2.sub, hw, fun d M' v G' H' hd s' st' rv => ?_⟩
    obtain ⟨s3, st3⟩ := s2.join s' st'
    exact f' d _ v G' H' (hk d M' hd) s3 ((st1.trans st2).trans st3) rv
/-- C(..): the new object stands first -/
theorem ae_make {W : Wt} {E : XK} {ts : TA} (h : AA K ts δ M fun ds M1 => ∀ x dx, ∃ kc, W (.ref x :: ds) [(x, MO.ins C dx [])] kc ∧ ∀ d Mc', kc d Mc' → d = .non ∧ k (.ref x) (Mc' ++ M1)) : AE K (tMake C (Spc K W) [] E ts) δ M k := fun σ G H Q rs s f' =>
  h σ G H _ rs s fun ds M1 vs G1 H1 h1 s1 st1 r1 x dx nx nd ne => by
    obtain ⟨kc, hw, hk⟩ := h1 x dx
    obtain ⟨s2, st2⟩ := s1.junk (o := .own x) nd
    have nx' : upd H1 dx (.own x) x = none := by rw [upd_ne (Ne.symm ne)]; exact nx
    obtain ⟨s3, st3⟩ := s2.fresh (m := .ins C dx []) (o := .ins C dx []) nx' ⟨[], rfl, by unfold RepKV; rfl⟩
    have hp : (M1 ++ [(x, MO.ins C dx [])]).Perm ([(x, MO.ins C dx [])] ++ M1) := List.perm_append_comm
    have s4 := s3.perm hp
    rw [List.append_nil]
    refine ⟨G1, _, [(x, .ins C dx [])], kc, Reps.cons rep_of_ref r1, s4.sub, hw, fun d M' v G' H' hd s' st' rv => ?_⟩
    obtain ⟨e, q⟩ := hk d M' hd
    subst e
    obtain ⟨s5, st5⟩ := s4.join s' st'
    have st35 := (st3.perm (fun _ => Iff.rfl) (ads_perm hp)).trans st5
    exact ⟨rep_non rv, f' _ _ _ G' H' q s5 ((st1.trans st2).trans st35) rep_of_ref⟩
end
/-! ### the same with K as it stands -/
section
variable {X : Cx} {K : PySem.W.Frag} {o e value : Expr} {f : Str} {pos pos' tpos : Pos} {ta tv : TE}
theorem fld_K (he : PE X o ta) (h : X.K = K := by rfl) (hb : attributeBase o f X.env (eval o X.env) = eval o X.env := by rfl) : PE X (.Attribute o f pos) (tFld K ta f) := h ▸ pe_fld he hb
theorem sfld_K (ha : PE X o ta) (hv : PE X value tv) (h : X.K = K := by rfl) (hs : swapsWith value (some (.Attribute o f pos')) pos.line X.env = pure false := by rfl) : PS X (.Assign [.Attribute o f pos'] value pos) (sFld K ta tv f) := h ▸ ps_fld ha hv hs
theorem sfldaug_K (ha : PE X o ta) (hv : PE X value tv) (h : X.K = K := by rfl) : PS X (.AugAssign (.Attribute o f tpos) .Add value pos) (sFldAug K ta tv rAdd f) := h ▸ ps_fldaug ha hv in_add
end
/-! ### further words -/
/-- x in y: a sign in a text, a text in a text, an item in a list or tuple -/
def rInU (K : PySem.W.Frag) : R2 := fun x y H Q => (∃ (c : Nat) (z : Str), x = .str ⟨#[c]⟩ ∧ y = .str z ∧ Q (.bl (decide (c ∈ z.cps.toList))) H) ∨ ((∃ i j, x = .str i ∧ y = .str j ∧ Q (.bl (!(Builtin.Str.occurrences j i 0 j.length 1).isEmpty)) H) ∨ rIn K false x y H Q)
def rNotInU (K : PySem.W.Frag) : R2 := fun x y H Q => (∃ (c : Nat) (z : Str), x = .str ⟨#[c]⟩ ∧ y = .str z ∧ Q (.bl (!decide (c ∈ z.cps.toList))) H) ∨ ((∃ i j, x = .str i ∧ y = .str j ∧ Q (.bl (!(!(Builtin.Str.occurrences j i 0 j.length 1).isEmpty))) H) ∨ rIn K true x y H Q)
/-- int(x) of a bool -/
def rMulS : R2 := fun x y H Q => ∃ (z : Str) (n : Int), x = .str z ∧ y = .int n ∧ MulOk z n ∧ Q (.str (Txt.mul z n)) H
section
variable {X : Cx} {K : PySem.W.Frag}
theorem in_K (h : X.K = K := by rfl) : OpR X (compareOp .In) (rInU K) := h ▸ op_in_sign.or (op_in_str.or op_in_seq)
theorem notin_K (h : X.K = K := by rfl) : OpR X (compareOp .NotIn) (rNotInU K) := h ▸ op_notIn_sign.or (op_notIn_str.or op_notIn_seq)
theorem op_mulS : OpR X (binaryOp .Mult) rMulS := by
  intro pins s σ H x y v u Q I rx ry h
  obtain ⟨z, n, rfl, rfl, ok, q⟩ := h
  obtain ⟨t, rfl⟩ := rx
  obtain ⟨t', rfl⟩ := ry
  exact SB.mul ok fun t'' k => ⟨.str (Txt.mul z n), H, I.tok _, ⟨_, rfl⟩, q⟩
/-- an item of a list, to be changed in place -/
theorem get_list (h : X.K = K := by rfl) : PGet X (rIxL K) := by
  subst h
  intro pins s σ H x y v u Q I rx ry h
  obtain ⟨p, xs, i, z, rfl, rfl, hq, he, q⟩ := h
  cases rx
  obtain ⟨t, rfl⟩ := ry
  obtain ⟨its, r, pl, hz⟩ := I.list hq
  obtain ⟨j, h1, h2, h3, h4, h5⟩ := atI_get he
  obtain ⟨w, ew, rw'⟩ := r.get h2
  have hl := r.length
  have hn := line63
  have fin : EP X pins σ Q w s := ⟨z, H, I, rw', q⟩
  by_cases h0 : 0 ≤ i
  · have hj : i.toNat = j := by
      rw [seqIndex_of h0 h5] at h1
      exact Option.some.inj h1
    exact wpAny_getItem_list pl.isList h0 (by omega) (by rw [hj]; simpa using ew) fin
  · have hj : (i + (its.toArray.size : Int)).toNat = j := by
      rw [seqIndex_neg (by omega) h4] at h1
      rw [List.size_toArray, ← hl]
      exact Option.some.inj h1
    exact wpAny_getItem_list_neg pl.isList (by omega) (by rw [List.size_toArray] <;> omega) (by omega) (by rw [hj]; simpa using ew) fin
end
/-! ### written dicts: texts by texts -/
def Ents : List DictEntry → List (Str × Str) → Prop
  | [], kvs => kvs = []
  | e :: r, kvs => ∃ k v s t u, kvs = (k, v) :: s ∧ e.key = .str k t ∧ e.val = .str v u ∧ Ents r s
structure KTab (K : PySem.W.Frag) (w : World) (a : Addr) (kvs : List (Str × Str)) : Prop where
  ex : ∃ es n, K.lookup a = some ⟨.type "dict", none, .dict es n, #[]⟩ ∧ PySem.W.KeysLit w.params es.toList ∧ Ents es.toList kvs
  low : (a == sysModules) = false
theorem Ents.look : ∀ {es : List DictEntry} {kvs : List (Str × Str)}, Ents es kvs → ∀ z : Str, es.any (·.refKey) = false ∧ ((kvs.lookup z = none ∧ es.find? (·.key.isStr z) = none) ∨ ∃ e v u, kvs.lookup z = some v ∧ es.find? (·.key.isStr z) = some e ∧ e.val = .str v u)
  | [], _, h, z => by
    unfold Ents at h
    subst h
    exact ⟨rfl, .inl ⟨rfl, rfl⟩⟩
  | e :: r, _, h, z => by
    unfold Ents at h
    obtain ⟨k, v, s, t, u, rfl, e1, e2, h⟩ := h
    obtain ⟨i1, i2⟩ := Ents.look h z
    have r1 : e.refKey = false := by
      unfold DictEntry.refKey
      rw [e1]
    refine ⟨by rw [List.any_cons, r1, i1]; rfl, ?_⟩
    have r2 : e.key.isStr z = (k == z) := by rw [e1]; rfl
    by_cases c : k = z
    · subst c
      have hb : (k == k) = true := beq_self_eq_true k
      exact .inr ⟨e, v, u, by simp [List.lookup, hb], by rw [List.find?_cons, r2, hb], e2⟩
    · have hb : (k == z) = false := beq_eq_false_iff_ne.mpr c
      have hb' : (z == k) = false := beq_eq_false_iff_ne.mpr (Ne.symm c)
      rcases i2 with ⟨i3, i4⟩ | ⟨e', v', u', i3, i4, i5⟩
      · exact .inl ⟨by simp [List.lookup, hb', i3], by rw [List.find?_cons, r2, hb]; exact i4⟩
      · exact .inr ⟨e', v', u', by simp [List.lookup, hb', i3], by rw [List.find?_cons, r2, hb]; exact i4, i5⟩
theorem KTab.ns {K : PySem.W.Frag} {w : World} {a : Addr} {kvs : List (Str × Str)} (h : KTab K w a kvs) (z : Str) : ∃ es n, K.lookup a = some ⟨.type "dict", none, .dict es n, #[]⟩ ∧ PySem.W.KeysLit w.params es.toList ∧
    ((kvs.lookup z = none ∧ PySem.W.nsIn K a z = some none) ∨ ∃ v u, kvs.lookup z = some v ∧ PySem.W.nsIn K a z = some (some (.str v u))) := by
  obtain ⟨es, n, h1, h2, h3⟩ := h.ex
  refine ⟨es, n, h1, h2, ?_⟩
  obtain ⟨g1, g2⟩ := h3.look z
  unfold PySem.W.nsIn
  rw [h1]
  dsimp only
  rcases g2 with ⟨g2, g3⟩ | ⟨e, v, u, g2, g3, g4⟩
  · rw [g3]
    dsimp only
    rw [g1]
    exact .inl ⟨g2, rfl⟩
  · rw [g3]
    dsimp only
    rw [g4]
    exact .inr ⟨v, u, g2, rfl⟩
def optS : Option Str → D
  | none => .non
  | some z => .str z
/-- d.get(z) -/
def tKGet1 (K : PySem.W.Frag) (w : World) (td ty : TE) : TE := fun σ H Q => td σ H fun x H1 => ∃ a kvs, x = .ref a ∧ KTab K w a kvs ∧ ty σ H1 fun y H2 => ∃ z, y = .str z ∧ Q (match kvs.lookup z with | none => .non | some v => .str v) H2
section
variable {X : Cx} {K : PySem.W.Frag} {w : World} {o e : Expr} {apos cpos : Pos} {td ty : TE}
theorem kget1 (ho : PE X o td) (he : PE X e ty) (m : M1 X o "get" apos e cpos) : PE X (.Call (.Attribute o "get" apos) [e] [] cpos) (tKGet1 X.K X.w td ty) := by
  refine ⟨fun pins s σ H Q I h => ?_⟩
  refine wpAny_Call_method m.base m.few m.line PySem.F.plainAttrs_dict PySem.F.slot_dict_get PySem.F.type_dict_get (thn (ho.run pins s σ H _ I h) fun u s1 ⟨x, H1, I1, rx, a, kvs, ex, d, q1⟩ => ?_)
  subst ex
  obtain rfl : u = Value.ref a := rx
  have low := d.low
  obtain ⟨es, n, h1, h2, _⟩ := d.ex
  have hm1 := PySem.W.mapOf_K (prog := X.prog) (w := X.w) I1.kIn h1 h2
  refine ⟨hm1.typeIs, fun b q => ?_, ?_⟩
  · cases q
    exact ⟨_, I1.kIn _ _ h1, rfl⟩
  rw [m.trees]
  refine Calls.callWith_builtin rfl (Calls.evalArgs_plain (Calls.spliced_cons (thn (he.run pins s1 σ H1 _ I1 q1) fun iv s2 ⟨y, H2, I2, ry, z, ey, q2⟩ => Calls.spliced_nil ?_)))
  subst ey
  obtain ⟨t, rfl⟩ := (show ∃ t, iv = Value.str z t from ry)
  obtain ⟨es', n', h1', h2', hz⟩ := d.ns z
  have hm := PySem.W.mapOf_K (prog := X.prog) (w := X.w) I2.kIn h1' h2'
  refine call_meetsIn PySem.F.slot_dict_get hm.typeIs PySem.F.entry_dict_get (PySem.F.args_dict_get_2 _ _) (meets_dict_get (strKind X.prog X.w) a (strKind_is X.prog X.w z t) low) ⟨_, hm, ?_⟩
  rcases hz with ⟨z1, z2⟩ | ⟨v, u, z1, z2⟩
  · rw [z1] at q2
    rw [PySem.W.find_K h1' z2]
    exact ⟨.non, H2, I2.tok _, rfl, q2⟩
  · rw [z1] at q2
    rw [PySem.W.find_K h1' z2]
    exact ⟨.str v, H2, I2.tok _, ⟨_, rfl⟩, q2⟩
theorem kget1_K (ho : PE X o td) (he : PE X e ty) (m : M1 X o "get" apos e cpos) (h : X.K = K := by rfl) (h2 : X.w = w := by rfl) : PE X (.Call (.Attribute o "get" apos) [e] [] cpos) (tKGet1 K w td ty) := h ▸ h2 ▸ kget1 ho he m
theorem kix_K (h : X.K = K := by rfl) (h2 : X.w = w := by rfl) : IxR X (rIxD K w) := h ▸ h2 ▸ ix_kdict
end
section
variable {K : PySem.W.Frag} {w : World} {δ : DS} {M : Mu} {ta tb te to ti tv : TE} {k : D → Mu → Prop} {i : Nat} {d x y : D}
theorem ae_kget1 {td ty : TE} (h : AE K td δ M fun x M1 => ∃ a kvs, x = .ref a ∧ KTab K w a kvs ∧ AE K ty δ M1 fun y M2 => ∃ z, y = .str z ∧ k (optS (kvs.lookup z)) M2) : AE K (tKGet1 K w td ty) δ M k := fun σ G H Q rs s f =>
  h σ G H _ rs s fun x M1 vx G1 H1 ⟨a, kvs, e1, tab, h1⟩ s1 st1 r1 => by
    subst e1
    refine ⟨a, kvs, rep_ref r1, tab, h1 σ G1 H1 _ (rs.mono st1.gg) s1 ?_⟩
    rintro y M2 vy G2 H2 ⟨z, rfl, q⟩ s2 st2 r2
    refine ⟨z, rep_str r2, ?_⟩
    cases e : kvs.lookup z with
    | none =>
      rw [e] at q
      exact f _ M2 _ G2 H2 q s2 (st1.trans st2) rep_of_non
    | some v =>
      rw [e] at q
      exact f _ M2 _ G2 H2 q s2 (st1.trans st2) rep_of_str
theorem ar_kix {a : Addr} {kvs : List (Str × Str)} {z v : Str} (tab : KTab K w a kvs) (h : kvs.lookup z = some v) (q : k (.str v) M) : AR K (rIxD K w) (.ref a) (.str z) M k := fun vx vy G H Q rx ry s f => by
  obtain ⟨es, n, h1, h2, hz⟩ := tab.ns z
  rcases hz with ⟨z1, _⟩ | ⟨v', u, z1, z2⟩
  · rw [h] at z1; cases z1
  · rw [h] at z1
    cases z1
    exact ⟨a, z, .str v, rep_ref rx, rep_str ry, ⟨es, n, _, h1, h2, z2, ⟨_, rfl⟩⟩, f _ M _ G H q s Step.refl rep_of_str⟩
/-! ### in -/
theorem ain_sign {c : Nat} {l : List Nat} (q : k (.bl (decide (c ∈ l))) M) : AR K (rInU K) (.str (tx [c])) (.str (tx l)) M k := fun vx vy G H Q rx ry s f => .inl ⟨c, tx l, rep_str rx, rep_str ry, f _ M _ G H (by rw [tx_cps]; exact q) s Step.refl rep_of_bl⟩
theorem anin_sign {c : Nat} {l : List Nat} (q : k (.bl (!decide (c ∈ l))) M) : AR K (rNotInU K) (.str (tx [c])) (.str (tx l)) M k := fun vx vy G H Q rx ry s f => .inl ⟨c, tx l, rep_str rx, rep_str ry, f _ M _ G H (by rw [tx_cps]; exact q) s Step.refl rep_of_bl⟩
theorem ain_text {a b : Str} (q : k (.bl (!(Builtin.Str.occurrences b a 0 b.length 1).isEmpty)) M) : AR K (rInU K) (.str a) (.str b) M k := fun vx vy G H Q rx ry s f => .inr (.inl ⟨a, b, rep_str rx, rep_str ry, f _ M _ G H q s Step.refl rep_of_bl⟩)
theorem inV_strs {z : Str} : ∀ {ss : List Str}, inV (.str z) (ss.map V.str) = decide (z ∈ ss)
  | [] => rfl
  | a :: ss => by
    have ih := inV_strs (z := z) (ss := ss)
    unfold inV at ih ⊢
    rw [List.map_cons, List.any_cons, ih]
    show (a == z || decide (z ∈ ss)) = _
    by_cases c : a = z
    · subst c; simp
    · have hb : (a == z) = false := beq_eq_false_iff_ne.mpr c
      rw [hb]
      simp [Ne.symm c]
theorem flat_strs : ∀ {ss : List Str}, (ss.map V.str).all flatV = true
  | [] => rfl
  | a :: ss => by
    rw [List.map_cons, List.all_cons, flat_strs]
    rfl
theorem ain_tup {z : Str} {ss : List Str} (q : k (.bl (decide (z ∈ ss))) M) : AR K (rInU K) (.str z) (.tup (ss.map D.str)) M k := fun vx vy G H Q rx ry s f => by
  obtain ⟨a, xs, rfl, ha, rx'⟩ := rep_tup ry
  have e := rx'.strs
  subst e
  refine .inr (.inr ⟨a, _, rfl, .inr (Same.seqT s.same ha), by rw [rep_str rx]; rfl, flat_strs, ?_⟩)
  rw [rep_str rx, if_neg Bool.false_ne_true, inV_strs]
  exact f _ M _ G H q s Step.refl rep_of_bl
theorem anin_tup {z : Str} {ss : List Str} (q : k (.bl (!decide (z ∈ ss))) M) : AR K (rNotInU K) (.str z) (.tup (ss.map D.str)) M k := fun vx vy G H Q rx ry s f => by
  obtain ⟨a, xs, rfl, ha, rx'⟩ := rep_tup ry
  have e := rx'.strs
  subst e
  refine .inr (.inr ⟨a, _, rfl, .inr (Same.seqT s.same ha), by rw [rep_str rx]; rfl, flat_strs, ?_⟩)
  rw [rep_str rx, if_pos rfl, inV_strs]
  exact f _ M _ G H q s Step.refl rep_of_bl
/-! ### texts -/
/-- a text, many times -/
def repL (n : Nat) (l : List Nat) : List Nat := (List.replicate n l).flatten
theorem foldl_app : ∀ (n : Nat) (l : List Nat) (acc : Array Nat), ((List.replicate n l.toArray).foldl (· ++ ·) acc) = acc ++ (repL n l).toArray
  | 0, l, acc => by simp [repL]
  | n + 1, l, acc => by
    rw [List.replicate_succ, List.foldl_cons, foldl_app n l]
    simp [repL, List.replicate_succ]
theorem mul_tx (l : List Nat) (n : Nat) : Txt.mul (tx l) (n : Int) = tx (repL n l) := by
  unfold Txt.mul
  by_cases h : (n : Int) < 1
  · have e : n = 0 := by omega
    subst e
    rfl
  · rw [if_neg h]
    split
    · rename_i c
      rw [Bool.or_eq_true] at c
      rcases c with c | c
      · have e : (n : Int) = 1 := by simpa using c
        have e' : n = 1 := by omega
        subst e'
        simp [repL]
      · have e : (tx l).length = 0 := by simpa using c
        rw [tx_len] at e
        have e' : l = [] := List.length_eq_zero_iff.mp e
        subst e'
        have : repL n ([] : List Nat) = [] := by simp [repL]
        rw [this]
    · show (⟨(List.replicate (n : Int).toNat (tx l).cps).foldl (· ++ ·) #[]⟩ : Str) = _
      have e : (tx l).cps = l.toArray := rfl
      rw [e, Int.toNat_natCast, foldl_app]
      simp [tx]
theorem ar_mulS {l : List Nat} {n : Nat} (hl : l.length ≤ 1000) (hn : n ≤ 1000) (q : k (.str (tx (repL n l))) M) : AR K rMulS (.str (tx l)) (.int n) M k := fun vx vy G H Q rx ry s f => by
  refine ⟨tx l, (n : Nat), rep_str rx, rep_int ry, ⟨?_, ?_, ?_⟩, ?_⟩
  · rw [Bool.or_eq_false_iff]
    exact ⟨decide_eq_false (by omega), decide_eq_false (by omega)⟩
  · intro h1 _
    rw [tx_len]
    have h2 : (1000 : Int) ≤ (2 ^ 63 - 1) / (n : Int) := by
      rw [Int.le_ediv_iff_mul_le (by omega)]
      omega
    omega
  · intro h1 _
    rw [tx_len, Int.toNat_natCast]
    have h3 : l.length * n ≤ 1000 * 1000 := Nat.mul_le_mul hl hn
    have hsz := sizeLine_eq
    exact decide_eq_false (by omega)
  · rw [mul_tx]
    exact f _ M _ G H q s Step.refl rep_of_str
/-- int(flag) -/
theorem ac_intB {b : Bool} (q : k (.int (if b then 1 else 0)) M) : AC K rIntU [.bl b] M k := fun vs G H Q rx s f => by
  obtain ⟨v, r, rfl, r1, r2⟩ := rx.uncons
  unfold Reps at r2
  subst r2
  exact .inr ⟨b, by rw [rep_bl r1], f _ M _ G H q s Step.refl rep_of_int⟩
/-- sep.join of texts -/
def joinL (a : List Nat) : List (List Nat) → List Nat
  | [] => []
  | [l] => l
  | l :: m :: r => l ++ a ++ joinL a (m :: r)
theorem repl_E : True := True.intro
end
end Tg
set_option Elab.async false
set_option linter.all false
set_option maxRecDepth 100000
set_option maxHeartbeats 1000000
/-! Tg, further words: join with a separator, extend by a tuple, insert, index, an item changed in place, a written display. -/
namespace Tg
open PySem L2 PyProof.Rows
section
variable {K : PySem.W.Frag} {w : World} {δ : DS} {M : Mu} {ta tb te to ti tv : TE} {k : D → Mu → Prop} {i : Nat} {d x y : D} {A : AEnds}
theorem tx_joinS (a : List Nat) : ∀ ls : List (List Nat), Str.join (tx a) (ls.map tx) = tx (joinL a ls)
  | [] => rfl
  | [l] => rfl
  | l :: m :: r => by
    show tx l ++ tx a ++ Str.join (tx a) ((m :: r).map tx) = _
    rw [tx_joinS a (m :: r), tx_app, tx_app]
    rfl
theorem am_joinS {a : List Nat} {ls : List (List Nat)} (hz : (ls.map (·.length)).sum + ls.length * a.length ≤ 16777216) (q : k (.str (tx (joinL a ls))) M) : AM K (rJoin K) (.str (tx a)) [.lst (ls.map fun l => .str (tx l))] M k := fun vx vs G H Q rx rxs s f => by
  obtain ⟨v, r, rfl, r1, rr⟩ := rxs.uncons
  unfold Reps at rr
  subst rr
  obtain ⟨b, ys, rfl, hb, r2⟩ := rep_lst r1
  have e : ys = (ls.map tx).map V.str := by
    have h2 : ls.map (fun l => D.str (tx l)) = (ls.map tx).map D.str := by simp
    rw [h2] at r2
    exact r2.strs
  refine ⟨tx a, b, ls.map tx, rep_str rx, rfl, .inl (.inl (.inl (by rw [← e]; exact s.same _ _ hb))), ?_, ?_⟩
  · have h1 : ((ls.map tx).map (·.length)) = ls.map (·.length) := by
      rw [List.map_map]
      exact List.map_congr_left fun l _ => tx_len l
    rw [h1, tx_len, List.length_map]
    exact hz
  · have e2 : Txt.join (tx a) (ls.map tx) = tx (joinL a ls) := by rw [TL.join_eq, tx_joinS]
    rw [e2]
    exact f _ M _ G H q s Step.refl rep_of_str
/-! ### extend by a tuple -/
def rExtendT (K : PySem.W.Frag) : V → List V → Hp → VK → Prop := fun x vs H Q => ∃ l b xs zs, x = .ref l ∧ vs = [.ref b] ∧ H l = some (.lst xs) ∧ SqT K H b zs ∧ xs.length + zs.length ≤ sizeLine ∧ Q .non (upd H l (.lst (xs ++ zs)))
def rExtendU (K : PySem.W.Frag) : V → List V → Hp → VK → Prop := fun x vs H Q => rExtend x vs H Q ∨ rExtendT K x vs H Q
end
section
variable {X : Cx} {K : PySem.W.Frag}
theorem list_extend_tup (l : Addr) (items : Array Value) (n : Nat) (b : Addr) (items2 : Array Value) (n2 : Nat) (dd : Option Addr) (sl : Array (Option Value)) (hs0 : ¬(!items.isEmpty && Builtin.List.listTooLong (items.size + items2.size)) = true) (hs1 : items.size ≤ sizeLine) (hs2 : items.size + items2.size ≤ sizeLine + 1) :
    Meets (Builtin.«list.extend» ⟨[.ref l, .ref b], []⟩) (fun _ R s => s.heap.get? l = some { cls := .type "list", dict := none, data := .seq items n, slots := #[] } ∧ s.heap.get? b = some { cls := .type "tuple", dict := dd, data := .seq items2 n2, slots := sl } ∧ R (.ok (.ret Value.none)) { s with heap := s.heap.update l (Obj.mapSeq fun x => x ++ items2), toks := s.toks }) :=
  .of_wp fun prog w A R s h => by
    obtain ⟨hp, g, d, tk, os⟩ := s; obtain ⟨hl, hb, h⟩ := h; have f1 := AutoSeq1.idx_int; have f2 := AutoSeq1.sub_tuple_tuple; have f3 := AutoSeq1.sub_list_list; have f4 := AutoSeq1.sub_tuple_list; have f5 := AutoSeq1.sub_list_tuple;
    have hz' : (items ++ items2).size ≤ sizeLine + 1 := by rw [Array.size_append]; exact hs2
    wp_walk using (wpAny_updateSeq hl rfl (hz := hs1) (_hz' := hz')), wpAny_loadPart' hl, wpAny_loadPart' hb; exact ⟨_, rfl, h⟩
theorem mt_extendT : MtM X "list.extend" (rExtendT X.K) := by
  intro pins s σ H x vs v us Q I rx rv h
  obtain ⟨l, b, xs, zs, rfl, rfl, hH, hB, hz, q⟩ := h
  cases rx
  obtain ⟨u, rfl, ru⟩ := rv.one
  cases ru
  obtain ⟨z, its, n, r, hl, e⟩ := I.lstM hH
  obtain ⟨its2, r2, ⟨o2, e2, c2, n2, e3⟩, hz2⟩ := I.tuple hB
  obtain ⟨cl, dd, dt, sl⟩ := o2
  cases c2
  cases e3
  have l1 := r.length
  have l2 := r2.length
  have hsz : its.toArray.size + its2.toArray.size ≤ sizeLine := by rw [List.size_toArray, List.size_toArray]; omega
  have hlong : ¬ (!its.toArray.isEmpty && Builtin.List.listTooLong (its.toArray.size + its2.toArray.size)) = true := by
    rw [notLongL hsz, Bool.and_false]
    exact Bool.false_ne_true
  refine call_meets F.slot_list_extend ⟨_, e, rfl⟩ F.entry_list_extend (F.args_list_extend_2 _ _)
    (list_extend_tup l its.toArray n b its2.toArray n2 dd sl hlong (by rw [List.size_toArray]; omega) (by omega)) ⟨e, e2, ?_⟩
  refine ⟨.non, _, I.lset (its' := its ++ its2) hH e (by simp) (r.append r2) ?_, rfl, q⟩
  rw [List.length_append]
  omega
theorem mt_extendU (h : X.K = K := by rfl) : MtM X "list.extend" (rExtendU K) := by
  subst h
  intro pins s σ H x vs v us Q I rx rv h
  rcases h with h | h
  · exact mt_extend pins s σ H x vs v us Q I rx rv h
  · exact mt_extendT pins s σ H x vs v us Q I rx rv h
def rInsert : V → List V → Hp → VK → Prop := fun x vs H Q => ∃ (l : Addr) (xs : List V) (i : Int) (y : V), x = .ref l ∧ vs = [.int i, y] ∧ H l = some (.lst xs) ∧ xs.length < sizeLine ∧ 0 ≤ i ∧ i < 2 ^ 63 ∧ Q .non (upd H l (.lst (xs.take i.toNat ++ [y] ++ xs.drop i.toNat)))
theorem mt_insertU : MtR X "list.insert" rInsert := mt_insert
def rIndex : V → List V → Hp → VK → Prop := fun x xs H Q => ∃ a b i rest, x = .str a ∧ xs = [.str b] ∧ Builtin.Str.occurrences a b 0 a.length 1 = i :: rest ∧ Q (.int (i : Nat)) H
theorem mt_indexU : MtR X "str.index" rIndex := mt_sindex
end
section
variable {K : PySem.W.Frag} {w : World} {δ : DS} {M M1 M2 : Mu} {ta tb te to ti tv : TE} {k : D → Mu → Prop} {i : Nat} {d x y : D} {A : AEnds}
theorem am_extU {a : Addr} {ds es : List D} (e : M = M1 ++ (a, .lst ds) :: M2) (hz : ds.length + es.length ≤ sizeLine) (hx : x = .lst es ∨ x = .tup es) (q : k .non (M1 ++ (a, .lst (ds ++ es)) :: M2)) : AM K (rExtendU K) (.ref a) [x] M k := fun vx vs G H Q rx rxs s f => by
  rcases hx with hx | hx
  · subst hx
    exact .inl (am_extend e hz q vx vs G H Q rx rxs s f)
  · subst hx
    subst e
    obtain ⟨v, r, rfl, r1, rr⟩ := rxs.uncons
    unfold Reps at rr
    subst rr
    obtain ⟨b, ys, rfl, hb, r2⟩ := rep_tup r1
    obtain ⟨g0, o, ho, r⟩ := s.mu (a, .lst ds) (by simp)
    obtain ⟨xs, rfl, rs⟩ := r
    obtain ⟨s2, st2⟩ := s.write (o := .lst (xs ++ ys)) (m' := .lst (ds ++ es)) ⟨_, rfl, rs.append r2⟩
    exact .inr ⟨a, b, xs, ys, rep_ref rx, rfl, ho, Same.seqT s.same hb, by rw [rs.len, r2.len]; exact hz, f _ _ _ _ _ q s2 st2 rep_of_non⟩
theorem am_insert {a : Addr} {ds : List D} {j : Nat} (e : M = M1 ++ (a, .lst ds) :: M2) (hz : ds.length < sizeLine) (hj : j ≤ ds.length) (q : k .non (M1 ++ (a, .lst (ds.take j ++ [d] ++ ds.drop j)) :: M2)) : AM K rInsert (.ref a) [.int j, d] M k := fun vx vs G H Q rx rxs s f => by
  subst e
  obtain ⟨v, r, rfl, r1, rr⟩ := rxs.uncons
  obtain ⟨v2, r', rfl, r2, rr'⟩ := rr.uncons
  unfold Reps at rr'
  subst rr'
  obtain ⟨g0, o, ho, r⟩ := s.mu (a, .lst ds) (by simp)
  obtain ⟨xs, rfl, rs⟩ := r
  have hsz := sizeLine_eq
  obtain ⟨s2, st2⟩ := s.write (o := .lst (xs.take (j : Int).toNat ++ [v2] ++ xs.drop (j : Int).toNat)) (m' := .lst (ds.take j ++ [d] ++ ds.drop j)) ⟨_, rfl, by
    rw [Int.toNat_natCast]
    exact ((Reps.take j rs).append (Reps.one r2)).append (Reps.drop j rs)⟩
  exact ⟨a, xs, j, v2, rep_ref rx, by rw [rep_int r1], ho, by rw [rs.len]; exact hz, by omega, by omega, f _ _ _ _ _ q s2 st2 rep_of_non⟩
theorem am_index {a b : Str} {j : Nat} {rest : List Nat} (h : Builtin.Str.occurrences a b 0 a.length 1 = j :: rest) (q : k (.int (j : Nat)) M) : AM K rIndex (.str a) [.str b] M k := fun vx vs G H Q rx rxs s f => by
  obtain ⟨v, r, rfl, r1, rr⟩ := rxs.uncons
  unfold Reps at rr
  subst rr
  exact ⟨a, b, j, rest, rep_str rx, by rw [rep_str r1], h, f _ M _ G H q s Step.refl rep_of_int⟩
/-- xs[j] op= e -/
theorem as_augL {r : TIp} (h : AE K to δ M fun o M1 => AE K ti δ M1 fun j M2 => ∃ a ds N1 N2 jj n x, o = .ref a ∧ j = .int jj ∧ M2 = N1 ++ (a, MO.lst ds) :: N2 ∧ ixN ds.length jj = some n ∧ ds[n]? = some x ∧
      AE K te δ M2 fun y M3 => AR K r x y M3 fun z M4 => ∃ ds' P1 P2 n', M4 = P1 ++ (a, MO.lst ds') :: P2 ∧ ixN ds'.length jj = some n' ∧ A.nx δ (P1 ++ (a, MO.lst (ds'.set n' z)) :: P2)) : AS K (tAugS to ti te (rIxL K) r rSetL) δ M A := fun σ G H E rs s ft =>
  h σ G H _ rs s fun o M1 vo G1 H1 h1 s1 st1 r1 => h1 σ G1 H1 _ (rs.mono st1.gg) s1 fun j M2 vj G2 H2 h2 s2 st2 r2 => by
    obtain ⟨a, ds, N1, N2, jj, n, x, rfl, rfl, e2, hn, hx, h3⟩ := h2
    obtain ⟨g0, oo, ho, r⟩ := s2.mu (a, .lst ds) (by rw [e2]; simp)
    obtain ⟨xs, rfl, rx⟩ := r
    obtain ⟨vx, ex, rvx⟩ := rx.get hx
    have st12 := st1.trans st2
    refine ⟨a, xs, jj, vx, rep_ref (Rep.mono st2.gg _ _ r1), rep_int r2, .inl (.inl ho), by unfold atI; rw [rx.len, hn]; exact ex, h3 σ G2 H2 _ (rs.mono st12.gg) s2 ?_⟩
    intro y M3 vy G3 H3 h4 s3 st3 r3
    refine h4 vx vy G3 H3 _ (Rep.mono st3.gg _ _ rvx) r3 s3 ?_
    rintro z M4 vz G4 H4 ⟨ds', P1, P2, n', rfl, hn', q⟩ s4 st4 r4
    obtain ⟨g0', oo', ho', r'⟩ := s4.mu (a, .lst ds') (by simp)
    obtain ⟨xs', rfl, rx'⟩ := r'
    obtain ⟨s5, st5⟩ := s4.write (o := .lst (xs'.set n' vz)) (m' := .lst (ds'.set n' z)) ⟨_, rfl, Reps.set rx' r4⟩
    have st := ((st12.trans st3).trans st4).trans st5
    exact ⟨a, xs', jj, n', rep_ref r1, rep_int r2, ho', by rw [rx'.len]; exact hn', ft.nx _ _ _ _ _ q (rs.mono st.gg) s5 st⟩
/-- {'a': 'b', ..}[z] -/
def tDispGet (trs : List (TE × TE)) (ty : TE) : TE := tDGet (tDisp trs) ty
theorem ae_dispGet {kvs : List (Str × Str)} {ty : TE} (hk : kvs.length ≤ 15) (h : AE K ty δ M fun y M2 => ∃ z v, y = .str z ∧ valV (mergeK [] (kvs.map fun p => ((Sum.inr p.1 : Key), V.str p.2))) (Sum.inr z) = some (.str v) ∧ k (.str v) M2) : AE K (tDispGet (kvs.map fun p => (tC (.str p.1), tC (.str p.2))) ty) δ M k := fun σ G H Q rs s f p hp => by
  have all : ∀ (l : List (Str × Str)) (H' : Hp) (R : List (V × V) → Hp → Prop), R (l.map fun p => (V.str p.1, V.str p.2)) H' → tPairs (l.map fun p => (tC (.str p.1), tC (.str p.2))) σ H' R := by
    intro l
    induction l with
    | nil => intro H' R h; exact h
    | cons a l ih => intro H' R h; exact ih H' _ h
  refine all kvs _ _ ⟨upd_same, kvs.map fun p => ((Sum.inr p.1 : Key), V.str p.2), by rw [List.map_map]; rfl, by rw [List.length_map]; exact hk, ?_⟩
  have eH : ∀ o, upd (upd H p (HO.dK [])) p o = upd H p o := fun o => by
    funext b
    by_cases hb : b = p
    · subst hb; rw [upd_same, upd_same]
    · rw [upd_ne hb, upd_ne hb, upd_ne hb]
  rw [eH]
  have hpM : p ∉ ads M := fun z => by
    obtain ⟨q, hq, e⟩ := List.mem_map.mp z
    obtain ⟨_, o, ho, _⟩ := s.mu q hq
    rw [e, hp] at ho
    cases ho
  obtain ⟨s2, st2⟩ := s.junk (o := .dK (mergeK [] (kvs.map fun p => ((Sum.inr p.1 : Key), V.str p.2)))) hp
  refine h σ G _ _ rs s2 ?_
  rintro y M2 vy G2 H2 ⟨z, v, rfl, hv, q⟩ s3 st3 r3
  have hd := st3.keep p _ hpM upd_same
  refine ⟨p, .str v, rfl, ?_, f _ _ _ _ _ q s3 (st2.trans st3) rep_of_str⟩
  rw [rep_str r3, ← hv]
  exact DGet.k (k := Sum.inr z) hd
end
section
variable {X : Cx} {K : PySem.W.Frag}
theorem extU_K {o e : Expr} {es : List Expr} {to : TE} {t : TA} {apos cpos : Pos} (h0 : PE X (.Call (.Attribute o "extend" apos) (e :: es) [] cpos) (tBM X.K "list" (rExtendU X.K) to t)) (h : X.K = K := by rfl) : PE X (.Call (.Attribute o "extend" apos) (e :: es) [] cpos) (tBM K "list" (rExtendU K) to t) := h ▸ h0
theorem ins_K {o e : Expr} {es : List Expr} {to : TE} {t : TA} {apos cpos : Pos} (h0 : PE X (.Call (.Attribute o "insert" apos) (e :: es) [] cpos) (tBM X.K "list" rInsert to t)) (h : X.K = K := by rfl) : PE X (.Call (.Attribute o "insert" apos) (e :: es) [] cpos) (tBM K "list" rInsert to t) := h ▸ h0
theorem dispGet_K {o e : Expr} {trs : List (TE × TE)} {te : TE} {pos : Pos} (hu : X.A.units + 1 < cLine) (h0 : PE X o (tDisp trs)) (h1 : PE X e te) (hs : NoSl e := by exact fun _ _ => rfl) : PE X (.Subscript o e pos) (tDispGet trs te) := pe_dget hu h0 h1 hs
/-- a method of a class -/
structure DefM (K : PySem.W.Frag) (C : Addr) (m qual : Str) (st : Stmt) (ps : List Str) : Prop where
  ex : ∃ f fd, Fun K m qual st f fd ∧ Meth K C m f ∧ Binds K fd ps []
theorem met_of {P : Program} {w : World} {mg : Str → Option Value} {base : Heap} {C : Addr} {m qual : Str} {st : Stmt} {ps : List Str} {k : Nat} {sp : Sp} (c : Cls K C) (D : DefM K C m qual st ps)
    (ok : ∀ f fd, Fun K m qual st f fd → FnOk P w K mg base CX0 k f fd ps sp) : C8.Met P w K mg base k C m sp [] := by
  obtain ⟨f, fd, F, hm, b⟩ := D.ex
  exact ⟨f, fd, ps, [], c, hm, ok f fd F, b, .nil⟩
theorem mak_of {P : Program} {w : World} {mg : Str → Option Value} {base : Heap} {C : Addr} {x qual : Str} {st : Stmt} {ps : List Str} {k : Nat} {sp : Sp} (hm : mg x = some (.ref C)) (h1 : PySem.W.makesIn K C = true) (h2 : PySem.W.keepIn K (.ref C) = true) (D : DefM K C "__init__" qual st ps)
    (ok : ∀ f fd, Fun K "__init__" qual st f fd → FnOk P w K mg base CX0 k f fd ps sp) : C8.Mak P w K mg base k x C sp [] := by
  obtain ⟨f, fd, F, ⟨a1, a2, a3⟩, b⟩ := D.ex
  exact ⟨f, fd, ps, [], ⟨h1, a1, a2, h2⟩, ok f fd F, hm, b, .nil⟩
end
/-! ### constants of the top -/
def StrsV : List Value → List Str → Prop
  | [], ss => match ss with
    | [] => True
    | _ => False
  | v :: r, ss => match ss with
    | [] => False
    | z :: s => (∃ t, v = .str z t) ∧ StrsV r s
theorem StrsV.vals : ∀ {its : List Value} {ss : List Str}, StrsV its ss → Vals (ss.map V.str) its
  | [], [], _ => .nil
  | [], _ :: _, h => h.elim
  | _ :: _, [], h => h.elim
  | v :: r, z :: s, ⟨⟨t, e⟩, h⟩ => .cons ⟨t, e⟩ (StrsV.vals h)
theorem reps_strs {K : PySem.W.Frag} {G : Hp} : ∀ ss : List Str, Reps K G (ss.map D.str) (ss.map V.str)
  | [] => Reps.nil
  | z :: s => Reps.cons rep_of_str (reps_strs s)
theorem rep_gtup {K : PySem.W.Frag} {a : Addr} {dd : Option Addr} {its : List Value} {n : Nat} {sl : Array (Option Value)} {ss : List Str} (hl : K.lookup a = some ⟨.type "tuple", dd, .seq its.toArray n, sl⟩) (hv : StrsV its ss) (hz : its.length ≤ sizeLine := by decide) : ∀ G : Hp, Rep K G (.tup (ss.map D.str)) (.ref a) := fun G =>
  rep_mk_tup (xs := ss.map V.str) (.inr ⟨_, its.toArray, n, hl, rfl, rfl, by simpa using hz, by simpa using hv.vals⟩) (reps_strs ss)
end Tg
set_option Elab.async false
set_option linter.all false
set_option maxRecDepth 100000
set_option maxHeartbeats 1000000
/-! Tg: expressions that may raise; an own error with one field. -/
namespace Tg
open PySem L2 PyProof.Rows
abbrev XS := List (Str × D) → Mu → Prop
/-- as AE, but an error may come out: its fields and what may change (xs), who takes it (W) -/
def AEX (K : PySem.W.Frag) (te : TE) (δ : DS) (M : Mu) (xs : XS) (W : Addr → Hp → Prop) (k : D → Mu → Prop) : Prop := ∀ σ G H Q, RelS K G δ σ → S K G H M →
  (∀ d M' v G' H', k d M' → S K G' H' M' → Step (ads M) G H (ads M') G' H' → Rep K G' d v → Q v H') →
  (∀ fs M' d G' H', xs fs M' → S K G' H' (M' ++ [(d, .xd fs)]) → Step (ads M) G H (ads (M' ++ [(d, .xd fs)])) G' H' → W d H') → te σ H Q
def AAX (K : PySem.W.Frag) (ta : TA) (δ : DS) (M : Mu) (xs : XS) (W : Addr → Hp → Prop) (k : List D → Mu → Prop) : Prop := ∀ σ G H Q, RelS K G δ σ → S K G H M →
  (∀ ds M' vs G' H', k ds M' → S K G' H' M' → Step (ads M) G H (ads M') G' H' → Reps K G' ds vs → Q vs H') →
  (∀ fs M' d G' H', xs fs M' → S K G' H' (M' ++ [(d, .xd fs)]) → Step (ads M) G H (ads (M' ++ [(d, .xd fs)])) G' H' → W d H') → ta σ H Q
section
variable {K : PySem.W.Frag} {δ : DS} {M : Mu} {ta tb te to ti tv : TE} {ts : TA} {k : D → Mu → Prop} {ka : List D → Mu → Prop} {i : Nat} {d x y : D} {A : AEnds} {xs : XS} {W : Addr → Hp → Prop} {C Ce : Addr} {m : Str} {E : XK}
theorem aex_ae (h : AE K te δ M k) : AEX K te δ M xs W k := fun σ G H Q rs s f _ => h σ G H Q rs s f
theorem aax_aa (h : AA K ts δ M ka) : AAX K ts δ M xs W ka := fun σ G H Q rs s f _ => h σ G H Q rs s f
/-- a method that may raise -/
theorem aex_meth {Wx : WtX} (hW : W = fun d H' => E (.ref Ce) (some d) H') (h : AE K te δ M fun x M1 => ∃ a dx fs, x = .ref a ∧ (∃ N1 N2, M1 = N1 ++ (a, MO.ins C dx fs) :: N2) ∧ fs.lookup m = none ∧
      AA K ts δ M1 fun ds M2 => ∃ Mc R kc kx, M2 = Mc ++ R ∧ Wx (.ref a :: ds) Mc kc kx ∧ (∀ d Mc', kc d Mc' → k d (Mc' ++ R)) ∧ ∀ fs Mc', kx fs Mc' → xs fs (Mc' ++ R)) : AEX K (tMeth C m (SpcX K Ce Wx) [] E te ts) δ M xs W k := fun σ G H Q rs s f' fx =>
  h σ G H _ rs s fun x M1 vx G1 H1 ⟨a, dx, fs, e1, ⟨N1, N2, e2⟩, l, h1⟩ s1 st1 r1 => by
    subst e1 hW
    obtain ⟨g0, o, ho, ps, rfl, rk⟩ := s1.mu (a, .ins C dx fs) (by rw [e2]; simp)
    refine ⟨a, dx, ps, rep_ref r1, ho, repKV_no rk l, h1 σ G1 H1 _ (rs.mono st1.gg) s1 ?_⟩
    rintro ds M2 vs G2 H2 ⟨Mc, R, kc, kx, rfl, hw, hk, hx⟩ s2 st2 r2
    rw [rep_ref r1, List.append_nil]
    refine ⟨G2, _, Mc, kc, kx, Reps.cons rep_of_ref r2, s2.sub, hw, fun d M' v G' H' hd s' st' rv => ?_, fun fs' M' d G' H' hk' s' st' => ?_⟩
    · obtain ⟨s3, st3⟩ := s2.join s' st'
      exact f' d _ v G' H' (hk d M' hd) s3 ((st1.trans st2).trans st3) rv
    · obtain ⟨s3, st3⟩ := s2.join s' st'
      have hp : ((M' ++ [(d, MO.xd fs')]) ++ R).Perm ((M' ++ R) ++ [(d, MO.xd fs')]) := by
        rw [List.append_assoc, List.append_assoc]
        exact List.Perm.append_left M' List.perm_append_comm
      exact fx fs' (M' ++ R) d G' H' (hx fs' M' hk') (s3.perm hp) (((st1.trans st2).trans st3).perm (fun _ => Iff.rfl) (ads_perm hp))
theorem aax_one (h : AEX K te δ M xs W fun d M1 => ka [d] M1) : AAX K (tCons te tNil) δ M xs W ka := fun σ G H Q rs s f fx =>
  h σ G H _ rs s (fun d M1 v G1 H1 h1 s1 st1 r1 => f [d] M1 [v] G1 H1 h1 s1 st1 (Reps.one r1)) fx
theorem aax_cons (h : AE K te δ M fun d M1 => AAX K ts δ M1 xs W fun ds M2 => ka (d :: ds) M2) : AAX K (tCons te ts) δ M xs W ka := fun σ G H Q rs s f fx =>
  h σ G H _ rs s fun d M1 v G1 H1 h1 s1 st1 r1 => h1 σ G1 H1 _ (rs.mono st1.gg) s1 (fun ds M2 vs G2 H2 h2 s2 st2 r2 => f (d :: ds) M2 (v :: vs) G2 H2 h2 s2 (st1.trans st2) (Reps.cons (Rep.mono st2.gg _ _ r1) r2))
    fun fs M' d' G' H' a s' st' => fx fs M' d' G' H' a s' (st1.trans st')
theorem aex_tup (h : AAX K ts δ M xs W fun ds M1 => ds.length ≤ sizeLine ∧ k (.tup ds) M1) : AEX K (tTup ts) δ M xs W k := fun σ G H Q rs s f fx =>
  h σ G H _ rs s (fun ds M1 vs G1 H1 ⟨hl, h1⟩ s1 st1 r1 => ⟨by rw [r1.len]; exact hl, fun p hp => by
    obtain ⟨s2, st2, e2⟩ := s1.frozen (o := .tup vs) hp
    exact f _ M1 _ _ _ h1 s2 (st1.trans st2) (rep_mk_tup (.inl (.inl upd_same)) (Reps.mono e2 _ _ r1))⟩) fx
theorem aex_lstM (h : AAX K ts δ M xs W fun ds M1 => ds.length ≤ sizeLine ∧ ∀ a, k (.ref a) (M1 ++ [(a, .lst ds)])) : AEX K (tLstM ts) δ M xs W k := fun σ G H Q rs s f fx =>
  h σ G H _ rs s (fun ds M1 vs G1 H1 ⟨hl, h1⟩ s1 st1 r1 => ⟨by rw [r1.len]; exact hl, fun p hp => by
    obtain ⟨s2, st2⟩ := s1.fresh (m := .lst ds) (o := .lst vs) hp ⟨vs, rfl, r1⟩
    exact f _ _ _ _ _ (h1 p) s2 (st1.trans st2) rep_of_ref⟩) fx
theorem aex_lm {r : V → List V → Hp → VK → Prop} (h : AE K to δ M fun x M1 => LstM x M1 ∧ AAX K ts δ M1 xs W fun zs M2 => AM K r x zs M2 k) : AEX K (tBM K "list" r to ts) δ M xs W k := fun σ G H Q rs s f fx =>
  h σ G H _ rs s fun x M1 v G1 H1 ⟨ht, h1⟩ s1 st1 r1 => by
    refine ⟨?_, h1 σ G1 H1 _ (rs.mono st1.gg) s1 (fun xs M2 vs G2 H2 h2 s2 st2 r2 => h2 v vs G2 H2 Q (Rep.mono st2.gg _ _ r1) r2 s2 fun d M3 v3 G3 H3 q s3 st3 r3 => f d M3 v3 G3 H3 q s3 ((st1.trans st2).trans st3) r3)
      fun fs M' d' G' H' a s' st' => fx fs M' d' G' H' a s' (st1.trans st')⟩
    rcases ht with ⟨ds, e⟩ | ⟨ds, e⟩ | ⟨a, ds, N1, N2, e, e2⟩
    · subst e
      obtain ⟨a, xs, rfl, ha, _⟩ := rep_lst r1
      exact .inl ⟨rfl, xs, .inl (.inl (s1.same _ _ ha))⟩
    · subst e
      obtain ⟨a, xs, rfl, ha, _⟩ := rep_lsk r1
      exact .inl ⟨rfl, xs, s1.same.seq ha⟩
    · subst e
      rw [rep_ref r1]
      obtain ⟨_, o, ho, r⟩ := s1.mu (a, .lst ds) (by rw [e2]; simp)
      obtain ⟨xs, rfl, rs⟩ := r
      exact .inl ⟨rfl, xs, .inl (.inl ho)⟩
/-! ### statements -/
theorem as_asgX {g : TG} (h : AEX K te δ M A.xs A.W fun d M1 => AG K g d δ M1 A.nx) : AS K (tAsg te g) δ M A := fun σ G H E rs s f =>
  h σ G H _ rs s (fun d M1 v G1 H1 h1 s1 st1 r1 => h1 v σ G1 H1 E.nx r1 (rs.mono st1.gg) s1 fun δ' M' σ' G' H' a rs' s' st => f.nx δ' M' σ' G' H' a rs' s' (st1.trans st)) f.xs
theorem as_setX (h : AEX K te δ M A.xs A.W fun d M1 => A.nx (δ.set i (some d)) M1) : AS K (tAsg te (gName i)) δ M A := as_asgX fun σ G H Q rs s f fx => h σ G H Q rs s (fun d M' v G' H' q => f d M' v G' H' (ag_name q)) fx
theorem as_retX (h : AEX K te δ M A.xs A.W A.rt) : AS K (tRet te) δ M A := fun σ G H E rs s f => h σ G H E.rt rs s (fun d M1 v G1 H1 h1 s1 st1 r1 => f.rt d M1 v G1 H1 h1 s1 st1 r1) f.xs
theorem as_dropX (h : AEX K te δ M A.xs A.W fun _ M1 => A.nx δ M1) : AS K (tDrop te) δ M A := fun σ G H E rs s f => h σ G H _ rs s (fun d M1 v G1 H1 h1 s1 st1 r1 => f.nx δ M1 σ G1 H1 h1 (rs.mono st1.gg) s1 st1) f.xs
theorem as_augX {r : TIp} {x : D} (hx : δ[i]? = some (some x)) (h : AEX K te δ M A.xs A.W fun y M1 => AR K r x y M1 fun z M2 => A.nx (δ.set i (some z)) M2) : AS K (tAug i te r) δ M A := fun σ G H E rs s f => by
  obtain ⟨v, e, rv⟩ := rs.at_ i x hx
  exact ⟨v, e, h σ G H _ rs s (fun y M1 vy G1 H1 h1 s1 st1 r1 => h1 v vy G1 H1 _ (Rep.mono st1.gg _ _ rv) r1 s1 fun z M2 vz G2 H2 h2 s2 st2 r2 =>
    f.nx _ M2 _ G2 H2 h2 ((rs.mono (st1.trans st2).gg).set i r2) s2 (st1.trans st2)) f.xs⟩
end
/-! ### an own error with one field -/
def spIni1 (K : PySem.W.Frag) (C : Addr) (f1 : Str) : Sp := fun vs H Q _ => ∃ a y, vs = [.ref a, y] ∧ H a = some (exo a C none) ∧
  ∀ dx, H dx = none → dx ≠ a → Q .non (upd (upd H dx (exd dx [(f1, y)])) a (exo a C (some dx)))
def tRaise1 (K : PySem.W.Frag) (C : Addr) (f1 : Str) (E : XK) (ta : TA) : TS := fun _ σ H => tMkO C (spIni1 K C f1) [] ta σ H fun cls d H' => E cls d H'
section
variable {K : PySem.W.Frag} {δ : DS} {M : Mu} {A : AEnds} {C : Addr} {f1 : Str} {E : XK} {ta : TA}
theorem as_raise1 (hA : A.W = fun d H' => E (.ref C) (some d) H') (h : AA K ta δ M fun ds M1 => ∃ y, ds = [y] ∧ A.xs [(f1, y)] M1) : AS K (tRaise1 K C f1 E ta) δ M A := fun σ G H E' rs s f =>
  h σ G H _ rs s fun ds M1 vs G1 H1 ⟨y, e, hx⟩ s1 st1 r1 => by
    subst e
    obtain ⟨vy, r, rfl, ry, rr⟩ := r1.uncons
    unfold Reps at rr
    subst rr
    refine ⟨by show 1 ≤ 1000; decide, fun a ha => ⟨a, vy, rfl, upd_same, fun dx hdx hne => ⟨rfl, dx, [(f1, vy)], upd_same, ?_, ?_, ?_⟩⟩⟩
    · rw [upd_ne hne, upd_same]
    · have h0 := hdx
      rw [upd_ne hne] at h0
      exact h0
    · have hd1 : H1 dx = none := by
        have h0 := hdx
        rw [upd_ne hne] at h0
        exact h0
      have e : upd (del (upd (upd (upd H1 a (exo a C none)) dx (exd dx [(f1, vy)])) a (exo a C (some dx))) a) dx (.xd [(f1, vy)]) = upd H1 dx (.xd [(f1, vy)]) := by
        funext b
        by_cases h1 : b = dx
        · subst h1
          rw [upd_same, upd_same]
        · rw [upd_ne h1, upd_ne h1]
          by_cases h2 : b = a
          · subst h2
            rw [del_same, ha]
          · rw [del_ne h2, upd_ne h2, upd_ne h1, upd_ne h2]
      rw [e]
      obtain ⟨s2, st2⟩ := s1.fresh (o := .xd [(f1, vy)]) (m := .xd [(f1, y)]) hd1 ⟨_, rfl, by
        unfold RepKV
        exact ⟨vy, [], rfl, ry, by unfold RepKV; rfl⟩⟩
      have q := f.xs _ M1 dx G1 _ hx s2 (st1.trans st2)
      rw [hA] at q
      exact q
end
section
variable {X : Cx} {K : PySem.W.Frag} {C fI : Addr} {k : Nat} {fd : FuncData} {f1 x : Str} {e : Expr} {es : List Expr} {ta : TA} {p pos pos2 : Pos} {CX : CXT} {E : XK}
theorem ps_raise1 (hc : X.calm = true) (tk : Takes X (fun cls d _ H => E cls d H)) (T : OexC X.K C) (iC : PySem.W.findIn X.K (.ref C) "__init__" = some (some (.ref fI))) (tI : PySem.W.typeIn X.K (.ref fI) = some (.type "function"))
    (F1 : FnOk X.prog X.w X.K X.mg X.base CX k fI fd ["self", f1] (spIni1 X.K C f1)) (hr : Room (k + 1) X.A) (hb : Binds X.K fd ["self", f1] []) (hx : Passes CX X (fun _ _ _ => False)) (hg : Gl X x) (hm : X.mg x = some (.ref C)) (ha : PA X (e :: es) ta)
    (hdb : (x == ("__debug__" : Str)) = false := by decide) (he : starEach (e :: es) X.env = (false, eval e X.env) :: starEach es X.env := by rfl) (hpl : (backTo pos (starEach es X.env)).any (·.1) = false := by rfl) :
    PS X (.Raise (some (.Call (.Name x p) (e :: es) [] pos)) none pos2) (tRaise1 X.K C f1 E ta) := ps_raise hc tk (pmk_oex T iC tI F1 hr hb .nil hx hg hm ha hdb he hpl)
end
structure ErrC1 (K : PySem.W.Frag) (mg : Str → Option Value) (x qual : Str) (st : Stmt) (f1 : Str) (C : Addr) : Prop where
  o : OexC K C
  m : mg x = some (.ref C)
  i : ∃ fI fd, PySem.W.findIn K (.ref C) "__init__" = some (some (.ref fI)) ∧ PySem.W.typeIn K (.ref fI) = some (.type "function") ∧ Fun K "__init__" qual st fI fd ∧ Binds K fd ["self", f1] []
  n1 : PySem.W.findIn K (.ref C) f1 = some none
  xf : XfC K C
  self : PySem.W.exmOne K (.ref C) (.ref C) = some true
  ec : ExcC K C
/-- a method that may raise -/
structure MetX (P : Program) (w : World) (K : PySem.W.Frag) (mg : Str → Option Value) (base : Heap) (k : Nat) (C : Addr) (m : Str) (sp : Sp) : Prop where
  ex : ∃ (f : Addr) (fd : FuncData) (ps : List Str), Cls K C ∧ Meth K C m f ∧ FnOk P w K mg base (L2.CX P w) k f fd ps sp ∧ Binds K fd ps []
section
variable {X : Cx} {K : PySem.W.Frag} {C : Addr} {k j : Nat} {m : Str} {sp : Sp} {o : Expr} {ta : TE} {apos pos : Pos} {E : XK}
theorem pe_mtX0 {pl : Sem Bool} (tk : Takes X (fun cls d _ H => E cls d H)) (c : MetX X.prog X.w X.K X.mg X.base k C m sp) (hr : Room j X.A) (hk : k ≤ j) (he : PE X o ta)
    (ht : eval (.Call (.Attribute o m apos) [] [] pos) X.env = (do
      let ov ← eval o X.env
      standAt apos.atName
      let (f, first) ← holding [ov] (getMethod ov m pl)
      callWith pos f first (backTo pos (starEach [] X.env)) (backToKw pos (keywordEach [] X.env))) := by rfl) :
    PE X (.Call (.Attribute o m apos) [] [] pos) (tMeth C m sp [] E ta tNil) := by
  obtain ⟨f, fd, ps, hc, hm, F, b⟩ := c.ex
  exact pe_meth0 (pl := pl) he hc hm F (hr.mono hk) b .nil (passes_call tk fun _ _ _ _ h => h) ht
theorem metX_of {P : Program} {w : World} {mg : Str → Option Value} {base : Heap} {C : Addr} {m qual : Str} {st : Stmt} {ps : List Str} {k : Nat} {sp : Sp} (c : Cls K C) (D : DefM K C m qual st ps)
    (ok : ∀ f fd, Fun K m qual st f fd → FnOk P w K mg base (L2.CX P w) k f fd ps sp) : MetX P w K mg base k C m sp := by
  obtain ⟨f, fd, F, hm, b⟩ := D.ex
  exact ⟨f, fd, ps, c, hm, ok f fd F, b⟩
end
section
variable {K : PySem.W.Frag} {δ : DS} {M : Mu} {A : AEnds} {C : Addr} {W : WtX} {ta : TA} {i : Nat} {ts : Addr → Value → Option Addr → TS}
/-- try: f(..) except X as n: suite -/
def tTryD (K : PySem.W.Frag) (C : Addr) (W : WtX) (ta : TA) (i : Nat) (ts : Addr → Value → Option Addr → TS) : TS := fun D σ H => tDrop (tCallS (SpcX K C W) (WE (wAs K (.ref C) i ts (fun _ _ _ _ => False) D)) ta) D σ H
theorem as_tryD (te : PySem.W.exmOne K (.ref C) (.ref C) = some true) (h : AA K ta δ M fun ds M1 => ∃ Mc R kc kx, M1 = Mc ++ R ∧ W ds Mc kc kx ∧ (∀ d Mc', kc d Mc' → A.nx δ (Mc' ++ R)) ∧
      ∀ fs Mc' a d, kx fs Mc' → AS K (ts a (.ref C) (some d)) (δ.set i (some (.ref a))) ((Mc' ++ [(d, .xd fs)]) ++ R) { A with nx := fun δ' M' => A.nx (δ'.set i none) M', bk := fun δ' M' => A.bk (δ'.set i none) M', ct := fun δ' M' => A.ct (δ'.set i none) M' }) :
    AS K (tTryD K C W ta i ts) δ M A := fun σ G H E rs s f =>
  h σ G H _ rs s fun ds M1 vs G1 H1 ⟨Mc, R, kc, kx, e, hw, hn, hx⟩ s1 st1 r1 => by
    subst e
    refine ⟨G1, ds, Mc, kc, kx, r1, s1.sub, hw, fun d M' v G' H' hd s' st' rv => ?_, fun fs M' d G' H' hk s' st' => ?_⟩
    · obtain ⟨s2, st2⟩ := s1.join s' st'
      exact f.nx _ _ _ G' H' (hn d M' hd) (rs.mono (st1.trans st2).gg) s2 (st1.trans st2)
    · obtain ⟨s2, st2⟩ := s1.join s' st'
      have st := st1.trans st2
      have fg := f.go st
      refine ⟨true, te, fun _ a ha => ?_, fun q => nomatch q⟩
      refine hx fs M' a d hk (σ.set i (some (.ref a))) G' H' _ ((rs.mono st.gg).set i rep_of_ref) s2 ⟨?_, fg.rt, ?_, ?_, fg.xs⟩
      · intro δ' M2 σ' G2 H2 q r s3 st3
        exact fg.nx _ M2 _ G2 H2 q (r.drop i) s3 st3
      · intro δ' M2 σ' G2 H2 q r s3 st3
        exact fg.bk _ M2 _ G2 H2 q (r.drop i) s3 st3
      · intro δ' M2 σ' G2 H2 q r s3 st3
        exact fg.ct _ M2 _ G2 H2 q (r.drop i) s3 st3
end
end Tg
set_option Elab.async false
set_option linter.all false
set_option maxRecDepth 100000
set_option maxHeartbeats 4000000
namespace Tg
open PySem PySem.W PySem.Calls PySem.NumText PyProof.Rows
/-! Tg: ints of texts of any length, deep equality, stars, written dicts, comprehensions of two clauses. -/
/-- nothing is said of how many digits an int may have -/
def DigFree (h : Heap) : Prop := ∀ (M : Model) (A : Around) (E : Value → Shared → Prop) (s : Shared) (Q : Nat → Shared → Prop), s.heap = h → Q 4300 s → wpAny M A Builtin.intMaxStrDigits Q E s
theorem long_text {M : Model} {A : Around} {E : Value → Shared → Prop} {s : Shared} {Q : Value → Shared → Prop} {v : Value} {text : List Nat} {n : Int} (hd : DigFree s.heap)
    (hs : ¬ (text.takeWhile (· != 0)).length ≤ 640) (hr : (int_private% "readNumeral") 4300 10 (text.takeWhile (· != 0)) = (int_private% "Numeral.value") n)
    (ha : ((text.takeWhile (· != 0)).length == text.length) = true) (h : Q (.int n s.toks) { s with toks := s.toks + 1 }) :
    wpAny M A ((int_private% "intFromText") v text 10) Q E s := by
  have hd' := fun Q' q => hd M A E s Q' rfl q
  obtain ⟨hp, g, d, tk, os⟩ := s
  repeat (any_goals (first
    | assumption
    | (with_reducible refine wpAny_ite_false (decide_eq_false hs) ?_)
    | (with_reducible refine wpAny_ite_true (decide_eq_true ha) ?_)
    | (with_reducible refine hd' _ ?_)
    | wp_step))
  all_goals (try rw [hr])
  all_goals (try dsimp only)
  repeat (any_goals (first
    | assumption
    | (with_reducible refine wpAny_ite_true (decide_eq_true ha) ?_)
    | wp_step))
theorem digFree_of {K : Frag} {h : Heap} (x : K.In h) (e : nsIn K cStatics "sys.int_max_str_digits" = some none) : DigFree h := fun M A E s Q hh q => by
  unfold Builtin.intMaxStrDigits
  refine wpAny_bind (looks_nsIn (M := M) x e A _ E s (fun b o z => by rw [hh]; exact z) ?_)
  exact wpAny_pure q
theorem long_new {x : PySem.Str} {u : Tok} {n : Int} (hl : ¬ (numSeenOf x).length ≤ 640) (hz : x.length ≤ sizeLine) (hn : PySem.intText? x = some n) :
    Meets (Builtin.«int.__new__» ⟨[.type "int", .str x u], []⟩) (fun A R s => DigFree s.heap ∧ R (.ok (.ret (.int n s.toks))) { s with toks := s.toks + 1 }) :=
  .of_wp fun prog w A R s ⟨hd, h⟩ => by
    obtain ⟨hp, g, d, tk, os⟩ := s
    have f1 := F.conv_sub_int
    have f2 := F.madeHere_int
    have f3 := KIN.str_int
    have f4 := KIN.str_idx
    have f5 := KIN.str_trunc
    have f6 : typeOf (.str x u) = pure (.type "str") := rfl
    have hr : (int_private% "readNumeral") 4300 10 (numSeenOf x) = (int_private% "Numeral.value") n ∧ ((numSeenOf x).length == (numTextOf x).length) = true := by
      rcases read4300 x hz with ⟨m, h1, h2, h3⟩ | ⟨h1, _⟩
      · rw [hn] at h1
        injection h1 with h1
        subst h1
        exact ⟨h3, h2⟩
      · rw [hn] at h1
        cases h1
    have hk := KIN.Hid.mk (And.intro hl (And.intro hr hd))
    clear hl hr hn hd hz
    repeat (any_goals (first
      | assumption
      | ((with_reducible show wpAny _ _ ((int_private% "intFromText") _ _ _) _ _ _); refine long_text hk.out.2.2 hk.out.1 hk.out.2.1.1 hk.out.2.1.2 ?_)
      | wp_step))
    all_goals first | exact ⟨_, rfl, h⟩ | skip
open L2
/-- int(text of digits) -/
def rIntT : List V → Hp → VK → Prop := fun xs H Q => ∃ a n, xs = [.str a] ∧ PySem.intText? a = some n ∧ a.length ≤ sizeLine ∧ a.cps.all (· < 128) = true ∧ Q (.int n) H
theorem cr_intT {X : Cx} (e : nsIn X.K cStatics "sys.int_max_str_digits" = some none) : CallR X (.type "int") rIntT := by
  intro pins s σ H xs us Q I rs h
  obtain ⟨a, n, rfl, hn, hl, ha, h⟩ := h
  cases rs with
  | cons r1 rs =>
    cases rs
    obtain ⟨t, rfl⟩ := r1
    by_cases hs : (numSeenOf a).length ≤ 640
    · have hd := digFree_of I.kIn e
      by_cases h6 : a.length ≤ 640
      · exact KIN.call_text hn h6 ⟨.int n, H, I.tok _, ⟨_, rfl⟩, h⟩
      · exact False.elim (h6 (by
          have e2 : (numSeenOf a).length = (numTextOf a).length := by
            rcases read0 a hs with ⟨m, h1, h2, h3⟩ | ⟨h1, _⟩
            · exact eq_of_beq h2
            · rw [hn] at h1
              cases h1
          have e3 : (numTextOf a).length = a.length := by
            show (if a.cps.all (· < 128) then a.cps.toList else _).length = _
            rw [if_pos ha]
            exact Array.length_toList
          omega))
    · exact call_int_1 (long_new hs hl hn) ⟨digFree_of I.kIn e, rfl, ⟨.int n, H, I.tok _, ⟨_, rfl⟩, h⟩⟩
end Tg
set_option Elab.async false
set_option linter.all false
set_option maxRecDepth 100000
set_option maxHeartbeats 1000000
namespace Tg
open PySem L2 PyProof.Rows PySem.NumText
/-! ### deep equality -/
mutual
/-- data that == can go through: plain, signs below 128 -/
def Pln : D → Prop
  | .non => True
  | .bl _ => True
  | .int _ => True
  | .str z => ∀ c ∈ z.cps.toList, c < 128
  | .tup ds => Plns ds
  | .lst ds => Plns ds
  | .lsk ds => Plns ds
  | .ty _ => False
  | .ref _ => False
def Plns : List D → Prop
  | [] => True
  | d :: ds => Pln d ∧ Plns ds
end
theorem plns_all {ds : List D} : Plns ds ↔ ∀ d ∈ ds, Pln d := by
  induction ds with
  | nil => simp [Plns]
  | cons d ds ih => simp [Plns, ih]
mutual
theorem pln_lay : ∀ d : D, Pln d → (toPy d).canLay0 = true
  | .non, _ => rfl
  | .bl _, _ => rfl
  | .int _, _ => rfl
  | .str z, h => by
    unfold toPy PyData.canLay0
    unfold Pln at h
    show z.cps.all (· < 0x110000) = true
    rw [← Array.all_toList, List.all_eq_true]
    intro c hc
    have := h c hc
    exact decide_eq_true (by omega)
  | .tup ds, h => by
    unfold toPy PyData.canLay0
    unfold Pln at h
    exact plns_lay ds h
  | .lst ds, h => by
    unfold toPy PyData.canLay0
    unfold Pln at h
    exact plns_lay ds h
  | .lsk ds, h => by
    unfold toPy PyData.canLay0
    unfold Pln at h
    exact plns_lay ds h
  | .ty _, h => by unfold Pln at h; exact h.elim
  | .ref _, h => by unfold Pln at h; exact h.elim
theorem plns_lay : ∀ ds : List D, Plns ds → PyData.canLayAll0 (toPys ds) = true
  | [], _ => rfl
  | d :: ds, h => by
    unfold toPys PyData.canLayAll0
    unfold Plns at h
    rw [pln_lay d h.1, plns_lay ds h.2]
    rfl
end
section
variable {K : PySem.W.Frag} {G H : Hp}
mutual
theorem dpl_of (e : Same G H) : ∀ (d : D) (v : V), Pln d → Rep K G d v → Dp K H v (toPy d)
  | .non, _, _, r => by rw [rep_non r]; exact .non
  | .bl b, _, _, r => by rw [rep_bl r]; exact .bl b
  | .int i, _, _, r => by rw [rep_int r]; exact .int i
  | .str z, _, _, r => by rw [rep_str r]; exact .str z
  | .tup ds, _, h, r => by
    unfold Pln at h
    obtain ⟨a, xs, rfl, ha, rs⟩ := rep_tup r
    exact .tup (Same.seqT e ha) (dpls_of e ds xs h rs)
  | .lst ds, _, h, r => by
    unfold Pln at h
    obtain ⟨a, xs, rfl, ha, rs⟩ := rep_lst r
    exact .lst (.inl (.inl (e _ _ ha))) (dpls_of e ds xs h rs)
  | .lsk ds, _, h, r => by
    unfold Pln at h
    obtain ⟨a, xs, rfl, ha, rs⟩ := rep_lsk r
    exact .lst (e.seq ha) (dpls_of e ds xs h rs)
  | .ty _, _, h, _ => by unfold Pln at h; exact h.elim
  | .ref _, _, h, _ => by unfold Pln at h; exact h.elim
theorem dpls_of (e : Same G H) : ∀ (ds : List D) (vs : List V), Plns ds → Reps K G ds vs → DpAll K H vs (toPys ds)
  | [], _, _, r => by
    unfold Reps at r
    rw [r]
    exact .nil
  | d :: ds, _, h, r => by
    unfold Plns at h
    obtain ⟨x, xs, rfl, r1, r2⟩ := r.uncons
    exact .cons (dpl_of e d x h.1 r1) (dpls_of e ds xs h.2 r2)
end
end
/-- deep, and flat enough -/
def Eqb (d : D) : Prop := Pln d ∧ (toPy d).depth ≤ 64
theorem Eqb.shaped {d : D} (h : Eqb d) : SeqAt.shaped (toPy d) = true := by
  unfold SeqAt.shaped
  rw [pln_lay d h.1, decide_eq_true h.2]
  rfl
theorem eqv_self {d : D} (h : Pln d) : PyData.eqv (toPy d) (toPy d) = true := by
  have := pln_lay d h
  exact SeqAt.eqv_refl _ this
def eqD (x y : D) : Bool := PyData.eqv (toPy x) (toPy y)
def rEqU (K : PySem.W.Frag) : R2 := fun x y H Q => rEq x y H Q ∨ rEqD K x y H Q
def rNeU (K : PySem.W.Frag) : R2 := fun x y H Q => rNe x y H Q ∨ rNeD K x y H Q
section
variable {X : Cx} {K : PySem.W.Frag} {k' : Nat}
theorem hu64 (hr : Room k' X.A) : X.A.units + 64 < cLine := by have := hr.un; omega
theorem hu65 (hr : Room k' X.A) : X.A.units + 65 < cLine := by have := hr.un; omega
theorem eqU_K (hr : Room k' X.A) (h : X.K = K := by rfl) : OpR X (compareOp .Eq) (rEqU K) := h ▸ op_eq.or (op_eqD (hu64 hr))
theorem neU_K (hr : Room k' X.A) (h : X.K = K := by rfl) : OpR X (compareOp .NotEq) (rNeU K) := h ▸ op_ne.or (op_neD (hu64 hr))
theorem inD_K (hr : Room k' X.A) (h : X.K = K := by rfl) : OpR X (compareOp .In) (rInD K) := h ▸ op_inD (hu65 hr)
end
section
variable {K : PySem.W.Frag} {δ : DS} {M M1 M2 : Mu} {ta tb te to ti tv : TE} {ts : TA} {k : D → Mu → Prop} {i : Nat} {d x y : D} {A : AEnds} {t : TS}
theorem ar_eqD' (hx : Eqb x) (hy : Eqb y) (q : k (.bl (eqD x y)) M) : AR K (rEqD K) x y M k := fun vx vy G H Q rx ry s f =>
  ⟨toPy x, toPy y, dpl_of s.same _ _ hx.1 rx, dpl_of s.same _ _ hy.1 ry, hx.shaped, hy.shaped, f _ M _ G H q s Step.refl rep_of_bl⟩
theorem ar_neD' (hx : Eqb x) (hy : Eqb y) (q : k (.bl (!eqD x y)) M) : AR K (rNeD K) x y M k := fun vx vy G H Q rx ry s f =>
  ⟨toPy x, toPy y, dpl_of s.same _ _ hx.1 rx, dpl_of s.same _ _ hy.1 ry, hx.shaped, hy.shaped, f _ M _ G H q s Step.refl rep_of_bl⟩
theorem ar_eqS {b : Bool} (h : sclD x y = some b) (q : k (.bl b) M) : AR K (rEqU K) x y M k := ar_or1 (ar_eqD h q)
theorem ar_neS {b : Bool} (h : sclD x y = some b) (q : k (.bl (!b)) M) : AR K (rNeU K) x y M k := ar_or1 (ar_neD h q)
theorem ar_eqT (hx : Eqb x) (hy : Eqb y) (q : k (.bl (eqD x y)) M) : AR K (rEqU K) x y M k := ar_or2 (ar_eqD' hx hy q)
theorem ar_neT (hx : Eqb x) (hy : Eqb y) (q : k (.bl (!eqD x y)) M) : AR K (rNeU K) x y M k := ar_or2 (ar_neD' hx hy q)
theorem toPys_map : ∀ ds : List D, toPys ds = ds.map toPy
  | [] => rfl
  | d :: ds => by
    show toPy d :: toPys ds = _
    rw [toPys_map ds]
    rfl
theorem ar_inD {ds : List D} (hx : Eqb x) (hy : Eqb (.lst ds)) (q : k (.bl (ds.any fun z => eqD z x)) M) : AR K (rInD K) x (.lst ds) M k := fun vx vy G H Q rx ry s f => by
  have h2 := dpl_of s.same _ _ hy.1 ry
  have sh := hy.shaped
  unfold toPy at h2 sh
  refine ⟨toPy x, toPys ds, dpl_of s.same _ _ hx.1 rx, h2, hx.shaped, sh, ?_⟩
  rw [toPys_map, List.any_map]
  exact f _ M _ G H q s Step.refl rep_of_bl
/-! ### ints and texts -/
def rAbs : List V → Hp → VK → Prop := fun xs H Q => ∃ i, xs = [.int i] ∧ Q (.int (if i < 0 then -i else i)) H
theorem call_absU {X : Cx} : CallR X (.builtin "abs") rAbs := call_abs
theorem ac_abs {i : Int} (q : k (.int (if i < 0 then -i else i)) M) : AC K rAbs [.int i] M k := fun vs G H Q rx s f => by
  obtain ⟨v, r, rfl, r1, r2⟩ := rx.uncons
  unfold Reps at r2
  subst r2
  exact ⟨i, by rw [rep_int r1], f _ M _ G H q s Step.refl rep_of_int⟩
def rStrI : List V → Hp → VK → Prop := fun xs H Q => ∃ i, xs = [.int i] ∧ i.natAbs.log2 < 1920 ∧ Q (.str (toString i)) H
theorem call_strU {X : Cx} : CallR X (.type "str") rStrI := call_str_int
/-- the signs of a number -/
def shI (i : Int) : List Nat := (Str.ofString (toString i)).cps.toList
theorem ac_strI {i : Int} (h : i.natAbs.log2 < 1920) (q : k (.str (tx (shI i))) M) : AC K rStrI [.int i] M k := fun vs G H Q rx s f => by
  obtain ⟨v, r, rfl, r1, r2⟩ := rx.uncons
  unfold Reps at r2
  subst r2
  unfold shI at q
  rw [tx_codes] at q
  exact ⟨i, by rw [rep_int r1], h, f _ M _ G H q s Step.refl rep_of_str⟩
theorem sum_K {X : Cx} (hc : X.calm = true) (h : X.K = K := by rfl) : CallR X (.builtin "sum") (rSum K) := h ▸ cr_sum hc
theorem ac_sum {ns : List Int} (q : k (.int ns.sum) M) : AC K (rSum K) [.lst (ns.map D.int)] M k := fun vs G H Q rx s f => by
  obtain ⟨v, r, rfl, r1, rr⟩ := rx.uncons
  unfold Reps at rr
  subst rr
  obtain ⟨a, xs, rfl, ha, rs⟩ := rep_lst r1
  rw [rs.ints] at ha
  exact ⟨a, ns, rfl, .inl (.inl (s.same _ _ ha)), f _ M _ G H q s Step.refl rep_of_int⟩
theorem ac_intT {l : List Nat} (h : AllDigits l) (h0 : l ≠ []) (hl : l.length ≤ 4300) (q : k (.int (digitsVal l : Nat)) M) : AC K rIntT [.str (tx l)] M k := fun vs G H Q rx s f => by
  obtain ⟨v, r, rfl, r1, rr⟩ := rx.uncons
  unfold Reps at rr
  subst rr
  have e : (tx l).cps.toList = l := tx_cps l
  have hsz := sizeLine_eq
  refine ⟨tx l, (digitsVal l : Nat), by rw [rep_str r1], ?_, by rw [tx_len]; omega, ?_, f _ M _ G H q s Step.refl rep_of_int⟩
  · have := intText_digits (x := tx l) (by rw [e]; exact h) (by rw [e]; exact h0) (by rw [tx_len]; exact hl)
    rw [e] at this
    exact this
  · rw [← Array.all_toList, e, List.all_eq_true]
    intro c hc
    have := h c hc
    exact decide_eq_true (by omega)
theorem asl_tup {ds : List D} {lo hi : Option Int} (q : k (.tup (cutD ds lo hi)) M) : ASl K (rSlU K) (.tup ds) lo hi M k := fun vx G H Q rx s f => by
  obtain ⟨a, xs, rfl, ha, rs⟩ := rep_tup rx
  refine .inr (.inr ⟨a, xs, rfl, Same.seqT s.same ha, ?_⟩)
  have e1 : cutD ds lo hi = (ds.drop (HT.sIx xs.length 0 lo)).take (HT.sIx xs.length xs.length hi - HT.sIx xs.length 0 lo) := by
    unfold cutD
    rw [rs.len]
  refine ⟨fun ⟨h1, h2⟩ => ?_, fun _ p hp => ?_⟩
  · have e2 : cutD ds lo hi = ds := by
      rw [e1, h1, h2, rs.len]
      simp
    rw [e2] at q
    exact f _ M _ G H q s Step.refl (rep_mk_tup ha rs)
  · obtain ⟨s2, st2, e2⟩ := s.frozen (o := .tup (cutV xs lo hi)) hp
    exact f _ M _ _ _ q s2 st2 (rep_mk_tup (.inl (.inl upd_same)) (Reps.mono e2 _ _ (reps_cut rs lo hi)))
/-- a text, many times -/
theorem ar_mulW {l : List Nat} {n : Nat} (hl : l.length ≤ 1000) (hn : n ≤ 4000) (q : k (.str (tx (repL n l))) M) : AR K rMulS (.str (tx l)) (.int n) M k := fun vx vy G H Q rx ry s f => by
  refine ⟨tx l, (n : Nat), rep_str rx, rep_int ry, ⟨?_, ?_, ?_⟩, ?_⟩
  · rw [Bool.or_eq_false_iff]
    exact ⟨decide_eq_false (by omega), decide_eq_false (by omega)⟩
  · intro h1 _
    rw [tx_len]
    have h2 : (1000 : Int) ≤ (2 ^ 63 - 1) / (n : Int) := by
      rw [Int.le_ediv_iff_mul_le (by omega)]
      omega
    omega
  · intro h1 _
    rw [tx_len, Int.toNat_natCast]
    have h3 : l.length * n ≤ 1000 * 4000 := Nat.mul_le_mul hl hn
    have hsz := sizeLine_eq
    exact decide_eq_false (by omega)
  · rw [mul_tx]
    exact f _ M _ G H q s Step.refl rep_of_str
end
/-! ### a def in a slot, called with a starred list -/
def tCallV (P : Program) (w : World) (K : PySem.W.Frag) (mg : Str → Option Value) (base : Heap) (j i : Nat) (t : TA) : TE := fun σ H Q => ∃ f sp, σ[i]? = some (some (.ref f)) ∧ Held P w K mg base j f sp ∧ t σ H fun vs H1 => sp vs H1 Q (fun _ _ _ => False)
section
variable {X : Cx} {k j i : Nat} {x : Str} {p sp_ pos : Pos} {e : Expr} {te : TE}
theorem pe_callV (hr : Room k X.A) (hk : j ≤ k) (hN : X.N[i]? = some x) (hv : Vis X.env.scope x) (he : PE X e te)
    (hdb : (x == ("__debug__" : Str)) = false := by decide) (hcd : (x == ("__classdict__" : Str)) = false := by decide) (hst : starEach [.Starred e sp_] X.env = [(true, eval e X.env)] := by rfl) :
    PE X (.Call (.Name x p) [.Starred e sp_] [] pos) (tCallV X.prog X.w X.K X.mg X.base j i fun σ H Q => te σ H fun y H1 => ∃ a xs, y = V.ref a ∧ (SqT X.K H1 a xs ∨ SqL X.K H1 a xs) ∧ Q xs H1) := by
  refine ⟨fun pins s σ H Q I h => ?_⟩
  obtain ⟨f, sp, hs, A, ht⟩ := h
  obtain ⟨fd, ps, F, kp, hb⟩ := A.ex
  refine wpAny_Call_Name_kw (thn ((pe_var (pos := p) hN hv hdb hcd).run pins s σ H (fun v H1 => v = .ref f ∧ H1 = H) I ⟨.ref f, hs, rfl, rfl⟩) fun u s1 ⟨v, H1, I1, r1, q1⟩ => ?_)
  obtain ⟨rfl, rfl⟩ := q1
  cases r1
  refine PySem.W.callWith_S (h₀ := X.base) I.ok.mod.kin kp (thn (he.run pins s1 σ _ _ I1 ht) fun v s2 ⟨y, H2, I2, ry, a, xs, ey, hxs, q⟩ => ?_) hst
  subst ey
  obtain rfl : v = Value.ref a := ry
  refine StX.star_any I2 hxs fun us s3 I3 rv => ⟨I3.kIn, ?_⟩
  exact run_fn (E := fun _ _ _ => False) (dvs := []) (ds := []) F (hr.mono hk) hb .nil (fun _ _ _ _ _ _ _ z => z.elim) I3 rv (by rw [List.append_nil]; exact q)
end
section
variable {K : PySem.W.Frag} {P : Program} {w : World} {mg : Str → Option Value} {base : Heap} {j i : Nat} {δ : DS} {M : Mu} {te : TE} {k : D → Mu → Prop}
theorem ae_callV {f : Addr} {W : Wt} (hi : δ[i]? = some (some (.ref f))) (A : Held P w K mg base j f (Spc K W)) (h : AE K te δ M fun d M1 => ∃ ds, (d = .lst ds ∨ d = .tup ds) ∧ ∃ Mc R kc, M1 = Mc ++ R ∧ W ds Mc kc ∧ ∀ d Mc', kc d Mc' → k d (Mc' ++ R)) :
    AE K (tCallV P w K mg base j i fun σ H Q => te σ H fun y H1 => ∃ a xs, y = V.ref a ∧ (SqT K H1 a xs ∨ SqL K H1 a xs) ∧ Q xs H1) δ M k := fun σ G H Q rs s f' => by
  obtain ⟨v, hv, rv⟩ := rs.at_ i _ hi
  rw [rep_ref rv] at hv
  refine ⟨f, _, hv, A, h σ G H _ rs s ?_⟩
  rintro d M1 vx G1 H1 ⟨ds, hd, Mc, R, kc, rfl, hw, hk⟩ s1 st1 r1
  have fin : ∀ (a : Addr) (xs : List V), Reps K G1 ds xs → Spc K W xs H1 Q (fun _ _ _ => False) := fun a xs rx => by
    refine ⟨G1, ds, Mc, kc, rx, s1.sub, hw, fun d' M' v' G' H' hd s' st' rv => ?_⟩
    obtain ⟨s3, st3⟩ := s1.join s' st'
    exact f' d' _ v' G' H' (hk d' M' hd) s3 (st1.trans st3) rv
  rcases hd with rfl | rfl
  · obtain ⟨a, xs, rfl, ha, rx⟩ := rep_lst r1
    exact ⟨a, xs, rfl, .inr (.inl (.inl (s1.same _ _ ha))), fin a xs rx⟩
  · obtain ⟨a, xs, rfl, ha, rx⟩ := rep_tup r1
    exact ⟨a, xs, rfl, .inl (Same.seqT s1.same ha), fin a xs rx⟩
end
end Tg
set_option Elab.async false
set_option linter.all false
set_option maxRecDepth 100000
set_option maxHeartbeats 1000000
namespace Tg
open PySem L2 PyProof.Rows
/-! ### written dicts: texts by anything -/
def EntsV : List DictEntry → List (Str × V) → Prop
  | [], kvs => kvs = []
  | e :: r, kvs => ∃ k v s t, kvs = (k, v) :: s ∧ e.key = .str k t ∧ RelV v e.val ∧ EntsV r s
structure KTabV (K : PySem.W.Frag) (w : World) (a : Addr) (kvs : List (Str × V)) : Prop where
  ex : ∃ es n, K.lookup a = some ⟨.type "dict", none, .dict es n, #[]⟩ ∧ PySem.W.KeysLit w.params es.toList ∧ EntsV es.toList kvs
  low : (a == sysModules) = false
theorem EntsV.look : ∀ {es : List DictEntry} {kvs : List (Str × V)}, EntsV es kvs → ∀ z : Str, es.any (·.refKey) = false ∧ ((kvs.lookup z = none ∧ es.find? (·.key.isStr z) = none) ∨ ∃ e v, kvs.lookup z = some v ∧ es.find? (·.key.isStr z) = some e ∧ RelV v e.val)
  | [], _, h, z => by
    unfold EntsV at h
    subst h
    exact ⟨rfl, .inl ⟨rfl, rfl⟩⟩
  | e :: r, _, h, z => by
    unfold EntsV at h
    obtain ⟨k, v, s, t, rfl, e1, e2, h⟩ := h
    obtain ⟨i1, i2⟩ := EntsV.look h z
    have r1 : e.refKey = false := by
      unfold DictEntry.refKey
      rw [e1]
    refine ⟨by rw [List.any_cons, r1, i1]; rfl, ?_⟩
    have r2 : e.key.isStr z = (k == z) := by rw [e1]; rfl
    by_cases c : k = z
    · subst c
      have hb : (k == k) = true := beq_self_eq_true k
      exact .inr ⟨e, v, by simp [List.lookup, hb], by rw [List.find?_cons, r2, hb], e2⟩
    · have hb : (k == z) = false := beq_eq_false_iff_ne.mpr c
      have hb' : (z == k) = false := beq_eq_false_iff_ne.mpr (Ne.symm c)
      rcases i2 with ⟨i3, i4⟩ | ⟨e', v', i3, i4, i5⟩
      · exact .inl ⟨by simp [List.lookup, hb', i3], by rw [List.find?_cons, r2, hb]; exact i4⟩
      · exact .inr ⟨e', v', by simp [List.lookup, hb', i3], by rw [List.find?_cons, r2, hb]; exact i4, i5⟩
section
variable {K : PySem.W.Frag} {w : World} {δ : DS} {M M1 M2 : Mu} {ta tb te to ti tv : TE} {ts : TA} {k : D → Mu → Prop} {i : Nat} {d x y : D} {A : AEnds} {t : TS}
theorem ar_kixV {a : Addr} {kvs : List (Str × V)} {z : Str} {v : V} (tab : KTabV K w a kvs) (h : kvs.lookup z = some v) (r : ∀ G, Rep K G d v) (q : k d M) : AR K (rIxD K w) (.ref a) (.str z) M k := fun vx vy G H Q rx ry s f => by
  obtain ⟨es, n, h1, h2, h3⟩ := tab.ex
  obtain ⟨g1, g2⟩ := h3.look z
  rcases g2 with ⟨g2, _⟩ | ⟨e, v', g2, g3, g4⟩
  · rw [h] at g2; cases g2
  · rw [h] at g2
    cases g2
    refine ⟨a, z, v, rep_ref rx, rep_str ry, ⟨es, n, e.val, h1, h2, ?_, g4⟩, f _ M _ G H q s Step.refl (r G)⟩
    unfold PySem.W.nsIn
    rw [h1]
    dsimp only
    rw [g3]
/-! ### comprehensions: the list that is made stands beside -/
structure Bes (K : PySem.W.Frag) (Dl : Addr) (G1 H1 : Hp) (M1 : Mu) (acc : List D) (M' : Mu) (G' H' : Hp) : Prop where
  xs : ∃ xs, H' Dl = some (.lst xs) ∧ Reps K G' acc xs
  gn : G' Dl = none
  nm : Dl ∉ ads M'
  s : S K G' H' M'
  st : Step (ads M1) G1 H1 (ads M') G' H'
variable {Dl : Addr} {G1 H1 G' H' G2 H2 : Hp} {M' : Mu} {acc : List D}
theorem Bes.start (s1 : S K G1 H1 M1) (nD : H1 Dl = none) : Bes K Dl G1 H1 M1 [] M1 G1 (upd H1 Dl (.lst [])) := by
  have gD : G1 Dl = none := s1.same.free nD
  have nM : ∀ p ∈ M1, p.1 ≠ Dl := fun p hp => by
    obtain ⟨_, o, ho, _⟩ := s1.mu p hp
    exact ne_of_none ho nD
  refine ⟨⟨[], upd_same, Reps.nil⟩, gD, fun z => ?_, ⟨fun b u e => ?_, fun p hp => ?_, s1.nd⟩, ⟨Same.refl _, fun _ _ _ => rfl, fun b o _ e => ?_, fun b e => ?_, fun b hb => .inl hb⟩⟩
  · obtain ⟨p, hp, e⟩ := List.mem_map.mp z
    exact nM p hp e
  · rw [upd_ne (ne_of_none e gD)]
    exact s1.same b u e
  · obtain ⟨g1, o, ho, r⟩ := s1.mu p hp
    exact ⟨g1, o, by rw [upd_ne (nM p hp)]; exact ho, r⟩
  · rw [upd_ne (ne_of_none e nD)]
    exact e
  · by_cases hb : b = Dl
    · subst hb
      rw [upd_same]
      exact fun z => nomatch z
    · rw [upd_ne hb]
      exact e
theorem Bes.go (b : Bes K Dl G1 H1 M1 acc M' G' H') (s2 : S K G2 H2 M2) (st : Step (ads M') G' H' (ads M2) G2 H2) : Bes K Dl G1 H1 M1 acc M2 G2 H2 := by
  obtain ⟨xs, h1, h2⟩ := b.xs
  refine ⟨⟨xs, st.keep _ _ b.nm h1, Reps.mono st.gg _ _ h2⟩, ?_, fun z => ?_, s2, b.st.trans st⟩
  · rw [st.fr Dl (by rw [h1]; exact fun z => nomatch z) b.nm]
    exact b.gn
  · rcases st.own _ z with q | q
    · exact b.nm q
    · rw [h1] at q
      cases q
theorem Bes.app {vy : V} (b : Bes K Dl G1 H1 M1 acc M' G' H') (nD : H1 Dl = none) (r : Rep K G' y vy) : ∃ xs, H' Dl = some (.lst xs) ∧ xs.length = acc.length ∧ Bes K Dl G1 H1 M1 (acc ++ [y]) M' G' (upd H' Dl (.lst (xs ++ [vy]))) := by
  obtain ⟨xs, h1, h2⟩ := b.xs
  refine ⟨xs, h1, h2.len, ⟨xs ++ [vy], upd_same, h2.append (Reps.one r)⟩, b.gn, b.nm, ⟨fun c u e => ?_, fun p hp => ?_, b.s.nd⟩, ⟨b.st.gg, b.st.fr, fun c o hc e => ?_, fun c e => ?_, b.st.own⟩⟩
  · rw [upd_ne (ne_of_none e b.gn)]
    exact b.s.same c u e
  · obtain ⟨g1, o, ho, r⟩ := b.s.mu p hp
    exact ⟨g1, o, by rw [upd_ne (fun z => b.nm (List.mem_map.mpr ⟨p, hp, z⟩))]; exact ho, r⟩
  · rw [upd_ne (ne_of_none e nD)]
    exact b.st.keep c o hc e
  · by_cases hc : c = Dl
    · subst hc
      rw [upd_same]
      exact fun z => nomatch z
    · rw [upd_ne hc]
      exact b.st.alive c e
theorem Bes.mut (b : Bes K Dl G1 H1 M1 acc M' G' H') (nD : H1 Dl = none) : S K G' H' (M' ++ [(Dl, .lst acc)]) ∧ Step (ads M1) G1 H1 (ads (M' ++ [(Dl, .lst acc)])) G' H' := by
  obtain ⟨xs, h1, h2⟩ := b.xs
  refine ⟨⟨b.s.same, fun p hp => ?_, ?_⟩, ⟨b.st.gg, b.st.fr, b.st.keep, b.st.alive, fun c hc => ?_⟩⟩
  · rcases List.mem_append.mp hp with hp | hp
    · exact b.s.mu p hp
    · have e : p = (Dl, .lst acc) := by simpa using hp
      subst e
      exact ⟨b.gn, _, h1, xs, rfl, h2⟩
  · rw [List.map_append, List.nodup_append]
    refine ⟨b.s.nd, by simp, fun c hc e he => ?_⟩
    have e1 : e = Dl := by simpa using he
    subst e1
    exact fun z => b.nm (by rw [← z]; exact hc)
  · simp only [ads, List.map_append, List.mem_append, List.map_cons, List.map_nil, List.mem_singleton] at hc
    rcases hc with hc | hc
    · exact b.st.own c hc
    · rw [hc]
      exact .inr nD
theorem Bes.fin (b : Bes K Dl G1 H1 M1 acc M' G' H') (nD : H1 Dl = none) : ∃ G'', S K G'' H' M' ∧ Step (ads M1) G1 H1 (ads M') G'' H' ∧ Rep K G'' (.lst acc) (.ref Dl) := by
  obtain ⟨xs, h1, h2⟩ := b.xs
  have sD : S K G' H' ([] ++ (Dl, .lst acc) :: M') := ⟨b.s.same, fun p hp => by
    rcases List.mem_cons.mp hp with e | hp
    · subst e
      exact ⟨b.gn, _, h1, xs, rfl, h2⟩
    · exact b.s.mu p hp, by
    show ((Dl, MO.lst acc) :: M' |>.map (·.1)).Nodup
    rw [List.map_cons, List.nodup_cons]
    exact ⟨b.nm, b.s.nd⟩⟩
  obtain ⟨ys, s5, st5, e5, r5⟩ := sD.freeze
  refine ⟨_, s5, ⟨b.st.gg.trans e5, fun c hb hn => ?_, b.st.keep, b.st.alive, b.st.own⟩, r5⟩
  rw [upd_ne (fun z => by rw [z] at hb; exact hb nD)]
  exact b.st.fr c hb hn
/-- one clause, with what is done at the end left open -/
theorem lc_gen {wi : TI} {g : TG} {tt : TT} {vs : List Nat} (og : OwnG vs g) {kk : List D → Mu → Prop}
    (h : AI K wi δ M fun ds M1 => ds.length < sizeLine ∧ ∃ I : Nat → List D → Mu → Prop, I 0 [] M1 ∧
      (∀ i d acc M', ds[i]? = some d → I i acc M' → AG K g d (wipeD δ vs) M' fun δ2 M2 => AT K tt δ2 M2 fun b M3 => (b = true → AE K te δ2 M3 fun y M4 => I (i + 1) (acc ++ [y]) M4) ∧ (b = false → I (i + 1) acc M3)) ∧
      (∀ acc M', I ds.length acc M' → kk acc M')) {σ : L2.St} {G H : Hp} {Q : VK} (rs : RelS K G δ σ) (s : S K G H M)
    (f : ∀ acc M' M1 G1 H1 Dl G' H', kk acc M' → H1 Dl = none → Step (ads M) G H (ads M1) G1 H1 → Bes K Dl G1 H1 M1 acc M' G' H' → Q (.ref Dl) H') : tLc wi g tt te vs σ H Q :=
  h σ G H _ rs s fun ds M1 G1 H1 J ⟨hz, I, h0, hs, he⟩ s1 st1 ok Dl nD => by
    refine ⟨fun i m H' => m = ds.length - i ∧ i ≤ ds.length ∧ ∃ acc M' G', acc.length ≤ i ∧ I i acc M' ∧ Bes K Dl G1 H1 M1 acc M' G' H',
      ⟨ds.length, by simp, Nat.zero_le _, [], M1, G1, Nat.le_refl _, h0, Bes.start s1 nD⟩, ?_⟩
    rintro i m H' ⟨rfl, hi, acc, M', G', hal, hI, b⟩
    obtain ⟨o1, o2⟩ := ok i G' H' M' b.st.gg b.s
    by_cases hl : i < ds.length
    · obtain ⟨hgo, hy⟩ := o1 ds[i] (List.getElem?_eq_getElem hl)
      refine .inr ⟨hgo, fun H2 => ∃ acc M' G', acc.length ≤ i + 1 ∧ I (i + 1) acc M' ∧ Bes K Dl G1 H1 M1 acc M' G' H2, fun H2 q => ⟨ds.length - (i + 1), by omega, rfl, hl, q⟩, fun x H2 y => ?_⟩
      obtain ⟨G2, s2, st2, r2⟩ := hy x H2 y
      have rsw : RelS K G2 (wipeD δ vs) (wipe σ vs) := relS_wipe (rs.mono (st1.gg.trans (b.st.gg.trans st2.gg))) vs
      have body := hs i ds[i] acc M' (List.getElem?_eq_getElem hl) hI x (wipe σ vs) G2 H2 (fun σ2 H3 => tt σ2 H3 fun b' H4 =>
        if b' = true then te σ2 H4 fun y H5 => ∃ acc, H5 Dl = some (.lst acc) ∧ acc.length < sizeLine ∧ (fun H2 => ∃ acc M' G', acc.length ≤ i + 1 ∧ I (i + 1) acc M' ∧ Bes K Dl G1 H1 M1 acc M' G' H2) (upd H5 Dl (.lst (acc ++ [y])))
        else (fun H2 => ∃ acc M' G', acc.length ≤ i + 1 ∧ I (i + 1) acc M' ∧ Bes K Dl G1 H1 M1 acc M' G' H2) H4) r2 rsw s2 ?_
      · have fin := og.run x (wipe σ vs) H2 _ body
        rw [wipe_wipe] at fin
        exact fin
      · intro δ3 M3 σ3 G3 H3 h3 rs3 s3 st3
        refine h3 σ3 G3 H3 _ rs3 s3 fun b' M4 G4 H4 ⟨h4, h5⟩ s4 st4 => ?_
        have b4 := ((b.go s2 st2).go s3 st3).go s4 st4
        cases b' with
        | true =>
          rw [if_pos rfl]
          refine h4 rfl σ3 G4 H4 _ (rs3.mono st4.gg) s4 fun y M5 vy G5 H5 q5 s5 st5 r5 => ?_
          obtain ⟨xs, e1, e2, b5⟩ := (b4.go s5 st5).app nD r5
          exact ⟨xs, e1, by rw [e2]; omega, acc ++ [y], M5, G5, by rw [List.length_append]; exact Nat.succ_le_succ hal, q5, b5⟩
        | false =>
          rw [if_neg Bool.false_ne_true]
          exact ⟨acc, M4, G4, Nat.le_succ_of_le hal, h5 rfl, b4⟩
    · have e : i = ds.length := by omega
      subst e
      exact .inl ⟨o2 rfl, f acc M' M1 G1 H1 Dl G' H' (he acc M' hI) nD st1 b⟩
/-- a comprehension whose list will be changed -/
theorem ae_lcM {wi : TI} {g : TG} {tt : TT} {vs : List Nat} (og : OwnG vs g) (h : AI K wi δ M fun ds M1 => ds.length < sizeLine ∧ ∃ I : Nat → List D → Mu → Prop, I 0 [] M1 ∧
      (∀ i d acc M', ds[i]? = some d → I i acc M' → AG K g d (wipeD δ vs) M' fun δ2 M2 => AT K tt δ2 M2 fun b M3 => (b = true → AE K te δ2 M3 fun y M4 => I (i + 1) (acc ++ [y]) M4) ∧ (b = false → I (i + 1) acc M3)) ∧
      (∀ acc M', I ds.length acc M' → ∀ a, k (.ref a) (M' ++ [(a, .lst acc)]))) : AE K (tLc wi g tt te vs) δ M k := fun σ G H Q rs s f =>
  lc_gen og h rs s fun acc M' M1 G1 H1 Dl G' H' hk nD st1 b => by
    obtain ⟨s2, st2⟩ := b.mut nD
    exact f _ _ _ G' H' (hk Dl) s2 (st1.trans st2) rep_of_ref
/-- two clauses -/
theorem ae_lc2 {wi wi1 : TI} {g g1 : TG} {tt tt1 : TT} {vs vs1 : List Nat} (og : OwnG vs g) (og1 : OwnG vs1 g1)
    (h : AI K wi δ M fun ds M1 => ∃ I : Nat → List D → Mu → Prop, I 0 [] M1 ∧
      (∀ i d acc M', ds[i]? = some d → I i acc M' → AG K g d (wipeD δ vs) M' fun δ2 M2 => AT K tt δ2 M2 fun b M3 => (b = true → AI K wi1 δ2 M3 fun es M4 => ∃ I1 : Nat → List D → Mu → Prop, I1 0 acc M4 ∧
          (∀ j e acc1 M5, es[j]? = some e → I1 j acc1 M5 → acc1.length < sizeLine ∧ AG K g1 e (wipeD δ2 vs1) M5 fun δ3 M6 => AT K tt1 δ3 M6 fun b1 M7 => (b1 = true → AE K te δ3 M7 fun y M8 => I1 (j + 1) (acc1 ++ [y]) M8) ∧ (b1 = false → I1 (j + 1) acc1 M7)) ∧
          (∀ acc1 M5, I1 es.length acc1 M5 → I (i + 1) acc1 M5)) ∧ (b = false → I (i + 1) acc M3)) ∧
      (∀ acc M', I ds.length acc M' → k (.lst acc) M')) : AE K (tLc2 wi g tt wi1 g1 tt1 te vs vs1) δ M k := fun σ G H Q rs s f =>
  h σ G H _ rs s fun ds M1 G1 H1 J ⟨I, h0, hs, he⟩ s1 st1 ok Dl nD => by
    refine ⟨fun i m H' => m = ds.length - i ∧ i ≤ ds.length ∧ ∃ acc M' G', I i acc M' ∧ Bes K Dl G1 H1 M1 acc M' G' H',
      ⟨ds.length, by simp, Nat.zero_le _, [], M1, G1, h0, Bes.start s1 nD⟩, ?_⟩
    rintro i m H' ⟨rfl, hi, acc, M', G', hI, b⟩
    obtain ⟨o1, o2⟩ := ok i G' H' M' b.st.gg b.s
    by_cases hl : i < ds.length
    · obtain ⟨hgo, hy⟩ := o1 ds[i] (List.getElem?_eq_getElem hl)
      generalize hN : (fun H2 => ∃ acc M' G', I (i + 1) acc M' ∧ Bes K Dl G1 H1 M1 acc M' G' H2 : Hp → Prop) = Nx
      refine .inr ⟨hgo, Nx, fun H2 q => ⟨ds.length - (i + 1), by omega, rfl, hl, by rw [← hN] at q; exact q⟩, fun x H2 y => ?_⟩
      obtain ⟨G2, s2, st2, r2⟩ := hy x H2 y
      have rsw : RelS K G2 (wipeD δ vs) (wipe σ vs) := relS_wipe (rs.mono (st1.gg.trans (b.st.gg.trans st2.gg))) vs
      have body := hs i ds[i] acc M' (List.getElem?_eq_getElem hl) hI x (wipe σ vs) G2 H2 (fun σ2 H3 => tt σ2 H3 fun b' H4 =>
        if b' = true then wi1 σ2 H4 fun J1 H4 => ∃ W1 : Nat → Nat → Hp → Prop, (∃ m, W1 0 m H4) ∧ ∀ j k H, W1 j k H →
          (J1.stop j H ∧ Nx H) ∨ (J1.go j H ∧ ∃ Nx1 : Hp → Prop, (∀ H', Nx1 H' → ∃ k', k' < k ∧ W1 (j + 1) k' H') ∧ ∀ x H', J1.yld j H x H' → g1 x (wipe σ2 vs1) H' fun σ3 H5 => wipe σ3 vs1 = wipe σ2 vs1 ∧ tt1 σ3 H5 fun b H6 =>
            if b = true then te σ3 H6 fun y H7 => ∃ acc, H7 Dl = some (.lst acc) ∧ acc.length < sizeLine ∧ Nx1 (upd H7 Dl (.lst (acc ++ [y]))) else Nx1 H6)
        else Nx H4) r2 rsw s2 ?_
      · have fin := og.run x (wipe σ vs) H2 _ body
        rw [wipe_wipe] at fin
        exact fin
      · intro δ3 M3 σ3 G3 H3 h3 rs3 s3 st3
        refine h3 σ3 G3 H3 _ rs3 s3 fun b' M4 G4 H4 ⟨h4, h5⟩ s4 st4 => ?_
        have b4 := ((b.go s2 st2).go s3 st3).go s4 st4
        cases b' with
        | false =>
          rw [if_neg Bool.false_ne_true, ← hN]
          exact ⟨acc, M4, G4, h5 rfl, b4⟩
        | true =>
          rw [if_pos rfl]
          refine h4 rfl σ3 G4 H4 _ (rs3.mono st4.gg) s4 fun es M5 G5 H5 J1 ⟨I1, h10, h1s, h1e⟩ s5 st5 ok1 => ?_
          have b5 := b4.go s5 st5
          refine ⟨fun j m H' => m = es.length - j ∧ j ≤ es.length ∧ ∃ acc M' G', I1 j acc M' ∧ Same G5 G' ∧ Bes K Dl G1 H1 M1 acc M' G' H', ⟨es.length, by simp, Nat.zero_le _, acc, M5, G5, h10, Same.refl _, b5⟩, ?_⟩
          rintro j m H6 ⟨rfl, hj, acc1, M6, G6, hI1, e6, b6⟩
          obtain ⟨p1, p2⟩ := ok1 j G6 H6 M6 e6 b6.s
          by_cases hl1 : j < es.length
          · obtain ⟨hgo1, hy1⟩ := p1 es[j] (List.getElem?_eq_getElem hl1)
            generalize hN1 : (fun H2 => ∃ acc M' G', I1 (j + 1) acc M' ∧ Same G5 G' ∧ Bes K Dl G1 H1 M1 acc M' G' H2 : Hp → Prop) = Nx1
            refine .inr ⟨hgo1, Nx1, fun H2 q => ⟨es.length - (j + 1), by omega, rfl, hl1, by rw [← hN1] at q; exact q⟩, fun x H7 y => ?_⟩
            obtain ⟨G7, s7, st7, r7⟩ := hy1 x H7 y
            have e7 := e6.trans st7.gg
            have rsw1 : RelS K G7 (wipeD δ3 vs1) (wipe σ3 vs1) := relS_wipe (rs3.mono ((st4.gg.trans st5.gg).trans e7)) vs1
            obtain ⟨hsz, hb⟩ := h1s j es[j] acc1 M6 (List.getElem?_eq_getElem hl1) hI1
            have body1 := hb x (wipe σ3 vs1) G7 H7 (fun σ3 H5 => tt1 σ3 H5 fun b H6 =>
              if b = true then te σ3 H6 fun y H7 => ∃ acc, H7 Dl = some (.lst acc) ∧ acc.length < sizeLine ∧ Nx1 (upd H7 Dl (.lst (acc ++ [y]))) else Nx1 H6) r7 rsw1 s7 ?_
            · have fin := og1.run x (wipe σ3 vs1) H7 _ body1
              rw [wipe_wipe] at fin
              exact fin
            · intro δ8 M8 σ8 G8 H8 h8 rs8 s8 st8
              refine h8 σ8 G8 H8 _ rs8 s8 fun b9 M9 G9 H9 ⟨h9, h10'⟩ s9 st9 => ?_
              have bb := ((b6.go s7 st7).go s8 st8).go s9 st9
              have e9 := e7.trans (st8.gg.trans st9.gg)
              cases b9 with
              | true =>
                rw [if_pos rfl]
                refine h9 rfl σ8 G9 H9 _ (rs8.mono st9.gg) s9 fun y M10 vy G10 H10 q10 s10 st10 r10 => ?_
                obtain ⟨xs, x1, x2, b11⟩ := (bb.go s10 st10).app nD r10
                rw [← hN1]
                exact ⟨xs, x1, by rw [x2]; exact hsz, acc1 ++ [y], M10, G10, q10, e9.trans st10.gg, b11⟩
              | false =>
                rw [if_neg Bool.false_ne_true, ← hN1]
                exact ⟨acc1, M9, G9, h10' rfl, e9, bb⟩
          · have e : j = es.length := by omega
            subst e
            refine .inl ⟨p2 rfl, ?_⟩
            rw [← hN]
            exact ⟨acc1, M6, G6, h1e acc1 M6 hI1, b6⟩
    · have e : i = ds.length := by omega
      subst e
      obtain ⟨G'', s2, st2, r2⟩ := b.fin nD
      exact .inl ⟨o2 rfl, f _ M' _ G'' H' (he acc M' hI) s2 (st1.trans st2) r2⟩
end
end Tg
set_option Elab.async false
set_option linter.all false
set_option maxRecDepth 100000
set_option maxHeartbeats 1000000
namespace Tg
open PySem L2 PyProof.Rows
section
variable {K : PySem.W.Frag} {w : World} {δ : DS} {M M1 M2 : Mu} {ta tb te td ty to ti tv : TE} {ts : TA} {k : D → Mu → Prop} {i : Nat} {d x y : D} {A : AEnds} {t : TS}
/-- the pairs of a display -/
def APs (K : PySem.W.Frag) (δ : DS) : List (TE × TE) → Mu → (List (D × D) → Mu → Prop) → Prop
  | [], M, k => k [] M
  | (tk, tv) :: r, M, k => AE K tk δ M fun x M1 => AE K tv δ M1 fun y M2 => APs K δ r M2 fun ps M3 => k ((x, y) :: ps) M3
def RepPs (K : PySem.W.Frag) (G : Hp) : List (D × D) → List (V × V) → Prop
  | [], xs => xs = []
  | (a, b) :: ds, xs => ∃ x y r, xs = (x, y) :: r ∧ Rep K G a x ∧ Rep K G b y ∧ RepPs K G ds r
theorem aps_run : ∀ {trs : List (TE × TE)} {M : Mu} {k : List (D × D) → Mu → Prop} {σ : L2.St} {G H : Hp} {Q : List (V × V) → Hp → Prop}, APs K δ trs M k → RelS K G δ σ → S K G H M →
    (∀ ps M' vs G' H', k ps M' → S K G' H' M' → Step (ads M) G H (ads M') G' H' → RepPs K G' ps vs → Q vs H') → tPairs trs σ H Q
  | [], M, k, σ, G, H, Q, h, rs, s, f => f [] M [] G H h s Step.refl rfl
  | (tk, tv) :: r, M, k, σ, G, H, Q, h, rs, s, f => by
    unfold APs at h
    unfold tPairs
    refine h σ G H _ rs s fun x M1 vx G1 H1 h1 s1 st1 r1 => h1 σ G1 H1 _ (rs.mono st1.gg) s1 fun y M2 vy G2 H2 h2 s2 st2 r2 => ?_
    refine aps_run h2 (rs.mono (st1.trans st2).gg) s2 fun ps M3 vs G3 H3 h3 s3 st3 r3 => ?_
    refine f _ M3 _ G3 H3 h3 s3 ((st1.trans st2).trans st3) ?_
    unfold RepPs
    exact ⟨vx, vy, vs, rfl, Rep.mono (st2.trans st3).gg _ _ r1, Rep.mono st3.gg _ _ r2, r3⟩
def mergeD (kvs more : List (Key × D)) : List (Key × D) := more.foldl (fun acc kv => putD acc kv.1 kv.2) kvs
theorem repPs_key {G : Hp} : ∀ {kvs : List (Key × D)} {vs : List (V × V)}, RepPs K G (kvs.map fun p => (keyD p.1, p.2)) vs → ∃ xs : List (Key × V), vs = xs.map (fun kv => (kV kv.1, kv.2)) ∧ RepKV K G kvs xs
  | [], vs, h => by
    unfold RepPs at h
    rw [List.map_nil] at h
    exact ⟨[], h, by unfold RepKV; rfl⟩
  | (q, d) :: r, vs, h => by
    rw [List.map_cons] at h
    unfold RepPs at h
    obtain ⟨x, y, r', rfl, h1, h2, h3⟩ := h
    obtain ⟨xs, rfl, h4⟩ := repPs_key h3
    exact ⟨(q, y) :: xs, by rw [rep_key h1]; rfl, by unfold RepKV; exact ⟨y, xs, rfl, h2, h4⟩⟩
theorem repKV_merge {G : Hp} : ∀ {more : List (Key × D)} {ms : List (Key × V)} {kvs : List (Key × D)} {xs : List (Key × V)}, RepKV K G more ms → RepKV K G kvs xs → RepKV K G (mergeD kvs more) (mergeK xs ms)
  | [], _, kvs, xs, h, g => by
    unfold RepKV at h
    rw [h]
    exact g
  | (q, d) :: r, _, kvs, xs, h, g => by
    unfold RepKV at h
    obtain ⟨x, r', rfl, h1, h2⟩ := h
    show RepKV K G (mergeD (putD kvs q d) r) (mergeK (putK xs q x) r')
    exact repKV_merge h2 (repKV_put h1 g)
theorem mergeD_len : ∀ (more kvs : List (Key × D)), (mergeD kvs more).length ≤ kvs.length + more.length
  | [], kvs => by show kvs.length ≤ kvs.length + 0; omega
  | p :: r, kvs => by
    have h1 := mergeD_len r (putD kvs p.1 p.2)
    have h2 := put_len (kvs := kvs) (q := p.1) (v := p.2)
    show (mergeD (putD kvs p.1 p.2) r).length ≤ _
    rw [List.length_cons]; omega
/-- a display that may be changed later -/
theorem ae_disp {trs : List (TE × TE)} (h : APs K δ trs M fun ps M' => ∃ kvs : List (Key × D), ps = kvs.map (fun p => (keyD p.1, p.2)) ∧ kvs.length ≤ 15 ∧ ∀ a, k (.ref a) (M' ++ [(a, .dK (mergeD [] kvs))])) : AE K (tDisp trs) δ M k := fun σ G H Q rs s f p hp => by
  have hpM : p ∉ ads M := fun z => by
    obtain ⟨q, hq, e⟩ := List.mem_map.mp z
    obtain ⟨_, o, ho, _⟩ := s.mu q hq
    rw [e, hp] at ho
    cases ho
  obtain ⟨s2, st2⟩ := s.junk (o := .dK []) hp
  refine aps_run h rs s2 ?_
  rintro ps M' vs G' H' ⟨kvs, rfl, hl, q⟩ s3 st3 r3
  have hd := st3.keep p _ hpM upd_same
  have st := st2.trans st3
  obtain ⟨xs, rfl, rk⟩ := repPs_key r3
  have gp : G' p = none := by
    rw [st3.fr p (by rw [upd_same]; exact fun z => nomatch z) hpM]
    exact s.same.free hp
  have nM : ∀ q ∈ M', q.1 ≠ p := fun q hq e => by
    rcases st3.own p (List.mem_map.mpr ⟨q, hq, e⟩) with z | z
    · exact hpM z
    · rw [upd_same] at z
      cases z
  have rm : RepKV K G' (mergeD [] kvs) (mergeK [] xs) := repKV_merge rk (by unfold RepKV; rfl)
  refine ⟨hd, xs, rfl, by rw [repKV_len rk]; exact hl, f _ _ _ _ _ (q p) ⟨fun b u e => ?_, fun q hq => ?_, ?_⟩ ⟨st.gg, st.fr, fun b o hb e => ?_, fun b e => ?_, fun b hb => ?_⟩ rep_of_ref⟩
  · rw [upd_ne (ne_of_none e gp)]
    exact s3.same b u e
  · rcases List.mem_append.mp hq with hq | hq
    · obtain ⟨g1, o1, h1, r1⟩ := s3.mu q hq
      exact ⟨g1, o1, by rw [upd_ne (nM q hq)]; exact h1, r1⟩
    · have e : q = (p, .dK (mergeD [] kvs)) := by simpa using hq
      subst e
      exact ⟨gp, _, upd_same, _, rfl, rm⟩
  · rw [List.map_append, List.nodup_append]
    refine ⟨s3.nd, by simp, fun c hc e he => ?_⟩
    have e1 : e = p := by simpa using he
    subst e1
    obtain ⟨q, hq, rfl⟩ := List.mem_map.mp hc
    exact nM q hq
  · rw [upd_ne (ne_of_none e hp)]
    exact st.keep b o hb e
  · by_cases hb : b = p
    · subst hb
      rw [upd_same]
      exact fun z => nomatch z
    · rw [upd_ne hb]
      exact st.alive b e
  · simp only [ads, List.map_append, List.mem_append, List.map_cons, List.map_nil, List.mem_singleton] at hb
    rcases hb with hb | hb
    · exact st.own b hb
    · rw [hb]
      exact .inr hp
/-- a dict that may change, read -/
theorem ae_dgetM (h : AE K td δ M fun o M1 => AE K ty δ M1 fun j M2 => ∃ a kvs N1 N2 key v, o = .ref a ∧ j = keyD key ∧ M2 = N1 ++ (a, MO.dK kvs) :: N2 ∧ valD kvs key = some v ∧ k v M2) : AE K (tDGet td ty) δ M k := fun σ G H Q rs s f =>
  h σ G H _ rs s fun o M1 vo G1 H1 h1 s1 st1 r1 => h1 σ G1 H1 _ (rs.mono st1.gg) s1 fun j M2 vj G2 H2 ⟨a, kvs, N1, N2, key, v, e1, e2, e3, e4, q⟩ s2 st2 r2 => by
    subst e1 e2
    obtain ⟨g0, o, ho, r⟩ := s2.mu (a, .dK kvs) (by rw [e3]; simp)
    obtain ⟨xs, rfl, rx⟩ := r
    obtain ⟨v', hv, rv⟩ := (repKV_get (q := key) rx).1 v e4
    refine ⟨a, v', rep_ref r1, ?_, f v M2 v' G2 H2 q s2 (st1.trans st2) rv⟩
    rw [rep_key r2, ← hv]
    exact DGet.k ho
/-- what may change, sorted otherwise -/
theorem ae_perm {M' : Mu} (hp : M.Perm M') (h : AE K te δ M' k) : AE K te δ M k := fun σ G H Q rs s f =>
  h σ G H Q rs (s.perm hp) fun d M2 v G2 H2 q s2 st2 r2 => f d M2 v G2 H2 q s2 (st2.perm (fun b => (ads_perm hp b).symm) fun _ => Iff.rfl) r2
theorem as_perm {M' : Mu} (hp : M.Perm M') (h : AS K t δ M' A) : AS K t δ M A := fun σ G H E rs s f =>
  h σ G H E rs (s.perm hp) ⟨fun δ2 M2 σ2 G2 H2 q r s2 st2 => f.nx δ2 M2 σ2 G2 H2 q r s2 (st2.perm (fun b => (ads_perm hp b).symm) fun _ => Iff.rfl),
    fun d M2 v G2 H2 q s2 st2 r2 => f.rt d M2 v G2 H2 q s2 (st2.perm (fun b => (ads_perm hp b).symm) fun _ => Iff.rfl) r2,
    fun δ2 M2 σ2 G2 H2 q r s2 st2 => f.bk δ2 M2 σ2 G2 H2 q r s2 (st2.perm (fun b => (ads_perm hp b).symm) fun _ => Iff.rfl),
    fun δ2 M2 σ2 G2 H2 q r s2 st2 => f.ct δ2 M2 σ2 G2 H2 q r s2 (st2.perm (fun b => (ads_perm hp b).symm) fun _ => Iff.rfl),
    fun fs M2 d G2 H2 q s2 st2 => f.xs fs M2 d G2 H2 q s2 (st2.perm (fun b => (ads_perm hp b).symm) fun _ => Iff.rfl)⟩
end
end Tg
namespace Tg
open PySem L2 PyProof.Rows
/-! ### constants of the top -/
inductive CAll (K : PySem.W.Frag) (G : Hp) : List Value → List D → Prop
  | nil : CAll K G [] []
  | cons {u : Value} {us : List Value} {d : D} {ds : List D} : (∃ v, RelV v u ∧ Rep K G d v) → CAll K G us ds → CAll K G (u :: us) (d :: ds)
theorem CAll.vals {K : PySem.W.Frag} {G : Hp} : ∀ {us : List Value} {ds : List D}, CAll K G us ds → ∃ vs, Vals vs us ∧ Reps K G ds vs
  | _, _, .nil => ⟨[], .nil, Reps.nil⟩
  | _, _, .cons ⟨v, h1, h2⟩ t => by
    obtain ⟨vs, h3, h4⟩ := CAll.vals t
    exact ⟨v :: vs, .cons h1 h3, Reps.cons h2 h4⟩
theorem rep_ctup {K : PySem.W.Frag} {G : Hp} {a : Addr} {dd : Option Addr} {its : List Value} {ds : List D} {n : Nat} {sl : Array (Option Value)} (hl : K.lookup a = some ⟨.type "tuple", dd, .seq its.toArray n, sl⟩) (hz : its.length ≤ sizeLine) (h : CAll K G its ds) : Rep K G (.tup ds) (.ref a) := by
  obtain ⟨vs, h1, h2⟩ := h.vals
  exact rep_mk_tup (xs := vs) (.inr ⟨_, its.toArray, n, hl, rfl, rfl, by simpa using hz, by simpa using h1⟩) h2
/-- a def's promise, by its address -/
theorem held_of {P : Program} {w : World} {K : PySem.W.Frag} {mg : Str → Option Value} {base : Heap} {k : Nat} {x : Str} {sp : Sp} {f : Addr} (c : C8.Cal P w K mg base k x sp []) (hm : mg x = some (.ref f)) : Held P w K mg base k f sp := by
  obtain ⟨f', fd, ps, ds, F, hm', kp, b, v⟩ := c.ex
  have e : f' = f := by
    have := hm'.symm.trans hm
    injection this with this
    injection this
  subst e
  cases v
  exact ⟨fd, ps, F, kp, b⟩
end Tg

set_option Elab.async false
set_option linter.all false
set_option maxRecDepth 100000
set_option maxHeartbeats 4000000
namespace PK
open PySem L2 PyProof.Rows Tg
open C8 (Cal pe_c pe_mk)
def topS (i : Nat) : Stmt := PySem.Challenge.pw_tongues_k45_values.main.body.getD i (.Pass ⟨0, 0, 0, 0⟩)
/-- a def of the top -/
structure DefT (K : PySem.W.Frag) (mg : Str → Option Value) (x : Str) (st : Stmt) (ps : List Str) : Prop where
  ex : ∃ f fd, Fun K x x st f fd ∧ mg x = some (.ref f) ∧ Binds K fd ps []
theorem cal_of {P : Program} {w : World} {K : PySem.W.Frag} {mg : Str → Option Value} {base : Heap} {x : Str} {st : Stmt} {ps : List Str} {k : Nat} {sp : Sp} (D : DefT K mg x st ps)
    (ok : ∀ f fd, Fun K x x st f fd → FnOk P w K mg base CX0 k f fd ps sp) : Cal P w K mg base k x sp [] := by
  obtain ⟨f, fd, F, m, b⟩ := D.ex
  exact ⟨f, fd, ps, [], ok f fd F, m, F.kp, b, .nil⟩

def cst_ABSENT : List Str := [tx [97, 98, 115, 101, 110, 116]]
def cst_DIGITS : List Nat := [48, 49, 50, 51, 52, 53, 54, 55, 56, 57]
def cst_STEPS : List (Str × Str) := [(tx [115, 117, 109], tx [97, 100, 100]), (tx [97, 108, 108], tx [97, 110, 100]), (tx [97, 110, 121], tx [111, 114]), (tx [99, 111, 108, 108, 101, 99, 116], tx [119, 105, 116, 104]), (tx [106, 111, 105, 110], tx [97, 112, 112, 101, 110, 100])]

abbrev s_settled : Stmt := topS 7
theorem sc_settled : FnScope ["value"] ["value"] (defScope s_settled) := ⟨rfl, rfl, rfl, by decide +kernel, rfl, by decide +kernel, by decide +kernel⟩
abbrev s_is_too_large : Stmt := topS 8
theorem sc_is_too_large : FnScope ["value"] ["value"] (defScope s_is_too_large) := ⟨rfl, rfl, rfl, by decide +kernel, rfl, by decide +kernel, by decide +kernel⟩
abbrev s_is_large_term : Stmt := topS 9
theorem sc_is_large_term : FnScope ["term", "layer", "many", "height", "one", "below"] ["term"] (defScope s_is_large_term) := ⟨rfl, rfl, rfl, by decide +kernel, rfl, by decide +kernel, by decide +kernel⟩
abbrev s_opposite : Stmt := topS 10
theorem sc_opposite : FnScope ["value"] ["value"] (defScope s_opposite) := ⟨rfl, rfl, rfl, by decide +kernel, rfl, by decide +kernel, by decide +kernel⟩
abbrev s_negative : Stmt := topS 11
theorem sc_negative : FnScope ["value"] ["value"] (defScope s_negative) := ⟨rfl, rfl, rfl, by decide +kernel, rfl, by decide +kernel, by decide +kernel⟩
abbrev s_length : Stmt := topS 12
theorem sc_length : FnScope ["value"] ["value"] (defScope s_length) := ⟨rfl, rfl, rfl, by decide +kernel, rfl, by decide +kernel, by decide +kernel⟩
abbrev s_shown : Stmt := topS 13
theorem sc_shown : FnScope ["value"] ["value"] (defScope s_shown) := ⟨rfl, rfl, rfl, by decide +kernel, rfl, by decide +kernel, by decide +kernel⟩
abbrev s_parsed : Stmt := topS 14
theorem sc_parsed : FnScope ["value", "digits", "digit"] ["value"] (defScope s_parsed) := ⟨rfl, rfl, rfl, by decide +kernel, rfl, by decide +kernel, by decide +kernel⟩
abbrev s_label : Stmt := topS 15
theorem sc_label : FnScope ["value"] ["value"] (defScope s_label) := ⟨rfl, rfl, rfl, by decide +kernel, rfl, by decide +kernel, by decide +kernel⟩
abbrev s_size : Stmt := topS 16
theorem sc_size : FnScope ["value"] ["value"] (defScope s_size) := ⟨rfl, rfl, rfl, by decide +kernel, rfl, by decide +kernel, by decide +kernel⟩
abbrev s_named : Stmt := topS 17
theorem sc_named : FnScope ["value"] ["value"] (defScope s_named) := ⟨rfl, rfl, rfl, by decide +kernel, rfl, by decide +kernel, by decide +kernel⟩
abbrev s_added : Stmt := topS 18
theorem sc_added : FnScope ["first", "second"] ["first", "second"] (defScope s_added) := ⟨rfl, rfl, rfl, by decide +kernel, rfl, by decide +kernel, by decide +kernel⟩
abbrev s_subtracted : Stmt := topS 19
theorem sc_subtracted : FnScope ["first", "second"] ["first", "second"] (defScope s_subtracted) := ⟨rfl, rfl, rfl, by decide +kernel, rfl, by decide +kernel, by decide +kernel⟩
abbrev s_multiplied : Stmt := topS 20
theorem sc_multiplied : FnScope ["first", "second"] ["first", "second"] (defScope s_multiplied) := ⟨rfl, rfl, rfl, by decide +kernel, rfl, by decide +kernel, by decide +kernel⟩
abbrev s_quotient : Stmt := topS 21
theorem sc_quotient : FnScope ["first", "second", "many"] ["first", "second"] (defScope s_quotient) := ⟨rfl, rfl, rfl, by decide +kernel, rfl, by decide +kernel, by decide +kernel⟩
abbrev s_remainder : Stmt := topS 22
theorem sc_remainder : FnScope ["first", "second"] ["first", "second"] (defScope s_remainder) := ⟨rfl, rfl, rfl, by decide +kernel, rfl, by decide +kernel, by decide +kernel⟩
abbrev s_less : Stmt := topS 23
theorem sc_less : FnScope ["first", "second"] ["first", "second"] (defScope s_less) := ⟨rfl, rfl, rfl, by decide +kernel, rfl, by decide +kernel, by decide +kernel⟩
abbrev s_same : Stmt := topS 24
theorem sc_same : FnScope ["first", "second"] ["first", "second"] (defScope s_same) := ⟨rfl, rfl, rfl, by decide +kernel, rfl, by decide +kernel, by decide +kernel⟩
abbrev s_both : Stmt := topS 25
theorem sc_both : FnScope ["first", "second"] ["first", "second"] (defScope s_both) := ⟨rfl, rfl, rfl, by decide +kernel, rfl, by decide +kernel, by decide +kernel⟩
abbrev s_either : Stmt := topS 26
theorem sc_either : FnScope ["first", "second"] ["first", "second"] (defScope s_either) := ⟨rfl, rfl, rfl, by decide +kernel, rfl, by decide +kernel, by decide +kernel⟩
abbrev s_appended : Stmt := topS 27
theorem sc_appended : FnScope ["first", "second"] ["first", "second"] (defScope s_appended) := ⟨rfl, rfl, rfl, by decide +kernel, rfl, by decide +kernel, by decide +kernel⟩
abbrev s_extended : Stmt := topS 28
theorem sc_extended : FnScope ["first", "second"] ["first", "second"] (defScope s_extended) := ⟨rfl, rfl, rfl, by decide +kernel, rfl, by decide +kernel, by decide +kernel⟩
abbrev s_argument : Stmt := topS 29
theorem sc_argument : FnScope ["first", "second"] ["first", "second"] (defScope s_argument) := ⟨rfl, rfl, rfl, by decide +kernel, rfl, by decide +kernel, by decide +kernel⟩
abbrev s_worked : Stmt := topS 33
theorem sc_worked : FnScope ["head", "operands", "operation"] ["head", "operands"] (defScope s_worked) := ⟨rfl, rfl, rfl, by decide +kernel, rfl, by decide +kernel, by decide +kernel⟩
abbrev s_gathered : Stmt := topS 34
theorem sc_gathered : FnScope ["head", "values", "between", "total", "number", "value"] ["head", "values", "between"] (defScope s_gathered) := ⟨rfl, rfl, rfl, by decide +kernel, rfl, by decide +kernel, by decide +kernel⟩
abbrev s__law_pool : Stmt := topS 36
theorem sc__law_pool : FnScope ["script", "cell"] ["script"] (defScope s__law_pool) := ⟨rfl, rfl, rfl, by decide +kernel, rfl, by decide +kernel, by decide +kernel⟩
abbrev s__law_take : Stmt := topS 37
theorem sc__law_take : FnScope ["pool", "many", "digit", "cell", "mixed"] ["pool", "many"] (defScope s__law_take) := ⟨rfl, rfl, rfl, by decide +kernel, rfl, by decide +kernel, by decide +kernel⟩
abbrev s__law_integer : Stmt := topS 38
theorem sc__law_integer : FnScope ["pool", "kind", "number", "k"] ["pool"] (defScope s__law_integer) := ⟨rfl, rfl, rfl, by decide +kernel, rfl, by decide +kernel, by decide +kernel⟩
abbrev s__law_text : Stmt := topS 39
theorem sc__law_text : FnScope ["pool", "signs", "size_v", "base", "k"] ["pool"] (defScope s__law_text) := ⟨rfl, rfl, rfl, by decide +kernel, rfl, by decide +kernel, by decide +kernel⟩
abbrev s__law_term : Stmt := topS 40
theorem sc__law_term : FnScope ["pool", "many", "below", "k"] ["pool"] (defScope s__law_term) := ⟨rfl, rfl, rfl, by decide +kernel, rfl, by decide +kernel, by decide +kernel⟩
abbrev s__law_value : Stmt := topS 41
theorem sc__law_value : FnScope ["pool", "sort"] ["pool", "sort"] (defScope s__law_value) := ⟨rfl, rfl, rfl, by decide +kernel, rfl, by decide +kernel, by decide +kernel⟩
abbrev s__law_size : Stmt := topS 42
theorem sc__law_size : FnScope ["term", "below"] ["term"] (defScope s__law_size) := ⟨rfl, rfl, rfl, by decide +kernel, rfl, by decide +kernel, by decide +kernel⟩
abbrev s__law_settled : Stmt := topS 43
theorem sc__law_settled : FnScope ["value"] ["value"] (defScope s__law_settled) := ⟨rfl, rfl, rfl, by decide +kernel, rfl, by decide +kernel, by decide +kernel⟩
abbrev s__law_quotient : Stmt := topS 44
theorem sc__law_quotient : FnScope ["left", "right", "found"] ["left", "right"] (defScope s__law_quotient) := ⟨rfl, rfl, rfl, by decide +kernel, rfl, by decide +kernel, by decide +kernel⟩
abbrev s__law_parsed : Stmt := topS 45
theorem sc__law_parsed : FnScope ["text", "sign"] ["text"] (defScope s__law_parsed) := ⟨rfl, rfl, rfl, by decide +kernel, rfl, by decide +kernel, by decide +kernel⟩
abbrev s__law_one : Stmt := topS 46
theorem sc__law_one : FnScope ["head", "value"] ["head", "value"] (defScope s__law_one) := ⟨rfl, rfl, rfl, by decide +kernel, rfl, by decide +kernel, by decide +kernel⟩
abbrev s__law_two : Stmt := topS 47
theorem sc__law_two : FnScope ["head", "one", "other"] ["head", "one", "other"] (defScope s__law_two) := ⟨rfl, rfl, rfl, by decide +kernel, rfl, by decide +kernel, by decide +kernel⟩
abbrev s__law_worked : Stmt := topS 48
theorem sc__law_worked : FnScope ["head", "operands"] ["head", "operands"] (defScope s__law_worked) := ⟨rfl, rfl, rfl, by decide +kernel, rfl, by decide +kernel, by decide +kernel⟩
abbrev s__law_operation : Stmt := topS 49
theorem sc__law_operation : FnScope ["pool", "rows", "sort"] ["pool"] (defScope s__law_operation) := ⟨rfl, rfl, rfl, by decide +kernel, rfl, by decide +kernel, by decide +kernel⟩
abbrev s__law_over : Stmt := topS 50
theorem sc__law_over : FnScope ["head", "values", "between", "found", "steps", "value", "k"] ["head", "values", "between"] (defScope s__law_over) := ⟨rfl, rfl, rfl, by decide +kernel, rfl, by decide +kernel, by decide +kernel⟩
abbrev s__law_same : Stmt := topS 51
theorem sc__law_same : FnScope ["actual", "due"] ["actual", "due"] (defScope s__law_same) := ⟨rfl, rfl, rfl, by decide +kernel, rfl, by decide +kernel, by decide +kernel⟩
abbrev s_law : Stmt := topS 52
theorem sc_law : FnScope ["script", "pool", "row", "operands", "sort", "head", "values", "k", "between", "value"] ["script"] (defScope s_law) := ⟨rfl, rfl, rfl, by decide +kernel, rfl, by decide +kernel, by decide +kernel⟩

structure Top (K : PySem.W.Frag) (mg : Str → Option Value) (w : World) : Prop where
  d_settled : DefT K mg "settled" s_settled ["value"]
  d_is_too_large : DefT K mg "is_too_large" s_is_too_large ["value"]
  d_is_large_term : DefT K mg "is_large_term" s_is_large_term ["term"]
  d_opposite : DefT K mg "opposite" s_opposite ["value"]
  d_negative : DefT K mg "negative" s_negative ["value"]
  d_length : DefT K mg "length" s_length ["value"]
  d_shown : DefT K mg "shown" s_shown ["value"]
  d_parsed : DefT K mg "parsed" s_parsed ["value"]
  d_label : DefT K mg "label" s_label ["value"]
  d_size : DefT K mg "size" s_size ["value"]
  d_named : DefT K mg "named" s_named ["value"]
  d_added : DefT K mg "added" s_added ["first", "second"]
  d_subtracted : DefT K mg "subtracted" s_subtracted ["first", "second"]
  d_multiplied : DefT K mg "multiplied" s_multiplied ["first", "second"]
  d_quotient : DefT K mg "quotient" s_quotient ["first", "second"]
  d_remainder : DefT K mg "remainder" s_remainder ["first", "second"]
  d_less : DefT K mg "less" s_less ["first", "second"]
  d_same : DefT K mg "same" s_same ["first", "second"]
  d_both : DefT K mg "both" s_both ["first", "second"]
  d_either : DefT K mg "either" s_either ["first", "second"]
  d_appended : DefT K mg "appended" s_appended ["first", "second"]
  d_extended : DefT K mg "extended" s_extended ["first", "second"]
  d_argument : DefT K mg "argument" s_argument ["first", "second"]
  d_worked : DefT K mg "worked" s_worked ["head", "operands"]
  d_gathered : DefT K mg "gathered" s_gathered ["head", "values", "between"]
  d__law_pool : DefT K mg "_law_pool" s__law_pool ["script"]
  d__law_take : DefT K mg "_law_take" s__law_take ["pool", "many"]
  d__law_integer : DefT K mg "_law_integer" s__law_integer ["pool"]
  d__law_text : DefT K mg "_law_text" s__law_text ["pool"]
  d__law_term : DefT K mg "_law_term" s__law_term ["pool"]
  d__law_value : DefT K mg "_law_value" s__law_value ["pool", "sort"]
  d__law_size : DefT K mg "_law_size" s__law_size ["term"]
  d__law_settled : DefT K mg "_law_settled" s__law_settled ["value"]
  d__law_quotient : DefT K mg "_law_quotient" s__law_quotient ["left", "right"]
  d__law_parsed : DefT K mg "_law_parsed" s__law_parsed ["text"]
  d__law_one : DefT K mg "_law_one" s__law_one ["head", "value"]
  d__law_two : DefT K mg "_law_two" s__law_two ["head", "one", "other"]
  d__law_worked : DefT K mg "_law_worked" s__law_worked ["head", "operands"]
  d__law_operation : DefT K mg "_law_operation" s__law_operation ["pool"]
  d__law_over : DefT K mg "_law_over" s__law_over ["head", "values", "between"]
  d__law_same : DefT K mg "_law_same" s__law_same ["actual", "due"]
  m_abs : mg "abs" = none
  m_all : mg "all" = none
  m_any : mg "any" = none
  m_bool : mg "bool" = none
  m_enumerate : mg "enumerate" = none
  m_int : mg "int" = none
  m_isinstance : mg "isinstance" = none
  m_len : mg "len" = none
  m_list : mg "list" = none
  m_min : mg "min" = none
  m_range : mg "range" = none
  m_str : mg "str" = none
  m_sum : mg "sum" = none
  m_tuple : mg "tuple" = none
  dig : PySem.W.nsIn K cStatics "sys.int_max_str_digits" = some none
  g_LARGEST : ∃ t, mg "LARGEST" = some (.int 1000000000000000000000000000000000000000000000000000000000000 t)
  g_LONGEST_TEXT : ∃ t, mg "LONGEST_TEXT" = some (.int 1000 t)
  g_MOST_TERMS : ∃ t, mg "MOST_TERMS" = some (.int 400 t)
  g_MOST_HEIGHT : ∃ t, mg "MOST_HEIGHT" = some (.int 100 t)
  g_ABSENT : ∃ a, mg "ABSENT" = some (.ref a) ∧ ∀ G, Rep K G (.tup (cst_ABSENT.map D.str)) (.ref a)
  g_DIGITS : ∃ t, mg "DIGITS" = some (.str (tx cst_DIGITS) t)
  g_OPERATIONS : ∃ (a : Addr) (c : Addr), mg "OPERATIONS" = some (.ref a) ∧ ∃ b0 b1 b2 b3 b4 b5 b6 b7 b8 b9 b10 b11 b12 b13 b14 b15 b16 b17 b18 b19 : Addr, KTabV K w a [(tx [110, 111, 116], .ref b0), (tx [110, 101, 103, 97, 116, 105, 118, 101], .ref b1), (tx [108, 101, 110, 103, 116, 104], .ref b2), (tx [115, 104, 111, 119, 110], .ref b3), (tx [112, 97, 114, 115, 101, 100], .ref b4), (tx [108, 97, 98, 101, 108], .ref b5), (tx [115, 105, 122, 101], .ref b6), (tx [110, 97, 109, 101, 100], .ref b7), (tx [97, 100, 100], .ref b8), (tx [115, 117, 98, 116, 114, 97, 99, 116], .ref b9), (tx [109, 117, 108, 116, 105, 112, 108, 121], .ref b10), (tx [113, 117, 111, 116, 105, 101, 110, 116], .ref b11), (tx [114, 101, 109, 97, 105, 110, 100, 101, 114], .ref b12), (tx [108, 101, 115, 115], .ref b13), (tx [115, 97, 109, 101], .ref b14), (tx [97, 110, 100], .ref b15), (tx [111, 114], .ref b16), (tx [97, 112, 112, 101, 110, 100], .ref b17), (tx [119, 105, 116, 104], .ref b18), (tx [97, 114, 103, 117, 109, 101, 110, 116], .ref b19)] ∧ mg "opposite" = some (.ref b0) ∧ mg "negative" = some (.ref b1) ∧ mg "length" = some (.ref b2) ∧ mg "shown" = some (.ref b3) ∧ mg "parsed" = some (.ref b4) ∧ mg "label" = some (.ref b5) ∧ mg "size" = some (.ref b6) ∧ mg "named" = some (.ref b7) ∧ mg "added" = some (.ref b8) ∧ mg "subtracted" = some (.ref b9) ∧ mg "multiplied" = some (.ref b10) ∧ mg "quotient" = some (.ref b11) ∧ mg "remainder" = some (.ref b12) ∧ mg "less" = some (.ref b13) ∧ mg "same" = some (.ref b14) ∧ mg "both" = some (.ref b15) ∧ mg "either" = some (.ref b16) ∧ mg "appended" = some (.ref b17) ∧ mg "extended" = some (.ref b18) ∧ mg "argument" = some (.ref b19)
  g_BEGINNINGS : ∃ (a : Addr) (c : Addr), mg "BEGINNINGS" = some (.ref a) ∧ ∃ b0 b1 b2 b3 b4 : Addr, KTabV K w a [(tx [115, 117, 109], .ref b0), (tx [97, 108, 108], .ref b1), (tx [97, 110, 121], .ref b2), (tx [99, 111, 108, 108, 101, 99, 116], .ref b3), (tx [106, 111, 105, 110], .ref b4)] ∧ (∀ G, Rep K G (.tup [.str (tx [105, 110, 116, 101, 103, 101, 114]), .int 0]) (.ref b0)) ∧ (∀ G, Rep K G (.tup [.str (tx [98, 111, 111, 108, 101, 97, 110]), .bl true]) (.ref b1)) ∧ (∀ G, Rep K G (.tup [.str (tx [98, 111, 111, 108, 101, 97, 110]), .bl false]) (.ref b2)) ∧ (∀ G, Rep K G (.tup [.str (tx [116, 101, 114, 109]), .str (tx []), .tup []]) (.ref b3)) ∧ (∀ G, Rep K G (.tup [.str (tx [116, 101, 120, 116]), .str (tx [])]) (.ref b4))
  g_STEPS : ∃ a, mg "STEPS" = some (.ref a) ∧ KTab K w a cst_STEPS


/-! ### the pool of drawn numbers -/
structure Pool where
  cells : List Int
  pos : Int
  big : Int
  seed : Int
def Pool.d (p : Pool) : List D := [.lst (p.cells.map D.int), .int p.pos, .int p.big, .int p.seed]
structure Pool.Ok (p : Pool) : Prop where
  cells : ∀ c ∈ p.cells, 0 ≤ c
  pos : 0 ≤ p.pos
  big : 0 ≤ p.big
  seed0 : 0 ≤ p.seed
  seed1 : p.seed < 2147483647
def W_pool : Wt := fun ds M k => ∃ ns : List Int, ds = [.lsk (ns.map D.int)] ∧ M = [] ∧ ns.length ≤ 63 ∧ ∀ (a : Addr) (p : Pool), p.Ok → k (.ref a) [(a, .lst p.d)]
/-- n calls, one in the other, are allowed -/
def W_take (n : Nat) : Wt := fun ds M k => ∃ (a : Addr) (p : Pool) (many : Int), ds = [.ref a, .int many] ∧ M = [(a, .lst p.d)] ∧ p.Ok ∧ 0 < many ∧ many < 1073741824 ∧ 1 ≤ n ∧ (0 < p.big ∨ 2 ≤ n) ∧
  ∀ (r : Int) (p' : Pool), p'.Ok → 0 ≤ r → r < many → k (.int r) [(a, .lst p'.d)]
/-- behind a draw below many -/
def takeK (a : Addr) (many : Int) : D → Mu → Prop := fun d M => ∃ (r : Int) (p' : Pool), p'.Ok ∧ 0 ≤ r ∧ r < many ∧ d = .int r ∧ M = [(a, .lst p'.d)]
theorem take_ok {n : Nat} {a : Addr} {p : Pool} {many : Int} (ok : p.Ok) (h0 : 0 < many) (h1 : many < 1073741824) (hn : 2 ≤ n) : W_take n [.ref a, .int many] [(a, .lst p.d)] (takeK a many) :=
  ⟨a, p, many, rfl, rfl, ok, h0, h1, by omega, .inr hn, fun r p' ok' r0 r1 => ⟨r, p', ok', r0, r1, rfl, rfl⟩⟩
/-- nothing is asked of it -/
theorem cal_none {P : Program} {w : World} {K : PySem.W.Frag} {mg : Str → Option Value} {base : Heap} {x : Str} {st : Stmt} {ps : List Str} {W : Wt} {n : Nat} (T : DefT K mg x st ps) (no : ∀ ds M k, ¬ W ds M k) : Cal P w K mg base n x (Spc K W) [] :=
  cal_of T fun f fd F => ⟨fun vs H Q E h => by
    obtain ⟨_, ds, M, k, _, _, hw, _⟩ := h
    exact absurd hw (no ds M k), fun A outer s H args us vs Q E _ _ _ _ h => by
    obtain ⟨_, ds, M, k, _, _, hw, _⟩ := h
    exact absurd hw (no ds M k)⟩

local macro_rules | `(tactic| walk_at "tg1") => `(tactic| first
  | with_reducible refine as_seq (t := tAsg _ _) ?_
  | with_reducible refine as_seq (t := tDrop _) ?_
  | with_reducible refine as_seq (t := tAug _ _ _) ?_
  | with_reducible refine as_seq (t := tFor _ _ _) ?_
  | with_reducible refine as_seq (t := tNext) ?_
  | with_reducible refine as_set ?_
  | with_reducible refine as_asg ?_
  | with_reducible refine as_if ?_
  | with_reducible refine as_ret ?_
  | with_reducible refine as_retN ?_
  | with_reducible refine as_drop ?_
  | with_reducible refine as_next ?_
  | with_reducible refine as_brk ?_
  | with_reducible refine as_cont ?_
  | with_reducible refine ae_int ?_
  | with_reducible refine ae_bl ?_
  | with_reducible refine ae_non ?_
  | with_reducible refine ae_str ?_
  | with_reducible refine ae_ty ?_
  | with_reducible refine ae_op ?_
  | with_reducible refine ae_un ?_
  | with_reducible refine ae_if ?_
  | with_reducible refine ae_andV ?_
  | with_reducible refine ae_orV ?_
  | with_reducible refine ae_notV ?_
  | with_reducible refine at_test ?_
  | with_reducible refine at_B ?_
  | with_reducible refine at_and ?_
  | with_reducible refine at_or ?_
  | with_reducible refine at_not ?_
  | with_reducible refine at_tru ?_
  | with_reducible refine aa_nil ?_
  | with_reducible refine aa_cons ?_
  | with_reducible refine ae_tup ?_
  | with_reducible refine ae_lst ?_
  | with_reducible refine ae_lstM ?_
  | with_reducible refine ae_cb ?_
  | with_reducible refine ae_call ?_
  | with_reducible refine ae_lm ?_
  | with_reducible refine ae_sm ?_
  | with_reducible refine ae_m1 ?_
  | with_reducible refine Tg.ae_sl ?_
  | with_reducible refine ao_none ?_
  | with_reducible refine ao_some ?_
  | with_reducible refine as_for ?_
  | with_reducible refine ai_seq ?_
  | with_reducible refine ai_enum ?_
  | with_reducible refine ai_range1 ?_
  | with_reducible refine ai_range2 ?_
  | with_reducible refine ag_name ?_
  | with_reducible refine ag_setL ?_
  | with_reducible refine ag_setU ?_
  | with_reducible refine ae_chain ?_
  | with_reducible refine ae_chain3 ?_
  | with_reducible refine ae_dnew ?_
  | with_reducible refine ae_dget2 ?_
  | with_reducible refine ae_listRg1 ?_
  | with_reducible refine ags_nil ?_
  | with_reducible refine ags_cons ?_
  | with_reducible refine ag_tup rfl ?_
  | with_reducible refine au_int ?_
  | with_reducible refine Tg.ai_int ?_
  | with_reducible refine ar_sub ?_
  | with_reducible refine ar_cmp ?_
  | with_reducible refine au_neg ?_
  | with_reducible refine ac_int ?_
  | with_reducible refine ac_min ?_
  | with_reducible refine at_yes ?_
  | with_reducible refine bcaseT ?_
  | with_reducible refine bcaseF ?_
  | with_reducible refine bcaseTR ?_
  | with_reducible refine bcaseFR ?_
  | ((with_reducible refine ar_intC ?c1 ?c2); (case c1 => first | omega | exact ⟨by omega, by omega⟩ | exact cmul_l (by omega) (by omega) | exact cmul_r (by omega) (by omega) | exact ⟨by omega, by omega, by decide⟩))
  | refine ae_var rfl ?_
  | refine aix0 rfl ?_
  | refine aix1 rfl ?_
  | refine put_l0 rfl ?_
  | refine put_l1 rfl ?_
  | refine ⟨lst0, ?_⟩
  | refine ⟨lst1, ?_⟩
  | refine ⟨lst2, ?_⟩
  | refine lenM0 ?_
  | refine lenM1 ?_
  | refine aix_T rfl ?_
  | refine as_aug rfl ?_
  | refine ar_eqD rfl ?_
  | refine ar_neD rfl ?_
  | refine ar_isN ?_
  | refine ar_notN ?_
  | refine ac_lenD rfl ?_
  | refine ac_lenS (by omega) ?_
  | refine ac_isiT rfl rfl ?_
  | refine ac_isiF rfl rfl ?_
  | refine ac_tupL ?_
  | refine ⟨tru_ok_bl, ?_⟩
  | refine caseT rfl ?_
  | refine caseF rfl ?_
  | refine caseTR rfl ?_
  | refine caseFR rfl ?_
  | refine ⟨⟨_, rfl⟩, ?_⟩
  | refine ⟨len_ok 0 rfl, ?_⟩
  | refine ⟨len_ok 1 rfl, ?_⟩
  | refine ⟨len_ok 2 rfl, ?_⟩
  | refine ⟨len_ok 3 rfl, ?_⟩
  | refine ⟨len_ok 4 rfl, ?_⟩
  | refine ⟨len_ok 5 rfl, ?_⟩
  | refine ⟨_, rfl, ?_⟩)
local macro_rules | `(tactic| walk_at "tg") => `(tactic| repeat walk_at "tg1")
local macro_rules | `(tactic| walk_at "take") => `(tactic| refine ⟨[_], _, takeK _ _, rfl, take_ok (by assumption) (by first | decide | omega) (by first | decide | omega) (by decide), ?_⟩)

open PySem.NumText
/-! ### values, in plain Lean -/
inductive Tm where
  | mk (l : List Nat) (ks : List Tm)
mutual
def Tm.d : Tm → D
  | .mk l ks => .tup [.str (Str.ofString "term"), .str (tx l), .tup (Tm.ds ks)]
def Tm.ds : List Tm → List D
  | [] => []
  | t :: r => Tm.d t :: Tm.ds r
end
theorem Tm.ds_map : ∀ ks : List Tm, Tm.ds ks = ks.map Tm.d
  | [] => rfl
  | t :: r => by
    show Tm.d t :: Tm.ds r = _
    rw [Tm.ds_map r]
    rfl
def Tm.ks : Tm → List Tm
  | .mk _ ks => ks
def Tm.l : Tm → List Nat
  | .mk l _ => l
theorem Tm.d_eq (t : Tm) : t.d = .tup [.str (Str.ofString "term"), .str (tx t.l), .tup (t.ks.map Tm.d)] := by
  cases t with
  | mk l ks =>
    unfold Tm.d
    rw [Tm.ds_map]
    rfl
mutual
/-- how many terms -/
def Tm.sz : Tm → Nat
  | .mk _ ks => 1 + Tm.szs ks
def Tm.szs : List Tm → Nat
  | [] => 0
  | t :: r => Tm.sz t + Tm.szs r
end
theorem Tm.szs_sum : ∀ ks : List Tm, Tm.szs ks = (ks.map Tm.sz).sum
  | [] => rfl
  | t :: r => by
    show Tm.sz t + Tm.szs r = _
    rw [Tm.szs_sum r, List.map_cons, List.sum_cons]
theorem Tm.sz_eq (t : Tm) : t.sz = 1 + (t.ks.map Tm.sz).sum := by
  cases t with
  | mk l ks =>
    unfold Tm.sz
    rw [Tm.szs_sum]
    rfl
theorem Tm.sz_pos (t : Tm) : 1 ≤ t.sz := by rw [Tm.sz_eq]; omega
/-- labels of plain signs, no higher than h -/
def Tm.Ok : Nat → Tm → Prop
  | 0, t => (t.l.length ≤ 1000 ∧ ∀ c ∈ t.l, c < 128) ∧ t.ks = []
  | h + 1, t => (t.l.length ≤ 1000 ∧ ∀ c ∈ t.l, c < 128) ∧ ∀ s ∈ t.ks, Tm.Ok h s
theorem Tm.Ok.lab : ∀ {h : Nat} {t : Tm}, Tm.Ok h t → t.l.length ≤ 1000 ∧ ∀ c ∈ t.l, c < 128
  | 0, _, o => o.1
  | _ + 1, _, o => o.1
theorem Tm.Ok.up : ∀ {h : Nat} {t : Tm}, Tm.Ok h t → Tm.Ok (h + 1) t
  | 0, t, o => ⟨o.1, fun s hs => by rw [o.2] at hs; cases hs⟩
  | h + 1, t, o => ⟨o.1, fun s hs => (o.2 s hs).up⟩
theorem Tm.Ok.le {h : Nat} {t : Tm} (o : Tm.Ok h t) : ∀ {j : Nat}, h ≤ j → Tm.Ok j t := fun {j} hj => by
  obtain ⟨d, rfl⟩ : ∃ d, j = h + d := ⟨j - h, by omega⟩
  clear hj
  induction d with
  | zero => exact o
  | succ d ih => exact ih.up
theorem Tm.Ok.kid {h : Nat} {t s : Tm} (o : Tm.Ok (h + 1) t) (hs : s ∈ t.ks) : Tm.Ok h s := o.2 s hs
theorem Tm.Ok.leaf {t : Tm} (o : Tm.Ok 0 t) : t.ks = [] := o.2
inductive Vl where
  | int (i : Int)
  | bl (b : Bool)
  | tx (l : List Nat)
  | tm (t : Tm)
  | ab
def Vl.d : Vl → D
  | .int i => .tup [.str (Str.ofString "integer"), .int i]
  | .bl b => .tup [.str (Str.ofString "boolean"), .bl b]
  | .tx l => .tup [.str (Str.ofString "text"), .str (Tg.tx l)]
  | .tm t => .tup [.str (Str.ofString "term"), .str (Tg.tx t.l), .tup (t.ks.map Tm.d)]
  | .ab => .tup [.str (Str.ofString "absent")]
def big : Int := 1000000000000000000000000000000000000000000000000000000000000
/-- too large values are absent -/
def settle : Vl → Vl
  | .int i => if -big ≤ i ∧ i ≤ big then .int i else .ab
  | .tx l => if l.length ≤ 1000 then .tx l else .ab
  | .tm t => if t.sz ≤ 400 then .tm t else .ab
  | v => v
/-- what comes about: bounds that hold of all that is made -/
def Vl.Raw : Vl → Prop
  | .int _ => True
  | .tx l => l.length ≤ 4000 ∧ ∀ c ∈ l, c < 128
  | .tm t => t.sz ≤ 1000 ∧ Tm.Ok 2 t
  | _ => True
/-- what is settled; terms no higher than h -/
def Vl.Ok (h : Nat) : Vl → Prop
  | .int i => -big ≤ i ∧ i ≤ big
  | .tx l => l.length ≤ 1000 ∧ ∀ c ∈ l, c < 128
  | .tm t => t.sz ≤ 400 ∧ Tm.Ok h t
  | _ => True
theorem Vl.Ok.raw {v : Vl} (o : v.Ok 2) : v.Raw := by
  cases v with
  | int i => trivial
  | bl b => trivial
  | tx l => exact ⟨by have := o.1; omega, o.2⟩
  | tm t => exact ⟨by have := o.1; omega, o.2⟩
  | ab => trivial
theorem big_log {i : Int} (h : -big ≤ i ∧ i ≤ big) : i.natAbs.log2 < 201 := by
  have hb : big < 2 ^ 200 := by decide +kernel
  have h3 : i.natAbs < 2 ^ 200 := by
    have : (i.natAbs : Int) < 2 ^ 200 := by omega
    exact_mod_cast this
  by_cases z : i.natAbs = 0
  · rw [z]
    decide
  · have := (Nat.log2_lt z).mpr h3
    omega
theorem Vl.Ok.le {v : Vl} {h j : Nat} (o : v.Ok h) (hj : h ≤ j) : v.Ok j := by
  cases v with
  | tm t => exact ⟨o.1, o.2.le hj⟩
  | _ => exact o
theorem settle_ok {v : Vl} (o : v.Raw) : (settle v).Ok 2 := by
  cases v with
  | int i =>
    show Vl.Ok 2 (if -big ≤ i ∧ i ≤ big then .int i else .ab)
    by_cases h : -big ≤ i ∧ i ≤ big
    · rw [if_pos h]
      exact h
    · rw [if_neg h]
      trivial
  | bl b => trivial
  | tx l =>
    show Vl.Ok 2 (if l.length ≤ 1000 then .tx l else .ab)
    by_cases h : l.length ≤ 1000
    · rw [if_pos h]
      exact ⟨h, o.2⟩
    · rw [if_neg h]
      trivial
  | tm t =>
    show Vl.Ok 2 (if t.sz ≤ 400 then .tm t else .ab)
    by_cases h : t.sz ≤ 400
    · rw [if_pos h]
      exact ⟨h, o.2⟩
    · rw [if_neg h]
      trivial
  | ab => trivial
/-- texts of digits alone -/
def digB (l : List Nat) : Bool := l.all fun c => decide (48 ≤ c) && decide (c ≤ 57)
inductive O1 where
  | not | neg | len | sho | par | lab | siz | nam
inductive O2 where
  | add | sub | mul | quo | rem | les | sam | and | or | app | wit | arg
def O1.name : O1 → Str
  | .not => Str.ofString "not"
  | .neg => Str.ofString "negative"
  | .len => Str.ofString "length"
  | .sho => Str.ofString "shown"
  | .par => Str.ofString "parsed"
  | .lab => Str.ofString "label"
  | .siz => Str.ofString "size"
  | .nam => Str.ofString "named"
def O2.name : O2 → Str
  | .add => Str.ofString "add"
  | .sub => Str.ofString "subtract"
  | .mul => Str.ofString "multiply"
  | .quo => Str.ofString "quotient"
  | .rem => Str.ofString "remainder"
  | .les => Str.ofString "less"
  | .sam => Str.ofString "same"
  | .and => Str.ofString "and"
  | .or => Str.ofString "or"
  | .app => Str.ofString "append"
  | .wit => Str.ofString "with"
  | .arg => Str.ofString "argument"
def absI (i : Int) : Int := if i < 0 then -i else i
def quoI (a b : Int) : Int := if decide (a < 0) = decide (b < 0) then absI a / absI b else -(absI a / absI b)
def O1.run : O1 → Vl → Option Vl
  | .not, .bl b => some (.bl (!b))
  | .neg, .int i => some (.int (-i))
  | .len, .tx l => some (.int l.length)
  | .sho, .int i => some (.tx (shI i))
  | .par, .tx l => some (if l = [] ∨ digB l = false then .ab else .int (digitsVal l : Nat))
  | .lab, .tm t => some (.tx t.l)
  | .siz, .tm t => some (.int t.ks.length)
  | .nam, .tx l => some (.tm (.mk l []))
  | _, _ => none
def O2.run : O2 → Vl → Vl → Option Vl
  | .add, .int a, .int b => some (.int (a + b))
  | .sub, .int a, .int b => some (.int (a - b))
  | .mul, .int a, .int b => some (.int (a * b))
  | .quo, .int a, .int b => some (if b = 0 then .ab else .int (quoI a b))
  | .rem, .int a, .int b => some (if b = 0 then .ab else .int (a - b * quoI a b))
  | .les, .int a, .int b => some (.bl (decide (a < b)))
  | .sam, .int a, .int b => some (.bl (eqD (Vl.int a).d (Vl.int b).d))
  | .sam, .bl a, .bl b => some (.bl (eqD (Vl.bl a).d (Vl.bl b).d))
  | .sam, .tx a, .tx b => some (.bl (eqD (Vl.tx a).d (Vl.tx b).d))
  | .sam, .tm a, .tm b => some (.bl (eqD (Vl.tm a).d (Vl.tm b).d))
  | .and, .bl a, .bl b => some (.bl (a && b))
  | .or, .bl a, .bl b => some (.bl (a || b))
  | .app, .tx a, .tx b => some (.tx (a ++ b))
  | .wit, .tm a, .tm b => some (.tm (.mk a.l (a.ks ++ [b])))
  | .arg, .tm a, .int i => some (if 0 ≤ i ∧ i < (a.ks.length : Int) then (match a.ks[i.toNat]? with | some t => .tm t | none => .ab) else .ab)
  | _, _, _ => none
def Vl.isAb : Vl → Bool
  | .ab => true
  | _ => false
/-! ### the numbers of a text, the signs of a number -/
theorem digB_all {l : List Nat} (h : digB l = true) : AllDigits l := fun c hc => by
  have := List.all_eq_true.mp h c hc
  rw [Bool.and_eq_true, decide_eq_true_iff, decide_eq_true_iff] at this
  exact this
theorem digits_ascii (m : Nat) : ∀ c ∈ (Nat.toDigits 10 m).map Char.toNat, c < 128 := by
  intro c hc
  obtain ⟨x, hx, rfl⟩ := List.mem_map.mp hc
  have := Nat.isDigit_of_mem_toDigits (by decide) (by decide) hx
  have h2 := Char.isDigit_iff_toNat.mp this
  have h3 : '9'.toNat = 57 := rfl
  omega

def W1 (o : O1) : Wt := fun ds M k => ∃ v r, ds = [v.d] ∧ M = [] ∧ v.Ok 2 ∧ O1.run o v = some r ∧ k r.d []
def W2 (o : O2) : Wt := fun ds M k => ∃ a b r, ds = [a.d, b.d] ∧ M = [] ∧ a.Ok 2 ∧ b.Ok 1 ∧ O2.run o a b = some r ∧ k r.d []
section
variable {P : Program} {w : World} {K : PySem.W.Frag} {mg : Str → Option Value} {base : Heap}
theorem c_opposite (T : Top K mg w) : Cal P w K mg base 2 "opposite" (Spc K (W1 .not)) [] := cal_of T.d_opposite fun f fd F => by
  exact spc_ok F sc_opposite (fun ds M k h => by obtain ⟨v, r, rfl, _⟩ := h; rfl) fun cdv A outer s H E hr => ⟨_, (pss_one (ps_ret (pe_tup (pa_cons pe_str (pa_cons (pe_not (pe_ix (ix_K (K := K)) (pv 0) pe_int (fun _ _ => rfl))) pa_nil))))), fun ds M kk hw => by
    obtain ⟨v, r, rfl, rfl, ok, hr, q⟩ := hw
    cases v <;> simp only [O1.run, reduceCtorEq, Option.some.injEq] at hr
    subst hr
    rename_i b
    refine as_start (δ' := [some (.tup [.str (Str.ofString "boolean"), .bl b])]) rfl ?_
    walk_at "tg"
    exact q⟩
theorem c_negative (T : Top K mg w) : Cal P w K mg base 2 "negative" (Spc K (W1 .neg)) [] := cal_of T.d_negative fun f fd F => by
  exact spc_ok F sc_negative (fun ds M k h => by obtain ⟨v, r, rfl, _⟩ := h; rfl) fun cdv A outer s H E hr => ⟨_, (pss_one (ps_ret (pe_tup (pa_cons pe_str (pa_cons (pe_un un_neg (pe_ix (ix_K (K := K)) (pv 0) pe_int (fun _ _ => rfl))) pa_nil))))), fun ds M kk hw => by
    obtain ⟨v, r, rfl, rfl, ok, hr, q⟩ := hw
    cases v <;> simp only [O1.run, reduceCtorEq, Option.some.injEq] at hr
    subst hr
    rename_i b
    refine as_start (δ' := [some (.tup [.str (Str.ofString "integer"), .int b])]) rfl ?_
    walk_at "tg"
    exact q⟩
theorem c_length (T : Top K mg w) : Cal P w K mg base 2 "length" (Spc K (W1 .len)) [] := cal_of T.d_length fun f fd F => by
  exact spc_ok F sc_length (fun ds M k h => by obtain ⟨v, r, rfl, _⟩ := h; rfl) fun cdv A outer s H E hr => ⟨_, (pss_one (ps_ret (pe_tup (pa_cons pe_str (pa_cons (pe_callB (len_K (K := K)) (by rfl) T.m_len (by decide +kernel) (pa_cons (pe_ix (ix_K (K := K)) (pv 0) pe_int (fun _ _ => rfl)) pa_nil)) pa_nil))))), fun ds M kk hw => by
    obtain ⟨v, r, rfl, rfl, ok, hr, q⟩ := hw
    have hsz := sizeLine_eq
    cases v <;> simp only [O1.run, reduceCtorEq, Option.some.injEq] at hr
    subst hr
    rename_i l
    have hl := ok.1
    refine as_start (δ' := [some (.tup [.str (Str.ofString "text"), .str (Tg.tx l)])]) rfl ?_
    walk_at "tg"
    exact q⟩
theorem c_shown (T : Top K mg w) : Cal P w K mg base 2 "shown" (Spc K (W1 .sho)) [] := cal_of T.d_shown fun f fd F => by
  exact spc_ok F sc_shown (fun ds M k h => by obtain ⟨v, r, rfl, _⟩ := h; rfl) fun cdv A outer s H E hr => ⟨_, (pss_one (ps_ret (pe_tup (pa_cons pe_str (pa_cons (pe_callTy call_strU (by rfl) T.m_str (by decide +kernel) (pa_cons (pe_ix (ix_K (K := K)) (pv 0) pe_int (fun _ _ => rfl)) pa_nil)) pa_nil))))), fun ds M kk hw => by
    obtain ⟨v, r, rfl, rfl, ok, hr, q⟩ := hw
    cases v <;> simp only [O1.run, reduceCtorEq, Option.some.injEq] at hr
    subst hr
    rename_i i
    have hl := big_log ok
    refine as_start (δ' := [some (.tup [.str (Str.ofString "integer"), .int i])]) rfl ?_
    walk_at "tg"
    refine ac_strI (by omega) ?_
    walk_at "tg"
    exact q⟩
theorem c_label (T : Top K mg w) : Cal P w K mg base 2 "label" (Spc K (W1 .lab)) [] := cal_of T.d_label fun f fd F => by
  exact spc_ok F sc_label (fun ds M k h => by obtain ⟨v, r, rfl, _⟩ := h; rfl) fun cdv A outer s H E hr => ⟨_, (pss_one (ps_ret (pe_tup (pa_cons pe_str (pa_cons (pe_ix (ix_K (K := K)) (pv 0) pe_int (fun _ _ => rfl)) pa_nil))))), fun ds M kk hw => by
    obtain ⟨v, r, rfl, rfl, ok, hr, q⟩ := hw
    cases v <;> simp only [O1.run, reduceCtorEq, Option.some.injEq] at hr
    subst hr
    rename_i t
    refine as_start (δ' := [some (.tup [.str (Str.ofString "term"), .str (Tg.tx t.l), .tup (t.ks.map Tm.d)])]) rfl ?_
    walk_at "tg"
    exact q⟩
theorem c_size (T : Top K mg w) : Cal P w K mg base 2 "size" (Spc K (W1 .siz)) [] := cal_of T.d_size fun f fd F => by
  exact spc_ok F sc_size (fun ds M k h => by obtain ⟨v, r, rfl, _⟩ := h; rfl) fun cdv A outer s H E hr => ⟨_, (pss_one (ps_ret (pe_tup (pa_cons pe_str (pa_cons (pe_callB (len_K (K := K)) (by rfl) T.m_len (by decide +kernel) (pa_cons (pe_ix (ix_K (K := K)) (pv 0) pe_int (fun _ _ => rfl)) pa_nil)) pa_nil))))), fun ds M kk hw => by
    obtain ⟨v, r, rfl, rfl, ok, hr, q⟩ := hw
    cases v <;> simp only [O1.run, reduceCtorEq, Option.some.injEq] at hr
    subst hr
    rename_i t
    refine as_start (δ' := [some (.tup [.str (Str.ofString "term"), .str (Tg.tx t.l), .tup (t.ks.map Tm.d)])]) rfl ?_
    walk_at "tg"
    rw [List.length_map]
    exact q⟩
theorem c_named (T : Top K mg w) : Cal P w K mg base 2 "named" (Spc K (W1 .nam)) [] := cal_of T.d_named fun f fd F => by
  exact spc_ok F sc_named (fun ds M k h => by obtain ⟨v, r, rfl, _⟩ := h; rfl) fun cdv A outer s H E hr => ⟨_, (pss_one (ps_ret (pe_tup (pa_cons pe_str (pa_cons (pe_ix (ix_K (K := K)) (pv 0) pe_int (fun _ _ => rfl)) (pa_cons (pe_tup pa_nil) pa_nil)))))), fun ds M kk hw => by
    obtain ⟨v, r, rfl, rfl, ok, hr, q⟩ := hw
    cases v <;> simp only [O1.run, reduceCtorEq, Option.some.injEq] at hr
    subst hr
    rename_i l
    refine as_start (δ' := [some (.tup [.str (Str.ofString "text"), .str (Tg.tx l)])]) rfl ?_
    walk_at "tg"
    exact q⟩
end

theorem Vl.d_tm (t : Tm) : (Vl.tm t).d = t.d := (Tm.d_eq t).symm
abbrev iD (i : Int) : D := .tup [.str (Str.ofString "integer"), .int i]
abbrev bD (b : Bool) : D := .tup [.str (Str.ofString "boolean"), .bl b]
abbrev xD (l : List Nat) : D := .tup [.str (Str.ofString "text"), .str (Tg.tx l)]
abbrev tD (t : Tm) : D := .tup [.str (Str.ofString "term"), .str (Tg.tx t.l), .tup (t.ks.map Tm.d)]
/-! ### deep enough to be compared -/
theorem Tm.Ok.eqb : ∀ {h : Nat} {t : Tm}, Tm.Ok h t → Pln t.d ∧ (toPy t.d).depth ≤ 2 * h + 2
  | h, t, o => by
    have hl := o.lab
    have kids : ∀ s ∈ t.ks, Pln s.d ∧ (toPy s.d).depth ≤ 2 * h := by
      intro s hs
      cases h with
      | zero => rw [o.2] at hs; cases hs
      | succ h =>
        have := Tm.Ok.eqb (o.2 s hs)
        exact ⟨this.1, by omega⟩
    have dall : ∀ l : List D, (∀ d ∈ l, (toPy d).depth ≤ 2 * h) → PyData.depthAll (toPys l) ≤ 2 * h := by
      intro l
      induction l with
      | nil => intro _; unfold toPys PyData.depthAll; omega
      | cons a l ih =>
        intro hh
        unfold toPys PyData.depthAll
        have h1 := hh a (by simp)
        have h2 := ih fun d hd => hh d (List.mem_cons_of_mem _ hd)
        omega
    rw [Tm.d_eq]
    refine ⟨?_, ?_⟩
    · unfold Pln Plns Plns Plns Plns Pln
      refine ⟨by decide +kernel, by rw [tx_cps]; exact hl.2, plns_all.mpr fun d hd => ?_, trivial⟩
      obtain ⟨s, hs, rfl⟩ := List.mem_map.mp hd
      exact (kids s hs).1
    · have := dall (t.ks.map Tm.d) fun d hd => by
        obtain ⟨s, hs, rfl⟩ := List.mem_map.mp hd
        exact (kids s hs).2
      simp only [toPy, toPys, PyData.depth, PyData.depthAll]
      omega
theorem Vl.Ok.eqb {h : Nat} {v : Vl} (hh : h ≤ 4) (o : v.Ok h) : Eqb v.d ∧ (toPy v.d).depth ≤ 10 := by
  have fin : ∀ d : D, Pln d → (toPy d).depth ≤ 10 → Eqb d ∧ (toPy d).depth ≤ 10 := fun d h1 h2 => ⟨⟨h1, by omega⟩, h2⟩
  cases v with
  | int i =>
    refine fin (iD i) ?_ (by simp [toPy, toPys, PyData.depth, PyData.depthAll])
    unfold Pln Plns Plns Plns Pln
    exact ⟨by decide +kernel, trivial, trivial⟩
  | bl i =>
    refine fin (bD i) ?_ (by simp [toPy, toPys, PyData.depth, PyData.depthAll])
    unfold Pln Plns Plns Plns Pln
    exact ⟨by decide +kernel, trivial, trivial⟩
  | tx l =>
    refine fin (xD l) ?_ (by simp [toPy, toPys, PyData.depth, PyData.depthAll])
    unfold Pln Plns Plns Plns Pln
    exact ⟨by decide +kernel, by rw [tx_cps]; exact o.2, trivial⟩
  | tm t =>
    rw [Vl.d_tm]
    obtain ⟨h1, h2⟩ := o.2.eqb
    exact fin _ h1 (by omega)
  | ab =>
    refine fin (.tup [.str (Str.ofString "absent")]) ?_ (by simp [toPy, toPys, PyData.depth, PyData.depthAll])
    unfold Pln Plns Plns Pln
    exact ⟨by decide +kernel, trivial⟩
theorem eqb_lst {vs : List Vl} (o : ∀ v ∈ vs, v.Ok 2) : Eqb (.lst (vs.map Vl.d)) := by
  have dall : ∀ l : List D, (∀ d ∈ l, (toPy d).depth ≤ 10) → PyData.depthAll (toPys l) ≤ 10 := by
    intro l
    induction l with
    | nil => intro _; unfold toPys PyData.depthAll; omega
    | cons a l ih =>
      intro hh
      unfold toPys PyData.depthAll
      have h1 := hh a (by simp)
      have h2 := ih fun d hd => hh d (List.mem_cons_of_mem _ hd)
      omega
  refine ⟨?_, ?_⟩
  · unfold Pln
    refine plns_all.mpr fun d hd => ?_
    obtain ⟨v, hv, rfl⟩ := List.mem_map.mp hd
    exact ((o v hv).eqb (by decide)).1.1
  · have := dall (vs.map Vl.d) fun d hd => by
      obtain ⟨v, hv, rfl⟩ := List.mem_map.mp hd
      exact ((o v hv).eqb (by decide)).2
    simp only [toPy, PyData.depth]
    omega
/-- which is absent -/
theorem eqD_ab (v : Vl) : eqD v.d (.tup [.str (Str.ofString "absent")]) = v.isAb := by
  cases v <;> unfold eqD <;> simp [Vl.d, Vl.isAb, toPy, toPys, PyData.eqv, PyData.eqvAll]
theorem any_ab (vs : List Vl) : ((vs.map Vl.d).any fun z => eqD z (.tup [.str (Str.ofString "absent")])) = vs.any Vl.isAb := by
  rw [List.any_map]
  congr 1
  funext v
  exact eqD_ab v

theorem bcase {b : Bool} {A B : Prop} (h1 : b = true → A) (h2 : b = false → B) : (b = true → A) ∧ (b = false → B) := ⟨h1, h2⟩
theorem abs_log {i : Int} (h : -big ≤ i ∧ i ≤ big) : (absI i).natAbs.log2 < 201 := by
  have := big_log h
  unfold absI
  split
  · rw [Int.natAbs_neg]; exact this
  · exact this
theorem abs_pos {i : Int} (h : ¬ i = 0) : 0 < absI i := by
  unfold absI
  split <;> omega
theorem kids_le (t : Tm) : t.ks.length + 1 ≤ t.sz := by
  rw [Tm.sz_eq]
  have : t.ks.length ≤ (t.ks.map Tm.sz).sum := by
    generalize t.ks = l
    induction l with
    | nil => simp
    | cons a l ih =>
      rw [List.map_cons, List.sum_cons, List.length_cons]
      have := a.sz_pos
      omega
  omega
theorem log_le {i j : Int} (h : i.natAbs ≤ j.natAbs) : i.natAbs.log2 ≤ j.natAbs.log2 := by
  by_cases z : i.natAbs = 0
  · rw [z]
    simp
  · have hj : j.natAbs ≠ 0 := by omega
    exact (Nat.le_log2 hj).mpr (Nat.le_trans (Nat.log2_self_le z) h)
theorem absI_nat (i : Int) : absI i = (i.natAbs : Int) := by
  unfold absI
  split <;> omega
theorem quo_abs (i j : Int) : (quoI i j).natAbs ≤ i.natAbs := by
  have e : absI i / absI j = ((i.natAbs / j.natAbs : Nat) : Int) := by
    rw [absI_nat, absI_nat]
    exact (Int.natCast_ediv _ _).symm
  have h := Nat.div_le_self i.natAbs j.natAbs
  unfold quoI
  rw [e]
  split
  · rw [Int.natAbs_natCast]
    exact h
  · rw [Int.natAbs_neg, Int.natAbs_natCast]
    exact h
theorem quo_mul {i j : Int} (hi : -big ≤ i ∧ i ≤ big) (hj : -big ≤ j ∧ j ≤ big) : CMulW j (quoI i j) := by
  have h1 := big_log hi
  have h2 := big_log hj
  have h3 := log_le (quo_abs i j)
  show _ + _ < _
  omega
theorem cst_ab : D.tup (cst_ABSENT.map D.str) = Vl.ab.d := by
  have e : cst_ABSENT = [Str.ofString "absent"] := by decide +kernel
  rw [e]
  rfl
section
variable {P : Program} {w : World} {K : PySem.W.Frag} {mg : Str → Option Value} {base : Heap}
theorem c_added (T : Top K mg w) : Cal P w K mg base 2 "added" (Spc K (W2 .add)) [] := cal_of T.d_added fun f fd F => by
  exact spc_ok F sc_added (fun ds M k h => by obtain ⟨a, b, r, rfl, _⟩ := h; rfl) fun cdv A outer s H E hr => ⟨_, (pss_one (ps_ret (pe_tup (pa_cons pe_str (pa_cons (pe_op (add_K (K := K)) (pe_ix (ix_K (K := K)) (pv 0) pe_int (fun _ _ => rfl)) (pe_ix (ix_K (K := K)) (pv 1) pe_int (fun _ _ => rfl))) pa_nil))))), fun ds M kk hw => by
    obtain ⟨va, vb, r, rfl, rfl, oa, ob, hr, q⟩ := hw
    have hsz := sizeLine_eq
    cases va <;> cases vb <;> simp only [O2.run, reduceCtorEq, Option.some.injEq] at hr
    rename_i i j
    subst hr
    refine as_start (δ' := [some (iD i), some (iD j)]) rfl ?_
    walk_at "tg"
    exact q⟩
theorem c_subtracted (T : Top K mg w) : Cal P w K mg base 2 "subtracted" (Spc K (W2 .sub)) [] := cal_of T.d_subtracted fun f fd F => by
  exact spc_ok F sc_subtracted (fun ds M k h => by obtain ⟨a, b, r, rfl, _⟩ := h; rfl) fun cdv A outer s H E hr => ⟨_, (pss_one (ps_ret (pe_tup (pa_cons pe_str (pa_cons (pe_op op_sub (pe_ix (ix_K (K := K)) (pv 0) pe_int (fun _ _ => rfl)) (pe_ix (ix_K (K := K)) (pv 1) pe_int (fun _ _ => rfl))) pa_nil))))), fun ds M kk hw => by
    obtain ⟨va, vb, r, rfl, rfl, oa, ob, hr, q⟩ := hw
    have hsz := sizeLine_eq
    cases va <;> cases vb <;> simp only [O2.run, reduceCtorEq, Option.some.injEq] at hr
    rename_i i j
    subst hr
    refine as_start (δ' := [some (iD i), some (iD j)]) rfl ?_
    walk_at "tg"
    exact q⟩
theorem c_multiplied (T : Top K mg w) : Cal P w K mg base 2 "multiplied" (Spc K (W2 .mul)) [] := cal_of T.d_multiplied fun f fd F => by
  exact spc_ok F sc_multiplied (fun ds M k h => by obtain ⟨a, b, r, rfl, _⟩ := h; rfl) fun cdv A outer s H E hr => ⟨_, (pss_one (ps_ret (pe_tup (pa_cons pe_str (pa_cons (pe_op op_mulW (pe_ix (ix_K (K := K)) (pv 0) pe_int (fun _ _ => rfl)) (pe_ix (ix_K (K := K)) (pv 1) pe_int (fun _ _ => rfl))) pa_nil))))), fun ds M kk hw => by
    obtain ⟨va, vb, r, rfl, rfl, oa, ob, hr, q⟩ := hw
    have hsz := sizeLine_eq
    cases va <;> cases vb <;> simp only [O2.run, reduceCtorEq, Option.some.injEq] at hr
    rename_i i j
    subst hr
    refine as_start (δ' := [some (iD i), some (iD j)]) rfl ?_
    walk_at "tg"
    refine ar_intC (by have h1 := big_log oa; have h2 := big_log ob; show _ + _ < _; omega) ?_
    walk_at "tg"
    exact q⟩
theorem c_less (T : Top K mg w) : Cal P w K mg base 2 "less" (Spc K (W2 .les)) [] := cal_of T.d_less fun f fd F => by
  exact spc_ok F sc_less (fun ds M k h => by obtain ⟨a, b, r, rfl, _⟩ := h; rfl) fun cdv A outer s H E hr => ⟨_, (pss_one (ps_ret (pe_tup (pa_cons pe_str (pa_cons (pe_cmpR op_lt (pe_ix (ix_K (K := K)) (pv 0) pe_int (fun _ _ => rfl)) (pe_ix (ix_K (K := K)) (pv 1) pe_int (fun _ _ => rfl)) (nomark _)) pa_nil))))), fun ds M kk hw => by
    obtain ⟨va, vb, r, rfl, rfl, oa, ob, hr, q⟩ := hw
    have hsz := sizeLine_eq
    cases va <;> cases vb <;> simp only [O2.run, reduceCtorEq, Option.some.injEq] at hr
    rename_i i j
    subst hr
    refine as_start (δ' := [some (iD i), some (iD j)]) rfl ?_
    walk_at "tg"
    exact q⟩
theorem c_quotient (T : Top K mg w) (n : Nat) : Cal P w K mg base (n + 1) "quotient" (Spc K (W2 .quo)) [] := cal_of T.d_quotient fun f fd F => by
  exact spc_ok F sc_quotient (fun ds M k h => by obtain ⟨a, b, r, rfl, _⟩ := h; rfl) fun cdv A outer s H E hr => by
    obtain ⟨t_ABSENT, g_ABSENT, k_ABSENT⟩ := T.g_ABSENT
    exact ⟨_, (pss_cons (ps_if (pt_cmpR op_eq (pe_ix (ix_K (K := K)) (pv 1) pe_int (fun _ _ => rfl)) pe_int (nomark _))
      (pss_one (ps_ret (pe_glob (v := V.ref t_ABSENT) (by rfl) g_ABSENT rfl)))
      pss_nil)
      (pss_cons (ps_set (i := 2) sc_quotient.nd rfl (Or.inl rfl) (pe_op op_fdivW (pe_callB call_absU (by rfl) T.m_abs (by decide +kernel) (pa_cons (pe_ix (ix_K (K := K)) (pv 0) pe_int (fun _ _ => rfl)) pa_nil)) (pe_callB call_absU (by rfl) T.m_abs (by decide +kernel) (pa_cons (pe_ix (ix_K (K := K)) (pv 1) pe_int (fun _ _ => rfl)) pa_nil))))
      (pss_one (ps_ret (pe_tup (pa_cons pe_str (pa_cons (pe_ifExp (pt_cmpR op_eq (pe_cmpR op_lt (pe_ix (ix_K (K := K)) (pv 0) pe_int (fun _ _ => rfl)) pe_int (nomark _)) (pe_cmpR op_lt (pe_ix (ix_K (K := K)) (pv 1) pe_int (fun _ _ => rfl)) pe_int (nomark _)) (nomark _)) (pv 2) (pe_un un_neg (pv 2))) pa_nil))))))), fun ds M kk hw => by
    obtain ⟨va, vb, r, rfl, rfl, oa, ob, hr, q⟩ := hw
    have hsz := sizeLine_eq
    cases va <;> cases vb <;> simp only [O2.run, reduceCtorEq, Option.some.injEq] at hr
    rename_i i j
    refine as_start (δ' := [some (iD i), some (iD j), none]) rfl ?_
    refine as_seq ?_
    walk_at "tg"
    refine dcase (fun c => ?_) (fun c => ?_)
    · walk_at "tg"
      refine ae_c k_ABSENT ?_
      rw [if_pos c] at hr
      subst hr
      rw [cst_ab]
      exact q
    · rw [if_neg c] at hr
      subst hr
      have hj := abs_pos c
      have hl := abs_log ob
      walk_at "tg"
      refine ac_abs ?_
      walk_at "tg"
      refine ac_abs ?_
      refine ar_intC ⟨hj, by show (absI j).natAbs.log2 < 9000; omega⟩ ?_
      walk_at "tg"
      refine bcase (fun c2 => ?_) (fun c2 => ?_)
      · walk_at "tg"
        have e : quoI i j = absI i / absI j := by
          unfold quoI
          rw [if_pos (of_decide_eq_true c2)]
        rw [e] at q
        exact q
      · walk_at "tg"
        have e : quoI i j = -(absI i / absI j) := by
          unfold quoI
          rw [if_neg (of_decide_eq_false c2)]
        rw [e] at q
        exact q⟩
theorem c_remainder (T : Top K mg w) : Cal P w K mg base 2 "remainder" (Spc K (W2 .rem)) [] := cal_of T.d_remainder fun f fd F => by
  have c_quotient := c_quotient (P := P) (w := w) (base := base) T 0
  exact spc_ok F sc_remainder (fun ds M k h => by obtain ⟨a, b, r, rfl, _⟩ := h; rfl) fun cdv A outer s H E hr => by
    obtain ⟨t_ABSENT, g_ABSENT, k_ABSENT⟩ := T.g_ABSENT
    exact ⟨_, (pss_cons (ps_if (pt_cmpR op_eq (pe_ix (ix_K (K := K)) (pv 1) pe_int (fun _ _ => rfl)) pe_int (nomark _))
      (pss_one (ps_ret (pe_glob (v := V.ref t_ABSENT) (by rfl) g_ABSENT rfl)))
      pss_nil)
      (pss_one (ps_ret (pe_tup (pa_cons pe_str (pa_cons (pe_op op_sub (pe_ix (ix_K (K := K)) (pv 0) pe_int (fun _ _ => rfl)) (pe_op op_mulW (pe_ix (ix_K (K := K)) (pv 1) pe_int (fun _ _ => rfl)) (pe_ix (ix_K (K := K)) (pe_c c_quotient hr (by first | decide | omega) (by rfl) (pa_cons (pv 0) (pa_cons (pv 1) pa_nil))) pe_int (fun _ _ => rfl)))) pa_nil)))))), fun ds M kk hw => by
    obtain ⟨va, vb, r, rfl, rfl, oa, ob, hr, q⟩ := hw
    have hsz := sizeLine_eq
    cases va <;> cases vb <;> simp only [O2.run, reduceCtorEq, Option.some.injEq] at hr
    rename_i i j
    refine as_start (δ' := [some (iD i), some (iD j)]) rfl ?_
    refine as_seq ?_
    walk_at "tg"
    refine dcase (fun c => ?_) (fun c => ?_)
    · walk_at "tg"
      refine ae_c k_ABSENT ?_
      rw [if_pos c] at hr
      subst hr
      rw [cst_ab]
      exact q
    · rw [if_neg c] at hr
      subst hr
      have hlj := big_log ob
      walk_at "tg"
      refine ⟨[], [], fun d M => d = iD (quoI i j) ∧ M = [], rfl, ⟨.int i, .int j, .int (quoI i j), rfl, rfl, oa, ob, by show some _ = _; rw [if_neg c], rfl, rfl⟩, ?_⟩
      rintro _ _ ⟨rfl, rfl⟩
      walk_at "tg"
      refine ar_intC (quo_mul oa ob) ?_
      walk_at "tg"
      exact q⟩
theorem c_same (T : Top K mg w) : Cal P w K mg base 2 "same" (Spc K (W2 .sam)) [] := cal_of T.d_same fun f fd F => by
  exact spc_ok F sc_same (fun ds M k h => by obtain ⟨a, b, r, rfl, _⟩ := h; rfl) fun cdv A outer s H E hr => ⟨_, (pss_one (ps_ret (pe_tup (pa_cons pe_str (pa_cons (pe_cmpR (eqU_K (K := K) hr) (pv 0) (pv 1) (nomark _)) pa_nil))))), fun ds M kk hw => by
    obtain ⟨va, vb, r, rfl, rfl, oa, ob, hr, q⟩ := hw
    have hsz := sizeLine_eq
    cases va <;> cases vb <;> simp only [O2.run, reduceCtorEq, Option.some.injEq] at hr
    all_goals
      rename_i i j
      have ha := (oa.eqb (by decide)).1
      have hb := (ob.eqb (by decide)).1
      subst hr
    · refine as_start (δ' := [some (iD i), some (iD j)]) rfl ?_
      walk_at "tg"
      refine ar_eqT ha hb ?_
      walk_at "tg"
      exact q
    · refine as_start (δ' := [some (bD i), some (bD j)]) rfl ?_
      walk_at "tg"
      refine ar_eqT ha hb ?_
      walk_at "tg"
      exact q
    · refine as_start (δ' := [some (xD i), some (xD j)]) rfl ?_
      walk_at "tg"
      refine ar_eqT ha hb ?_
      walk_at "tg"
      exact q
    · refine as_start (δ' := [some (tD i), some (tD j)]) rfl ?_
      walk_at "tg"
      refine ar_eqT ha hb ?_
      walk_at "tg"
      exact q⟩
theorem c_both (T : Top K mg w) : Cal P w K mg base 2 "both" (Spc K (W2 .and)) [] := cal_of T.d_both fun f fd F => by
  exact spc_ok F sc_both (fun ds M k h => by obtain ⟨a, b, r, rfl, _⟩ := h; rfl) fun cdv A outer s H E hr => ⟨_, (pss_one (ps_ret (pe_tup (pa_cons pe_str (pa_cons (pe_and (pe_ix (ix_K (K := K)) (pv 0) pe_int (fun _ _ => rfl)) (pe_one (pe_ix (ix_K (K := K)) (pv 1) pe_int (fun _ _ => rfl)))) pa_nil))))), fun ds M kk hw => by
    obtain ⟨va, vb, r, rfl, rfl, oa, ob, hr, q⟩ := hw
    have hsz := sizeLine_eq
    cases va <;> cases vb <;> simp only [O2.run, reduceCtorEq, Option.some.injEq] at hr
    rename_i i j
    subst hr
    refine as_start (δ' := [some (bD i), some (bD j)]) rfl ?_
    cases i <;> walk_at "tg" <;> exact q⟩
theorem c_either (T : Top K mg w) : Cal P w K mg base 2 "either" (Spc K (W2 .or)) [] := cal_of T.d_either fun f fd F => by
  exact spc_ok F sc_either (fun ds M k h => by obtain ⟨a, b, r, rfl, _⟩ := h; rfl) fun cdv A outer s H E hr => ⟨_, (pss_one (ps_ret (pe_tup (pa_cons pe_str (pa_cons (pe_or (pe_ix (ix_K (K := K)) (pv 0) pe_int (fun _ _ => rfl)) (pe_one (pe_ix (ix_K (K := K)) (pv 1) pe_int (fun _ _ => rfl)))) pa_nil))))), fun ds M kk hw => by
    obtain ⟨va, vb, r, rfl, rfl, oa, ob, hr, q⟩ := hw
    have hsz := sizeLine_eq
    cases va <;> cases vb <;> simp only [O2.run, reduceCtorEq, Option.some.injEq] at hr
    rename_i i j
    subst hr
    refine as_start (δ' := [some (bD i), some (bD j)]) rfl ?_
    cases i <;> walk_at "tg" <;> exact q⟩
theorem c_appended (T : Top K mg w) : Cal P w K mg base 2 "appended" (Spc K (W2 .app)) [] := cal_of T.d_appended fun f fd F => by
  exact spc_ok F sc_appended (fun ds M k h => by obtain ⟨a, b, r, rfl, _⟩ := h; rfl) fun cdv A outer s H E hr => ⟨_, (pss_one (ps_ret (pe_tup (pa_cons pe_str (pa_cons (pe_op (add_K (K := K)) (pe_ix (ix_K (K := K)) (pv 0) pe_int (fun _ _ => rfl)) (pe_ix (ix_K (K := K)) (pv 1) pe_int (fun _ _ => rfl))) pa_nil))))), fun ds M kk hw => by
    obtain ⟨va, vb, r, rfl, rfl, oa, ob, hr, q⟩ := hw
    have hsz := sizeLine_eq
    cases va <;> cases vb <;> simp only [O2.run, reduceCtorEq, Option.some.injEq] at hr
    rename_i i j
    subst hr
    have hi := oa.1
    have hj := ob.1
    refine as_start (δ' := [some (xD i), some (xD j)]) rfl ?_
    walk_at "tg"
    refine au_str (by omega) ?_
    walk_at "tg"
    exact q⟩
theorem c_extended (T : Top K mg w) : Cal P w K mg base 2 "extended" (Spc K (W2 .wit)) [] := cal_of T.d_extended fun f fd F => by
  exact spc_ok F sc_extended (fun ds M k h => by obtain ⟨a, b, r, rfl, _⟩ := h; rfl) fun cdv A outer s H E hr => ⟨_, (pss_one (ps_ret (pe_tup (pa_cons pe_str (pa_cons (pe_ix (ix_K (K := K)) (pv 0) pe_int (fun _ _ => rfl)) (pa_cons (pe_op (add_K (K := K)) (pe_ix (ix_K (K := K)) (pv 0) pe_int (fun _ _ => rfl)) (pe_tup (pa_cons (pv 1) pa_nil))) pa_nil)))))), fun ds M kk hw => by
    obtain ⟨va, vb, r, rfl, rfl, oa, ob, hr, q⟩ := hw
    have hsz := sizeLine_eq
    cases va <;> cases vb <;> simp only [O2.run, reduceCtorEq, Option.some.injEq] at hr
    rename_i i j
    subst hr
    have hi := kids_le i
    have h2 := oa.1
    refine as_start (δ' := [some (tD i), some (tD j)]) rfl ?_
    walk_at "tg"
    refine au_tup (by rw [List.length_map]; show i.ks.length + 1 ≤ _; omega) ?_
    walk_at "tg"
    have e : (Vl.tm (.mk i.l (i.ks ++ [j]))).d = .tup [.str (Str.ofString "term"), .str (Tg.tx i.l), .tup (i.ks.map Tm.d ++ [tD j])] := by
      show D.tup [_, _, .tup ((i.ks ++ [j]).map Tm.d)] = _
      rw [List.map_append, List.map_cons, List.map_nil, Tm.d_eq j]
      rfl
    rw [e] at q
    exact q⟩
theorem c_argument (T : Top K mg w) : Cal P w K mg base 2 "argument" (Spc K (W2 .arg)) [] := cal_of T.d_argument fun f fd F => by
  exact spc_ok F sc_argument (fun ds M k h => by obtain ⟨a, b, r, rfl, _⟩ := h; rfl) fun cdv A outer s H E hr => by
    obtain ⟨t_ABSENT, g_ABSENT, k_ABSENT⟩ := T.g_ABSENT
    exact ⟨_, (pss_cons (ps_if (pt_not (pt_chain op_le op_lt pe_int (pe_ix (ix_K (K := K)) (pv 1) pe_int (fun _ _ => rfl)) (pe_callB (len_K (K := K)) (by rfl) T.m_len (by decide +kernel) (pa_cons (pe_ix (ix_K (K := K)) (pv 0) pe_int (fun _ _ => rfl)) pa_nil))))
      (pss_one (ps_ret (pe_glob (v := V.ref t_ABSENT) (by rfl) g_ABSENT rfl)))
      pss_nil)
      (pss_one (ps_ret (pe_ix (ix_K (K := K)) (pe_ix (ix_K (K := K)) (pv 0) pe_int (fun _ _ => rfl)) (pe_ix (ix_K (K := K)) (pv 1) pe_int (fun _ _ => rfl)) (fun _ _ => rfl))))), fun ds M kk hw => by
    obtain ⟨va, vb, r, rfl, rfl, oa, ob, hr, q⟩ := hw
    have hsz := sizeLine_eq
    cases va <;> cases vb <;> simp only [O2.run, reduceCtorEq, Option.some.injEq] at hr
    rename_i t i
    refine as_start (δ' := [some (tD t), some (iD i)]) rfl ?_
    refine as_seq ?_
    walk_at "tg"
    refine dcase (fun c => ?_) (fun c => ?_)
    · walk_at "tg"
      rw [List.length_map]
      refine dcaseN (fun c2 => ?_) (fun c2 => ?_)
      · walk_at "tg"
        refine ae_c k_ABSENT ?_
        rw [if_neg (fun z => c2 z.2)] at hr
        subst hr
        rw [cst_ab]
        exact q
      · have hk : i.toNat < t.ks.length := by omega
        rw [if_pos ⟨c, c2⟩, List.getElem?_eq_getElem hk] at hr
        subst hr
        walk_at "tg"
        refine aix_T (d := (t.ks[i.toNat]).d) ?_ ?_
        · obtain ⟨m, rfl⟩ : ∃ m : Nat, i = (m : Int) := ⟨i.toNat, by omega⟩
          refine atI_nat ?_
          rw [List.getElem?_map, List.getElem?_eq_getElem (by simpa using hk)]
          simp
        · rw [← Vl.d_tm]
          exact q
    · walk_at "tg"
      refine ae_c k_ABSENT ?_
      rw [if_neg (fun z => c z.1)] at hr
      subst hr
      rw [cst_ab]
      exact q⟩
end

theorem dig_mem (c : Nat) : decide (c ∈ cst_DIGITS) = (decide (48 ≤ c) && decide (c ≤ 57)) := by
  rw [Bool.eq_iff_iff, Bool.and_eq_true, decide_eq_true_iff, decide_eq_true_iff, decide_eq_true_iff]
  unfold cst_DIGITS
  simp only [List.mem_cons, List.not_mem_nil, or_false]
  omega
theorem digs_all (l : List Nat) : (l.map fun c => decide (c ∈ cst_DIGITS)).all id = digB l := by
  unfold digB
  rw [List.all_map]
  congr 1
  funext c
  exact dig_mem c
/-- the layers of a term -/
theorem szs_len (l : List Tm) : l.length ≤ Tm.szs l := by
  rw [Tm.szs_sum]
  induction l with
  | nil => simp
  | cons a l ih =>
    rw [List.map_cons, List.sum_cons, List.length_cons]
    have := a.sz_pos
    omega
theorem szs_app (a b : List Tm) : Tm.szs (a ++ b) = Tm.szs a + Tm.szs b := by
  rw [Tm.szs_sum, Tm.szs_sum, Tm.szs_sum, List.map_append, List.sum_append]
theorem szs_flat (l : List Tm) : Tm.szs l = l.length + Tm.szs (l.flatMap Tm.ks) := by
  induction l with
  | nil => rfl
  | cons a l ih =>
    have h := a.sz_eq
    rw [← Tm.szs_sum] at h
    show a.sz + Tm.szs l = _
    rw [List.flatMap_cons, szs_app, List.length_cons, h, ih]
    omega
def tooB : Vl → Bool
  | .int i => !(decide (-big ≤ i) && decide (i ≤ big))
  | .tx l => decide ((1000 : Int) < (l.length : Int))
  | .tm t => decide (400 < t.sz)
  | _ => false
theorem settle_too (v : Vl) : settle v = if tooB v then .ab else v := by
  cases v with
  | int i =>
    show (if -big ≤ i ∧ i ≤ big then Vl.int i else .ab) = _
    unfold tooB
    by_cases h1 : -big ≤ i <;> by_cases h2 : i ≤ big <;> simp [h1, h2]
  | bl b => rfl
  | tx l =>
    show (if l.length ≤ 1000 then Vl.tx l else .ab) = _
    unfold tooB
    by_cases h : l.length ≤ 1000
    · rw [if_pos h, if_neg (by rw [decide_eq_true_iff]; omega)]
    · rw [if_neg h, if_pos (by rw [decide_eq_true_iff]; omega)]
  | tm t =>
    show (if t.sz ≤ 400 then Vl.tm t else .ab) = _
    unfold tooB
    by_cases h : t.sz ≤ 400
    · rw [if_pos h, if_neg (by rw [decide_eq_true_iff]; omega)]
    · rw [if_neg h, if_pos (by rw [decide_eq_true_iff]; omega)]
  | ab => rfl
def W_large : Wt := fun ds M k => ∃ t, ds = [tD t] ∧ M = [] ∧ t.sz ≤ 1000 ∧ Tm.Ok 2 t ∧ k (.bl (decide (400 < t.sz))) []
def W_too : Wt := fun ds M k => ∃ v : Vl, ds = [v.d] ∧ M = [] ∧ v.Raw ∧ k (.bl (tooB v)) []
def W_settled : Wt := fun ds M k => ∃ v : Vl, ds = [v.d] ∧ M = [] ∧ v.Raw ∧ k (settle v).d []
section
variable {P : Program} {w : World} {K : PySem.W.Frag} {mg : Str → Option Value} {base : Heap}
theorem c_parsed (T : Top K mg w) : Cal P w K mg base 2 "parsed" (Spc K (W1 .par)) [] := cal_of T.d_parsed fun f fd F => by
  exact spc_ok F sc_parsed (fun ds M k h => by obtain ⟨v, r, rfl, _⟩ := h; rfl) fun cdv A outer s H E hr => by
    obtain ⟨t_ABSENT, g_ABSENT, k_ABSENT⟩ := T.g_ABSENT; obtain ⟨t_DIGITS, g_DIGITS⟩ := T.g_DIGITS
    exact ⟨_, (pss_cons (ps_set (i := 1) sc_parsed.nd rfl (Or.inl rfl) (pe_ix (ix_K (K := K)) (pv 0) pe_int (fun _ _ => rfl)))
      (pss_cons (ps_if (pw_or (pt_cmpR op_eq (pv 1) pe_str (nomark _)) (pw_or1 (pt_not (tru_K (K := K) (pe_callB (all_K (K := K) rfl) (by rfl) T.m_all (by decide +kernel) (pa_cons (pe_lc (own := [("digit", 2)]) (g := gName 2) rfl sc_parsed.nd (seq_K (K := K) (pv 1)) (blkOk_by (own := [("digit", 2)]) (N := ["value", "digits", "digit"]) (sc := defScope s_parsed) (by decide +kernel)) (fun _ _ _ _ _ => (pg_name (i := 2) sc_parsed.nd rfl (Or.inl rfl))) (fun _ _ _ _ _ => pts_nil) (fun _ _ _ _ _ => (pe_cmpR (in_K (K := K)) (pv 2) (pe_glob (v := V.str (tx cst_DIGITS)) (by rfl) g_DIGITS ⟨_, rfl⟩) (by rfl)))) pa_nil)))))).pt
      (pss_one (ps_ret (pe_glob (v := V.ref t_ABSENT) (by rfl) g_ABSENT rfl)))
      pss_nil)
      (pss_one (ps_ret (pe_tup (pa_cons pe_str (pa_cons (pe_callTy (cr_intT T.dig) (by rfl) T.m_int (by decide +kernel) (pa_cons (pv 1) pa_nil)) pa_nil))))))), fun ds M kk hw => by
    obtain ⟨v, r, rfl, rfl, ok, hr, q⟩ := hw
    have hsz := sizeLine_eq
    cases v <;> simp only [O1.run, reduceCtorEq, Option.some.injEq] at hr
    rename_i l
    have hl := ok.1
    refine as_start (δ' := [some (xD l), none, none]) rfl ?_
    walk_at "tg"
    refine as_seq ?_
    walk_at "tg"
    have e0 : (Tg.tx l = Str.ofString "") ↔ l = [] := by
      rw [show Str.ofString "" = Tg.tx [] from rfl]
      exact ⟨fun z => tx_inj z, fun z => by rw [z]⟩
    refine dcaseR (fun c => ?_) (fun c => ?_)
    · have hne : l ≠ [] := fun z => c (e0.mpr z)
      walk_at "tg"
      refine ae_lc (ownG_name (by simp)) ?_
      walk_at "tg"
      rw [tx_signs]
      refine ⟨by rw [List.length_map]; omega, fun i acc M' => M' = [] ∧ acc = ((l.take i).map fun c => decide (c ∈ cst_DIGITS)).map D.bl, ⟨rfl, rfl⟩, ?_, ?_⟩
      · rintro i d acc M' hd ⟨rfl, rfl⟩
        rw [List.getElem?_map] at hd
        obtain ⟨c, hc, rfl⟩ := Option.map_eq_some_iff.mp hd
        walk_at "tg"
        refine ain_sign ?_
        refine ⟨rfl, ?_⟩
        rw [List.take_add_one, hc]
        simp
      · rintro acc M' ⟨rfl, rfl⟩
        rw [List.length_map, List.take_length]
        walk_at "tg"
        refine ac_all ?_
        rw [digs_all]
        walk_at "tg"
        refine bcase (fun c2 => ?_) (fun c2 => ?_)
        · walk_at "tg"
          refine ae_c k_ABSENT ?_
          have c3 : (!digB l) = true := c2
          rw [if_pos (.inr (by simpa using c3))] at hr
          subst hr
          rw [cst_ab]
          exact q
        · have c3 : (!digB l) = false := c2
          have hd : digB l = true := by simpa using c3
          rw [if_neg (by rw [hd]; simp [hne])] at hr
          subst hr
          walk_at "tg"
          refine ac_intT (digB_all hd) hne (by omega) ?_
          walk_at "tg"
          exact q
    · walk_at "tg"
      refine ae_c k_ABSENT ?_
      rw [if_pos (.inl (e0.mp c))] at hr
      subst hr
      rw [cst_ab]
      exact q⟩
theorem c_is_large_term (T : Top K mg w) : Cal P w K mg base 1 "is_large_term" (Spc K W_large) [] := cal_of T.d_is_large_term fun f fd F => by
  exact spc_ok F sc_is_large_term (fun ds M k h => by obtain ⟨t, rfl, _⟩ := h; rfl) fun cdv A outer s H E hr => by
    obtain ⟨t_MOST_TERMS, g_MOST_TERMS⟩ := T.g_MOST_TERMS; obtain ⟨t_MOST_HEIGHT, g_MOST_HEIGHT⟩ := T.g_MOST_HEIGHT
    exact ⟨_, (pss_cons (ps_set (i := 1) sc_is_large_term.nd rfl (Or.inl rfl) (pe_lst (pa_cons (pv 0) pa_nil)))
      (pss_cons (ps_set (i := 2) sc_is_large_term.nd rfl (Or.inl rfl) pe_int)
      (pss_cons (ps_set (i := 3) sc_is_large_term.nd rfl (Or.inl rfl) (pe_un un_neg pe_int))
      (pss_cons (ps_while PassesOwn.never (tru_K (K := K) (pv 1))
      (pss_cons (ps_aug (i := 2) sc_is_large_term.nd rfl (Or.inl rfl) (pe_callB (len_K (K := K)) (by rfl) T.m_len (by decide +kernel) (pa_cons (pv 1) pa_nil)) ip_addU)
      (pss_cons (ps_aug (i := 3) sc_is_large_term.nd rfl (Or.inl rfl) pe_int ip_addU)
      (pss_cons (ps_if (pw_or (pt_cmpR op_gt (pv 2) (pe_glob (v := V.int 400) (by rfl) g_MOST_TERMS ⟨_, rfl⟩) (nomark _)) (pw_or1 (pt_cmpR op_gt (pv 3) (pe_glob (v := V.int 100) (by rfl) g_MOST_HEIGHT ⟨_, rfl⟩) (nomark _)))).pt
      (pss_one (ps_ret pe_bl))
      pss_nil)
      (pss_one (ps_setLc2 (i := 1) (own := [("one", 4), ("below", 5)]) (g := gName 4) (g1 := gName 5) (vs1 := [5]) rfl sc_is_large_term.nd rfl rfl (sw_true rfl rfl rfl (by decide +kernel)) (seq_K (K := K) (pv 1)) (blkOk_by (own := [("one", 4), ("below", 5)]) (N := ["term", "layer", "many", "height", "one", "below"]) (sc := defScope s_is_large_term) (by decide +kernel)) (by decide) (fun _ _ _ _ _ => (pg_name (i := 4) sc_is_large_term.nd rfl (Or.inl rfl))) (fun _ _ _ _ _ =>  pts_nil) (fun _ _ _ _ _ => (seq_K (K := K) (pe_ix (ix_K (K := K)) (pv 4) pe_int (fun _ _ => rfl)))) (fun _ _ _ _ _ => (pg_name (i := 5) sc_is_large_term.nd rfl (Or.inl rfl))) (fun _ _ _ _ _ =>  pts_nil) (fun _ _ _ _ _ => (pv 5))))))))
      (pss_one (ps_ret pe_bl)))))), fun ds M kk hw => by
    obtain ⟨t, rfl, rfl, hz, ok, q⟩ := hw
    have hsz := sizeLine_eq
    refine as_start (δ' := [some (tD t), none, none, none, none, none]) rfl ?_
    walk_at "tg"
    refine as_cut (fun δ' M' => M' = [] ∧ t.sz ≤ 400) ?_ ?_
    · refine as_while (fun m δ' M' => ∃ (k : Nat) (l : List Tm) (n : Nat), m = Tm.szs l ∧ δ' = [some (tD t), some (.lst (l.map Tm.d)), some (.int n), some (.int ((k : Int) - 1)), none, none] ∧ M' = [] ∧ n + Tm.szs l = t.sz ∧ (∀ s ∈ l, ∃ j, j + k = 2 ∧ Tm.Ok j s) ∧ n ≤ 400) _
        ⟨0, [t], 0, rfl, by rw [List.map_cons, List.map_nil, Tm.d_eq]; rfl, rfl, by simp [Tm.szs], by intro s hs; exact ⟨2, rfl, by rw [List.mem_singleton.mp hs]; exact ok⟩, by omega⟩ ?_
      rintro m δ' M' ⟨k, l, n, rfl, rfl, rfl, h1, h2, h3⟩
      walk_at "tg"
      refine ⟨trivial, bcase (fun c => ?_) (fun c => ?_)⟩
      · have hne : l ≠ [] := fun z => by rw [z] at c; cases c
        have hlen := szs_len l
        have hk : k ≤ 2 := by
          cases l with
          | nil => exact absurd rfl hne
          | cons a l =>
            obtain ⟨j, hj, _⟩ := h2 a (by simp)
            omega
        walk_at "tg"
        rw [List.length_map]
        walk_at "tg"
        refine as_seq ?_
        walk_at "tg"
        refine dcaseR (fun c1 => ?_) (fun c1 => ?_)
        · walk_at "tg"
          refine dcase (fun c2 => ?_) (fun c2 => ?_)
          · omega
          · walk_at "tg"
            refine ae_lc2 (ownG_name (by simp)) (ownG_name (by simp)) ?_
            walk_at "tg"
            refine ⟨fun i acc M' => M' = [] ∧ acc = ((l.take i).flatMap Tm.ks).map Tm.d, ⟨rfl, rfl⟩, ?_, ?_⟩
            · rintro i d acc M' hd ⟨rfl, rfl⟩
              rw [List.getElem?_map] at hd
              obtain ⟨s, hs, rfl⟩ := Option.map_eq_some_iff.mp hd
              rw [Tm.d_eq]
              walk_at "tg"
              refine ⟨fun j acc1 M5 => M5 = [] ∧ acc1 = ((l.take i).flatMap Tm.ks ++ s.ks.take j).map Tm.d, ⟨rfl, by simp⟩, ?_, ?_⟩
              · rintro j e acc1 M5 he ⟨rfl, rfl⟩
                rw [List.getElem?_map] at he
                obtain ⟨u, hu, rfl⟩ := Option.map_eq_some_iff.mp he
                refine ⟨?_, ?_⟩
                · rw [List.length_map, List.length_append]
                  have b1 := szs_flat l
                  have b2 := szs_len (l.flatMap Tm.ks)
                  have b3 : ((l.take i).flatMap Tm.ks).length + s.ks.length ≤ (l.flatMap Tm.ks).length := by
                    have e1 : l = l.take i ++ s :: l.drop (i + 1) := by
                      obtain ⟨hi, e⟩ := List.getElem?_eq_some_iff.mp hs
                      rw [← e, List.getElem_cons_drop, List.take_append_drop]
                    conv => rhs; rw [e1]
                    rw [List.flatMap_append, List.length_append, List.flatMap_cons, List.length_append]
                    omega
                  have b4 : (s.ks.take j).length ≤ s.ks.length := by rw [List.length_take]; omega
                  omega
                · walk_at "tg"
                  refine ⟨rfl, ?_⟩
                  rw [List.take_add_one, hu]
                  simp
              · rintro acc1 M5 ⟨rfl, rfl⟩
                refine ⟨rfl, ?_⟩
                rw [List.length_map, List.take_length, List.take_add_one, hs]
                simp
            · rintro acc M' ⟨rfl, rfl⟩
              walk_at "tg"
              have b1 := szs_flat l
              refine ⟨_, ?_, k + 1, l.flatMap Tm.ks, n + l.length, rfl, ?_, rfl, by omega, ?_, by omega⟩
              · have : l.length ≠ 0 := fun z => hne (List.length_eq_zero_iff.mp z)
                omega
              · rw [List.length_map, List.take_length]
                have e1 : ((n : Int) + (l.length : Int)) = ((n + l.length : Nat) : Int) := by omega
                have e2 : ((k : Int) - 1 + 1) = (((k + 1 : Nat) : Int) - 1) := by omega
                rw [e1, e2]
                rfl
              · intro u hu
                obtain ⟨s, hs, hu⟩ := List.mem_flatMap.mp hu
                obtain ⟨j, hj, o⟩ := h2 s hs
                cases j with
                | zero => rw [o.leaf] at hu; cases hu
                | succ j => exact ⟨j, by omega, o.kid hu⟩
        · walk_at "tg"
          have e : decide (400 < t.sz) = true := by
            rw [decide_eq_true_iff]
            omega
          rw [e] at q
          exact q
      · have e : l = [] := by
          cases l with
          | nil => rfl
          | cons a l => cases c
        subst e
        have e0 : Tm.szs [] = 0 := rfl
        exact ⟨rfl, by omega⟩
    · rintro δ' M' ⟨rfl, h⟩
      walk_at "tg"
      have e : decide (400 < t.sz) = false := by
        rw [decide_eq_false_iff_not]
        omega
      rw [e] at q
      exact q⟩
theorem c_is_too_large (T : Top K mg w) : Cal P w K mg base 2 "is_too_large" (Spc K W_too) [] := cal_of T.d_is_too_large fun f fd F => by
  have c_is_large_term := c_is_large_term (P := P) (w := w) (base := base) T
  exact spc_ok F sc_is_too_large (fun ds M k h => by obtain ⟨t, rfl, _⟩ := h; rfl) fun cdv A outer s H E hr => by
    obtain ⟨t_LONGEST_TEXT, g_LONGEST_TEXT⟩ := T.g_LONGEST_TEXT; obtain ⟨t_LARGEST, g_LARGEST⟩ := T.g_LARGEST
    exact ⟨_, (pss_cons (ps_if (pt_cmpR op_eq (pe_ix (ix_K (K := K)) (pv 0) pe_int (fun _ _ => rfl)) pe_str (nomark _))
      (pss_one (ps_ret (pe_not (pe_chain op_le op_le (pe_un un_neg (pe_glob (v := V.int 1000000000000000000000000000000000000000000000000000000000000) (by rfl) g_LARGEST ⟨_, rfl⟩)) (pe_ix (ix_K (K := K)) (pv 0) pe_int (fun _ _ => rfl)) (pe_glob (v := V.int 1000000000000000000000000000000000000000000000000000000000000) (by rfl) g_LARGEST ⟨_, rfl⟩)))))
      pss_nil)
      (pss_cons (ps_if (pt_cmpR op_eq (pe_ix (ix_K (K := K)) (pv 0) pe_int (fun _ _ => rfl)) pe_str (nomark _))
      (pss_one (ps_ret (pe_cmpR op_gt (pe_callB (len_K (K := K)) (by rfl) T.m_len (by decide +kernel) (pa_cons (pe_ix (ix_K (K := K)) (pv 0) pe_int (fun _ _ => rfl)) pa_nil)) (pe_glob (v := V.int 1000) (by rfl) g_LONGEST_TEXT ⟨_, rfl⟩) (nomark _))))
      pss_nil)
      (pss_one (ps_ret (pe_and (pe_cmpR op_eq (pe_ix (ix_K (K := K)) (pv 0) pe_int (fun _ _ => rfl)) pe_str (nomark _)) (pe_one (pe_c c_is_large_term hr (by first | decide | omega) (by rfl) (pa_cons (pv 0) pa_nil)))))))), fun ds M kk hw => by
    obtain ⟨v, rfl, rfl, ok, q⟩ := hw
    have hsz := sizeLine_eq
    cases v with
    | int i =>
      refine as_start (δ' := [some (iD i)]) rfl ?_
      refine as_seq ?_
      walk_at "tg"
      refine dcase (fun c => ?_) (fun c => ?_)
      · walk_at "tg"
        have e : tooB (.int i) = !(decide (i ≤ big)) := by
          show (!(decide (-big ≤ i) && decide (i ≤ big))) = _
          rw [decide_eq_true (show -big ≤ i from c)]
          rfl
        rw [e] at q
        exact q
      · walk_at "tg"
        have e : tooB (.int i) = true := by
          show (!(decide (-big ≤ i) && decide (i ≤ big))) = _
          rw [decide_eq_false (show ¬ -big ≤ i from c)]
          rfl
        rw [e] at q
        exact q
    | bl b =>
      refine as_start (δ' := [some (bD b)]) rfl ?_
      refine as_seq ?_
      walk_at "tg"
      refine as_seq ?_
      walk_at "tg"
      exact q
    | tx l =>
      have hl := ok.1
      refine as_start (δ' := [some (xD l)]) rfl ?_
      refine as_seq ?_
      walk_at "tg"
      refine as_seq ?_
      walk_at "tg"
      exact q
    | tm t =>
      refine as_start (δ' := [some (tD t)]) rfl ?_
      refine as_seq ?_
      walk_at "tg"
      refine as_seq ?_
      walk_at "tg"
      exact ⟨[], [], fun d M => d = .bl (decide (400 < t.sz)) ∧ M = [], rfl, ⟨t, rfl, rfl, ok.1, ok.2, rfl, rfl⟩, by
        rintro _ _ ⟨rfl, rfl⟩
        exact q⟩
    | ab =>
      refine as_start (δ' := [some (.tup [.str (Str.ofString "absent")])]) rfl ?_
      refine as_seq ?_
      walk_at "tg"
      refine as_seq ?_
      walk_at "tg"
      exact q⟩
theorem c_settled (T : Top K mg w) : Cal P w K mg base 3 "settled" (Spc K W_settled) [] := cal_of T.d_settled fun f fd F => by
  have c_is_too_large := c_is_too_large (P := P) (w := w) (base := base) T
  exact spc_ok F sc_settled (fun ds M k h => by obtain ⟨t, rfl, _⟩ := h; rfl) fun cdv A outer s H E hr => by
    obtain ⟨t_ABSENT, g_ABSENT, k_ABSENT⟩ := T.g_ABSENT
    exact ⟨_, (pss_one (ps_ret (pe_ifExp (tru_K (K := K) (pe_c c_is_too_large hr (by first | decide | omega) (by rfl) (pa_cons (pv 0) pa_nil))) (pe_glob (v := V.ref t_ABSENT) (by rfl) g_ABSENT rfl) (pv 0)))), fun ds M kk hw => by
    obtain ⟨v, rfl, rfl, ok, q⟩ := hw
    have hsz := sizeLine_eq
    refine as_start (δ' := [some v.d]) rfl ?_
    walk_at "tg"
    refine ⟨[], [], fun d M => d = .bl (tooB v) ∧ M = [], rfl, ⟨v, rfl, rfl, ok, rfl, rfl⟩, ?_⟩
    rintro _ _ ⟨rfl, rfl⟩
    walk_at "tg"
    rw [settle_too] at q
    refine bcase (fun c => ?_) (fun c => ?_)
    · walk_at "tg"
      refine ae_c k_ABSENT ?_
      rw [if_pos (show tooB v = true from c)] at q
      rw [cst_ab]
      exact q
    · walk_at "tg"
      rw [if_neg (by rw [show tooB v = false from c]; exact Bool.false_ne_true)] at q
      exact q⟩
end

section
variable {P : Program} {w : World} {K : PySem.W.Frag} {mg : Str → Option Value} {base : Heap}
theorem cells_at {cs : List Int} {i : Int} (h0 : 0 ≤ i) (h : i < (cs.length : Int)) : ∃ c, c ∈ cs ∧ atI (cs.map D.int) i = some (.int c) := by
  obtain ⟨j, rfl⟩ : ∃ j : Nat, i = (j : Int) := ⟨i.toNat, by omega⟩
  have hj : j < cs.length := by omega
  refine ⟨cs[j], List.getElem_mem hj, ?_⟩
  exact atI_nat (by rw [List.getElem?_map, List.getElem?_eq_getElem hj]; rfl)
theorem c__law_pool (T : Top K mg w) : Cal P w K mg base 1 "_law_pool" (Spc K W_pool) [] := cal_of T.d__law_pool fun f fd F =>
  spc_ok F sc__law_pool (fun ds M k h => by obtain ⟨ns, rfl, _⟩ := h; rfl) fun cdv A outer s H E hr => ⟨_, (pss_one (ps_ret (pe_lstM (pe_lst (pa_cons (pe_lc (own := [("cell", 1)]) (g := gName 1) rfl sc__law_pool.nd (seq_K (K := K) (pv 0)) (blkOk_by (own := [("cell", 1)]) (N := ["script", "cell"]) (sc := defScope s__law_pool) (by decide +kernel)) (fun _ _ _ _ _ => (pg_name (i := 1) sc__law_pool.nd rfl (Or.inl rfl))) (fun _ _ _ _ _ => pts_nil) (fun _ _ _ _ _ => (pe_ifExp (pt_cmpR op_ge (pv 1) pe_int (nomark _)) (pe_op op_mul pe_int (pv 1)) (pe_op op_sub (pe_op op_mul (pe_un un_neg pe_int) (pv 1)) pe_int)))) (pa_cons pe_int (pa_cons pe_int (pa_cons pe_int pa_nil)))))))), fun ds M kk hw => by
    obtain ⟨ns, rfl, rfl, hl, q⟩ := hw
    refine as_start (δ' := [some (.lsk (ns.map D.int)), none]) rfl ?_
    walk_at "tg"
    refine ae_lc (ownG_name (by simp)) ?_
    walk_at "tg"
    refine ⟨by rw [List.length_map]; exact small1000 (by omega), fun i acc M' => M' = [] ∧ ∃ cs : List Int, acc = cs.map D.int ∧ ∀ c ∈ cs, 0 ≤ c, ⟨rfl, [], rfl, by simp⟩, ?_, ?_⟩
    · rintro i d acc M' hd ⟨rfl, cs, rfl, hc⟩
      obtain ⟨j, rfl⟩ : ∃ j, d = .int j := by
        rw [List.getElem?_map] at hd
        cases e : ns[i]? with
        | none => rw [e] at hd; cases hd
        | some j => rw [e] at hd; exact ⟨j, by simpa using hd.symm⟩
      walk_at "tg"
      refine dcase (fun c => ?_) (fun c => ?_)
      · walk_at "tg"
        exact ⟨rfl, cs ++ [2 * j], by simp, fun x hx => by
          rcases List.mem_append.mp hx with hx | hx
          · exact hc x hx
          · have e : x = 2 * j := by simpa using hx
            omega⟩
      · walk_at "tg"
        exact ⟨rfl, cs ++ [-2 * j - 1], by simp, fun x hx => by
          rcases List.mem_append.mp hx with hx | hx
          · exact hc x hx
          · have e : x = -2 * j - 1 := by simpa using hx
            omega⟩
    · rintro acc M' ⟨rfl, cs, rfl, hc⟩
      walk_at "tg"
      intro a
      exact q a ⟨cs, 0, 0, 17⟩ ⟨hc, Int.le_refl 0, Int.le_refl 0, by show (0 : Int) ≤ 17; decide, by show (17 : Int) < 2147483647; decide⟩⟩
theorem take_step (T : Top K mg w) (n : Nat) (c__law_take : Cal P w K mg base n "_law_take" (Spc K (W_take n)) []) : Cal P w K mg base (n + 1) "_law_take" (Spc K (W_take (n + 1))) [] := cal_of T.d__law_take fun f fd F =>
  spc_ok F sc__law_take (fun ds M k h => by obtain ⟨a, p, many, rfl, _⟩ := h; rfl) fun cdv A outer s H E hr => ⟨_, (pss_cons (ps_if (pt_cmpR op_gt (pe_ix (ix_K (K := K)) (pv 0) pe_int (fun _ _ => rfl)) pe_int (nomark _))
      (pss_cons (ps_set (i := 2) sc__law_take.nd rfl (Or.inl rfl) (pe_op op_mod (pe_callTy call_intU (by rfl) T.m_int (by decide +kernel) (pa_cons (pe_ix (ix_K (K := K)) (pv 0) pe_int (fun _ _ => rfl)) pa_nil)) (pv 1)))
      (pss_cons (ps_asg (pe_op op_fdiv (pe_ix (ix_K (K := K)) (pv 0) pe_int (fun _ _ => rfl)) (pv 1)) (pg_sub (pv 0) pe_int (set_any (hu_of hr))))
      (pss_one (ps_ret (pv 2)))))
      pss_nil)
      (pss_cons (ps_set (i := 3) sc__law_take.nd rfl (Or.inl rfl) pe_int)
      (pss_cons (ps_if (pt_cmpR op_lt (pe_ix (ix_K (K := K)) (pv 0) pe_int (fun _ _ => rfl)) (pe_callB (len_K (K := K)) (by rfl) T.m_len (by decide +kernel) (pa_cons (pe_ix (ix_K (K := K)) (pv 0) pe_int (fun _ _ => rfl)) pa_nil)) (nomark _))
      (pss_one (ps_set (i := 3) sc__law_take.nd rfl (Or.inl rfl) (pe_ix (ix_K (K := K)) (pe_ix (ix_K (K := K)) (pv 0) pe_int (fun _ _ => rfl)) (pe_ix (ix_K (K := K)) (pv 0) pe_int (fun _ _ => rfl)) (fun _ _ => rfl))))
      pss_nil)
      (pss_cons (ps_asg (pe_op (add_K (K := K)) (pe_ix (ix_K (K := K)) (pv 0) pe_int (fun _ _ => rfl)) pe_int) (pg_sub (pv 0) pe_int (set_any (hu_of hr))))
      (pss_cons (ps_if (pt_cmpR op_ge (pv 3) (pe_op op_pow pe_int pe_int) (nomark _))
      (pss_cons (ps_asg (pe_op op_fdiv (pv 3) pe_int) (pg_sub (pv 0) pe_int (set_any (hu_of hr))))
      (pss_one (ps_ret (pe_c c__law_take hr (by first | decide | omega) (by rfl) (pa_cons (pv 0) (pa_cons (pv 1) pa_nil))))))
      pss_nil)
      (pss_cons (ps_asg (pe_op op_mod (pe_callTy call_intU (by rfl) T.m_int (by decide +kernel) (pa_cons (pe_op (add_K (K := K)) (pe_op (add_K (K := K)) (pe_op op_mul (pe_ix (ix_K (K := K)) (pv 0) pe_int (fun _ _ => rfl)) pe_int) (pe_op op_mul (pv 3) pe_int)) (pe_op op_mul (pe_ix (ix_K (K := K)) (pv 0) pe_int (fun _ _ => rfl)) pe_int)) pa_nil)) pe_int) (pg_sub (pv 0) pe_int (set_any (hu_of hr))))
      (pss_cons (ps_set (i := 4) sc__law_take.nd rfl (Or.inl rfl) (pe_op op_mod (pe_callTy call_intU (by rfl) T.m_int (by decide +kernel) (pa_cons (pe_op (add_K (K := K)) (pe_op (add_K (K := K)) (pe_op op_mul (pe_ix (ix_K (K := K)) (pv 0) pe_int (fun _ _ => rfl)) (pe_ix (ix_K (K := K)) (pv 0) pe_int (fun _ _ => rfl))) (pe_op op_mul (pe_ix (ix_K (K := K)) (pv 0) pe_int (fun _ _ => rfl)) pe_int)) pe_int) pa_nil)) pe_int))
      (pss_one (ps_ret (pe_op op_mod (pe_callTy call_intU (by rfl) T.m_int (by decide +kernel) (pa_cons (pe_op op_fdiv (pv 4) pe_int) pa_nil)) (pv 1))))))))))), fun ds M kk hw => by
    obtain ⟨a, p, many, rfl, rfl, ok, h0, h1, hn, hb, q⟩ := hw
    have s0 := ok.seed0
    have s1 := ok.seed1
    have b0 := ok.big
    refine as_start (δ' := [some (.ref a), some (.int many), none, none, none]) rfl ?_
    refine as_seq ?_
    walk_at "tg"
    refine dcase (fun c => ?_) (fun c => ?_)
    · walk_at "tg"
      exact q _ { p with big := p.big / many } ⟨ok.cells, ok.pos, Int.ediv_nonneg b0 (by omega), s0, s1⟩ (Int.emod_nonneg _ (by omega)) (Int.emod_lt_of_pos _ h0)
    · have hn2 : 2 ≤ n + 1 := by rcases hb with z | z <;> omega
      walk_at "tg"
      refine as_cut (fun δ' M' => ∃ c : Int, 0 ≤ c ∧ δ' = [some (.ref a), some (.int many), none, some (.int c), none] ∧ M' = [(a, .lst p.d)]) ?_ ?_
      · walk_at "tg"
        refine dcase (fun c => ?_) (fun c => ?_)
        · have c' : p.pos < (p.cells.length : Int) := by rw [List.length_map] at c; exact c
          obtain ⟨x, hx, hat⟩ := cells_at ok.pos c'
          walk_at "tg"
          refine aix_L hat ?_
          walk_at "tg"
          exact ⟨x, ok.cells x hx, rfl, rfl⟩
        · walk_at "tg"
          exact ⟨0, Int.le_refl 0, rfl, rfl⟩
      · rintro δ' M' ⟨c, hc, rfl, rfl⟩
        walk_at "tg"
        refine as_seq ?_
        walk_at "tg"
        have p0 := ok.pos
        refine dcase (fun c1 => ?_) (fun c1 => ?_)
        · walk_at "tg"
          have e18 : (10 : Int) ^ Int.toNat 18 = 1000000000000000000 := by decide
          rw [e18] at c1
          exact ⟨[_], [], kk, rfl, ⟨a, { p with pos := p.pos + 1, big := c / 2 }, many, rfl, rfl, ⟨ok.cells, by show 0 ≤ p.pos + 1; omega, by show 0 ≤ c / 2; omega, s0, s1⟩, h0, h1, by omega, .inl (by show 0 < c / 2; omega), fun r p' ok' r0 r1 => q r p' ok' r0 r1⟩, fun d Mc' h => by rw [List.append_nil]; exact h⟩
        · walk_at "tg"
          exact q _ { p with pos := p.pos + 1, seed := (p.seed * 48271 + c * 69621 + (p.pos + 1) * 613) % 2147483647 } ⟨ok.cells, by show 0 ≤ p.pos + 1; omega, b0, Int.emod_nonneg _ (by decide), Int.emod_lt_of_pos _ (by decide)⟩ (Int.emod_nonneg _ (by omega)) (Int.emod_lt_of_pos _ h0)⟩
theorem c__law_take (T : Top K mg w) : ∀ n : Nat, Cal P w K mg base n "_law_take" (Spc K (W_take n)) []
  | 0 => cal_none T.d__law_take fun ds M k h => by
    obtain ⟨_, _, _, _, _, _, _, _, h, _⟩ := h
    omega
  | n + 1 => take_step T n (c__law_take T n)
end

open PySem.NumText
def W_lsz (n : Nat) : Wt := fun ds M k => ∃ (h : Nat) (t : Tm), h < n ∧ ds = [tD t] ∧ M = [] ∧ t.sz ≤ 1000 ∧ Tm.Ok h t ∧ k (.int (t.sz : Nat)) []
def W_lquo : Wt := fun ds M k => ∃ i j : Int, ds = [.int i, .int j] ∧ M = [] ∧ ¬ j = 0 ∧ (-big ≤ i ∧ i ≤ big) ∧ (-big ≤ j ∧ j ≤ big) ∧ k (.int (quoI i j)) []
def W_lpar : Wt := fun ds M k => ∃ l : List Nat, ds = [.str (Tg.tx l)] ∧ M = [] ∧ l.length ≤ 1000 ∧ ∀ r : Vl, settle r = settle (if l = [] ∨ digB l = false then .ab else .int (digitsVal l : Nat)) → r.Raw → k r.d []
theorem sz_kid {t s : Tm} (h : s ∈ t.ks) : s.sz ≤ t.sz := by
  rw [t.sz_eq]
  have : s.sz ≤ (t.ks.map Tm.sz).sum := by
    generalize t.ks = l at h
    induction l with
    | nil => cases h
    | cons a l ih =>
      rw [List.map_cons, List.sum_cons]
      rcases List.mem_cons.mp h with rfl | h
      · omega
      · have := ih h
        omega
  omega
section
variable {P : Program} {w : World} {K : PySem.W.Frag} {mg : Str → Option Value} {base : Heap}
theorem lsz_step (T : Top K mg w) (n : Nat) (c__law_size : Cal P w K mg base n "_law_size" (Spc K (W_lsz n)) []) : Cal P w K mg base (n + 1) "_law_size" (Spc K (W_lsz (n + 1))) [] := cal_of T.d__law_size fun f fd F => by
  exact spc_ok F sc__law_size (fun ds M k h => by obtain ⟨h, t, _, rfl, _⟩ := h; rfl) fun cdv A outer s H E hr => ⟨_, (pss_one (ps_ret (pe_op (add_K (K := K)) pe_int (pe_callB (sum_K (K := K) rfl) (by rfl) T.m_sum (by decide +kernel) (pa_cons (pe_lc (own := [("below", 1)]) (g := gName 1) rfl sc__law_size.nd (seq_K (K := K) (pe_ix (ix_K (K := K)) (pv 0) pe_int (fun _ _ => rfl))) (blkOk_by (own := [("below", 1)]) (N := ["term", "below"]) (sc := defScope s__law_size) (by decide +kernel)) (fun _ _ _ _ _ => (pg_name (i := 1) sc__law_size.nd rfl (Or.inl rfl))) (fun _ _ _ _ _ => pts_nil) (fun _ _ _ _ _ => (pe_c c__law_size hr (by first | decide | omega) (by rfl) (pa_cons (pv 1) pa_nil)))) pa_nil))))), fun ds M kk hw => by
    obtain ⟨h, t, hn, rfl, rfl, hz, ok, q⟩ := hw
    have hsz := sizeLine_eq
    have hk := kids_le t
    refine as_start (δ' := [some (tD t), none]) rfl ?_
    walk_at "tg"
    refine ae_lc (ownG_name (by simp)) ?_
    walk_at "tg"
    refine ⟨by rw [List.length_map]; omega, fun i acc M' => M' = [] ∧ acc = ((t.ks.take i).map fun s => ((s.sz : Nat) : Int)).map D.int, ⟨rfl, rfl⟩, ?_, ?_⟩
    · rintro i d acc M' hd ⟨rfl, rfl⟩
      rw [List.getElem?_map] at hd
      obtain ⟨s, hs, rfl⟩ := Option.map_eq_some_iff.mp hd
      have hm := List.mem_of_getElem? hs
      have hle := sz_kid hm
      rw [Tm.d_eq]
      walk_at "tg"
      obtain ⟨h', rfl⟩ : ∃ h', h = h' + 1 := by
        cases h with
        | zero => rw [ok.leaf] at hm; cases hm
        | succ h => exact ⟨h, rfl⟩
      refine ⟨[], [], fun d M => d = .int (s.sz : Nat) ∧ M = [], rfl, ⟨h', s, by omega, rfl, rfl, by omega, ok.kid hm, rfl, rfl⟩, ?_⟩
      rintro _ _ ⟨rfl, rfl⟩
      refine ⟨rfl, ?_⟩
      rw [List.take_add_one, hs]
      simp
    · rintro acc M' ⟨rfl, rfl⟩
      walk_at "tg"
      refine ac_sum ?_
      walk_at "tg"
      rw [List.length_map, List.take_length]
      have e : (1 : Int) + (t.ks.map fun s => ((s.sz : Nat) : Int)).sum = ((t.sz : Nat) : Int) := by
        rw [t.sz_eq]
        have : ∀ l : List Tm, (l.map fun s => ((s.sz : Nat) : Int)).sum = (((l.map Tm.sz).sum : Nat) : Int) := by
          intro l
          induction l with
          | nil => rfl
          | cons a l ih => simp [ih]
        rw [this]
        omega
      rw [e]
      exact q⟩
theorem c__law_size (T : Top K mg w) : ∀ n : Nat, Cal P w K mg base n "_law_size" (Spc K (W_lsz n)) []
  | 0 => cal_none T.d__law_size fun ds M k h => by
    obtain ⟨h, _, h0, _⟩ := h
    omega
  | n + 1 => lsz_step T n (c__law_size T n)
theorem c__law_settled (T : Top K mg w) : Cal P w K mg base 4 "_law_settled" (Spc K W_settled) [] := cal_of T.d__law_settled fun f fd F => by
  have c__law_size := c__law_size (P := P) (w := w) (base := base) T 3
  exact spc_ok F sc__law_settled (fun ds M k h => by obtain ⟨t, rfl, _⟩ := h; rfl) fun cdv A outer s H E hr => ⟨_, (pss_cons (ps_if (pw_and (pt_cmpR op_eq (pe_ix (ix_K (K := K)) (pv 0) pe_int (fun _ _ => rfl)) pe_str (nomark _)) (pw_and1 (pt_cmpR op_gt (pe_callB call_absU (by rfl) T.m_abs (by decide +kernel) (pa_cons (pe_ix (ix_K (K := K)) (pv 0) pe_int (fun _ _ => rfl)) pa_nil)) (pe_op op_pow pe_int pe_int) (nomark _)))).pt
      (pss_one (ps_ret (pe_tup (pa_cons pe_str pa_nil))))
      pss_nil)
      (pss_cons (ps_if (pw_and (pt_cmpR op_eq (pe_ix (ix_K (K := K)) (pv 0) pe_int (fun _ _ => rfl)) pe_str (nomark _)) (pw_and1 (pt_cmpR op_gt (pe_callB (len_K (K := K)) (by rfl) T.m_len (by decide +kernel) (pa_cons (pe_ix (ix_K (K := K)) (pv 0) pe_int (fun _ _ => rfl)) pa_nil)) pe_int (nomark _)))).pt
      (pss_one (ps_ret (pe_tup (pa_cons pe_str pa_nil))))
      pss_nil)
      (pss_cons (ps_if (pw_and (pt_cmpR op_eq (pe_ix (ix_K (K := K)) (pv 0) pe_int (fun _ _ => rfl)) pe_str (nomark _)) (pw_and1 (pt_cmpR op_gt (pe_c c__law_size hr (by first | decide | omega) (by rfl) (pa_cons (pv 0) pa_nil)) pe_int (nomark _)))).pt
      (pss_one (ps_ret (pe_tup (pa_cons pe_str pa_nil))))
      pss_nil)
      (pss_one (ps_ret (pv 0)))))), fun ds M kk hw => by
    obtain ⟨v, rfl, rfl, ok, q⟩ := hw
    have hsz := sizeLine_eq
    have e60 : (10 : Int) ^ Int.toNat 60 = big := by decide +kernel
    cases v with
    | int i =>
      refine as_start (δ' := [some (iD i)]) rfl ?_
      refine as_seq ?_
      walk_at "tg"
      refine ac_abs ?_
      walk_at "tg"
      rw [e60]
      have e : (big < absI i) ↔ ¬ (-big ≤ i ∧ i ≤ big) := by
        unfold absI
        split <;> omega
      refine dcase (fun c => ?_) (fun c => ?_)
      · walk_at "tg"
        have e2 : settle (.int i) = .ab := if_neg (e.mp c)
        rw [e2] at q
        exact q
      · have e2 : settle (.int i) = .int i := if_pos (by
          have := fun z => c (e.mpr z)
          exact Decidable.byContradiction this)
        rw [e2] at q
        walk_at "tg"
        refine as_seq ?_
        walk_at "tg"
        refine as_seq ?_
        walk_at "tg"
        exact q
    | bl b =>
      refine as_start (δ' := [some (bD b)]) rfl ?_
      refine as_seq ?_
      walk_at "tg"
      refine as_seq ?_
      walk_at "tg"
      refine as_seq ?_
      walk_at "tg"
      exact q
    | tx l =>
      have hl := ok.1
      refine as_start (δ' := [some (xD l)]) rfl ?_
      refine as_seq ?_
      walk_at "tg"
      refine as_seq ?_
      walk_at "tg"
      refine dcase (fun c => ?_) (fun c => ?_)
      · walk_at "tg"
        have e2 : settle (.tx l) = .ab := if_neg (by omega)
        rw [e2] at q
        exact q
      · walk_at "tg"
        refine as_seq ?_
        walk_at "tg"
        have e2 : settle (.tx l) = .tx l := if_pos (by omega)
        rw [e2] at q
        exact q
    | tm t =>
      refine as_start (δ' := [some (tD t)]) rfl ?_
      refine as_seq ?_
      walk_at "tg"
      refine as_seq ?_
      walk_at "tg"
      refine as_seq ?_
      walk_at "tg"
      refine ⟨[], [], fun d M => d = .int (t.sz : Nat) ∧ M = [], rfl, ⟨2, t, by omega, rfl, rfl, ok.1, ok.2, rfl, rfl⟩, ?_⟩
      rintro _ _ ⟨rfl, rfl⟩
      walk_at "tg"
      refine dcase (fun c => ?_) (fun c => ?_)
      · walk_at "tg"
        have e2 : settle (.tm t) = .ab := if_neg (by omega)
        rw [e2] at q
        exact q
      · walk_at "tg"
        have e2 : settle (.tm t) = .tm t := if_pos (by omega)
        rw [e2] at q
        exact q
    | ab =>
      refine as_start (δ' := [some (.tup [.str (Str.ofString "absent")])]) rfl ?_
      refine as_seq ?_
      walk_at "tg"
      refine as_seq ?_
      walk_at "tg"
      refine as_seq ?_
      walk_at "tg"
      exact q⟩
theorem c__law_quotient (T : Top K mg w) : Cal P w K mg base 1 "_law_quotient" (Spc K W_lquo) [] := cal_of T.d__law_quotient fun f fd F => by
  exact spc_ok F sc__law_quotient (fun ds M k h => by obtain ⟨i, j, rfl, _⟩ := h; rfl) fun cdv A outer s H E hr => ⟨_, (pss_cons (ps_set (i := 2) sc__law_quotient.nd rfl (Or.inl rfl) pe_int)
      (pss_cons (ps_if (pt_cmpR op_eq (pe_cmpR op_lt (pv 0) pe_int (nomark _)) (pe_cmpR op_lt (pv 1) pe_int (nomark _)) (nomark _))
      (pss_one (ps_set (i := 2) sc__law_quotient.nd rfl (Or.inl rfl) (pe_op op_fdivW (pe_callB call_absU (by rfl) T.m_abs (by decide +kernel) (pa_cons (pv 0) pa_nil)) (pe_callB call_absU (by rfl) T.m_abs (by decide +kernel) (pa_cons (pv 1) pa_nil)))))
      (pss_one (ps_set (i := 2) sc__law_quotient.nd rfl (Or.inl rfl) (pe_un un_neg (pe_op op_fdivW (pe_callB call_absU (by rfl) T.m_abs (by decide +kernel) (pa_cons (pv 0) pa_nil)) (pe_callB call_absU (by rfl) T.m_abs (by decide +kernel) (pa_cons (pv 1) pa_nil)))))))
      (pss_one (ps_ret (pv 2))))), fun ds M kk hw => by
    obtain ⟨i, j, rfl, rfl, hj0, hi, hj, q⟩ := hw
    have hp := abs_pos hj0
    have hl := abs_log hj
    refine as_start (δ' := [some (.int i), some (.int j), none]) rfl ?_
    walk_at "tg"
    refine as_seq ?_
    walk_at "tg"
    refine bcase (fun c2 => ?_) (fun c2 => ?_)
    · walk_at "tg"
      refine ac_abs ?_
      walk_at "tg"
      refine ac_abs ?_
      refine ar_intC ⟨hp, by show (absI j).natAbs.log2 < 9000; omega⟩ ?_
      walk_at "tg"
      have e : quoI i j = absI i / absI j := by
        unfold quoI
        rw [if_pos (of_decide_eq_true c2)]
      rw [e] at q
      exact q
    · walk_at "tg"
      refine ac_abs ?_
      walk_at "tg"
      refine ac_abs ?_
      refine ar_intC ⟨hp, by show (absI j).natAbs.log2 < 9000; omega⟩ ?_
      walk_at "tg"
      have e : quoI i j = -(absI i / absI j) := by
        unfold quoI
        rw [if_neg (of_decide_eq_false c2)]
      rw [e] at q
      exact q⟩
end

open PySem.NumText
theorem digitsVal_zero (l : List Nat) : digitsVal (48 :: l) = digitsVal l := rfl
theorem fold_ge : ∀ (l : List Nat) (a : Nat), a * 10 ^ l.length ≤ l.foldl (fun acc c => acc * 10 + (c - 48)) a
  | [], a => by simp
  | c :: l, a => by
    have h := fold_ge l (a * 10 + (c - 48))
    have e : a * 10 ^ (c :: l).length = a * 10 * 10 ^ l.length := by
      rw [List.length_cons, Nat.pow_succ, Nat.mul_comm (10 ^ l.length) 10, Nat.mul_assoc]
    rw [e, List.foldl_cons]
    exact Nat.le_trans (Nat.mul_le_mul_right _ (by omega)) h
theorem digitsVal_ge {c : Nat} {l : List Nat} (h : 49 ≤ c) : 10 ^ l.length ≤ digitsVal (c :: l) := by
  have := fold_ge l (0 * 10 + (c - 48))
  have e : digitsVal (c :: l) = l.foldl (fun acc c => acc * 10 + (c - 48)) (0 * 10 + (c - 48)) := rfl
  rw [e]
  exact Nat.le_trans (by
    have : 1 * 10 ^ l.length ≤ (0 * 10 + (c - 48)) * 10 ^ l.length := Nat.mul_le_mul_right _ (by omega)
    omega) this
theorem cut_tail (c : Nat) (l : List Nat) : Tg.cutD (c :: l) (some 1) none = l := by
  unfold Tg.cutD
  rw [show ((1 : Int)) = ((1 : Nat) : Int) from rfl, HT.sIx_nat, HT.sIx_none, Nat.min_eq_left (by simp)]
  simp
theorem nDig (c : Nat) : decide (c ∈ [48, 49, 50, 51, 52, 53, 54, 55, 56, 57]) = (decide (48 ≤ c) && decide (c ≤ 57)) := by
  rw [Bool.eq_iff_iff, Bool.and_eq_true, decide_eq_true_iff, decide_eq_true_iff, decide_eq_true_iff]
  simp only [List.mem_cons, List.not_mem_nil, or_false]
  omega
theorem any_dig (l : List Nat) : (l.map fun c => !decide (c ∈ [48, 49, 50, 51, 52, 53, 54, 55, 56, 57])).any id = !digB l := by
  unfold digB
  rw [List.any_map, List.not_all_eq_any_not]
  congr 1
  funext c
  show (!decide (c ∈ _)) = _
  rw [nDig]
theorem dig_str : Str.ofString "0123456789" = Tg.tx [48, 49, 50, 51, 52, 53, 54, 55, 56, 57] := by decide +kernel
section
variable {P : Program} {w : World} {K : PySem.W.Frag} {mg : Str → Option Value} {base : Heap}
theorem c__law_parsed (T : Top K mg w) : Cal P w K mg base 1 "_law_parsed" (Spc K W_lpar) [] := cal_of T.d__law_parsed fun f fd F => by
  exact spc_ok F sc__law_parsed (fun ds M k h => by obtain ⟨l, rfl, _⟩ := h; rfl) fun cdv A outer s H E hr => ⟨_, (pss_cons (ps_if (pw_or (pt_cmpR op_eq (pv 0) pe_str (nomark _)) (pw_or1 (tru_K (K := K) (pe_callB (any_K (K := K) rfl) (by rfl) T.m_any (by decide +kernel) (pa_cons (pe_lc (own := [("sign", 1)]) (g := gName 1) rfl sc__law_parsed.nd (seq_K (K := K) (pv 0)) (blkOk_by (own := [("sign", 1)]) (N := ["text", "sign"]) (sc := defScope s__law_parsed) (by decide +kernel)) (fun _ _ _ _ _ => (pg_name (i := 1) sc__law_parsed.nd rfl (Or.inl rfl))) (fun _ _ _ _ _ => pts_nil) (fun _ _ _ _ _ => (pe_cmpR (notin_K (K := K)) (pv 1) pe_str (by rfl)))) pa_nil))))).pt
      (pss_one (ps_ret (pe_tup (pa_cons pe_str pa_nil))))
      pss_nil)
      (pss_cons (ps_while PassesOwn.never (pw_and (pt_cmpR op_gt (pe_callB (len_K (K := K)) (by rfl) T.m_len (by decide +kernel) (pa_cons (pv 0) pa_nil)) pe_int (nomark _)) (pw_and1 (pt_cmpR op_eq (pe_ix (ix_K (K := K)) (pv 0) pe_int (fun _ _ => rfl)) pe_str (nomark _)))).pt
      (pss_one (ps_set (i := 0) sc__law_parsed.nd rfl (Or.inl rfl) (pe_slice (sl_K (K := K)) (pv 0) (po_some pe_int) po_none))))
      (pss_cons (ps_if (pt_cmpR op_gt (pe_callB (len_K (K := K)) (by rfl) T.m_len (by decide +kernel) (pa_cons (pv 0) pa_nil)) pe_int (nomark _))
      (pss_one (ps_ret (pe_tup (pa_cons pe_str pa_nil))))
      pss_nil)
      (pss_one (ps_ret (pe_tup (pa_cons pe_str (pa_cons (pe_callTy (cr_intT T.dig) (by rfl) T.m_int (by decide +kernel) (pa_cons (pv 0) pa_nil)) pa_nil)))))))), fun ds M kk hw => by
    obtain ⟨l, rfl, rfl, hl, q⟩ := hw
    have hsz := sizeLine_eq
    refine as_start (δ' := [some (.str (Tg.tx l)), none]) rfl ?_
    refine as_seq ?_
    walk_at "tg"
    have e0 : (Tg.tx l = Str.ofString "") ↔ l = [] := by
      rw [show Str.ofString "" = Tg.tx [] from rfl]
      exact ⟨fun z => tx_inj z, fun z => by rw [z]⟩
    refine dcaseR (fun c => ?_) (fun c => ?_)
    · have hne : l ≠ [] := fun z => c (e0.mpr z)
      walk_at "tg"
      refine ae_lc (ownG_name (by simp)) ?_
      walk_at "tg"
      rw [tx_signs]
      refine ⟨by rw [List.length_map]; omega, fun i acc M' => M' = [] ∧ acc = ((l.take i).map fun c => !decide (c ∈ [48, 49, 50, 51, 52, 53, 54, 55, 56, 57])).map D.bl, ⟨rfl, rfl⟩, ?_, ?_⟩
      · rintro i d acc M' hd ⟨rfl, rfl⟩
        rw [List.getElem?_map] at hd
        obtain ⟨c, hc, rfl⟩ := Option.map_eq_some_iff.mp hd
        walk_at "tg"
        rw [dig_str]
        refine anin_sign ?_
        refine ⟨rfl, ?_⟩
        rw [List.take_add_one, hc]
        simp
      · rintro acc M' ⟨rfl, rfl⟩
        rw [List.length_map, List.take_length]
        walk_at "tg"
        refine ac_any ?_
        rw [any_dig]
        walk_at "tg"
        refine bcase (fun c2 => ?_) (fun c2 => ?_)
        · have c3 : (!digB l) = true := c2
          walk_at "tg"
          exact q .ab (by rw [if_pos (.inr (by simpa using c3))]) trivial
        · have c3 : (!digB l) = false := c2
          have hd : digB l = true := by simpa using c3
          have hn : ¬ (l = [] ∨ digB l = false) := by rw [hd]; simp [hne]
          rw [if_neg hn] at q
          walk_at "tg"
          refine as_cut (fun δ' M' => ∃ l' : List Nat, δ' = [some (.str (Tg.tx l')), none] ∧ M' = [] ∧ l' ≠ [] ∧ AllDigits l' ∧ digitsVal l' = digitsVal l ∧ l'.length ≤ 1000 ∧ (l'.length ≤ 1 ∨ l'.head? ≠ some 48)) ?_ ?_
          · refine as_while (fun m δ' M' => ∃ l' : List Nat, m = l'.length ∧ δ' = [some (.str (Tg.tx l')), none] ∧ M' = [] ∧ l' ≠ [] ∧ AllDigits l' ∧ digitsVal l' = digitsVal l ∧ l'.length ≤ 1000) _ ⟨l, rfl, rfl, rfl, hne, digB_all hd, rfl, hl⟩ ?_
            rintro m δ' M' ⟨l', rfl, rfl, rfl, h1, h2, h3, h4⟩
            walk_at "tg"
            refine dcase (fun c4 => ?_) (fun c4 => ?_)
            · obtain ⟨c, r, rfl⟩ : ∃ c r, l' = c :: r := by
                cases l' with
                | nil => exact absurd rfl h1
                | cons c r => exact ⟨c, r, rfl⟩
              walk_at "tg"
              refine au_ixS (c := c) (by omega) (atI_nat (j := 0) rfl) ?_
              walk_at "tg"
              rw [show Str.ofString "0" = Tg.tx [48] from by decide +kernel]
              refine dcase (fun c5 => ?_) (fun c5 => ?_)
              · have e5 : c = 48 := by
                  have := tx_inj c5
                  simpa using this
                subst e5
                walk_at "tg"
                refine asl_str (by omega) ?_
                rw [cut_tail]
                walk_at "tg"
                refine ⟨r.length, by simp, r, rfl, rfl, rfl, ?_, fun x hx => h2 x (List.mem_cons_of_mem _ hx), ?_, ?_⟩
                · intro z
                  rw [z] at c4
                  simp at c4
                · rw [← h3]
                  exact (digitsVal_zero r).symm
                · rw [List.length_cons] at h4
                  omega
              · refine ⟨c :: r, rfl, rfl, h1, h2, h3, h4, .inr ?_⟩
                intro z
                have : c = 48 := by simpa using z
                exact c5 (by rw [this])
            · walk_at "tg"
              exact ⟨rfl, h1, h2, h3, h4, .inl (by omega)⟩
          · rintro δ' M' ⟨l', rfl, rfl, h1, h2, h3, h4, h5⟩
            refine as_seq ?_
            walk_at "tg"
            refine dcase (fun c4 => ?_) (fun c4 => ?_)
            · walk_at "tg"
              refine q .ab ?_ trivial
              obtain ⟨c, r, rfl⟩ : ∃ c r, l' = c :: r := by
                cases l' with
                | nil => exact absurd rfl h1
                | cons c r => exact ⟨c, r, rfl⟩
              have hc := h2 c (by simp)
              have h6 : c ≠ 48 := by
                rcases h5 with h5 | h5
                · omega
                · intro z
                  rw [z] at h5
                  exact h5 rfl
              have h7 := digitsVal_ge (c := c) (l := r) (by omega)
              rw [List.length_cons] at c4
              have h8 : 10 ^ 61 ≤ 10 ^ r.length := Nat.pow_le_pow_right (by decide) (by omega)
              have h9 : ¬ (-big ≤ ((digitsVal l : Nat) : Int) ∧ ((digitsVal l : Nat) : Int) ≤ big) := by
                rw [← h3]
                rintro ⟨_, z⟩
                have hb : big < ((10 ^ 61 : Nat) : Int) := by decide +kernel
                omega
              exact (if_neg h9).symm
            · walk_at "tg"
              refine ac_intT h2 h1 (by omega) ?_
              rw [h3]
              walk_at "tg"
              exact q (.int (digitsVal l : Nat)) rfl trivial
    · walk_at "tg"
      exact q .ab (by rw [if_pos (.inl (e0.mp c))]) trivial⟩
end

/-! ### what an operation makes of its operands -/
theorem shI_len {i : Int} (h : -big ≤ i ∧ i ≤ big) : (shI i).length ≤ 4000 := by
  have hl := big_log h
  have e := int_text_length_le (k := 1920) (a := i) (by decide) (by omega)
  have e2 : (shI i).length = (Str.ofString (toString i)).length := by
    unfold shI
    exact Array.length_toList
  rw [e2, PySem.ofString_length]
  omega
theorem shI_ascii (i : Int) : ∀ c ∈ shI i, c < 128 := by
  unfold shI
  rw [signs_ofString]
  intro c hc
  obtain ⟨x, hx, rfl⟩ := List.mem_map.mp hc
  have rep : ∀ m : Nat, ∀ x ∈ (Nat.repr m).toList, x.toNat < 128 := by
    intro m x hx
    rw [Nat.toList_repr] at hx
    exact digits_ascii m _ (List.mem_map.mpr ⟨x, hx, rfl⟩)
  cases i with
  | ofNat m => exact rep m x hx
  | negSucc m =>
    have e : (toString (Int.negSucc m)).toList = '-' :: (Nat.repr (m + 1)).toList := by
      show ("-" ++ Nat.repr (m + 1)).toList = _
      rw [String.toList_append]
      rfl
    rw [e] at hx
    rcases List.mem_cons.mp hx with rfl | hx
    · decide
    · exact rep _ x hx
theorem run1_raw {o : O1} {v r : Vl} (ok : v.Ok 2) (h : O1.run o v = some r) : r.Raw := by
  cases o <;> cases v <;> simp only [O1.run, reduceCtorEq, Option.some.injEq] at h <;> subst h
  · trivial
  · trivial
  · trivial
  · exact ⟨shI_len ok, shI_ascii _⟩
  · split <;> trivial
  · exact ⟨by have := ok.2.lab.1; omega, ok.2.lab.2⟩
  · trivial
  · refine ⟨by rw [Tm.sz_eq]; show 1 + 0 ≤ 1000; omega, ?_⟩
    exact ⟨⟨ok.1, ok.2⟩, fun s hs => by cases hs⟩
theorem run2_raw {o : O2} {a b r : Vl} (oa : a.Ok 2) (ob : b.Ok 1) (h : O2.run o a b = some r) : r.Raw := by
  cases o <;> cases a <;> cases b <;> simp only [O2.run, reduceCtorEq, Option.some.injEq] at h <;> subst h
  · trivial
  · trivial
  · trivial
  · split <;> trivial
  · split <;> trivial
  · trivial
  · trivial
  · trivial
  · trivial
  · trivial
  · trivial
  · trivial
  · refine ⟨by rw [List.length_append]; have := oa.1; have := ob.1; omega, fun c hc => ?_⟩
    rcases List.mem_append.mp hc with hc | hc
    · exact oa.2 c hc
    · exact ob.2 c hc
  · rename_i t u
    refine ⟨?_, ?_⟩
    · have h1 := oa.1
      have h2 := ob.1
      rw [Tm.sz_eq] at h1 ⊢
      show 1 + ((t.ks ++ [u]).map Tm.sz).sum ≤ 1000
      rw [List.map_append, List.sum_append]
      simp
      omega
    · refine ⟨oa.2.lab, fun s hs => ?_⟩
      rcases List.mem_append.mp hs with hs | hs
      · exact oa.2.kid hs
      · rw [List.mem_singleton.mp hs]
        exact ob.2
  · rename_i t i
    split
    · cases e : t.ks[i.toNat]? with
      | none => trivial
      | some u =>
        have hm := List.mem_of_getElem? e
        have := sz_kid hm
        have := oa.1
        exact ⟨by show u.sz ≤ 1000; omega, (oa.2.kid hm).up⟩
    · trivial
inductive Job where
  | one (o : O1) (v : Vl)
  | two (o : O2) (a b : Vl)
def Job.head : Job → Str
  | .one o _ => o.name
  | .two o _ _ => o.name
def Job.args : Job → List Vl
  | .one _ v => [v]
  | .two _ a b => [a, b]
def Job.run : Job → Option Vl
  | .one o v => O1.run o v
  | .two o a b => O2.run o a b
def Job.Ok : Job → Prop
  | .one _ v => v.Ok 2
  | .two _ a b => a.Ok 2 ∧ b.Ok 1
def Job.Out (j : Job) (out : Vl) : Prop := (j.args.any Vl.isAb = true ∧ out = .ab) ∨ (j.args.any Vl.isAb = false ∧ ∃ r, j.run = some r ∧ out = settle r)
theorem Job.Ok.all {j : Job} (h : j.Ok) : ∀ v ∈ j.args, v.Ok 2 := by
  intro v hv
  cases j with
  | one o a => rw [List.mem_singleton.mp hv]; exact h
  | two o a b =>
    rcases List.mem_cons.mp hv with rfl | hv
    · exact h.1
    · rw [List.mem_singleton.mp hv]
      exact h.2.le (by decide)
theorem Job.Out.ok {j : Job} {out : Vl} (h : j.Out out) (ok : j.Ok) : out.Ok 2 := by
  rcases h with ⟨_, rfl⟩ | ⟨_, r, hr, rfl⟩
  · trivial
  · cases j with
    | one o v => exact settle_ok (run1_raw ok hr)
    | two o a b => exact settle_ok (run2_raw ok.1 ok.2 hr)
def W_work : Wt := fun ds M k => ∃ (j : Job) (out : Vl), ds = [.str j.head, .lst (j.args.map Vl.d)] ∧ M = [] ∧ j.Ok ∧ j.Out out ∧ k out.d []
def W_l1 : Wt := fun ds M k => ∃ (o : O1) (v r : Vl), ds = [.str o.name, v.d] ∧ M = [] ∧ v.Ok 2 ∧ O1.run o v = some r ∧ ∀ r' : Vl, settle r' = settle r → r'.Raw → k r'.d []
def W_l2 : Wt := fun ds M k => ∃ (o : O2) (a b r : Vl), ds = [.str o.name, a.d, b.d] ∧ M = [] ∧ a.Ok 2 ∧ b.Ok 1 ∧ O2.run o a b = some r ∧ k r.d []
section
variable {P : Program} {w : World} {K : PySem.W.Frag} {mg : Str → Option Value} {base : Heap}
theorem c__law_one (T : Top K mg w) : Cal P w K mg base 2 "_law_one" (Spc K W_l1) [] := cal_of T.d__law_one fun f fd F => by
  have c__law_parsed := c__law_parsed (P := P) (w := w) (base := base) T
  exact spc_ok F sc__law_one (fun ds M k h => by obtain ⟨o, v, r, rfl, _⟩ := h; rfl) fun cdv A outer s H E hr => ⟨_, (pss_cons (ps_if (pt_cmpR op_eq (pv 0) pe_str (nomark _))
      (pss_one (ps_ret (pe_tup (pa_cons pe_str (pa_cons (pe_not (pe_ix (ix_K (K := K)) (pv 1) pe_int (fun _ _ => rfl))) pa_nil)))))
      pss_nil)
      (pss_cons (ps_if (pt_cmpR op_eq (pv 0) pe_str (nomark _))
      (pss_one (ps_ret (pe_tup (pa_cons pe_str (pa_cons (pe_un un_neg (pe_ix (ix_K (K := K)) (pv 1) pe_int (fun _ _ => rfl))) pa_nil)))))
      pss_nil)
      (pss_cons (ps_if (pt_cmpR op_eq (pv 0) pe_str (nomark _))
      (pss_one (ps_ret (pe_tup (pa_cons pe_str (pa_cons (pe_callB (len_K (K := K)) (by rfl) T.m_len (by decide +kernel) (pa_cons (pe_ix (ix_K (K := K)) (pv 1) pe_int (fun _ _ => rfl)) pa_nil)) pa_nil)))))
      pss_nil)
      (pss_cons (ps_if (pt_cmpR op_eq (pv 0) pe_str (nomark _))
      (pss_one (ps_ret (pe_tup (pa_cons pe_str (pa_cons (pe_callTy call_strU (by rfl) T.m_str (by decide +kernel) (pa_cons (pe_ix (ix_K (K := K)) (pv 1) pe_int (fun _ _ => rfl)) pa_nil)) pa_nil)))))
      pss_nil)
      (pss_cons (ps_if (pt_cmpR op_eq (pv 0) pe_str (nomark _))
      (pss_one (ps_ret (pe_c c__law_parsed hr (by first | decide | omega) (by rfl) (pa_cons (pe_ix (ix_K (K := K)) (pv 1) pe_int (fun _ _ => rfl)) pa_nil))))
      pss_nil)
      (pss_cons (ps_if (pt_cmpR op_eq (pv 0) pe_str (nomark _))
      (pss_one (ps_ret (pe_tup (pa_cons pe_str (pa_cons (pe_ix (ix_K (K := K)) (pv 1) pe_int (fun _ _ => rfl)) pa_nil)))))
      pss_nil)
      (pss_cons (ps_if (pt_cmpR op_eq (pv 0) pe_str (nomark _))
      (pss_one (ps_ret (pe_tup (pa_cons pe_str (pa_cons (pe_callB (len_K (K := K)) (by rfl) T.m_len (by decide +kernel) (pa_cons (pe_ix (ix_K (K := K)) (pv 1) pe_int (fun _ _ => rfl)) pa_nil)) pa_nil)))))
      pss_nil)
      (pss_one (ps_ret (pe_tup (pa_cons pe_str (pa_cons (pe_ix (ix_K (K := K)) (pv 1) pe_int (fun _ _ => rfl)) (pa_cons (pe_tup pa_nil) pa_nil))))))))))))), fun ds M kk hw => by
    obtain ⟨o, v, r, rfl, rfl, ok, hr, q⟩ := hw
    have hraw := run1_raw ok hr
    have hsz := sizeLine_eq
    cases o <;> cases v <;> simp only [O1.run, reduceCtorEq, Option.some.injEq] at hr
    · rename_i b
      subst hr
      refine as_start (δ' := [some (.str (Str.ofString "not")), some (bD b)]) rfl ?_
      repeat (refine as_seq ?_; walk_at "tg")
      exact q _ rfl hraw
    · rename_i b
      subst hr
      refine as_start (δ' := [some (.str (Str.ofString "negative")), some (iD b)]) rfl ?_
      repeat (refine as_seq ?_; walk_at "tg")
      exact q _ rfl hraw
    · rename_i l
      subst hr
      have hl := ok.1
      refine as_start (δ' := [some (.str (Str.ofString "length")), some (xD l)]) rfl ?_
      repeat (refine as_seq ?_; walk_at "tg")
      exact q _ rfl hraw
    · rename_i i
      subst hr
      have hl := big_log ok
      refine as_start (δ' := [some (.str (Str.ofString "shown")), some (iD i)]) rfl ?_
      repeat (refine as_seq ?_; walk_at "tg")
      refine ac_strI (by omega) ?_
      walk_at "tg"
      exact q _ rfl hraw
    · rename_i l
      refine as_start (δ' := [some (.str (Str.ofString "parsed")), some (xD l)]) rfl ?_
      repeat (refine as_seq ?_; walk_at "tg")
      exact ⟨[], [], fun d M => ∃ r' : Vl, d = r'.d ∧ M = [] ∧ settle r' = settle r ∧ r'.Raw, rfl, ⟨l, rfl, rfl, ok.1, fun r' h1 h2 => ⟨r', rfl, rfl, by rw [h1, hr], h2⟩⟩, by
        rintro _ _ ⟨r', rfl, rfl, h1, h2⟩
        exact q r' h1 h2⟩
    · rename_i t
      subst hr
      refine as_start (δ' := [some (.str (Str.ofString "label")), some (tD t)]) rfl ?_
      repeat (refine as_seq ?_; walk_at "tg")
      exact q _ rfl hraw
    · rename_i t
      subst hr
      refine as_start (δ' := [some (.str (Str.ofString "size")), some (tD t)]) rfl ?_
      repeat (refine as_seq ?_; walk_at "tg")
      rw [List.length_map]
      exact q _ rfl hraw
    · rename_i l
      subst hr
      refine as_start (δ' := [some (.str (Str.ofString "named")), some (xD l)]) rfl ?_
      repeat (refine as_seq ?_; walk_at "tg")
      exact q _ rfl hraw⟩
end

local macro_rules | `(tactic| walk_at "q") => `(tactic| repeat (first | (refine as_seq ?_; walk_at "tg") | (refine ar_eqS rfl ?_; walk_at "tg") | (refine ain_tup (ss := [Str.ofString "quotient", Str.ofString "remainder"]) ?_; walk_at "tg")))
section
variable {P : Program} {w : World} {K : PySem.W.Frag} {mg : Str → Option Value} {base : Heap}
theorem c__law_two (T : Top K mg w) : Cal P w K mg base 2 "_law_two" (Spc K W_l2) [] := cal_of T.d__law_two fun f fd F => by
  have c__law_quotient := c__law_quotient (P := P) (w := w) (base := base) T
  exact spc_ok F sc__law_two (fun ds M k h => by obtain ⟨o, a, b, r, rfl, _⟩ := h; rfl) fun cdv A outer s H E hr => ⟨_, (pss_cons (ps_if (pt_cmpR (eqU_K (K := K) hr) (pv 0) pe_str (nomark _))
      (pss_one (ps_ret (pe_tup (pa_cons pe_str (pa_cons (pe_op (add_K (K := K)) (pe_ix (ix_K (K := K)) (pv 1) pe_int (fun _ _ => rfl)) (pe_ix (ix_K (K := K)) (pv 2) pe_int (fun _ _ => rfl))) pa_nil)))))
      pss_nil)
      (pss_cons (ps_if (pt_cmpR (eqU_K (K := K) hr) (pv 0) pe_str (nomark _))
      (pss_one (ps_ret (pe_tup (pa_cons pe_str (pa_cons (pe_op op_sub (pe_ix (ix_K (K := K)) (pv 1) pe_int (fun _ _ => rfl)) (pe_ix (ix_K (K := K)) (pv 2) pe_int (fun _ _ => rfl))) pa_nil)))))
      pss_nil)
      (pss_cons (ps_if (pt_cmpR (eqU_K (K := K) hr) (pv 0) pe_str (nomark _))
      (pss_one (ps_ret (pe_tup (pa_cons pe_str (pa_cons (pe_op op_mulW (pe_ix (ix_K (K := K)) (pv 1) pe_int (fun _ _ => rfl)) (pe_ix (ix_K (K := K)) (pv 2) pe_int (fun _ _ => rfl))) pa_nil)))))
      pss_nil)
      (pss_cons (ps_if (pt_cmpR (eqU_K (K := K) hr) (pv 0) pe_str (nomark _))
      (pss_one (ps_ret (pe_tup (pa_cons pe_str (pa_cons (pe_cmpR op_lt (pe_ix (ix_K (K := K)) (pv 1) pe_int (fun _ _ => rfl)) (pe_ix (ix_K (K := K)) (pv 2) pe_int (fun _ _ => rfl)) (nomark _)) pa_nil)))))
      pss_nil)
      (pss_cons (ps_if (pw_and (pt_cmpR (in_K (K := K)) (pv 0) (pe_tup (pa_cons pe_str (pa_cons pe_str pa_nil))) (by rfl)) (pw_and1 (pt_cmpR (eqU_K (K := K) hr) (pe_ix (ix_K (K := K)) (pv 2) pe_int (fun _ _ => rfl)) pe_int (nomark _)))).pt
      (pss_one (ps_ret (pe_tup (pa_cons pe_str pa_nil))))
      pss_nil)
      (pss_cons (ps_if (pt_cmpR (eqU_K (K := K) hr) (pv 0) pe_str (nomark _))
      (pss_one (ps_ret (pe_tup (pa_cons pe_str (pa_cons (pe_c c__law_quotient hr (by first | decide | omega) (by rfl) (pa_cons (pe_ix (ix_K (K := K)) (pv 1) pe_int (fun _ _ => rfl)) (pa_cons (pe_ix (ix_K (K := K)) (pv 2) pe_int (fun _ _ => rfl)) pa_nil))) pa_nil)))))
      pss_nil)
      (pss_cons (ps_if (pt_cmpR (eqU_K (K := K) hr) (pv 0) pe_str (nomark _))
      (pss_one (ps_ret (pe_tup (pa_cons pe_str (pa_cons (pe_op op_sub (pe_ix (ix_K (K := K)) (pv 1) pe_int (fun _ _ => rfl)) (pe_op op_mulW (pe_ix (ix_K (K := K)) (pv 2) pe_int (fun _ _ => rfl)) (pe_c c__law_quotient hr (by first | decide | omega) (by rfl) (pa_cons (pe_ix (ix_K (K := K)) (pv 1) pe_int (fun _ _ => rfl)) (pa_cons (pe_ix (ix_K (K := K)) (pv 2) pe_int (fun _ _ => rfl)) pa_nil))))) pa_nil)))))
      pss_nil)
      (pss_cons (ps_if (pt_cmpR (eqU_K (K := K) hr) (pv 0) pe_str (nomark _))
      (pss_one (ps_ret (pe_tup (pa_cons pe_str (pa_cons (pe_cmpR (eqU_K (K := K) hr) (pv 1) (pv 2) (nomark _)) pa_nil)))))
      pss_nil)
      (pss_cons (ps_if (pt_cmpR (eqU_K (K := K) hr) (pv 0) pe_str (nomark _))
      (pss_one (ps_ret (pe_tup (pa_cons pe_str (pa_cons (pe_and (pe_ix (ix_K (K := K)) (pv 1) pe_int (fun _ _ => rfl)) (pe_one (pe_ix (ix_K (K := K)) (pv 2) pe_int (fun _ _ => rfl)))) pa_nil)))))
      pss_nil)
      (pss_cons (ps_if (pt_cmpR (eqU_K (K := K) hr) (pv 0) pe_str (nomark _))
      (pss_one (ps_ret (pe_tup (pa_cons pe_str (pa_cons (pe_or (pe_ix (ix_K (K := K)) (pv 1) pe_int (fun _ _ => rfl)) (pe_one (pe_ix (ix_K (K := K)) (pv 2) pe_int (fun _ _ => rfl)))) pa_nil)))))
      pss_nil)
      (pss_cons (ps_if (pt_cmpR (eqU_K (K := K) hr) (pv 0) pe_str (nomark _))
      (pss_one (ps_ret (pe_tup (pa_cons pe_str (pa_cons (pe_op (add_K (K := K)) (pe_ix (ix_K (K := K)) (pv 1) pe_int (fun _ _ => rfl)) (pe_ix (ix_K (K := K)) (pv 2) pe_int (fun _ _ => rfl))) pa_nil)))))
      pss_nil)
      (pss_cons (ps_if (pt_cmpR (eqU_K (K := K) hr) (pv 0) pe_str (nomark _))
      (pss_one (ps_ret (pe_tup (pa_cons pe_str (pa_cons (pe_ix (ix_K (K := K)) (pv 1) pe_int (fun _ _ => rfl)) (pa_cons (pe_op (add_K (K := K)) (pe_ix (ix_K (K := K)) (pv 1) pe_int (fun _ _ => rfl)) (pe_tup (pa_cons (pv 2) pa_nil))) pa_nil))))))
      pss_nil)
      (pss_one (ps_ret (pe_ifExp (pt_chain op_le op_lt pe_int (pe_ix (ix_K (K := K)) (pv 2) pe_int (fun _ _ => rfl)) (pe_callB (len_K (K := K)) (by rfl) T.m_len (by decide +kernel) (pa_cons (pe_ix (ix_K (K := K)) (pv 1) pe_int (fun _ _ => rfl)) pa_nil))) (pe_ix (ix_K (K := K)) (pe_ix (ix_K (K := K)) (pv 1) pe_int (fun _ _ => rfl)) (pe_ix (ix_K (K := K)) (pv 2) pe_int (fun _ _ => rfl)) (fun _ _ => rfl)) (pe_tup (pa_cons pe_str pa_nil))))))))))))))))), fun ds M kk hw => by
    obtain ⟨o, va, vb, r, rfl, rfl, oa, ob, hr, q⟩ := hw
    have hsz := sizeLine_eq
    cases o <;> cases va <;> cases vb <;> simp only [O2.run, reduceCtorEq, Option.some.injEq] at hr
    · rename_i i j
      subst hr
      refine as_start (δ' := [some (.str (Str.ofString "add")), some (iD i), some (iD j)]) rfl ?_
      walk_at "q"
      exact q
    · rename_i i j
      subst hr
      refine as_start (δ' := [some (.str (Str.ofString "subtract")), some (iD i), some (iD j)]) rfl ?_
      walk_at "q"
      exact q
    · rename_i i j
      subst hr
      refine as_start (δ' := [some (.str (Str.ofString "multiply")), some (iD i), some (iD j)]) rfl ?_
      walk_at "q"
      refine ar_intC (by have h1 := big_log oa; have h2 := big_log ob; show _ + _ < _; omega) ?_
      walk_at "tg"
      exact q
    · rename_i i j
      refine as_start (δ' := [some (.str (Str.ofString "quotient")), some (iD i), some (iD j)]) rfl ?_
      walk_at "q"
      refine dcase (fun c => ?_) (fun c => ?_)
      · rw [if_pos c] at hr
        subst hr
        walk_at "tg"
        exact q
      · rw [if_neg c] at hr
        subst hr
        walk_at "tg"
        walk_at "q"
        refine ⟨[], [], fun d M => d = .int (quoI i j) ∧ M = [], rfl, ⟨i, j, rfl, rfl, c, oa, ob, rfl, rfl⟩, ?_⟩
        rintro _ _ ⟨rfl, rfl⟩
        walk_at "tg"
        exact q
    · rename_i i j
      refine as_start (δ' := [some (.str (Str.ofString "remainder")), some (iD i), some (iD j)]) rfl ?_
      walk_at "q"
      refine dcase (fun c => ?_) (fun c => ?_)
      · rw [if_pos c] at hr
        subst hr
        walk_at "tg"
        exact q
      · rw [if_neg c] at hr
        subst hr
        walk_at "tg"
        walk_at "q"
        refine ⟨[], [], fun d M => d = .int (quoI i j) ∧ M = [], rfl, ⟨i, j, rfl, rfl, c, oa, ob, rfl, rfl⟩, ?_⟩
        rintro _ _ ⟨rfl, rfl⟩
        refine ar_intC (quo_mul oa ob) ?_
        walk_at "tg"
        exact q
    · rename_i i j
      subst hr
      refine as_start (δ' := [some (.str (Str.ofString "less")), some (iD i), some (iD j)]) rfl ?_
      walk_at "q"
      exact q
    · rename_i i j
      have ha := (oa.eqb (by decide)).1
      have hb := (ob.eqb (by decide)).1
      subst hr
      refine as_start (δ' := [some (.str (Str.ofString "same")), some (iD i), some (iD j)]) rfl ?_
      walk_at "q"
      refine ar_eqT ha hb ?_
      walk_at "tg"
      exact q
    · rename_i i j
      have ha := (oa.eqb (by decide)).1
      have hb := (ob.eqb (by decide)).1
      subst hr
      refine as_start (δ' := [some (.str (Str.ofString "same")), some (bD i), some (bD j)]) rfl ?_
      walk_at "q"
      refine ar_eqT ha hb ?_
      walk_at "tg"
      exact q
    · rename_i i j
      have ha := (oa.eqb (by decide)).1
      have hb := (ob.eqb (by decide)).1
      subst hr
      refine as_start (δ' := [some (.str (Str.ofString "same")), some (xD i), some (xD j)]) rfl ?_
      walk_at "q"
      refine ar_eqT ha hb ?_
      walk_at "tg"
      exact q
    · rename_i i j
      have ha := (oa.eqb (by decide)).1
      have hb := (ob.eqb (by decide)).1
      subst hr
      refine as_start (δ' := [some (.str (Str.ofString "same")), some (tD i), some (tD j)]) rfl ?_
      walk_at "q"
      refine ar_eqT ha hb ?_
      walk_at "tg"
      exact q
    · rename_i i j
      subst hr
      refine as_start (δ' := [some (.str (Str.ofString "and")), some (bD i), some (bD j)]) rfl ?_
      cases i <;> walk_at "q" <;> exact q
    · rename_i i j
      subst hr
      refine as_start (δ' := [some (.str (Str.ofString "or")), some (bD i), some (bD j)]) rfl ?_
      cases i <;> walk_at "q" <;> exact q
    · rename_i i j
      subst hr
      have hi := oa.1
      have hj := ob.1
      refine as_start (δ' := [some (.str (Str.ofString "append")), some (xD i), some (xD j)]) rfl ?_
      walk_at "q"
      refine au_str (by omega) ?_
      walk_at "tg"
      exact q
    · rename_i i j
      subst hr
      have hi := kids_le i
      have h2 := oa.1
      refine as_start (δ' := [some (.str (Str.ofString "with")), some (tD i), some (tD j)]) rfl ?_
      walk_at "q"
      refine au_tup (by rw [List.length_map]; show i.ks.length + 1 ≤ _; omega) ?_
      walk_at "tg"
      have e : (Vl.tm (.mk i.l (i.ks ++ [j]))).d = .tup [.str (Str.ofString "term"), .str (Tg.tx i.l), .tup (i.ks.map Tm.d ++ [tD j])] := by
        show D.tup [_, _, .tup ((i.ks ++ [j]).map Tm.d)] = _
        rw [List.map_append, List.map_cons, List.map_nil, Tm.d_eq j]
        rfl
      rw [e] at q
      exact q
    · rename_i t i
      refine as_start (δ' := [some (.str (Str.ofString "argument")), some (tD t), some (iD i)]) rfl ?_
      walk_at "q"
      refine dcase (fun c => ?_) (fun c => ?_)
      · walk_at "tg"
        rw [List.length_map]
        refine dcase (fun c2 => ?_) (fun c2 => ?_)
        · have hk : i.toNat < t.ks.length := by omega
          rw [if_pos ⟨c, c2⟩, List.getElem?_eq_getElem hk] at hr
          subst hr
          walk_at "tg"
          refine aix_T (d := (t.ks[i.toNat]).d) ?_ ?_
          · obtain ⟨m, rfl⟩ : ∃ m : Nat, i = (m : Int) := ⟨i.toNat, by omega⟩
            refine atI_nat ?_
            rw [List.getElem?_map, List.getElem?_eq_getElem (by simpa using hk)]
            simp
          · rw [← Vl.d_tm]
            exact q
        · rw [if_neg (fun z => c2 z.2)] at hr
          subst hr
          walk_at "tg"
          exact q
      · rw [if_neg (fun z => c z.1)] at hr
        subst hr
        walk_at "tg"
        exact q⟩
end

abbrev lv : Nat := 2
section
variable {P : Program} {w : World} {K : PySem.W.Frag} {mg : Str → Option Value} {base : Heap}
theorem c__law_worked (T : Top K mg w) : Cal P w K mg base 5 "_law_worked" (Spc K W_work) [] := cal_of T.d__law_worked fun f fd F => by
  have c__law_one := c__law_one (P := P) (w := w) (base := base) T
  have c__law_two := c__law_two (P := P) (w := w) (base := base) T
  have c__law_settled := c__law_settled (P := P) (w := w) (base := base) T
  exact spc_ok F sc__law_worked (fun ds M k h => by obtain ⟨j, out, rfl, _⟩ := h; rfl) fun cdv A outer s H E hr => ⟨_, (pss_cons (ps_if (pt_cmpR (inD_K (K := K) hr) (pe_tup (pa_cons pe_str pa_nil)) (pv 1) (by rfl))
      (pss_one (ps_ret (pe_tup (pa_cons pe_str pa_nil))))
      pss_nil)
      (pss_cons (ps_if (pt_cmpR op_eq (pe_callB (len_K (K := K)) (by rfl) T.m_len (by decide +kernel) (pa_cons (pv 1) pa_nil)) pe_int (nomark _))
      (pss_one (ps_ret (pe_c c__law_settled hr (by first | decide | omega) (by rfl) (pa_cons (pe_c c__law_one hr (by first | decide | omega) (by rfl) (pa_cons (pv 0) (pa_cons (pe_ix (ix_K (K := K)) (pv 1) pe_int (fun _ _ => rfl)) pa_nil))) pa_nil))))
      pss_nil)
      (pss_one (ps_ret (pe_c c__law_settled hr (by first | decide | omega) (by rfl) (pa_cons (pe_c c__law_two hr (by first | decide | omega) (by rfl) (pa_cons (pv 0) (pa_cons (pe_ix (ix_K (K := K)) (pv 1) pe_int (fun _ _ => rfl)) (pa_cons (pe_ix (ix_K (K := K)) (pv 1) pe_int (fun _ _ => rfl)) pa_nil)))) pa_nil)))))), fun ds M kk hw => by
    obtain ⟨j, out, rfl, rfl, ok, ho, q⟩ := hw
    have hsz := sizeLine_eq
    refine as_start (δ' := [some (.str j.head), some (.lst (j.args.map Vl.d))]) rfl ?_
    refine as_seq ?_
    walk_at "tg"
    refine ar_inD (Vl.Ok.eqb (h := 0) (v := .ab) (by decide) trivial).1 (eqb_lst ok.all) ?_
    rw [any_ab]
    walk_at "tg"
    refine bcase (fun c => ?_) (fun c => ?_)
    · have e : out = .ab := by
        rcases ho with ⟨_, h⟩ | ⟨h, _⟩
        · exact h
        · rw [c] at h; cases h
      rw [e] at q
      walk_at "tg"
      exact q
    · obtain ⟨r, hr, rfl⟩ : ∃ r, j.run = some r ∧ out = settle r := by
        rcases ho with ⟨h, _⟩ | ⟨_, h⟩
        · rw [c] at h; cases h
        · exact h
      walk_at "tg"
      refine as_seq ?_
      walk_at "tg"
      cases j with
      | one o v =>
        walk_at "tg"
        refine aix_L (d := v.d) rfl ?_
        walk_at "tg"
        refine ⟨[], [], fun d M => ∃ r' : Vl, d = r'.d ∧ M = [] ∧ settle r' = settle r ∧ r'.Raw, rfl, ⟨o, v, r, rfl, rfl, ok, hr, fun r' h1 h2 => ⟨r', rfl, rfl, h1, h2⟩⟩, ?_⟩
        rintro _ _ ⟨r', rfl, rfl, h1, h2⟩
        walk_at "tg"
        rw [← h1] at q
        exact ⟨[], [], fun d M => d = (settle r').d ∧ M = [], rfl, ⟨r', rfl, rfl, h2, rfl, rfl⟩, by
          rintro _ _ ⟨rfl, rfl⟩
          exact q⟩
      | two o a b =>
        have hraw := run2_raw ok.1 ok.2 hr
        walk_at "tg"
        refine aix_L (d := a.d) rfl ?_
        walk_at "tg"
        refine aix_L (d := b.d) rfl ?_
        walk_at "tg"
        refine ⟨[], [], fun d M => d = r.d ∧ M = [], rfl, ⟨o, a, b, r, rfl, rfl, ok.1, ok.2, hr, rfl, rfl⟩, ?_⟩
        rintro _ _ ⟨rfl, rfl⟩
        walk_at "tg"
        exact ⟨[], [], fun d M => d = (settle r).d ∧ M = [], rfl, ⟨r, rfl, rfl, hraw, rfl, rfl⟩, by
          rintro _ _ ⟨rfl, rfl⟩
          exact q⟩⟩
theorem c_worked (T : Top K mg w) : Cal P w K mg base 4 "worked" (Spc K W_work) [] := cal_of T.d_worked fun f fd F => by
  have c_settled := c_settled (P := P) (w := w) (base := base) T
  exact spc_ok F sc_worked (fun ds M k h => by obtain ⟨j, out, rfl, _⟩ := h; rfl) fun cdv A outer s H E hr => by
    obtain ⟨t_ABSENT, g_ABSENT, k_ABSENT⟩ := T.g_ABSENT; obtain ⟨t_OPERATIONS, _, g_OPERATIONS, k_OPERATIONS⟩ := T.g_OPERATIONS
    obtain ⟨b0, b1, b2, b3, b4, b5, b6, b7, b8, b9, b10, b11, b12, b13, b14, b15, b16, b17, b18, b19, tab, m0, m1, m2, m3, m4, m5, m6, m7, m8, m9, m10, m11, m12, m13, m14, m15, m16, m17, m18, m19⟩ := k_OPERATIONS
    exact ⟨_, (pss_cons (ps_if (pt_cmpR (inD_K (K := K) hr) (pe_glob (v := V.ref t_ABSENT) (by rfl) g_ABSENT rfl) (pv 1) (by rfl))
      (pss_one (ps_ret (pe_glob (v := V.ref t_ABSENT) (by rfl) g_ABSENT rfl)))
      pss_nil)
      (pss_cons (ps_set (i := 2) sc_worked.nd rfl (Or.inl rfl) (pe_ix (kix_K (K := K) (w := w)) (pe_glob (v := V.ref t_OPERATIONS) (by rfl) g_OPERATIONS rfl) (pv 0) (fun _ _ => rfl)))
      (pss_one (ps_ret (pe_c c_settled hr (by first | decide | omega) (by rfl) (pa_cons (pe_callV (j := lv) hr (by first | decide | omega) (i := 2) (by rfl) (by first | exact Or.inl rfl | exact Or.inr (Or.inl rfl)) (pv 1)) pa_nil)))))), fun ds M kk hw => by
    obtain ⟨j, out, rfl, rfl, ok, ho, q⟩ := hw
    have hsz := sizeLine_eq
    obtain ⟨kvs, tab, h1, h2⟩ : ∃ kvs, KTabV K w t_OPERATIONS kvs ∧ (∀ o : O1, ∃ f, List.lookup o.name kvs = some (V.ref f) ∧ Held P w K mg base 2 f (Spc K (W1 o))) ∧ ∀ o : O2, ∃ f, List.lookup o.name kvs = some (V.ref f) ∧ Held P w K mg base 2 f (Spc K (W2 o)) := by
      refine ⟨_, tab, fun o => ?_, fun o => ?_⟩
      · cases o
        · exact ⟨b0, by rfl, held_of (c_opposite T) m0⟩
        · exact ⟨b1, by rfl, held_of (c_negative T) m1⟩
        · exact ⟨b2, by rfl, held_of (c_length T) m2⟩
        · exact ⟨b3, by rfl, held_of (c_shown T) m3⟩
        · exact ⟨b4, by rfl, held_of (c_parsed T) m4⟩
        · exact ⟨b5, by rfl, held_of (c_label T) m5⟩
        · exact ⟨b6, by rfl, held_of (c_size T) m6⟩
        · exact ⟨b7, by rfl, held_of (c_named T) m7⟩
      · cases o
        · exact ⟨b8, by rfl, held_of (c_added T) m8⟩
        · exact ⟨b9, by rfl, held_of (c_subtracted T) m9⟩
        · exact ⟨b10, by rfl, held_of (c_multiplied T) m10⟩
        · exact ⟨b11, by rfl, held_of (c_quotient T 1) m11⟩
        · exact ⟨b12, by rfl, held_of (c_remainder T) m12⟩
        · exact ⟨b13, by rfl, held_of (c_less T) m13⟩
        · exact ⟨b14, by rfl, held_of (c_same T) m14⟩
        · exact ⟨b15, by rfl, held_of (c_both T) m15⟩
        · exact ⟨b16, by rfl, held_of (c_either T) m16⟩
        · exact ⟨b17, by rfl, held_of (c_appended T) m17⟩
        · exact ⟨b18, by rfl, held_of (c_extended T) m18⟩
        · exact ⟨b19, by rfl, held_of (c_argument T) m19⟩
    refine as_start (δ' := [some (.str j.head), some (.lst (j.args.map Vl.d)), none]) rfl ?_
    refine as_seq ?_
    walk_at "tg"
    refine ae_c k_ABSENT ?_
    walk_at "tg"
    rw [cst_ab]
    refine ar_inD (Vl.Ok.eqb (h := 0) (v := .ab) (by decide) trivial).1 (eqb_lst ok.all) ?_
    rw [show Vl.ab.d = .tup [.str (Str.ofString "absent")] from rfl, any_ab]
    walk_at "tg"
    refine bcase (fun c => ?_) (fun c => ?_)
    · have e : out = .ab := by
        rcases ho with ⟨_, h⟩ | ⟨h, _⟩
        · exact h
        · rw [c] at h; cases h
      rw [e] at q
      walk_at "tg"
      refine ae_c k_ABSENT ?_
      rw [cst_ab]
      exact q
    · obtain ⟨r, hr, rfl⟩ : ∃ r, j.run = some r ∧ out = settle r := by
        rcases ho with ⟨h, _⟩ | ⟨_, h⟩
        · rw [c] at h; cases h
        · exact h
      walk_at "tg"
      cases j with
      | one o v =>
        obtain ⟨g, g1, g2⟩ := h1 o
        refine ae_refC ?_
        walk_at "tg"
        refine ar_kixV tab g1 (fun _ => rep_of_ref) ?_
        walk_at "tg"
        refine ae_callV rfl g2 ?_
        walk_at "tg"
        refine ⟨_, .inl rfl, [], [], fun d M => d = r.d ∧ M = [], rfl, ⟨v, r, rfl, rfl, ok, hr, rfl, rfl⟩, ?_⟩
        rintro _ _ ⟨rfl, rfl⟩
        walk_at "tg"
        exact ⟨[], [], fun d M => d = (settle r).d ∧ M = [], rfl, ⟨r, rfl, rfl, run1_raw ok hr, rfl, rfl⟩, by
          rintro _ _ ⟨rfl, rfl⟩
          exact q⟩
      | two o a b =>
        obtain ⟨g, g1, g2⟩ := h2 o
        refine ae_refC ?_
        walk_at "tg"
        refine ar_kixV tab g1 (fun _ => rep_of_ref) ?_
        walk_at "tg"
        refine ae_callV rfl g2 ?_
        walk_at "tg"
        refine ⟨_, .inl rfl, [], [], fun d M => d = r.d ∧ M = [], rfl, ⟨a, b, r, rfl, rfl, ok.1, ok.2, hr, rfl, rfl⟩, ?_⟩
        rintro _ _ ⟨rfl, rfl⟩
        walk_at "tg"
        exact ⟨[], [], fun d M => d = (settle r).d ∧ M = [], rfl, ⟨r, rfl, rfl, run2_raw ok.1 ok.2 hr, rfl, rfl⟩, by
          rintro _ _ ⟨rfl, rfl⟩
          exact q⟩⟩
end

/-! ### what is gathered -/
inductive So where
  | int | bl | tx | tm
def So.name : So → Str
  | .int => Str.ofString "integer"
  | .bl => Str.ofString "boolean"
  | .tx => Str.ofString "text"
  | .tm => Str.ofString "term"
/-- absent, or of the sort -/
def Vl.Of : So → Vl → Prop
  | _, .ab => True
  | .int, .int _ => True
  | .bl, .bl _ => True
  | .tx, .tx _ => True
  | .tm, .tm _ => True
  | _, _ => False
inductive Gh where
  | sum | all | any | col | join
def Gh.name : Gh → Str
  | .sum => Str.ofString "sum"
  | .all => Str.ofString "all"
  | .any => Str.ofString "any"
  | .col => Str.ofString "collect"
  | .join => Str.ofString "join"
def Gh.so : Gh → So
  | .sum => .int
  | .all => .bl
  | .any => .bl
  | .col => .tm
  | .join => .tx
def Gh.beg : Gh → Vl
  | .sum => .int 0
  | .all => .bl true
  | .any => .bl false
  | .col => .tm (.mk [] [])
  | .join => .tx []
def Gh.step : Gh → O2
  | .sum => .add
  | .all => .and
  | .any => .or
  | .col => .wit
  | .join => .app
def wk (j : Job) : Vl := if j.args.any Vl.isAb then .ab else match j.run with
  | some r => settle r
  | none => .ab
theorem wk_out {j : Job} (h : j.args.any Vl.isAb = true ∨ ∃ r, j.run = some r) : j.Out (wk j) := by
  by_cases e : j.args.any Vl.isAb = true
  · exact .inl ⟨e, if_pos e⟩
  · obtain ⟨r, hr⟩ := h.resolve_left e
    refine .inr ⟨by simpa using e, r, hr, ?_⟩
    unfold wk
    rw [if_neg e, hr]
theorem settle_of {s : So} {v : Vl} (h : v.Of s) : (settle v).Of s := by
  rw [settle_too]
  split
  · cases s <;> trivial
  · exact h
theorem ab_of (s : So) : Vl.Of s .ab := by cases s <;> trivial
/-- a step: both of the sort -/
theorem step_run {g : Gh} {a b : Vl} (ha : a.Of g.so) (hb : b.Of g.so) : (a.isAb = true ∨ b.isAb = true) ∨ ∃ r, O2.run g.step a b = some r ∧ r.Of g.so := by
  cases a <;> cases b <;> first
    | exact .inl (.inl rfl)
    | exact .inl (.inr rfl)
    | (cases g <;> first
        | exact ha.elim
        | exact hb.elim
        | exact .inr ⟨_, rfl, trivial⟩)
theorem two_any (o : O2) (a b : Vl) : (Job.two o a b).args.any Vl.isAb = (a.isAb || b.isAb) := by
  show (a.isAb || (b.isAb || false)) = _
  rw [Bool.or_false]
theorem step_wk {g : Gh} {a b : Vl} (ha : a.Of g.so) (hb : b.Of g.so) : (Job.two g.step a b).Out (wk (.two g.step a b)) ∧ (wk (.two g.step a b)).Of g.so := by
  rcases step_run ha hb with h | ⟨r, hr, ho⟩
  · have e : (Job.two g.step a b).args.any Vl.isAb = true := by
      rw [two_any]
      rcases h with h | h <;> simp [h]
    refine ⟨wk_out (.inl e), ?_⟩
    unfold wk
    rw [if_pos e]
    exact ab_of _
  · refine ⟨wk_out (.inr ⟨r, hr⟩), ?_⟩
    unfold wk
    split
    · exact ab_of _
    · show Vl.Of _ (match O2.run g.step a b with | some r => settle r | none => .ab)
      rw [hr]
      exact settle_of ho
/-- ahead of the i-th value: what stands between -/
def pre (g : Gh) (bt : List Nat) (i : Nat) (tot : Vl) : Vl := match g with
  | .join => if 0 < i then wk (.two .app tot (.tx bt)) else tot
  | _ => tot
/-- behind i values -/
def gst (g : Gh) (bt : List Nat) (vs : List Vl) : Nat → Vl
  | 0 => g.beg
  | i + 1 => wk (.two g.step (pre g bt i (gst g bt vs i)) (vs.getD i .ab))
structure Gok (g : Gh) (bt : List Nat) (vs : List Vl) : Prop where
  vs : ∀ v ∈ vs, v.Ok 1 ∧ v.Of g.so
  b1 : bt.length ≤ 2
  b2 : ∀ c ∈ bt, c < 128
theorem Gok.bt {g : Gh} {bt : List Nat} {vs : List Vl} (o : Gok g bt vs) : Vl.Ok 1 (.tx bt) := ⟨by have := o.b1; omega, o.b2⟩
theorem Gok.get {g : Gh} {bt : List Nat} {vs : List Vl} (o : Gok g bt vs) (i : Nat) : (vs.getD i .ab).Ok 1 ∧ (vs.getD i .ab).Of g.so := by
  rw [List.getD_eq_getElem?_getD]
  cases e : vs[i]? with
  | none => exact ⟨trivial, ab_of _⟩
  | some v => exact o.vs v (List.mem_of_getElem? e)
theorem join_wk {a : Vl} {bt : List Nat} (ha : a.Of .tx) : (Job.two .app a (.tx bt)).Out (wk (.two .app a (.tx bt))) ∧ (wk (.two .app a (.tx bt))).Of .tx :=
  step_wk (g := .join) ha (show Vl.Of .tx (.tx bt) from trivial)
theorem Gok.pre {g : Gh} {bt : List Nat} {vs : List Vl} (o : Gok g bt vs) (i : Nat) {tot : Vl} (h1 : tot.Ok 2) (h2 : tot.Of g.so) : (PK.pre g bt i tot).Ok 2 ∧ (PK.pre g bt i tot).Of g.so := by
  cases g <;> first
    | exact ⟨h1, h2⟩
    | (show (if 0 < i then wk (.two .app tot (.tx bt)) else tot).Ok 2 ∧ (if 0 < i then wk (.two .app tot (.tx bt)) else tot).Of .tx
       split
       · have := join_wk (bt := bt) h2
         exact ⟨this.1.ok ⟨h1, o.bt⟩, this.2⟩
       · exact ⟨h1, h2⟩)
theorem Gok.gst {g : Gh} {bt : List Nat} {vs : List Vl} (o : Gok g bt vs) : ∀ i : Nat, (PK.gst g bt vs i).Ok 2 ∧ (PK.gst g bt vs i).Of g.so
  | 0 => by
    cases g
    · exact ⟨by show -big ≤ 0 ∧ 0 ≤ big; decide +kernel, trivial⟩
    · exact ⟨trivial, trivial⟩
    · exact ⟨trivial, trivial⟩
    · exact ⟨⟨by decide, ⟨⟨by simp [Tm.l], by simp [Tm.l]⟩, by simp [Tm.ks]⟩⟩, trivial⟩
    · exact ⟨⟨by decide, by simp⟩, trivial⟩
  | i + 1 => by
    obtain ⟨h1, h2⟩ := o.gst i
    obtain ⟨h3, h4⟩ := o.pre i h1 h2
    obtain ⟨h5, h6⟩ := o.get i
    have := step_wk h4 h6
    exact ⟨this.1.ok ⟨h3, h5⟩, this.2⟩
def W_gath : Wt := fun ds M k => ∃ (g : Gh) (bt : List Nat) (vs : List Vl), ds = [.str g.name, .lst (vs.map Vl.d), .str (Tg.tx bt)] ∧ M = [] ∧ Gok g bt vs ∧ vs.length ≤ 10 ∧ k (gst g bt vs vs.length).d []
theorem gst_at {g : Gh} {bt : List Nat} {vs : List Vl} {i : Nat} {v : Vl} (h : vs[i]? = some v) : gst g bt vs (i + 1) = wk (.two g.step (pre g bt i (gst g bt vs i)) v) := by
  show wk (.two g.step _ (vs.getD i .ab)) = _
  rw [List.getD_eq_getElem?_getD, h]
  rfl
section
variable {P : Program} {w : World} {K : PySem.W.Frag} {mg : Str → Option Value} {base : Heap}
theorem c_gathered (T : Top K mg w) : Cal P w K mg base 5 "gathered" (Spc K W_gath) [] := cal_of T.d_gathered fun f fd F => by
  have c_worked := c_worked (P := P) (w := w) (base := base) T
  exact spc_ok F sc_gathered (fun ds M k h => by obtain ⟨g, bt, vs, rfl, _⟩ := h; rfl) fun cdv A outer s H E hr => by
    obtain ⟨t_BEGINNINGS, _, g_BEGINNINGS, k_BEGINNINGS⟩ := T.g_BEGINNINGS; obtain ⟨t_STEPS, g_STEPS, k_STEPS⟩ := T.g_STEPS
    obtain ⟨b0, b1, b2, b3, b4, tab, r0, r1, r2, r3, r4⟩ := k_BEGINNINGS
    exact ⟨_, (pss_cons (ps_set (i := 3) sc_gathered.nd rfl (Or.inl rfl) (pe_ix (kix_K (K := K) (w := w)) (pe_glob (v := V.ref t_BEGINNINGS) (by rfl) g_BEGINNINGS rfl) (pv 0) (fun _ _ => rfl)))
      (pss_cons (ps_for PassesOwn.never rfl (enS_K (K := K) (pi_enS (by rfl) T.m_enumerate (pa_cons (pv 1) pa_nil))) (gtup_K (K := K) (n := 2) rfl (pgs_cons (pg_name (i := 4) sc_gathered.nd rfl (Or.inl rfl)) (pgs_cons (pg_name (i := 5) sc_gathered.nd rfl (Or.inl rfl)) pgs_nil)))
      (pss_cons (ps_if (pw_and (pt_cmpR op_eq (pv 0) pe_str (nomark _)) (pw_and1 (pt_cmpR op_gt (pv 4) pe_int (nomark _)))).pt
      (pss_one (ps_set (i := 3) sc_gathered.nd rfl (Or.inl rfl) (pe_c c_worked hr (by first | decide | omega) (by rfl) (pa_cons pe_str (pa_cons (pe_lst (pa_cons (pv 3) (pa_cons (pe_tup (pa_cons pe_str (pa_cons (pv 2) pa_nil))) pa_nil))) pa_nil)))))
      pss_nil)
      (pss_one (ps_set (i := 3) sc_gathered.nd rfl (Or.inl rfl) (pe_c c_worked hr (by first | decide | omega) (by rfl) (pa_cons (pe_ix (kix_K (K := K) (w := w)) (pe_glob (v := V.ref t_STEPS) (by rfl) g_STEPS rfl) (pv 0) (fun _ _ => rfl)) (pa_cons (pe_lst (pa_cons (pv 3) (pa_cons (pv 5) pa_nil))) pa_nil)))))))
      (pss_one (ps_ret (pv 3))))), fun ds M kk hw => by
    obtain ⟨g, bt, vs, rfl, rfl, o, hn, q⟩ := hw
    have hsz := sizeLine_eq
    obtain ⟨kvs, tab, h1⟩ : ∃ kvs, KTabV K w t_BEGINNINGS kvs ∧ ∃ b, List.lookup g.name kvs = some (V.ref b) ∧ ∀ G, Rep K G g.beg.d (.ref b) := by
      refine ⟨_, tab, ?_⟩
      cases g
      · exact ⟨b0, by rfl, r0⟩
      · exact ⟨b1, by rfl, r1⟩
      · exact ⟨b2, by rfl, r2⟩
      · exact ⟨b3, by rfl, r3⟩
      · exact ⟨b4, by rfl, r4⟩
    obtain ⟨b, hb, rb⟩ := h1
    have hst : cst_STEPS.lookup g.name = some g.step.name := by cases g <;> rfl
    refine as_start (δ' := [some (.str g.name), some (.lst (vs.map Vl.d)), some (.str (Tg.tx bt)), none, none, none]) rfl ?_
    walk_at "tg"
    refine ae_refC ?_
    walk_at "tg"
    refine ar_kixV tab hb rb ?_
    walk_at "tg"
    refine ⟨_, _, rfl, rfl, fun i δ' M' => M' = [] ∧ ∃ x y, δ' = [some (.str g.name), some (.lst (vs.map Vl.d)), some (.str (Tg.tx bt)), some (gst g bt vs i).d, x, y], ⟨rfl, _, _, rfl⟩, ?_, ?_⟩
    · rintro i d δ' M' hd ⟨rfl, x, y, rfl⟩
      obtain ⟨c, hc, rfl⟩ := enumD_get hd
      rw [List.getElem?_map] at hc
      obtain ⟨v, hv, rfl⟩ := Option.map_eq_some_iff.mp hc
      have hm := List.mem_of_getElem? hv
      obtain ⟨g1, g2⟩ := o.gst i
      obtain ⟨p1, p2⟩ := o.pre i g1 g2
      obtain ⟨v1, v2⟩ := o.vs v hm
      have sw := step_wk p2 v2
      walk_at "tg"
      refine as_cut (fun δ' M' => M' = [] ∧ δ' = [some (.str g.name), some (.lst (vs.map Vl.d)), some (.str (Tg.tx bt)), some (PK.pre g bt i (gst g bt vs i)).d, some (.int (i : Nat)), some v.d]) ?_ ?_
      · cases g with
        | join =>
          walk_at "tg"
          refine dcase (fun c => ?_) (fun c => ?_)
          · have hi : 0 < i := by omega
            have jw := join_wk (bt := bt) g2
            have e : PK.pre .join bt i (gst .join bt vs i) = wk (.two .app (gst .join bt vs i) (.tx bt)) := if_pos hi
            walk_at "tg"
            refine ⟨[], [], fun d M => d = (wk (.two .app (gst .join bt vs i) (.tx bt))).d ∧ M = [], rfl, ⟨.two .app (gst .join bt vs i) (.tx bt), _, rfl, rfl, ⟨g1, o.bt⟩, jw.1, rfl, rfl⟩, ?_⟩
            rintro _ _ ⟨rfl, rfl⟩
            refine ⟨rfl, ?_⟩
            rw [e]
            rfl
          · have hi : ¬ 0 < i := by omega
            have e : PK.pre .join bt i (gst .join bt vs i) = gst .join bt vs i := if_neg hi
            walk_at "tg"
            refine ⟨rfl, ?_⟩
            rw [e]
            rfl
        | sum => walk_at "tg"; exact ⟨rfl, rfl⟩
        | all => walk_at "tg"; exact ⟨rfl, rfl⟩
        | any => walk_at "tg"; exact ⟨rfl, rfl⟩
        | col => walk_at "tg"; exact ⟨rfl, rfl⟩
      · rintro δ' M' ⟨rfl, rfl⟩
        walk_at "tg"
        refine ae_refC ?_
        walk_at "tg"
        refine ar_kix k_STEPS hst ?_
        walk_at "tg"
        refine ⟨[], [], fun d M => d = (wk (.two g.step (PK.pre g bt i (gst g bt vs i)) v)).d ∧ M = [], rfl, ⟨.two g.step (PK.pre g bt i (gst g bt vs i)) v, _, rfl, rfl, ⟨p1, v1⟩, sw.1, rfl, rfl⟩, ?_⟩
        rintro _ _ ⟨rfl, rfl⟩
        refine ⟨rfl, some (.int (i : Nat)), some v.d, ?_⟩
        rw [gst_at hv]
        rfl
    · rintro δ' M' ⟨rfl, x, y, rfl⟩
      rw [enumD_len, List.length_map]
      walk_at "tg"
      exact q⟩
end

def foundK : List (Key × D) := [(.inr (Str.ofString "sum"), (Vl.int 0).d), (.inr (Str.ofString "all"), (Vl.bl true).d), (.inr (Str.ofString "any"), (Vl.bl false).d), (.inr (Str.ofString "join"), (Vl.tx []).d)]
def foundK2 : List (Key × D) := putD (mergeD [] foundK) (.inr (Str.ofString "collect")) (Vl.tm (.mk [] [])).d
def stepsK : List (Key × D) := [(.inr (Str.ofString "sum"), .str (Str.ofString "add")), (.inr (Str.ofString "all"), .str (Str.ofString "and")), (.inr (Str.ofString "any"), .str (Str.ofString "or")), (.inr (Str.ofString "collect"), .str (Str.ofString "with")), (.inr (Str.ofString "join"), .str (Str.ofString "append"))]
theorem foundK_at (g : Gh) : valD foundK2 (.inr g.name) = some g.beg.d := by cases g <;> rfl
theorem stepsK_at (g : Gh) : valD (mergeD [] stepsK) (.inr g.name) = some (.str g.step.name) := by cases g <;> rfl
def W_over : Wt := fun ds M k => ∃ (g : Gh) (bt : List Nat) (vs : List Vl), ds = [.str g.name, .lst (vs.map Vl.d), .str (Tg.tx bt)] ∧ M = [] ∧ Gok g bt vs ∧ vs.length ≤ 10 ∧ ∀ M', k (gst g bt vs vs.length).d M'
section
variable {P : Program} {w : World} {K : PySem.W.Frag} {mg : Str → Option Value} {base : Heap}
theorem c__law_over (T : Top K mg w) : Cal P w K mg base 6 "_law_over" (Spc K W_over) [] := cal_of T.d__law_over fun f fd F => by
  have c__law_worked := c__law_worked (P := P) (w := w) (base := base) T
  exact spc_ok F sc__law_over (fun ds M k h => by obtain ⟨g, bt, vs, rfl, _⟩ := h; rfl) fun cdv A outer s H E hr => ⟨_, (pss_cons (ps_set (i := 3) sc__law_over.nd rfl (Or.inl rfl) (pe_disp (pps_cons pe_str (pe_tup (pa_cons pe_str (pa_cons pe_int pa_nil))) (pps_cons pe_str (pe_tup (pa_cons pe_str (pa_cons pe_bl pa_nil))) (pps_cons pe_str (pe_tup (pa_cons pe_str (pa_cons pe_bl pa_nil))) (pps_cons pe_str (pe_tup (pa_cons pe_str (pa_cons pe_str pa_nil))) pps_nil)))) (by rfl) (by rfl) (fun z => by cases z) (by decide)))
      (pss_cons (ps_asg (pe_tup (pa_cons pe_str (pa_cons pe_str (pa_cons (pe_tup pa_nil) pa_nil)))) (pg_sub (pv 3) pe_str (set_any (hu_of hr))))
      (pss_cons (ps_set (i := 4) sc__law_over.nd rfl (Or.inl rfl) (pe_disp (pps_cons pe_str pe_str (pps_cons pe_str pe_str (pps_cons pe_str pe_str (pps_cons pe_str pe_str (pps_cons pe_str pe_str pps_nil))))) (by rfl) (by rfl) (fun z => by cases z) (by decide)))
      (pss_cons (ps_set (i := 5) sc__law_over.nd rfl (Or.inl rfl) (pe_dget (hu_of hr) (pv 3) (pv 0) (fun _ _ => rfl)))
      (pss_cons (ps_for PassesOwn.never rfl (pi_range1 (by rfl) T.m_range (pa_cons (pe_callB (len_K (K := K)) (by rfl) T.m_len (by decide +kernel) (pa_cons (pv 1) pa_nil)) pa_nil)) (pg_name (i := 6) sc__law_over.nd rfl (Or.inl rfl))
      (pss_cons (ps_if (pw_and (pt_cmpR op_eq (pv 0) pe_str (nomark _)) (pw_and1 (pt_cmpR op_gt (pv 6) pe_int (nomark _)))).pt
      (pss_one (ps_set (i := 5) sc__law_over.nd rfl (Or.inl rfl) (pe_c c__law_worked hr (by first | decide | omega) (by rfl) (pa_cons pe_str (pa_cons (pe_lst (pa_cons (pv 5) (pa_cons (pe_tup (pa_cons pe_str (pa_cons (pv 2) pa_nil))) pa_nil))) pa_nil)))))
      pss_nil)
      (pss_one (ps_set (i := 5) sc__law_over.nd rfl (Or.inl rfl) (pe_c c__law_worked hr (by first | decide | omega) (by rfl) (pa_cons (pe_dget (hu_of hr) (pv 4) (pv 0) (fun _ _ => rfl)) (pa_cons (pe_lst (pa_cons (pv 5) (pa_cons (pe_ix (ix_K (K := K)) (pv 1) (pv 6) (fun _ _ => rfl)) pa_nil))) pa_nil)))))))
      (pss_one (ps_ret (pv 5)))))))), fun ds M kk hw => by
    obtain ⟨g, bt, vs, rfl, rfl, o, hn, q⟩ := hw
    have hsz := sizeLine_eq
    refine as_start (δ' := [some (.str g.name), some (.lst (vs.map Vl.d)), some (.str (Tg.tx bt)), none, none, none, none]) rfl ?_
    walk_at "tg"
    refine ae_disp ?_
    repeat (unfold APs; walk_at "tg")
    refine ⟨foundK, rfl, by decide, fun a3 => ?_⟩
    refine as_seq ?_
    walk_at "tg"
    refine put_d (M1 := []) rfl (key := .inr (Str.ofString "collect")) rfl (by rw [hsz]; exact (by decide : 4 < 16777216)) ?_
    walk_at "tg"
    refine ae_disp ?_
    repeat (unfold APs; walk_at "tg")
    refine ⟨stepsK, rfl, by decide, fun a4 => ?_⟩
    walk_at "tg"
    refine ae_dgetM ?_
    walk_at "tg"
    refine ⟨a3, foundK2, [], _, .inr g.name, g.beg.d, rfl, rfl, rfl, foundK_at g, ?_⟩
    walk_at "tg"
    refine ⟨by rw [List.length_map]; omega, by rw [List.length_map]; omega, ?_⟩
    rw [List.length_map, Int.toNat_natCast]
    refine ⟨fun i δ' M' => M' = [(a3, .dK foundK2), (a4, .dK (mergeD [] stepsK))] ∧ ∃ y, δ' = [some (.str g.name), some (.lst (vs.map Vl.d)), some (.str (Tg.tx bt)), some (.ref a3), some (.ref a4), some (gst g bt vs i).d, y], ⟨rfl, _, rfl⟩, ?_, ?_⟩
    · rintro i d δ' M' hd ⟨rfl, y, rfl⟩
      obtain ⟨hi, rfl⟩ := rng_get hd
      rw [Int.zero_add]
      obtain ⟨v, hv⟩ : ∃ v, vs[i]? = some v := ⟨vs[i], List.getElem?_eq_getElem hi⟩
      have hm := List.mem_of_getElem? hv
      obtain ⟨g1, g2⟩ := o.gst i
      obtain ⟨p1, p2⟩ := o.pre i g1 g2
      obtain ⟨v1, v2⟩ := o.vs v hm
      have sw := step_wk p2 v2
      walk_at "tg"
      refine as_cut (fun δ' M' => M' = [(a3, .dK foundK2), (a4, .dK (mergeD [] stepsK))] ∧ δ' = [some (.str g.name), some (.lst (vs.map Vl.d)), some (.str (Tg.tx bt)), some (.ref a3), some (.ref a4), some (PK.pre g bt i (gst g bt vs i)).d, some (.int (i : Nat))]) ?_ ?_
      · cases g with
        | join =>
          walk_at "tg"
          refine dcase (fun c => ?_) (fun c => ?_)
          · have hi : 0 < i := by omega
            have jw := join_wk (bt := bt) g2
            have e : PK.pre .join bt i (gst .join bt vs i) = wk (.two .app (gst .join bt vs i) (.tx bt)) := if_pos hi
            walk_at "tg"
            refine ⟨[], _, fun d M => d = (wk (.two .app (gst .join bt vs i) (.tx bt))).d ∧ M = [], rfl, ⟨.two .app (gst .join bt vs i) (.tx bt), _, rfl, rfl, ⟨g1, o.bt⟩, jw.1, rfl, rfl⟩, ?_⟩
            rintro _ _ ⟨rfl, rfl⟩
            refine ⟨rfl, ?_⟩
            rw [e]
            rfl
          · have hi : ¬ 0 < i := by omega
            have e : PK.pre .join bt i (gst .join bt vs i) = gst .join bt vs i := if_neg hi
            walk_at "tg"
            refine ⟨rfl, ?_⟩
            rw [e]
            rfl
        | sum => walk_at "tg"; exact ⟨rfl, rfl⟩
        | all => walk_at "tg"; exact ⟨rfl, rfl⟩
        | any => walk_at "tg"; exact ⟨rfl, rfl⟩
        | col => walk_at "tg"; exact ⟨rfl, rfl⟩
      · rintro δ' M' ⟨rfl, rfl⟩
        walk_at "tg"
        refine ae_dgetM ?_
        walk_at "tg"
        refine ⟨a4, mergeD [] stepsK, [_], _, .inr g.name, .str g.step.name, rfl, rfl, rfl, stepsK_at g, ?_⟩
        walk_at "tg"
        refine aix_L (d := v.d) (atI_nat (by rw [List.getElem?_map, hv]; rfl)) ?_
        walk_at "tg"
        refine ⟨[], _, fun d M => d = (wk (.two g.step (PK.pre g bt i (gst g bt vs i)) v)).d ∧ M = [], rfl, ⟨.two g.step (PK.pre g bt i (gst g bt vs i)) v, _, rfl, rfl, ⟨p1, v1⟩, sw.1, rfl, rfl⟩, ?_⟩
        rintro _ _ ⟨rfl, rfl⟩
        refine ⟨rfl, some (.int (i : Nat)), ?_⟩
        rw [gst_at hv]
        rfl
    · rintro δ' M' ⟨rfl, y, rfl⟩
      rw [rng_len]
      walk_at "tg"
      exact q _⟩
end

/-! ### texts sign by sign -/
def ones (l : List Nat) : List (List Nat) := l.map fun c => [c]
theorem ones_flat (l : List Nat) : (ones l).flatten = l := by
  induction l with
  | nil => rfl
  | cons c r ih =>
    show ([c] :: ones r).flatten = c :: r
    rw [List.flatten_cons, ih]
    rfl
theorem ones_sum (l : List Nat) : ((ones l).map (·.length)).sum = l.length := by
  induction l with
  | nil => rfl
  | cons c r ih =>
    show ([c].length :: (ones r).map (·.length)).sum = r.length + 1
    rw [List.sum_cons, ih]
    show 1 + r.length = r.length + 1
    omega
def strsD (ls : List (List Nat)) : List D := ls.map fun z => .str (tx z)
theorem strsD_snoc (l : List Nat) (c : Nat) : strsD (ones l) ++ [.str (tx [c])] = strsD (ones (l ++ [c])) := by simp [strsD, ones]
theorem strsD_len (l : List Nat) : (strsD (ones l)).length = l.length := by simp [strsD, ones]

/-! ### what is drawn -/
def W_dint : Wt := fun ds M k => ∃ (a : Addr) (p : Pool), ds = [.ref a] ∧ M = [(a, .lst p.d)] ∧ p.Ok ∧ ∀ (i : Int) (p' : Pool), p'.Ok → (-PK.big ≤ i ∧ i ≤ PK.big) → k (.int i) [(a, .lst p'.d)]
def W_dtxt : Wt := fun ds M k => ∃ (a : Addr) (p : Pool), ds = [.ref a] ∧ M = [(a, .lst p.d)] ∧ p.Ok ∧ ∀ (l : List Nat) (p' : Pool), p'.Ok → l.length ≤ 1000 → (∀ c ∈ l, c < 128) → k (.str (Tg.tx l)) [(a, .lst p'.d)]
def W_dtm : Wt := fun ds M k => ∃ (a : Addr) (p : Pool), ds = [.ref a] ∧ M = [(a, .lst p.d)] ∧ p.Ok ∧ ∀ (t : Tm) (p' : Pool), p'.Ok → t.sz ≤ 400 → Tm.Ok 1 t → k t.d [(a, .lst p'.d)]
def W_dval : Wt := fun ds M k => ∃ (a : Addr) (p : Pool) (s : So), ds = [.ref a, .str s.name] ∧ M = [(a, .lst p.d)] ∧ p.Ok ∧ ∀ (v : Vl) (p' : Pool), p'.Ok → v.Ok 1 → v.Of s → k v.d [(a, .lst p'.d)]
theorem pow_step {i : Nat} {n r : Int} (h1 : 0 ≤ n) (h2 : n < 10000000 ^ i) (h3 : 0 ≤ r) (h4 : r < 10000000) : 0 ≤ n * 10000000 + r ∧ n * 10000000 + r < 10000000 ^ (i + 1) := by
  rw [Int.pow_succ]
  generalize (10000000 : Int) ^ i = X at *
  omega
theorem pow_le4 {i : Nat} (h : i ≤ 4) : (10000000 : Int) ^ i ≤ 10000000 ^ 4 := by
  have : i = 0 ∨ i = 1 ∨ i = 2 ∨ i = 3 ∨ i = 4 := by omega
  rcases this with rfl | rfl | rfl | rfl | rfl <;> decide +kernel
theorem big4 : (10000000 : Int) ^ 4 < PK.big := by decide +kernel
def sig15 : List Nat := [48, 49, 50, 51, 52, 53, 54, 55, 56, 57, 97, 98, 45, 43, 32]
theorem sig15_eq : Str.ofString "0123456789ab-+ " = Tg.tx sig15 := by decide +kernel
theorem sig15_get {r : Int} (h0 : 0 ≤ r) (h1 : r < 15) : ∃ c, c < 128 ∧ atI sig15 r = some c := by
  obtain ⟨i, rfl⟩ : ∃ i : Nat, r = (i : Int) := ⟨r.toNat, by omega⟩
  have hi : i < sig15.length := by show i < 15; omega
  refine ⟨sig15[i], ?_, atI_nat (List.getElem?_eq_getElem hi)⟩
  have : ∀ c ∈ sig15, c < 128 := by decide
  exact this _ (List.getElem_mem hi)
theorem repL_mem {n : Nat} {l : List Nat} {c : Nat} (h : c ∈ repL n l) : c ∈ l := by
  unfold repL at h
  obtain ⟨x, hx, hc⟩ := List.mem_flatten.mp h
  rw [(List.mem_replicate.mp hx).2] at hc
  exact hc
theorem repL_one (n c : Nat) : (repL n [c]).length = n := by
  unfold repL
  induction n with
  | zero => rfl
  | succ n ih =>
    rw [List.replicate_succ, List.flatten_cons, List.length_append, ih]
    simp
    omega
def leafT (k : Nat) : Tm := .mk (116 :: shI (k : Int)) []
theorem leafT_ok {k : Nat} (h : k ≤ 400) : Tm.Ok 0 (leafT k) := by
  have hb : (400 : Int) ≤ PK.big := by decide +kernel
  have h1 : -PK.big ≤ (k : Int) ∧ (k : Int) ≤ PK.big := by omega
  have hl := big_log h1
  have e := int_text_length_le (k := 201) (a := (k : Int)) (by decide) (by omega)
  have e2 : (shI (k : Int)).length = (Str.ofString (toString (k : Int))).length := by
    unfold shI
    exact Array.length_toList
  rw [PySem.ofString_length] at e2
  refine ⟨⟨?_, ?_⟩, rfl⟩
  · show (116 :: shI (k : Int)).length ≤ 1000
    rw [List.length_cons]
    omega
  · intro c hc
    rcases List.mem_cons.mp hc with rfl | hc
    · decide
    · exact shI_ascii _ c hc
section
variable {P : Program} {w : World} {K : PySem.W.Frag} {mg : Str → Option Value} {base : Heap}
theorem c__law_integer (T : Top K mg w) : Cal P w K mg base 3 "_law_integer" (Spc K W_dint) [] := cal_of T.d__law_integer fun f fd F => by
  have c__law_take := c__law_take (P := P) (w := w) (base := base) T 2
  exact spc_ok F sc__law_integer (fun ds M k h => by obtain ⟨a, p, rfl, _⟩ := h; rfl) fun cdv A outer s H E hr => ⟨_, (pss_cons (ps_set (i := 1) sc__law_integer.nd rfl (Or.inl rfl) (pe_c c__law_take hr (by first | decide | omega) (by rfl) (pa_cons (pv 0) (pa_cons pe_int pa_nil))))
      (pss_cons (ps_if (pt_cmpR op_eq (pv 1) pe_int (nomark _))
      (pss_one (ps_ret (pe_ix (ix_K (K := K)) (pe_tup (pa_cons (pe_op op_pow pe_int pe_int) (pa_cons (pe_un un_neg (pe_op op_pow pe_int pe_int)) (pa_cons (pe_op op_sub (pe_op op_pow pe_int pe_int) pe_int) (pa_cons pe_int pa_nil))))) (pe_c c__law_take hr (by first | decide | omega) (by rfl) (pa_cons (pv 0) (pa_cons pe_int pa_nil))) (fun _ _ => rfl))))
      pss_nil)
      (pss_cons (ps_if (pt_cmpR op_eq (pv 1) pe_int (nomark _))
      (pss_cons (ps_set (i := 2) sc__law_integer.nd rfl (Or.inl rfl) pe_int)
      (pss_cons (ps_for PassesOwn.never rfl (pi_range1 (by rfl) T.m_range (pa_cons (pe_op (add_K (K := K)) pe_int (pe_c c__law_take hr (by first | decide | omega) (by rfl) (pa_cons (pv 0) (pa_cons pe_int pa_nil)))) pa_nil)) (pg_name (i := 3) sc__law_integer.nd rfl (Or.inl rfl))
      (pss_one (ps_set (i := 2) sc__law_integer.nd rfl (Or.inl rfl) (pe_op (add_K (K := K)) (pe_op op_mul (pv 2) (pe_op op_pow pe_int pe_int)) (pe_c c__law_take hr (by first | decide | omega) (by rfl) (pa_cons (pv 0) (pa_cons (pe_op op_pow pe_int pe_int) pa_nil)))))))
      (pss_one (ps_ret (pe_op op_mul (pe_op (add_K (K := K)) (pv 2) pe_int) (pe_ix (ix_K (K := K)) (pe_tup (pa_cons pe_int (pa_cons (pe_un un_neg pe_int) pa_nil))) (pe_c c__law_take hr (by first | decide | omega) (by rfl) (pa_cons (pv 0) (pa_cons pe_int pa_nil))) (fun _ _ => rfl)))))))
      pss_nil)
      (pss_one (ps_ret (pe_op op_sub (pe_c c__law_take hr (by first | decide | omega) (by rfl) (pa_cons (pv 0) (pa_cons pe_int pa_nil))) pe_int)))))), fun ds M kk hw => by
    obtain ⟨a, p, rfl, rfl, ok, q⟩ := hw
    have e60 : (10 : Int) ^ Int.toNat 60 = PK.big := by decide +kernel
    have e7 : (10 : Int) ^ Int.toNat 7 = 10000000 := by decide
    have hb : (1000 : Int) < PK.big := by decide +kernel
    have hb4 := big4
    refine as_start (δ' := [some (.ref a), none, none, none]) rfl ?_
    walk_at "tg"
    walk_at "take"
    rintro _ _ ⟨r, p1, ok1, r0, r1, rfl, rfl⟩
    refine as_seq ?_
    walk_at "tg"
    refine dcase (fun c => ?_) (fun c => ?_)
    · walk_at "tg"
      walk_at "take"
      rintro _ _ ⟨r2, p2, ok2, k0, k1, rfl, rfl⟩
      rw [e60]
      have h : r2 = 0 ∨ r2 = 1 ∨ r2 = 2 ∨ r2 = 3 := by omega
      rcases h with rfl | rfl | rfl | rfl
      · walk_at "tg"
        exact q _ p2 ok2 ⟨by omega, by omega⟩
      · walk_at "tg"
        exact q _ p2 ok2 ⟨by omega, by omega⟩
      · walk_at "tg"
        exact q _ p2 ok2 ⟨by omega, by omega⟩
      · walk_at "tg"
        exact q _ p2 ok2 ⟨by omega, by omega⟩
    · walk_at "tg"
      refine as_seq ?_
      walk_at "tg"
      refine dcase (fun c2 => ?_) (fun c2 => ?_)
      · walk_at "tg"
        walk_at "take"
        rintro _ _ ⟨r2, p2, ok2, k0, k1, rfl, rfl⟩
        walk_at "tg"
        refine ⟨by omega, by omega, ?_⟩
        refine ⟨fun i δ' M' => ∃ (n : Int) (p' : Pool) (y : Option D), p'.Ok ∧ 0 ≤ n ∧ n < 10000000 ^ i ∧ M' = [(a, .lst p'.d)] ∧ δ' = [some (.ref a), some (.int r), some (.int n), y], ⟨0, p2, none, ok2, by omega, by decide, rfl, rfl⟩, ?_, ?_⟩
        · rintro i d δ' M' hd ⟨n, p', y, ok', n0, n1, rfl, rfl⟩
          walk_at "tg"
          rw [e7]
          walk_at "take"
          rintro _ _ ⟨r3, p3, ok3, j0, j1, rfl, rfl⟩
          walk_at "tg"
          obtain ⟨z1, z2⟩ := pow_step n0 n1 j0 j1
          exact ⟨_, p3, _, ok3, z1, z2, rfl, rfl⟩
        · rintro δ' M' ⟨n, p', y, ok', n0, n1, rfl, rfl⟩
          rw [rng_len] at n1
          have n2 := pow_le4 (i := (1 + r2).toNat) (by omega)
          walk_at "tg"
          walk_at "take"
          rintro _ _ ⟨r3, p3, ok3, j0, j1, rfl, rfl⟩
          have h : r3 = 0 ∨ r3 = 1 := by omega
          rcases h with rfl | rfl
          · walk_at "tg"
            exact q _ p3 ok3 ⟨by omega, by omega⟩
          · walk_at "tg"
            exact q _ p3 ok3 ⟨by omega, by omega⟩
      · walk_at "tg"
        walk_at "take"
        rintro _ _ ⟨r2, p2, ok2, k0, k1, rfl, rfl⟩
        walk_at "tg"
        exact q _ p2 ok2 ⟨by omega, by omega⟩⟩
end

section
variable {P : Program} {w : World} {K : PySem.W.Frag} {mg : Str → Option Value} {base : Heap}
theorem c__law_text (T : Top K mg w) : Cal P w K mg base 3 "_law_text" (Spc K W_dtxt) [] := cal_of T.d__law_text fun f fd F => by
  have c__law_take := c__law_take (P := P) (w := w) (base := base) T 2
  exact spc_ok F sc__law_text (fun ds M k h => by obtain ⟨a, p, rfl, _⟩ := h; rfl) fun cdv A outer s H E hr => ⟨_, (pss_cons (ps_set (i := 1) sc__law_text.nd rfl (Or.inr rfl) pe_str)
      (pss_cons (ps_set (i := 2) sc__law_text.nd rfl (Or.inl rfl) (pe_ix (ix_K (K := K)) (pe_tup (pa_cons pe_int (pa_cons pe_int (pa_cons pe_int (pa_cons pe_int (pa_cons pe_int (pa_cons pe_int pa_nil))))))) (pe_c c__law_take hr (by first | decide | omega) (by rfl) (pa_cons (pv 0) (pa_cons pe_int pa_nil))) (fun _ _ => rfl)))
      (pss_cons (ps_set (i := 3) sc__law_text.nd rfl (Or.inl rfl) (join_K (K := K) (pe_join pe_str (pe_lc (own := [("k", 4)]) (g := gName 4) rfl sc__law_text.nd (pi_range1 (by rfl) T.m_range (pa_cons (pe_callB (call_minU rfl) (by rfl) T.m_min (by decide +kernel) (pa_cons (pv 2) (pa_cons pe_int pa_nil))) pa_nil)) (blkOk_by (own := [("k", 4)]) (N := ["pool", "signs", "size_v", "base", "k"]) (sc := defScope s__law_text) (by decide +kernel)) (fun _ _ _ _ _ => (pg_name (i := 4) sc__law_text.nd rfl (Or.inl rfl))) (fun _ _ _ _ _ => pts_nil) (fun _ _ _ _ _ => (pe_ix (ix_K (K := K)) (pv 1) (pe_c c__law_take hr (by first | decide | omega) (by rfl) (pa_cons (pv 0) (pa_cons (pe_ix (ix_K (K := K)) (pe_tup (pa_cons pe_int (pa_cons pe_int pa_nil))) (pe_op op_fdiv (pv 4) pe_int) (fun _ _ => rfl)) pa_nil))) (fun _ _ => rfl)))))))
      (pss_one (ps_ret (pe_op (add_K (K := K)) (pv 3) (pe_op op_mulS pe_str (pe_op op_sub (pv 2) (pe_callB (len_K (K := K)) (by rfl) T.m_len (by decide +kernel) (pa_cons (pv 3) pa_nil)))))))))), fun ds M kk hw => by
    obtain ⟨a, p, rfl, rfl, ok, q⟩ := hw
    have hsz := sizeLine_eq
    refine as_start (δ' := [some (.ref a), none, none, none, none]) rfl ?_
    walk_at "tg"
    refine ⟨by rw [hsz]; decide, ?_⟩
    walk_at "tg"
    walk_at "take"
    rintro _ _ ⟨r, p1, ok1, r0, r1, rfl, rfl⟩
    obtain ⟨z, hz, hat⟩ : ∃ z : Nat, z ≤ 999 ∧ atI [D.int 0, D.int 1, D.int 2, D.int 5, D.int 499, D.int 999] r = some (.int (z : Nat)) := by
      have h : r = 0 ∨ r = 1 ∨ r = 2 ∨ r = 3 ∨ r = 4 ∨ r = 5 := by omega
      rcases h with rfl | rfl | rfl | rfl | rfl | rfl
      · exact ⟨0, by omega, rfl⟩
      · exact ⟨1, by omega, rfl⟩
      · exact ⟨2, by omega, rfl⟩
      · exact ⟨5, by omega, rfl⟩
      · exact ⟨499, by omega, rfl⟩
      · exact ⟨999, by omega, rfl⟩
    walk_at "tg"
    refine aix_T hat ?_
    walk_at "tg"
    refine ae_lc (ownG_name (by simp)) ?_
    walk_at "tg"
    obtain ⟨m, hm, hm5⟩ : ∃ m : Nat, (if (5 : Int) < (z : Nat) then (5 : Int) else (z : Nat)) = (m : Int) ∧ m ≤ 5 ∧ m ≤ z := by
      split
      · exact ⟨5, rfl, by omega, by omega⟩
      · exact ⟨z, rfl, by omega, by omega⟩
    rw [hm]
    refine ⟨by omega, by omega, ?_⟩
    rw [Int.toNat_natCast]
    refine ⟨by rw [rng_len, hsz]; omega, fun i acc M' => ∃ (l : List Nat) (p' : Pool), p'.Ok ∧ (∀ c ∈ l, c < 128) ∧ l.length = i ∧ acc = strsD (ones l) ∧ M' = [(a, .lst p'.d)], ⟨[], p1, ok1, by simp, rfl, rfl, rfl⟩, ?_, ?_⟩
    · rintro i d acc M' hd ⟨l, p', ok', hl, rfl, rfl, rfl⟩
      obtain ⟨hi, rfl⟩ := rng_get hd
      rw [Int.zero_add]
      walk_at "tg"
      have h2 : ((l.length : Nat) : Int) / 3 = 0 ∨ ((l.length : Nat) : Int) / 3 = 1 := by omega
      rcases h2 with h2 | h2
      · rw [h2]
        walk_at "tg"
        walk_at "take"
        rintro _ _ ⟨r3, p3, ok3, j0, j1, rfl, rfl⟩
        obtain ⟨c, hc, hat3⟩ := sig15_get j0 (by omega)
        rw [sig15_eq]
        refine au_ixS (by rw [hsz]; exact (by decide : 15 ≤ 16777216)) hat3 ?_
        exact ⟨l ++ [c], p3, ok3, fun x hx => by
          rcases List.mem_append.mp hx with hx | hx
          · exact hl x hx
          · rw [List.mem_singleton.mp hx]; exact hc, by rw [List.length_append]; rfl, strsD_snoc l c, rfl⟩
      · rw [h2]
        walk_at "tg"
        walk_at "take"
        rintro _ _ ⟨r3, p3, ok3, j0, j1, rfl, rfl⟩
        obtain ⟨c, hc, hat3⟩ := sig15_get j0 (by omega)
        rw [sig15_eq]
        refine au_ixS (by rw [hsz]; exact (by decide : 15 ≤ 16777216)) hat3 ?_
        exact ⟨l ++ [c], p3, ok3, fun x hx => by
          rcases List.mem_append.mp hx with hx | hx
          · exact hl x hx
          · rw [List.mem_singleton.mp hx]; exact hc, by rw [List.length_append]; rfl, strsD_snoc l c, rfl⟩
    · rintro acc M' ⟨l, p', ok', hl, hll, rfl, rfl⟩
      rw [rng_len] at hll
      walk_at "tg"
      refine am_join (ls := ones l) (by rw [ones_sum]; omega) ?_
      rw [ones_flat]
      walk_at "tg"
      have e : ((z : Nat) : Int) - ((l.length : Nat) : Int) = ((z - l.length : Nat) : Int) := by omega
      rw [e, show Str.ofString "7" = Tg.tx [55] from by decide +kernel]
      refine ar_mulW (by simp) (by omega) ?_
      have hr1 := repL_one (z - l.length) 55
      refine au_str (by rw [hr1]; omega) ?_
      refine q _ p' ok' (by rw [List.length_append, hr1]; omega) fun c hc => ?_
      rcases List.mem_append.mp hc with hc | hc
      · exact hl c hc
      · have := repL_mem hc
        rw [List.mem_singleton.mp this]
        decide⟩
theorem c__law_term (T : Top K mg w) : Cal P w K mg base 3 "_law_term" (Spc K W_dtm) [] := cal_of T.d__law_term fun f fd F => by
  have c__law_take := c__law_take (P := P) (w := w) (base := base) T 2
  exact spc_ok F sc__law_term (fun ds M k h => by obtain ⟨a, p, rfl, _⟩ := h; rfl) fun cdv A outer s H E hr => ⟨_, (pss_cons (ps_set (i := 1) sc__law_term.nd rfl (Or.inl rfl) (pe_ix (ix_K (K := K)) (pe_tup (pa_cons pe_int (pa_cons pe_int (pa_cons pe_int (pa_cons pe_int (pa_cons pe_int pa_nil)))))) (pe_c c__law_take hr (by first | decide | omega) (by rfl) (pa_cons (pv 0) (pa_cons pe_int pa_nil))) (fun _ _ => rfl)))
      (pss_cons (ps_setLc (i := 2) (own := [("k", 3)]) (g := gName 3) rfl sc__law_term.nd rfl rfl (sw_true rfl rfl rfl (by decide +kernel)) (pi_range1 (by rfl) T.m_range (pa_cons (pv 1) pa_nil)) (blkOk_by (own := [("k", 3)]) (N := ["pool", "many", "below", "k"]) (sc := defScope s__law_term) (by decide +kernel)) (fun _ _ _ _ _ => (pg_name (i := 3) sc__law_term.nd rfl (Or.inl rfl))) (fun _ _ _ _ _ => pts_nil) (fun _ _ _ _ _ => (pe_tup (pa_cons pe_str (pa_cons (pe_op (add_K (K := K)) pe_str (pe_callTy call_strU (by rfl) T.m_str (by decide +kernel) (pa_cons (pv 3) pa_nil))) (pa_cons (pe_tup pa_nil) pa_nil))))))
      (pss_one (ps_ret (pe_tup (pa_cons pe_str (pa_cons (pe_ix (ix_K (K := K)) (pe_tup (pa_cons pe_str (pa_cons pe_str (pa_cons pe_str pa_nil)))) (pe_c c__law_take hr (by first | decide | omega) (by rfl) (pa_cons (pv 0) (pa_cons pe_int pa_nil))) (fun _ _ => rfl)) (pa_cons (pe_callTy (tup_K (K := K)) (by rfl) T.m_tuple (by decide +kernel) (pa_cons (pv 2) pa_nil)) pa_nil)))))))), fun ds M kk hw => by
    obtain ⟨a, p, rfl, rfl, ok, q⟩ := hw
    have hsz := sizeLine_eq
    refine as_start (δ' := [some (.ref a), none, none, none]) rfl ?_
    walk_at "tg"
    walk_at "take"
    rintro _ _ ⟨r, p1, ok1, r0, r1, rfl, rfl⟩
    obtain ⟨z, hz, hat⟩ : ∃ z : Nat, z ≤ 399 ∧ atI [D.int 0, D.int 1, D.int 3, D.int 398, D.int 399] r = some (.int (z : Nat)) := by
      have h : r = 0 ∨ r = 1 ∨ r = 2 ∨ r = 3 ∨ r = 4 := by omega
      rcases h with rfl | rfl | rfl | rfl | rfl
      · exact ⟨0, by omega, rfl⟩
      · exact ⟨1, by omega, rfl⟩
      · exact ⟨3, by omega, rfl⟩
      · exact ⟨398, by omega, rfl⟩
      · exact ⟨399, by omega, rfl⟩
    walk_at "tg"
    refine aix_T hat ?_
    walk_at "tg"
    refine ae_lc (ownG_name (by simp)) ?_
    walk_at "tg"
    refine ⟨by omega, by omega, ?_⟩
    rw [Int.toNat_natCast]
    refine ⟨by rw [rng_len, hsz]; omega, fun i acc M' => M' = [(a, .lst p1.d)] ∧ acc = ((List.range i).map leafT).map Tm.d, ⟨rfl, rfl⟩, ?_, ?_⟩
    · rintro i d acc M' hd ⟨rfl, rfl⟩
      obtain ⟨hi, rfl⟩ := rng_get hd
      rw [Int.zero_add]
      have hb : (400 : Int) ≤ PK.big := by decide +kernel
      have hl := big_log (i := (i : Nat)) ⟨by omega, by omega⟩
      have h1 := (leafT_ok (k := i) (by omega)).lab.1
      have h1' : (116 :: shI (i : Int)).length ≤ 1000 := h1
      rw [List.length_cons] at h1'
      walk_at "tg"
      refine ac_strI (by omega) ?_
      rw [show Str.ofString "t" = Tg.tx [116] from by decide +kernel]
      refine au_str (by rw [List.length_singleton]; omega) ?_
      walk_at "tg"
      refine ⟨rfl, ?_⟩
      rw [List.range_succ, List.map_append, List.map_append]
      rfl
    · rintro acc M' ⟨rfl, rfl⟩
      rw [rng_len]
      walk_at "tg"
      walk_at "take"
      rintro _ _ ⟨r3, p3, ok3, j0, j1, rfl, rfl⟩
      obtain ⟨l, hl, hl2, hat3⟩ : ∃ l : List Nat, l.length ≤ 1000 ∧ (∀ c ∈ l, c < 128) ∧ atI [D.str (Str.ofString "a"), D.str (Str.ofString ""), D.str (Str.ofString "b")] r3 = some (.str (Tg.tx l)) := by
        have h : r3 = 0 ∨ r3 = 1 ∨ r3 = 2 := by omega
        rcases h with rfl | rfl | rfl
        · exact ⟨[97], by decide, by decide, rfl⟩
        · exact ⟨[], by decide, by decide, rfl⟩
        · exact ⟨[98], by decide, by decide, rfl⟩
      refine aix_T hat3 ?_
      walk_at "tg"
      have e : (Tm.mk l ((List.range z).map leafT)).d = .tup [.str (Str.ofString "term"), .str (Tg.tx l), .tup (((List.range z).map leafT).map Tm.d)] := Tm.d_eq _
      rw [← e]
      refine q _ p3 ok3 ?_ ⟨⟨hl, hl2⟩, ?_⟩
      · rw [Tm.sz_eq]
        have : ∀ n : Nat, (((List.range n).map leafT).map Tm.sz).sum = n := by
          intro n
          induction n with
          | zero => rfl
          | succ n ih =>
            rw [List.range_succ, List.map_append, List.map_append, List.sum_append, ih]
            rfl
        show 1 + (((List.range z).map leafT).map Tm.sz).sum ≤ 400
        rw [this]
        omega
      · intro s hs
        have hs' : s ∈ (List.range z).map leafT := hs
        obtain ⟨k, hk, rfl⟩ := List.mem_map.mp hs'
        exact leafT_ok (by have := List.mem_range.mp hk; omega)⟩
theorem c__law_value (T : Top K mg w) : Cal P w K mg base 4 "_law_value" (Spc K W_dval) [] := cal_of T.d__law_value fun f fd F => by
  have c__law_take := c__law_take (P := P) (w := w) (base := base) T 2
  have c__law_integer := c__law_integer (P := P) (w := w) (base := base) T
  have c__law_text := c__law_text (P := P) (w := w) (base := base) T
  have c__law_term := c__law_term (P := P) (w := w) (base := base) T
  exact spc_ok F sc__law_value (fun ds M k h => by obtain ⟨a, p, s, rfl, _⟩ := h; rfl) fun cdv A outer s H E hr => ⟨_, (pss_cons (ps_if (pt_cmpR op_eq (pe_c c__law_take hr (by first | decide | omega) (by rfl) (pa_cons (pv 0) (pa_cons pe_int pa_nil))) pe_int (nomark _))
      (pss_one (ps_ret (pe_tup (pa_cons pe_str pa_nil))))
      pss_nil)
      (pss_cons (ps_if (pt_cmpR op_eq (pv 1) pe_str (nomark _))
      (pss_one (ps_ret (pe_tup (pa_cons pe_str (pa_cons (pe_c c__law_integer hr (by first | decide | omega) (by rfl) (pa_cons (pv 0) pa_nil)) pa_nil)))))
      pss_nil)
      (pss_cons (ps_if (pt_cmpR op_eq (pv 1) pe_str (nomark _))
      (pss_one (ps_ret (pe_tup (pa_cons pe_str (pa_cons (pe_cmpR op_eq (pe_c c__law_take hr (by first | decide | omega) (by rfl) (pa_cons (pv 0) (pa_cons pe_int pa_nil))) pe_int (nomark _)) pa_nil)))))
      pss_nil)
      (pss_cons (ps_if (pt_cmpR op_eq (pv 1) pe_str (nomark _))
      (pss_one (ps_ret (pe_tup (pa_cons pe_str (pa_cons (pe_c c__law_text hr (by first | decide | omega) (by rfl) (pa_cons (pv 0) pa_nil)) pa_nil)))))
      pss_nil)
      (pss_one (ps_ret (pe_c c__law_term hr (by first | decide | omega) (by rfl) (pa_cons (pv 0) pa_nil)))))))), fun ds M kk hw => by
    obtain ⟨a, p, s, rfl, rfl, ok, q⟩ := hw
    refine as_start (δ' := [some (.ref a), some (.str s.name)]) rfl ?_
    refine as_seq ?_
    walk_at "tg"
    walk_at "take"
    rintro _ _ ⟨r, p1, ok1, r0, r1, rfl, rfl⟩
    walk_at "tg"
    refine dcase (fun c => ?_) (fun c => ?_)
    · walk_at "tg"
      exact q .ab p1 ok1 trivial (ab_of s)
    · walk_at "tg"
      cases s
      · refine as_seq ?_
        walk_at "tg"
        refine ⟨[_], [], fun d M => ∃ (i : Int) (p' : Pool), p'.Ok ∧ (-PK.big ≤ i ∧ i ≤ PK.big) ∧ d = .int i ∧ M = [(a, .lst p'.d)], rfl, ⟨a, p1, rfl, rfl, ok1, fun i p' h1 h2 => ⟨i, p', h1, h2, rfl, rfl⟩⟩, ?_⟩
        rintro _ _ ⟨i, p2, ok2, hi, rfl, rfl⟩
        walk_at "tg"
        exact q (.int i) p2 ok2 hi trivial
      · refine as_seq ?_
        walk_at "tg"
        refine as_seq ?_
        walk_at "tg"
        walk_at "take"
        rintro _ _ ⟨r2, p2, ok2, k0, k1, rfl, rfl⟩
        walk_at "tg"
        exact q (.bl (decide (r2 = 0))) p2 ok2 trivial trivial
      · refine as_seq ?_
        walk_at "tg"
        refine as_seq ?_
        walk_at "tg"
        refine as_seq ?_
        walk_at "tg"
        refine ⟨[_], [], fun d M => ∃ (l : List Nat) (p' : Pool), p'.Ok ∧ l.length ≤ 1000 ∧ (∀ c ∈ l, c < 128) ∧ d = .str (Tg.tx l) ∧ M = [(a, .lst p'.d)], rfl, ⟨a, p1, rfl, rfl, ok1, fun l p' h1 h2 h3 => ⟨l, p', h1, h2, h3, rfl, rfl⟩⟩, ?_⟩
        rintro _ _ ⟨l, p2, ok2, h2, h3, rfl, rfl⟩
        walk_at "tg"
        exact q (.tx l) p2 ok2 ⟨h2, h3⟩ trivial
      · refine as_seq ?_
        walk_at "tg"
        refine as_seq ?_
        walk_at "tg"
        refine as_seq ?_
        walk_at "tg"
        refine ⟨[_], [], fun d M => ∃ (t : Tm) (p' : Pool), p'.Ok ∧ t.sz ≤ 400 ∧ Tm.Ok 1 t ∧ d = t.d ∧ M = [(a, .lst p'.d)], rfl, ⟨a, p1, rfl, rfl, ok1, fun t p' h1 h2 h3 => ⟨t, p', h1, h2, h3, rfl, rfl⟩⟩, ?_⟩
        rintro _ _ ⟨t, p2, ok2, h2, h3, rfl, rfl⟩
        rw [← Vl.d_tm]
        exact q (.tm t) p2 ok2 ⟨h2, h3⟩ trivial⟩
end

/-! ### the rows -/
inductive Rw where
  | one (o : O1)
  | two (o : O2) (s : So)
def O1.srt : O1 → So
  | .not => .bl
  | .neg => .int
  | .len => .tx
  | .sho => .int
  | .par => .tx
  | .lab => .tm
  | .siz => .tm
  | .nam => .tx
def O2.srt1 (s : So) : O2 → So
  | .sam => s
  | .and => .bl
  | .or => .bl
  | .app => .tx
  | .wit => .tm
  | .arg => .tm
  | _ => .int
def O2.srt2 (s : So) : O2 → So
  | .sam => s
  | .and => .bl
  | .or => .bl
  | .app => .tx
  | .wit => .tm
  | _ => .int
def Rw.head : Rw → Str
  | .one o => o.name
  | .two o _ => o.name
def Rw.srts : Rw → List So
  | .one o => [o.srt]
  | .two o s => [o.srt1 s, o.srt2 s]
def Rw.d (r : Rw) : D := .tup (.str r.head :: r.srts.map fun s => .str s.name)
def rowsL (s : So) : List Rw := [.one .not, .one .neg, .one .len, .one .sho, .one .par, .one .lab, .one .siz, .one .nam, .two .add s, .two .sub s, .two .mul s, .two .quo s, .two .rem s, .two .les s, .two .and s, .two .or s, .two .app s, .two .wit s, .two .arg s, .two .sam s]
def Fit (vs : List Vl) (ss : List So) : Prop := ∀ (i : Nat) (v : Vl) (s : So), vs[i]? = some v → ss[i]? = some s → v.Ok 1 ∧ v.Of s
theorem Fit.snoc {vs : List Vl} {ss : List So} {v : Vl} {s : So} (h : Fit vs ss) (hs : ss[vs.length]? = some s) (h1 : v.Ok 1) (h2 : v.Of s) : Fit (vs ++ [v]) ss := by
  intro i w s' e1 e2
  by_cases c : i < vs.length
  · rw [List.getElem?_append_left c] at e1
    exact h i w s' e1 e2
  · rw [List.getElem?_append_right (by omega)] at e1
    have hi : i = vs.length := by
      have : i - vs.length < [v].length := by
        rcases Nat.lt_or_ge (i - vs.length) [v].length with z | z
        · exact z
        · rw [List.getElem?_eq_none z] at e1
          cases e1
      rw [List.length_singleton] at this
      omega
    subst hi
    rw [Nat.sub_self] at e1
    rw [hs] at e2
    cases e1
    cases e2
    exact ⟨h1, h2⟩
theorem one_wk {o : O1} {v : Vl} (h : v.Of o.srt) : (Job.one o v).Out (wk (.one o v)) := by
  apply wk_out
  cases v <;> first
    | exact .inl rfl
    | (cases o <;> first
        | exact h.elim
        | exact .inr ⟨_, rfl⟩)
theorem two_wk {o : O2} {s : So} {a b : Vl} (h1 : a.Of (o.srt1 s)) (h2 : b.Of (o.srt2 s)) : (Job.two o a b).Out (wk (.two o a b)) := by
  apply wk_out
  cases a <;> cases b <;> first
    | exact .inl rfl
    | (cases o <;> first
        | exact h1.elim
        | exact h2.elim
        | exact .inr ⟨_, rfl⟩
        | (cases s <;> first
            | exact h1.elim
            | exact h2.elim
            | exact .inr ⟨_, rfl⟩))
def W_same : Wt := fun ds M k => ∃ v : Vl, ds = [v.d, v.d] ∧ M = [] ∧ v.Ok 2 ∧ k (.bl true) []
def W_oper : Wt := fun ds M k => ∃ (a : Addr) (p : Pool), ds = [.ref a] ∧ M = [(a, .lst p.d)] ∧ p.Ok ∧ ∀ (r : Rw) (p' : Pool), p'.Ok → k r.d [(a, .lst p'.d)]
theorem so_get {r : Int} (h0 : 0 ≤ r) (h1 : r < 4) : ∃ s : So, atI [D.str (Str.ofString "integer"), D.str (Str.ofString "boolean"), D.str (Str.ofString "text"), D.str (Str.ofString "term")] r = some (.str s.name) := by
  have h : r = 0 ∨ r = 1 ∨ r = 2 ∨ r = 3 := by omega
  rcases h with rfl | rfl | rfl | rfl
  · exact ⟨.int, rfl⟩
  · exact ⟨.bl, rfl⟩
  · exact ⟨.tx, rfl⟩
  · exact ⟨.tm, rfl⟩
theorem row_get {s : So} {r : Int} (h0 : 0 ≤ r) (h1 : r < 20) : ∃ R : Rw, atI ((rowsL s).map Rw.d) r = some R.d := by
  obtain ⟨i, rfl⟩ : ∃ i : Nat, r = (i : Int) := ⟨r.toNat, by omega⟩
  have hi : i < (rowsL s).length := by show i < 20; omega
  exact ⟨(rowsL s)[i], atI_nat (by rw [List.getElem?_map, List.getElem?_eq_getElem hi]; rfl)⟩
section
variable {P : Program} {w : World} {K : PySem.W.Frag} {mg : Str → Option Value} {base : Heap}
theorem c__law_same (T : Top K mg w) : Cal P w K mg base 1 "_law_same" (Spc K W_same) [] := cal_of T.d__law_same fun f fd F => by
  exact spc_ok F sc__law_same (fun ds M k h => by obtain ⟨v, rfl, _⟩ := h; rfl) fun cdv A outer s H E hr => ⟨_, (pss_cons (ps_if (pw_or (pt_not (tru_K (K := K) (pe_callB (isi_K (K := K)) (by rfl) T.m_isinstance (by decide +kernel) (pa_cons (pv 0) (pa_cons (pe_bltn (v := .ty "tuple") (by rfl) T.m_tuple (by decide +kernel) rfl) pa_nil))))) (pw_or1 (pt_cmpR (neU_K (K := K) hr) (pv 0) (pv 1) (nomark _)))).pt
      (pss_one (ps_ret pe_bl))
      pss_nil)
      (pss_cons (ps_if (pt_cmpR (eqU_K (K := K) hr) (pe_ix (ix_K (K := K)) (pv 1) pe_int (fun _ _ => rfl)) pe_str (nomark _))
      (pss_one (ps_ret (pe_callB (isi_K (K := K)) (by rfl) T.m_isinstance (by decide +kernel) (pa_cons (pe_ix (ix_K (K := K)) (pv 0) pe_int (fun _ _ => rfl)) (pa_cons (pe_bltn (v := .ty "bool") (by rfl) T.m_bool (by decide +kernel) rfl) pa_nil)))))
      pss_nil)
      (pss_one (ps_ret (pe_or (pe_cmpR (neU_K (K := K) hr) (pe_ix (ix_K (K := K)) (pv 1) pe_int (fun _ _ => rfl)) pe_str (nomark _)) (pe_one (pe_not (pe_callB (isi_K (K := K)) (by rfl) T.m_isinstance (by decide +kernel) (pa_cons (pe_ix (ix_K (K := K)) (pv 0) pe_int (fun _ _ => rfl)) (pa_cons (pe_bltn (v := .ty "bool") (by rfl) T.m_bool (by decide +kernel) rfl) pa_nil)))))))))), fun ds M kk hw => by
    obtain ⟨v, rfl, rfl, ok, q⟩ := hw
    have hsz := sizeLine_eq
    have hv := (ok.eqb (by decide)).1
    have he : eqD v.d v.d = true := eqv_self hv.1
    cases v with
    | int i =>
      refine as_start (δ' := [some (iD i), some (iD i)]) rfl ?_
      refine as_seq ?_
      walk_at "tg"
      refine ar_neT hv hv ?_
      rw [show eqD (iD i) (iD i) = true from he]
      walk_at "tg"
      refine as_seq ?_
      walk_at "tg"
      refine ar_eqS rfl ?_
      walk_at "tg"
      refine ar_neS rfl ?_
      walk_at "tg"
      exact q
    | bl i =>
      refine as_start (δ' := [some (bD i), some (bD i)]) rfl ?_
      refine as_seq ?_
      walk_at "tg"
      refine ar_neT hv hv ?_
      rw [show eqD (bD i) (bD i) = true from he]
      walk_at "tg"
      refine as_seq ?_
      walk_at "tg"
      refine ar_eqS rfl ?_
      walk_at "tg"
      exact q
    | tx i =>
      refine as_start (δ' := [some (xD i), some (xD i)]) rfl ?_
      refine as_seq ?_
      walk_at "tg"
      refine ar_neT hv hv ?_
      rw [show eqD (xD i) (xD i) = true from he]
      walk_at "tg"
      refine as_seq ?_
      walk_at "tg"
      refine ar_eqS rfl ?_
      walk_at "tg"
      refine ar_neS rfl ?_
      walk_at "tg"
      exact q
    | tm i =>
      refine as_start (δ' := [some (tD i), some (tD i)]) rfl ?_
      refine as_seq ?_
      walk_at "tg"
      refine ar_neT hv hv ?_
      rw [show eqD (tD i) (tD i) = true from he]
      walk_at "tg"
      refine as_seq ?_
      walk_at "tg"
      refine ar_eqS rfl ?_
      walk_at "tg"
      refine ar_neS rfl ?_
      walk_at "tg"
      exact q
    | ab =>
      refine as_start (δ' := [some (.tup [.str (Str.ofString "absent")]), some (.tup [.str (Str.ofString "absent")])]) rfl ?_
      refine as_seq ?_
      walk_at "tg"
      refine ar_neT hv hv ?_
      rw [show eqD (.tup [.str (Str.ofString "absent")]) (.tup [.str (Str.ofString "absent")]) = true from he]
      walk_at "tg"
      refine as_seq ?_
      walk_at "tg"
      refine ar_eqS rfl ?_
      walk_at "tg"
      refine ar_neS rfl ?_
      walk_at "tg"
      exact q⟩
theorem c__law_operation (T : Top K mg w) : Cal P w K mg base 3 "_law_operation" (Spc K W_oper) [] := cal_of T.d__law_operation fun f fd F => by
  have c__law_take := c__law_take (P := P) (w := w) (base := base) T 2
  exact spc_ok F sc__law_operation (fun ds M k h => by obtain ⟨a, p, rfl, _⟩ := h; rfl) fun cdv A outer s H E hr => ⟨_, (pss_cons (ps_set (i := 1) sc__law_operation.nd rfl (Or.inl rfl) (pe_lstM (pe_lst (pa_cons (pe_tup (pa_cons pe_str (pa_cons pe_str pa_nil))) (pa_cons (pe_tup (pa_cons pe_str (pa_cons pe_str pa_nil))) (pa_cons (pe_tup (pa_cons pe_str (pa_cons pe_str pa_nil))) (pa_cons (pe_tup (pa_cons pe_str (pa_cons pe_str pa_nil))) (pa_cons (pe_tup (pa_cons pe_str (pa_cons pe_str pa_nil))) (pa_cons (pe_tup (pa_cons pe_str (pa_cons pe_str pa_nil))) (pa_cons (pe_tup (pa_cons pe_str (pa_cons pe_str pa_nil))) (pa_cons (pe_tup (pa_cons pe_str (pa_cons pe_str pa_nil))) (pa_cons (pe_tup (pa_cons pe_str (pa_cons pe_str (pa_cons pe_str pa_nil)))) (pa_cons (pe_tup (pa_cons pe_str (pa_cons pe_str (pa_cons pe_str pa_nil)))) (pa_cons (pe_tup (pa_cons pe_str (pa_cons pe_str (pa_cons pe_str pa_nil)))) (pa_cons (pe_tup (pa_cons pe_str (pa_cons pe_str (pa_cons pe_str pa_nil)))) (pa_cons (pe_tup (pa_cons pe_str (pa_cons pe_str (pa_cons pe_str pa_nil)))) (pa_cons (pe_tup (pa_cons pe_str (pa_cons pe_str (pa_cons pe_str pa_nil)))) (pa_cons (pe_tup (pa_cons pe_str (pa_cons pe_str (pa_cons pe_str pa_nil)))) (pa_cons (pe_tup (pa_cons pe_str (pa_cons pe_str (pa_cons pe_str pa_nil)))) (pa_cons (pe_tup (pa_cons pe_str (pa_cons pe_str (pa_cons pe_str pa_nil)))) (pa_cons (pe_tup (pa_cons pe_str (pa_cons pe_str (pa_cons pe_str pa_nil)))) (pa_cons (pe_tup (pa_cons pe_str (pa_cons pe_str (pa_cons pe_str pa_nil)))) pa_nil))))))))))))))))))))))
      (pss_cons (ps_set (i := 2) sc__law_operation.nd rfl (Or.inl rfl) (pe_ix (ix_K (K := K)) (pe_tup (pa_cons pe_str (pa_cons pe_str (pa_cons pe_str (pa_cons pe_str pa_nil))))) (pe_c c__law_take hr (by first | decide | omega) (by rfl) (pa_cons (pv 0) (pa_cons pe_int pa_nil))) (fun _ _ => rfl)))
      (pss_cons (ps_expr (app_K (K := K) (pe_bm PySem.F.plainAttrs_list PySem.F.slot_list_append PySem.F.type_list_append mt_append (pv 1) (pa_cons (pe_tup (pa_cons pe_str (pa_cons (pv 2) (pa_cons (pv 2) pa_nil)))) pa_nil))))
      (pss_one (ps_ret (pe_ix (ix_K (K := K)) (pv 1) (pe_c c__law_take hr (by first | decide | omega) (by rfl) (pa_cons (pv 0) (pa_cons (pe_callB (len_K (K := K)) (by rfl) T.m_len (by decide +kernel) (pa_cons (pv 1) pa_nil)) pa_nil))) (fun _ _ => rfl))))))), fun ds M kk hw => by
    obtain ⟨a, p, rfl, rfl, ok, q⟩ := hw
    have hsz := sizeLine_eq
    refine as_start (δ' := [some (.ref a), none, none]) rfl ?_
    walk_at "tg"
    refine ⟨by rw [hsz]; exact (by decide : 19 ≤ 16777216), fun b => ?_⟩
    walk_at "tg"
    walk_at "take"
    rintro _ _ ⟨r, p1, ok1, r0, r1, rfl, rfl⟩
    obtain ⟨s, hs⟩ := so_get r0 r1
    refine aix_T hs ?_
    walk_at "tg"
    refine am_append (M1 := [_]) rfl (by rw [hsz]; exact (by decide : 19 < 16777216)) ?_
    refine frz1 (s := 1) (ds := (rowsL s).map Rw.d) rfl ?_
    have hlen : ((rowsL s).map Rw.d).length = 20 := rfl
    walk_at "tg"
    rw [hlen]
    walk_at "take"
    rintro _ _ ⟨r2, p2, ok2, k0, k1, rfl, rfl⟩
    obtain ⟨R, hR⟩ := row_get (s := s) k0 k1
    refine aix_L hR ?_
    exact q R p2 ok2⟩
end

/-! ### the law -/
def W_law : Wt := fun ds M k => ∃ ns : List Int, ds = [.lsk (ns.map D.int)] ∧ M = [] ∧ ns.length ≤ 63 ∧ ∀ M', k (.bl true) M'
theorem law_asks {K : PySem.W.Frag} {H : Hp} {a : Addr} {ns : List Int} (hS : SqL K H a (ns.map V.int)) (hl : ns.length ≤ 63) : Spc K W_law [.ref a] H (fun v _ => v = .bl true) (fun _ _ _ => False) := by
  refine ⟨H, [.lsk (ns.map D.int)], [], fun d _ => d = .bl true, Reps.one (rep_mk_lsk hS Reps.ofInts), ⟨Same.refl H, (fun p hp => nomatch hp), List.nodup_nil⟩, ⟨ns, rfl, rfl, hl, fun M' => rfl⟩, ?_⟩
  rintro d M' v G' H' rfl _ _ r
  exact rep_bl r
abbrev lawLevel : Nat := 7
def valK (a : Addr) (s : So) : D → Mu → Prop := fun d M => ∃ (v : Vl) (p' : Pool), p'.Ok ∧ v.Ok 1 ∧ v.Of s ∧ d = v.d ∧ M = [(a, .lst p'.d)]
theorem val_ok {a : Addr} {p : Pool} {s : So} (ok : p.Ok) : W_dval [.ref a, .str s.name] [(a, .lst p.d)] (valK a s) := ⟨a, p, s, rfl, rfl, ok, fun v p' o h1 h2 => ⟨v, p', o, h1, h2, rfl, rfl⟩⟩
def isK (d0 : D) : D → Mu → Prop := fun d M => d = d0 ∧ M = []
def isD (d0 : D) : D → Mu → Prop := fun d _ => d = d0
theorem gh_get {r : Int} (h0 : 0 ≤ r) (h1 : r < 5) : ∃ g : Gh, atI [D.str (Str.ofString "sum"), D.str (Str.ofString "all"), D.str (Str.ofString "any"), D.str (Str.ofString "collect"), D.str (Str.ofString "join")] r = some (.str g.name) := by
  have h : r = 0 ∨ r = 1 ∨ r = 2 ∨ r = 3 ∨ r = 4 := by omega
  rcases h with rfl | rfl | rfl | rfl | rfl
  · exact ⟨.sum, rfl⟩
  · exact ⟨.all, rfl⟩
  · exact ⟨.any, rfl⟩
  · exact ⟨.col, rfl⟩
  · exact ⟨.join, rfl⟩
theorem at0 {x : D} {l : List D} : atI (x :: l) 0 = some x := atI_nat (j := 0) (xs := x :: l) rfl
theorem bt_get {r : Int} (h0 : 0 ≤ r) (h1 : r < 3) : ∃ bt : List Nat, bt.length ≤ 2 ∧ (∀ c ∈ bt, c < 128) ∧ atI [D.str (Str.ofString ""), D.str (Str.ofString ", "), D.str (Str.ofString "7")] r = some (.str (Tg.tx bt)) := by
  have h : r = 0 ∨ r = 1 ∨ r = 2 := by omega
  rcases h with rfl | rfl | rfl
  · exact ⟨[], by decide, by decide, rfl⟩
  · exact ⟨[44, 32], by decide, by decide, rfl⟩
  · exact ⟨[55], by decide, by decide, rfl⟩
def sortsK : List (Str × Str) := [(Str.ofString "sum", Str.ofString "integer"), (Str.ofString "all", Str.ofString "boolean"), (Str.ofString "any", Str.ofString "boolean"), (Str.ofString "collect", Str.ofString "term"), (Str.ofString "join", Str.ofString "text")]
theorem sortsK_at (g : Gh) : valV (mergeK [] (sortsK.map fun p => ((Sum.inr p.1 : Key), V.str p.2))) (Sum.inr g.name) = some (.str g.so.name) := by cases g <;> rfl
/-- what the drawn operands make -/
theorem fit_job {R : Rw} {vs : List Vl} (hl : vs.length = R.srts.length) (hf : Fit vs R.srts) : ∃ j : Job, j.head = R.head ∧ j.args = vs ∧ j.Ok ∧ j.Out (wk j) := by
  cases R with
  | one o =>
    match vs, hl with
    | [v], _ =>
      obtain ⟨h1, h2⟩ := hf 0 v o.srt rfl rfl
      exact ⟨.one o v, rfl, rfl, h1.le (by decide), one_wk h2⟩
  | two o s =>
    match vs, hl with
    | [v, u], _ =>
      obtain ⟨h1, h2⟩ := hf 0 v (o.srt1 s) rfl rfl
      obtain ⟨h3, h4⟩ := hf 1 u (o.srt2 s) rfl rfl
      exact ⟨.two o v u, rfl, rfl, ⟨h1.le (by decide), h3⟩, two_wk h2 h4⟩
section
variable {P : Program} {w : World} {K : PySem.W.Frag} {mg : Str → Option Value} {base : Heap}
theorem ok_law (T : Top K mg w) {f : Addr} {fd : FuncData} (F : Fun K "law" "law" s_law f fd) : FnOk P w K mg base CX0 lawLevel f fd ["script"] (Spc K W_law) := by
  have c__law_pool := c__law_pool (P := P) (w := w) (base := base) T
  have c__law_take := c__law_take (P := P) (w := w) (base := base) T 2
  have c__law_operation := c__law_operation (P := P) (w := w) (base := base) T
  have c__law_value := c__law_value (P := P) (w := w) (base := base) T
  have c__law_same := c__law_same (P := P) (w := w) (base := base) T
  have c_worked := c_worked (P := P) (w := w) (base := base) T
  have c__law_worked := c__law_worked (P := P) (w := w) (base := base) T
  have c_gathered := c_gathered (P := P) (w := w) (base := base) T
  have c__law_over := c__law_over (P := P) (w := w) (base := base) T
  have c_settled := c_settled (P := P) (w := w) (base := base) T
  have c__law_settled := c__law_settled (P := P) (w := w) (base := base) T
  exact spc_ok F sc_law (fun ds M k h => by obtain ⟨ns, rfl, _⟩ := h; rfl) fun cdv A outer s H E hr => ⟨_, (pss_cons (ps_set (i := 1) sc_law.nd rfl (Or.inr rfl) (pe_c c__law_pool hr (by first | decide | omega) (by rfl) (pa_cons (pv 0) pa_nil)))
      (pss_cons (ps_set (i := 2) sc_law.nd rfl (Or.inl rfl) (pe_c c__law_operation hr (by first | decide | omega) (by rfl) (pa_cons (pv 1) pa_nil)))
      (pss_cons (ps_setLc (i := 3) (own := [("sort", 4)]) (g := gName 4) rfl sc_law.nd rfl rfl (sw_true rfl rfl rfl (by decide +kernel)) (seq_K (K := K) (pe_slice (sl_K (K := K)) (pv 2) (po_some pe_int) po_none)) (blkOk_by (own := [("sort", 4)]) (N := ["script", "pool", "row", "operands", "sort", "head", "values", "k", "between", "value"]) (sc := defScope s_law) (by decide +kernel)) (fun _ _ _ _ _ => (pg_name (i := 4) sc_law.nd rfl (Or.inl rfl))) (fun _ _ _ _ _ => pts_nil) (fun _ _ _ _ _ => (pe_c c__law_value hr (by first | decide | omega) (by rfl) (pa_cons (pv 1) (pa_cons (pv 4) pa_nil)))))
      (pss_cons (ps_if (pw_and (pt_cmpR op_eq (pe_ix (ix_K (K := K)) (pv 2) pe_int (fun _ _ => rfl)) pe_str (nomark _)) (pw_and1 (pt_cmpR op_eq (pe_c c__law_take hr (by first | decide | omega) (by rfl) (pa_cons (pv 1) (pa_cons pe_int pa_nil))) pe_int (nomark _)))).pt
      (pss_one (ps_asg (pe_ix (ix_K (K := K)) (pv 3) pe_int (fun _ _ => rfl)) (pg_sub (pv 3) pe_int (set_any (hu_of hr)))))
      pss_nil)
      (pss_cons (ps_if (pt_not (tru_K (K := K) (pe_c c__law_same hr (by first | decide | omega) (by rfl) (pa_cons (pe_c c_worked hr (by first | decide | omega) (by rfl) (pa_cons (pe_ix (ix_K (K := K)) (pv 2) pe_int (fun _ _ => rfl)) (pa_cons (pe_callTy (list_K (K := K)) (by rfl) T.m_list (by decide +kernel) (pa_cons (pv 3) pa_nil)) pa_nil))) (pa_cons (pe_c c__law_worked hr (by first | decide | omega) (by rfl) (pa_cons (pe_ix (ix_K (K := K)) (pv 2) pe_int (fun _ _ => rfl)) (pa_cons (pv 3) pa_nil))) pa_nil)))))
      (pss_one (ps_ret pe_bl))
      pss_nil)
      (pss_cons (ps_set (i := 5) sc_law.nd rfl (Or.inl rfl) (pe_ix (ix_K (K := K)) (pe_tup (pa_cons pe_str (pa_cons pe_str (pa_cons pe_str (pa_cons pe_str (pa_cons pe_str pa_nil)))))) (pe_c c__law_take hr (by first | decide | omega) (by rfl) (pa_cons (pv 1) (pa_cons pe_int pa_nil))) (fun _ _ => rfl)))
      (pss_cons (ps_set (i := 4) sc_law.nd rfl (Or.inr rfl) (dispGet_K (hu_of hr) (pe_disp (pps_cons pe_str pe_str (pps_cons pe_str pe_str (pps_cons pe_str pe_str (pps_cons pe_str pe_str (pps_cons pe_str pe_str pps_nil))))) (by rfl) (by rfl) (fun z => by cases z) (by decide)) (pv 5)))
      (pss_cons (ps_setLc (i := 6) (own := [("k", 7)]) (g := gName 7) rfl sc_law.nd rfl rfl (sw_true rfl rfl rfl (by decide +kernel)) (pi_range1 (by rfl) T.m_range (pa_cons (pe_c c__law_take hr (by first | decide | omega) (by rfl) (pa_cons (pv 1) (pa_cons pe_int pa_nil))) pa_nil)) (blkOk_by (own := [("k", 7)]) (N := ["script", "pool", "row", "operands", "sort", "head", "values", "k", "between", "value"]) (sc := defScope s_law) (by decide +kernel)) (fun _ _ _ _ _ => (pg_name (i := 7) sc_law.nd rfl (Or.inl rfl))) (fun _ _ _ _ _ => pts_nil) (fun _ _ _ _ _ => (pe_c c__law_value hr (by first | decide | omega) (by rfl) (pa_cons (pv 1) (pa_cons (pv 4) pa_nil)))))
      (pss_cons (ps_set (i := 8) sc_law.nd rfl (Or.inl rfl) (pe_ix (ix_K (K := K)) (pe_tup (pa_cons pe_str (pa_cons pe_str (pa_cons pe_str pa_nil)))) (pe_c c__law_take hr (by first | decide | omega) (by rfl) (pa_cons (pv 1) (pa_cons pe_int pa_nil))) (fun _ _ => rfl)))
      (pss_cons (ps_if (pt_not (tru_K (K := K) (pe_c c__law_same hr (by first | decide | omega) (by rfl) (pa_cons (pe_c c_gathered hr (by first | decide | omega) (by rfl) (pa_cons (pv 5) (pa_cons (pe_callTy (list_K (K := K)) (by rfl) T.m_list (by decide +kernel) (pa_cons (pv 6) pa_nil)) (pa_cons (pv 8) pa_nil)))) (pa_cons (pe_c c__law_over hr (by first | decide | omega) (by rfl) (pa_cons (pv 5) (pa_cons (pv 6) (pa_cons (pv 8) pa_nil)))) pa_nil)))))
      (pss_one (ps_ret pe_bl))
      pss_nil)
      (pss_cons (ps_set (i := 9) sc_law.nd rfl (Or.inl rfl) (pe_ix (ix_K (K := K)) (pe_tup (pa_cons (pe_tup (pa_cons pe_str (pa_cons (pe_op (add_K (K := K)) (pe_op op_pow pe_int pe_int) (pe_c c__law_take hr (by first | decide | omega) (by rfl) (pa_cons (pv 1) (pa_cons pe_int pa_nil)))) pa_nil))) (pa_cons (pe_tup (pa_cons pe_str (pa_cons (pe_op op_mulS pe_str (pe_op (add_K (K := K)) pe_int (pe_c c__law_take hr (by first | decide | omega) (by rfl) (pa_cons (pv 1) (pa_cons pe_int pa_nil))))) pa_nil))) pa_nil))) (pe_c c__law_take hr (by first | decide | omega) (by rfl) (pa_cons (pv 1) (pa_cons pe_int pa_nil))) (fun _ _ => rfl)))
      (pss_one (ps_ret (pe_c c__law_same hr (by first | decide | omega) (by rfl) (pa_cons (pe_c c_settled hr (by first | decide | omega) (by rfl) (pa_cons (pv 9) pa_nil)) (pa_cons (pe_c c__law_settled hr (by first | decide | omega) (by rfl) (pa_cons (pv 9) pa_nil)) pa_nil)))))))))))))))), fun ds M kk hw => by
    obtain ⟨ns, rfl, rfl, hl, q⟩ := hw
    have hsz := sizeLine_eq
    refine as_start (δ' := [some (.lsk (ns.map D.int)), none, none, none, none, none, none, none, none, none]) rfl ?_
    walk_at "tg"
    refine ⟨[], [], fun d M => ∃ (a : Addr) (p : Pool), p.Ok ∧ d = .ref a ∧ M = [(a, .lst p.d)], rfl, ⟨ns, rfl, rfl, hl, fun a p ok => ⟨a, p, ok, rfl, rfl⟩⟩, ?_⟩
    rintro _ _ ⟨a, p0, ok0, rfl, rfl⟩
    walk_at "tg"
    refine ⟨[_], [], fun d M => ∃ (R : Rw) (p' : Pool), p'.Ok ∧ d = R.d ∧ M = [(a, .lst p'.d)], rfl, ⟨a, p0, rfl, rfl, ok0, fun R p' o => ⟨R, p', o, rfl, rfl⟩⟩, ?_⟩
    rintro _ _ ⟨R, p1, ok1, rfl, rfl⟩
    walk_at "tg"
    refine ae_lcM (ownG_name (by simp)) ?_
    walk_at "tg"
    refine asl_tup ?_
    refine ⟨_, rfl, ?_, ?_⟩
    · rw [hsz]
      cases R
      · exact (by decide : 1 < 16777216)
      · exact (by decide : 2 < 16777216)
    have ecut : cutD (.str R.head :: R.srts.map fun s => D.str s.name) (some 1) none = R.srts.map fun s => D.str s.name := by
      cases R <;> rfl
    rw [ecut]
    refine ⟨fun i acc M' => ∃ (vs : List Vl) (p' : Pool), p'.Ok ∧ vs.length = i ∧ Fit vs R.srts ∧ acc = vs.map Vl.d ∧ M' = [(a, .lst p'.d)], ⟨[], p1, ok1, rfl, (fun i v s h _ => by cases h), rfl, rfl⟩, ?_, ?_⟩
    · rintro i d acc M' hd ⟨vs, p', ok', rfl, hf, rfl, rfl⟩
      rw [List.getElem?_map] at hd
      obtain ⟨s, hs, rfl⟩ := Option.map_eq_some_iff.mp hd
      walk_at "tg"
      refine ⟨[_], [], valK a s, rfl, val_ok ok', ?_⟩
      rintro _ _ ⟨v, p2, ok2, h1, h2, rfl, rfl⟩
      exact ⟨vs ++ [v], p2, ok2, by simp, hf.snoc hs h1 h2, by simp, rfl⟩
    · rintro acc M' ⟨vs, p', ok', hvl, hf, rfl, rfl⟩ b
      rw [List.length_map] at hvl
      refine as_cut (fun δ' M' => ∃ (j : Job) (p2 : Pool), p2.Ok ∧ j.head = R.head ∧ j.Ok ∧ j.Out (wk j) ∧ δ' = [some (.lsk (ns.map D.int)), some (.ref a), some R.d, some (.ref b), none, none, none, none, none, none] ∧ M' = [(a, .lst p2.d), (b, .lst (j.args.map Vl.d))]) ?_ ?_
      · obtain ⟨j0, e1, e2, e3, e4⟩ := fit_job hvl hf
        subst e2
        cases R with
        | one o =>
          cases o <;> (walk_at "tg"; exact ⟨j0, p', ok', e1, e3, e4, rfl, rfl⟩)
        | two o s =>
          cases o
          case sam =>
            obtain ⟨v, u, e⟩ : ∃ v u, j0.args = [v, u] := by
              match h : j0.args, hvl with
              | [v, u], _ => exact ⟨v, u, rfl⟩
            rw [e] at hf ⊢
            obtain ⟨h1, h2⟩ := hf 0 v s rfl rfl
            walk_at "tg"
            walk_at "take"
            rintro _ _ ⟨r2, p2, ok2, k0, k1, rfl, rfl⟩
            walk_at "tg"
            refine dcase (fun c => ?_) (fun c => ?_)
            · walk_at "tg"
              exact ⟨.two .sam v v, p2, ok2, rfl, ⟨h1.le (by decide), h1⟩, two_wk (s := s) h2 h2, rfl, rfl⟩
            · walk_at "tg"
              exact ⟨j0, p2, ok2, e1, e3, e4, rfl, by rw [e]; rfl⟩
          all_goals (walk_at "tg"; exact ⟨j0, p', ok', e1, e3, e4, rfl, rfl⟩)
      · clear hvl hf
        rintro δ' M' ⟨j, p2, ok2, e1, e3, e4, rfl, rfl⟩
        refine frz1 (s := 3) rfl ?_
        refine as_seq ?_
        walk_at "tg"
        refine aix_T at0 ?_
        walk_at "tg"
        refine ac_list (.inl rfl) ?_
        walk_at "tg"
        refine ⟨[], _, isK (wk j).d, rfl, ⟨j, wk j, by rw [e1], rfl, e3, e4, rfl, rfl⟩, ?_⟩
        rintro _ _ ⟨rfl, rfl⟩
        walk_at "tg"
        refine aix_T at0 ?_
        walk_at "tg"
        refine ⟨[], _, isK (wk j).d, rfl, ⟨j, wk j, by rw [e1], rfl, e3, e4, rfl, rfl⟩, ?_⟩
        rintro _ _ ⟨rfl, rfl⟩
        walk_at "tg"
        refine ⟨[], _, isK (.bl true), rfl, ⟨wk j, rfl, rfl, e4.ok e3, rfl, rfl⟩, ?_⟩
        rintro _ _ ⟨rfl, rfl⟩
        walk_at "tg"
        clear e1 e3 e4
        walk_at "take"
        rintro _ _ ⟨r3, p3, ok3, k0, k1, rfl, rfl⟩
        obtain ⟨g, hg⟩ := gh_get k0 k1
        refine aix_T hg ?_
        walk_at "tg"
        refine ae_dispGet (kvs := sortsK) (by decide) ?_
        walk_at "tg"
        refine ⟨g.name, g.so.name, rfl, sortsK_at g, ?_⟩
        walk_at "tg"
        refine ae_lc (ownG_name (by simp)) ?_
        walk_at "tg"
        walk_at "take"
        rintro _ _ ⟨r4, p4, ok4, j0, j1, rfl, rfl⟩
        obtain ⟨m, rfl⟩ : ∃ m : Nat, r4 = (m : Int) := ⟨r4.toNat, by omega⟩
        walk_at "tg"
        refine ⟨by omega, by omega, ?_⟩
        rw [Int.toNat_natCast]
        refine ⟨by rw [rng_len, hsz]; omega, fun i acc M' => ∃ (vs : List Vl) (p' : Pool), p'.Ok ∧ vs.length = i ∧ (∀ v ∈ vs, v.Ok 1 ∧ v.Of g.so) ∧ acc = vs.map Vl.d ∧ M' = [(a, .lst p'.d)], ⟨[], p4, ok4, rfl, (fun v hv => by cases hv), rfl, rfl⟩, ?_, ?_⟩
        · rintro i d acc M' hd ⟨vs, p', ok', rfl, hf, rfl, rfl⟩
          obtain ⟨hi, rfl⟩ := rng_get hd
          walk_at "tg"
          refine ⟨[_], [], valK a g.so, rfl, val_ok ok', ?_⟩
          rintro _ _ ⟨v, p5, ok5, h1, h2, rfl, rfl⟩
          exact ⟨vs ++ [v], p5, ok5, by simp, fun x hx => by
            rcases List.mem_append.mp hx with hx | hx
            · exact hf x hx
            · rw [List.mem_singleton.mp hx]; exact ⟨h1, h2⟩, by simp, rfl⟩
        · rintro acc M' ⟨vs, p5, ok5, hvl, hf, rfl, rfl⟩
          rw [rng_len] at hvl
          walk_at "tg"
          walk_at "take"
          rintro _ _ ⟨r5, p6, ok6, g0, g1, rfl, rfl⟩
          obtain ⟨bt, b1, b2, hb⟩ := bt_get g0 g1
          refine aix_T hb ?_
          have gk : Gok g bt vs := ⟨hf, b1, b2⟩
          refine as_seq ?_
          walk_at "tg"
          refine ac_list (.inl rfl) ?_
          walk_at "tg"
          refine ⟨[], _, isK (gst g bt vs vs.length).d, rfl, ⟨g, bt, vs, rfl, rfl, gk, by omega, rfl, rfl⟩, ?_⟩
          rintro _ _ ⟨rfl, rfl⟩
          walk_at "tg"
          refine ⟨[], _, isD (gst g bt vs vs.length).d, rfl, ⟨g, bt, vs, rfl, rfl, gk, by omega, fun M' => rfl⟩, ?_⟩
          rintro _ M3 rfl
          walk_at "tg"
          refine ⟨[], _, isK (.bl true), rfl, ⟨gst g bt vs vs.length, rfl, rfl, (gk.gst _).1, rfl, rfl⟩, ?_⟩
          rintro _ _ ⟨rfl, rfl⟩
          walk_at "tg1"
          walk_at "tg1"
          walk_at "tg1"
          refine as_perm (M' := (a, .lst p6.d) :: M3) (List.perm_append_comm (l₁ := M3) (l₂ := [(a, MO.lst p6.d)])) ?_
          clear gk b1 b2 hb hvl hf
          have e60 : (10 : Int) ^ Int.toNat 60 = PK.big := by decide +kernel
          walk_at "tg"
          rw [e60]
          walk_at "take"
          rintro _ _ ⟨r6, p7, ok7, h0, h1, rfl, rfl⟩
          walk_at "tg"
          walk_at "take"
          rintro _ _ ⟨r7, p8, ok8, i0, i1, rfl, rfl⟩
          obtain ⟨n, hn, hn2⟩ : ∃ n : Nat, 999 + r7 = (n : Int) ∧ n ≤ 1001 := ⟨(999 + r7).toNat, by omega, by omega⟩
          walk_at "tg"
          rw [hn, show Str.ofString "x" = Tg.tx [120] from by decide +kernel]
          refine ar_mulW (by simp) (by omega) ?_
          walk_at "tg"
          walk_at "take"
          rintro _ _ ⟨r8, p9, ok9, l0, l1, rfl, rfl⟩
          obtain ⟨v, hv, hvd⟩ : ∃ v : Vl, v.Raw ∧ atI [iD (PK.big + r6), xD (repL n [120])] r8 = some v.d := by
            have h : r8 = 0 ∨ r8 = 1 := by omega
            have hr1 := repL_one n 120
            rcases h with rfl | rfl
            · exact ⟨.int (PK.big + r6), trivial, rfl⟩
            · exact ⟨.tx (repL n [120]), ⟨by omega, fun c hc => by
                have := repL_mem hc
                rw [List.mem_singleton.mp this]
                decide⟩, rfl⟩
          refine aix_T hvd ?_
          walk_at "tg"
          refine ⟨[], _, isK (settle v).d, rfl, ⟨v, rfl, rfl, hv, rfl, rfl⟩, ?_⟩
          rintro _ _ ⟨rfl, rfl⟩
          walk_at "tg"
          refine ⟨[], _, isK (settle v).d, rfl, ⟨v, rfl, rfl, hv, rfl, rfl⟩, ?_⟩
          rintro _ _ ⟨rfl, rfl⟩
          walk_at "tg"
          refine ⟨[], _, isK (.bl true), rfl, ⟨settle v, rfl, rfl, settle_ok hv, rfl, rfl⟩, ?_⟩
          rintro _ _ ⟨rfl, rfl⟩
          exact q _⟩
end

theorem all_mk {l : PySem.W.OpenLaw} {w : World} {K : PySem.W.Frag} {h : Heap} {mg : Str → Option Value} {fa f0 f1 f2 f3 f4 f5 f6 f7 f8 f9 f10 f11 f12 f13 f14 f15 f16 f17 f18 f19 f20 f21 f22 f23 f24 f25 f26 f27 f28 f29 f30 f31 f32 f33 f34 f35 f36 f37 f38 f39 f40 f41 : Addr} (X : K.In h) (G : h.Ns mainGlobals mg) (hfa : mg "law" = some (.ref fa))
    {od0 an0 od1 an1 od2 an2 od3 an3 od4 an4 od5 an5 od6 an6 od7 an7 od8 an8 od9 an9 od10 an10 od11 an11 od12 an12 od13 an13 od14 an14 od15 an15 od16 an16 od17 an17 od18 an18 od19 an19 od20 an20 od21 an21 od22 an22 od23 an23 od24 an24 od25 an25 od26 an26 od27 an27 od28 an28 od29 an29 od30 an30 od31 an31 od32 an32 od33 an33 od34 an34 od35 an35 od36 an36 od37 an37 od38 an38 od39 an39 od40 an40 od41 an41 : Option Addr} {sl0 sl1 sl2 sl3 sl4 sl5 sl6 sl7 sl8 sl9 sl10 sl11 sl12 sl13 sl14 sl15 sl16 sl17 sl18 sl19 sl20 sl21 sl22 sl23 sl24 sl25 sl26 sl27 sl28 sl29 sl30 sl31 sl32 sl33 sl34 sl35 sl36 sl37 sl38 sl39 sl40 sl41 : Array (Option Value)} {oc0 kV0 dc0 pm0 cd0 ct0 oc1 kV1 dc1 pm1 cd1 ct1 oc2 kV2 dc2 pm2 cd2 ct2 oc3 kV3 dc3 pm3 cd3 ct3 oc4 kV4 dc4 pm4 cd4 ct4 oc5 kV5 dc5 pm5 cd5 ct5 oc6 kV6 dc6 pm6 cd6 ct6 oc7 kV7 dc7 pm7 cd7 ct7 oc8 kV8 dc8 pm8 cd8 ct8 oc9 kV9 dc9 pm9 cd9 ct9 oc10 kV10 dc10 pm10 cd10 ct10 oc11 kV11 dc11 pm11 cd11 ct11 oc12 kV12 dc12 pm12 cd12 ct12 oc13 kV13 dc13 pm13 cd13 ct13 oc14 kV14 dc14 pm14 cd14 ct14 oc15 kV15 dc15 pm15 cd15 ct15 oc16 kV16 dc16 pm16 cd16 ct16 oc17 kV17 dc17 pm17 cd17 ct17 oc18 kV18 dc18 pm18 cd18 ct18 oc19 kV19 dc19 pm19 cd19 ct19 oc20 kV20 dc20 pm20 cd20 ct20 oc21 kV21 dc21 pm21 cd21 ct21 oc22 kV22 dc22 pm22 cd22 ct22 oc23 kV23 dc23 pm23 cd23 ct23 oc24 kV24 dc24 pm24 cd24 ct24 oc25 kV25 dc25 pm25 cd25 ct25 oc26 kV26 dc26 pm26 cd26 ct26 oc27 kV27 dc27 pm27 cd27 ct27 oc28 kV28 dc28 pm28 cd28 ct28 oc29 kV29 dc29 pm29 cd29 ct29 oc30 kV30 dc30 pm30 cd30 ct30 oc31 kV31 dc31 pm31 cd31 ct31 oc32 kV32 dc32 pm32 cd32 ct32 oc33 kV33 dc33 pm33 cd33 ct33 oc34 kV34 dc34 pm34 cd34 ct34 oc35 kV35 dc35 pm35 cd35 ct35 oc36 kV36 dc36 pm36 cd36 ct36 oc37 kV37 dc37 pm37 cd37 ct37 oc38 kV38 dc38 pm38 cd38 ct38 oc39 kV39 dc39 pm39 cd39 ct39 oc40 kV40 dc40 pm40 cd40 ct40 oc41 kV41 dc41 pm41 cd41 ct41 : Value}
    (a0 : PySem.W.nsIn K mainGlobals "settled" = some (some (.ref f0))) (l0 : K.lookup f0 = some ⟨oc0, od0, .func (PySem.W.fnOf "settled" "settled" (defArgs s_settled) (defBody s_settled) (defScope s_settled) .none kV0 dc0 pm0 an0 cd0 ct0), sl0⟩) (c0 : PySem.W.codeIn K cd0 "settled" = true) (k0 : PySem.W.keepIn K (.ref f0) = true)
    (a1 : PySem.W.nsIn K mainGlobals "is_too_large" = some (some (.ref f1))) (l1 : K.lookup f1 = some ⟨oc1, od1, .func (PySem.W.fnOf "is_too_large" "is_too_large" (defArgs s_is_too_large) (defBody s_is_too_large) (defScope s_is_too_large) .none kV1 dc1 pm1 an1 cd1 ct1), sl1⟩) (c1 : PySem.W.codeIn K cd1 "is_too_large" = true) (k1 : PySem.W.keepIn K (.ref f1) = true)
    (a2 : PySem.W.nsIn K mainGlobals "is_large_term" = some (some (.ref f2))) (l2 : K.lookup f2 = some ⟨oc2, od2, .func (PySem.W.fnOf "is_large_term" "is_large_term" (defArgs s_is_large_term) (defBody s_is_large_term) (defScope s_is_large_term) .none kV2 dc2 pm2 an2 cd2 ct2), sl2⟩) (c2 : PySem.W.codeIn K cd2 "is_large_term" = true) (k2 : PySem.W.keepIn K (.ref f2) = true)
    (a3 : PySem.W.nsIn K mainGlobals "opposite" = some (some (.ref f3))) (l3 : K.lookup f3 = some ⟨oc3, od3, .func (PySem.W.fnOf "opposite" "opposite" (defArgs s_opposite) (defBody s_opposite) (defScope s_opposite) .none kV3 dc3 pm3 an3 cd3 ct3), sl3⟩) (c3 : PySem.W.codeIn K cd3 "opposite" = true) (k3 : PySem.W.keepIn K (.ref f3) = true)
    (a4 : PySem.W.nsIn K mainGlobals "negative" = some (some (.ref f4))) (l4 : K.lookup f4 = some ⟨oc4, od4, .func (PySem.W.fnOf "negative" "negative" (defArgs s_negative) (defBody s_negative) (defScope s_negative) .none kV4 dc4 pm4 an4 cd4 ct4), sl4⟩) (c4 : PySem.W.codeIn K cd4 "negative" = true) (k4 : PySem.W.keepIn K (.ref f4) = true)
    (a5 : PySem.W.nsIn K mainGlobals "length" = some (some (.ref f5))) (l5 : K.lookup f5 = some ⟨oc5, od5, .func (PySem.W.fnOf "length" "length" (defArgs s_length) (defBody s_length) (defScope s_length) .none kV5 dc5 pm5 an5 cd5 ct5), sl5⟩) (c5 : PySem.W.codeIn K cd5 "length" = true) (k5 : PySem.W.keepIn K (.ref f5) = true)
    (a6 : PySem.W.nsIn K mainGlobals "shown" = some (some (.ref f6))) (l6 : K.lookup f6 = some ⟨oc6, od6, .func (PySem.W.fnOf "shown" "shown" (defArgs s_shown) (defBody s_shown) (defScope s_shown) .none kV6 dc6 pm6 an6 cd6 ct6), sl6⟩) (c6 : PySem.W.codeIn K cd6 "shown" = true) (k6 : PySem.W.keepIn K (.ref f6) = true)
    (a7 : PySem.W.nsIn K mainGlobals "parsed" = some (some (.ref f7))) (l7 : K.lookup f7 = some ⟨oc7, od7, .func (PySem.W.fnOf "parsed" "parsed" (defArgs s_parsed) (defBody s_parsed) (defScope s_parsed) .none kV7 dc7 pm7 an7 cd7 ct7), sl7⟩) (c7 : PySem.W.codeIn K cd7 "parsed" = true) (k7 : PySem.W.keepIn K (.ref f7) = true)
    (a8 : PySem.W.nsIn K mainGlobals "label" = some (some (.ref f8))) (l8 : K.lookup f8 = some ⟨oc8, od8, .func (PySem.W.fnOf "label" "label" (defArgs s_label) (defBody s_label) (defScope s_label) .none kV8 dc8 pm8 an8 cd8 ct8), sl8⟩) (c8 : PySem.W.codeIn K cd8 "label" = true) (k8 : PySem.W.keepIn K (.ref f8) = true)
    (a9 : PySem.W.nsIn K mainGlobals "size" = some (some (.ref f9))) (l9 : K.lookup f9 = some ⟨oc9, od9, .func (PySem.W.fnOf "size" "size" (defArgs s_size) (defBody s_size) (defScope s_size) .none kV9 dc9 pm9 an9 cd9 ct9), sl9⟩) (c9 : PySem.W.codeIn K cd9 "size" = true) (k9 : PySem.W.keepIn K (.ref f9) = true)
    (a10 : PySem.W.nsIn K mainGlobals "named" = some (some (.ref f10))) (l10 : K.lookup f10 = some ⟨oc10, od10, .func (PySem.W.fnOf "named" "named" (defArgs s_named) (defBody s_named) (defScope s_named) .none kV10 dc10 pm10 an10 cd10 ct10), sl10⟩) (c10 : PySem.W.codeIn K cd10 "named" = true) (k10 : PySem.W.keepIn K (.ref f10) = true)
    (a11 : PySem.W.nsIn K mainGlobals "added" = some (some (.ref f11))) (l11 : K.lookup f11 = some ⟨oc11, od11, .func (PySem.W.fnOf "added" "added" (defArgs s_added) (defBody s_added) (defScope s_added) .none kV11 dc11 pm11 an11 cd11 ct11), sl11⟩) (c11 : PySem.W.codeIn K cd11 "added" = true) (k11 : PySem.W.keepIn K (.ref f11) = true)
    (a12 : PySem.W.nsIn K mainGlobals "subtracted" = some (some (.ref f12))) (l12 : K.lookup f12 = some ⟨oc12, od12, .func (PySem.W.fnOf "subtracted" "subtracted" (defArgs s_subtracted) (defBody s_subtracted) (defScope s_subtracted) .none kV12 dc12 pm12 an12 cd12 ct12), sl12⟩) (c12 : PySem.W.codeIn K cd12 "subtracted" = true) (k12 : PySem.W.keepIn K (.ref f12) = true)
    (a13 : PySem.W.nsIn K mainGlobals "multiplied" = some (some (.ref f13))) (l13 : K.lookup f13 = some ⟨oc13, od13, .func (PySem.W.fnOf "multiplied" "multiplied" (defArgs s_multiplied) (defBody s_multiplied) (defScope s_multiplied) .none kV13 dc13 pm13 an13 cd13 ct13), sl13⟩) (c13 : PySem.W.codeIn K cd13 "multiplied" = true) (k13 : PySem.W.keepIn K (.ref f13) = true)
    (a14 : PySem.W.nsIn K mainGlobals "quotient" = some (some (.ref f14))) (l14 : K.lookup f14 = some ⟨oc14, od14, .func (PySem.W.fnOf "quotient" "quotient" (defArgs s_quotient) (defBody s_quotient) (defScope s_quotient) .none kV14 dc14 pm14 an14 cd14 ct14), sl14⟩) (c14 : PySem.W.codeIn K cd14 "quotient" = true) (k14 : PySem.W.keepIn K (.ref f14) = true)
    (a15 : PySem.W.nsIn K mainGlobals "remainder" = some (some (.ref f15))) (l15 : K.lookup f15 = some ⟨oc15, od15, .func (PySem.W.fnOf "remainder" "remainder" (defArgs s_remainder) (defBody s_remainder) (defScope s_remainder) .none kV15 dc15 pm15 an15 cd15 ct15), sl15⟩) (c15 : PySem.W.codeIn K cd15 "remainder" = true) (k15 : PySem.W.keepIn K (.ref f15) = true)
    (a16 : PySem.W.nsIn K mainGlobals "less" = some (some (.ref f16))) (l16 : K.lookup f16 = some ⟨oc16, od16, .func (PySem.W.fnOf "less" "less" (defArgs s_less) (defBody s_less) (defScope s_less) .none kV16 dc16 pm16 an16 cd16 ct16), sl16⟩) (c16 : PySem.W.codeIn K cd16 "less" = true) (k16 : PySem.W.keepIn K (.ref f16) = true)
    (a17 : PySem.W.nsIn K mainGlobals "same" = some (some (.ref f17))) (l17 : K.lookup f17 = some ⟨oc17, od17, .func (PySem.W.fnOf "same" "same" (defArgs s_same) (defBody s_same) (defScope s_same) .none kV17 dc17 pm17 an17 cd17 ct17), sl17⟩) (c17 : PySem.W.codeIn K cd17 "same" = true) (k17 : PySem.W.keepIn K (.ref f17) = true)
    (a18 : PySem.W.nsIn K mainGlobals "both" = some (some (.ref f18))) (l18 : K.lookup f18 = some ⟨oc18, od18, .func (PySem.W.fnOf "both" "both" (defArgs s_both) (defBody s_both) (defScope s_both) .none kV18 dc18 pm18 an18 cd18 ct18), sl18⟩) (c18 : PySem.W.codeIn K cd18 "both" = true) (k18 : PySem.W.keepIn K (.ref f18) = true)
    (a19 : PySem.W.nsIn K mainGlobals "either" = some (some (.ref f19))) (l19 : K.lookup f19 = some ⟨oc19, od19, .func (PySem.W.fnOf "either" "either" (defArgs s_either) (defBody s_either) (defScope s_either) .none kV19 dc19 pm19 an19 cd19 ct19), sl19⟩) (c19 : PySem.W.codeIn K cd19 "either" = true) (k19 : PySem.W.keepIn K (.ref f19) = true)
    (a20 : PySem.W.nsIn K mainGlobals "appended" = some (some (.ref f20))) (l20 : K.lookup f20 = some ⟨oc20, od20, .func (PySem.W.fnOf "appended" "appended" (defArgs s_appended) (defBody s_appended) (defScope s_appended) .none kV20 dc20 pm20 an20 cd20 ct20), sl20⟩) (c20 : PySem.W.codeIn K cd20 "appended" = true) (k20 : PySem.W.keepIn K (.ref f20) = true)
    (a21 : PySem.W.nsIn K mainGlobals "extended" = some (some (.ref f21))) (l21 : K.lookup f21 = some ⟨oc21, od21, .func (PySem.W.fnOf "extended" "extended" (defArgs s_extended) (defBody s_extended) (defScope s_extended) .none kV21 dc21 pm21 an21 cd21 ct21), sl21⟩) (c21 : PySem.W.codeIn K cd21 "extended" = true) (k21 : PySem.W.keepIn K (.ref f21) = true)
    (a22 : PySem.W.nsIn K mainGlobals "argument" = some (some (.ref f22))) (l22 : K.lookup f22 = some ⟨oc22, od22, .func (PySem.W.fnOf "argument" "argument" (defArgs s_argument) (defBody s_argument) (defScope s_argument) .none kV22 dc22 pm22 an22 cd22 ct22), sl22⟩) (c22 : PySem.W.codeIn K cd22 "argument" = true) (k22 : PySem.W.keepIn K (.ref f22) = true)
    (a23 : PySem.W.nsIn K mainGlobals "worked" = some (some (.ref f23))) (l23 : K.lookup f23 = some ⟨oc23, od23, .func (PySem.W.fnOf "worked" "worked" (defArgs s_worked) (defBody s_worked) (defScope s_worked) .none kV23 dc23 pm23 an23 cd23 ct23), sl23⟩) (c23 : PySem.W.codeIn K cd23 "worked" = true) (k23 : PySem.W.keepIn K (.ref f23) = true)
    (a24 : PySem.W.nsIn K mainGlobals "gathered" = some (some (.ref f24))) (l24 : K.lookup f24 = some ⟨oc24, od24, .func (PySem.W.fnOf "gathered" "gathered" (defArgs s_gathered) (defBody s_gathered) (defScope s_gathered) .none kV24 dc24 pm24 an24 cd24 ct24), sl24⟩) (c24 : PySem.W.codeIn K cd24 "gathered" = true) (k24 : PySem.W.keepIn K (.ref f24) = true)
    (a25 : PySem.W.nsIn K mainGlobals "_law_pool" = some (some (.ref f25))) (l25 : K.lookup f25 = some ⟨oc25, od25, .func (PySem.W.fnOf "_law_pool" "_law_pool" (defArgs s__law_pool) (defBody s__law_pool) (defScope s__law_pool) .none kV25 dc25 pm25 an25 cd25 ct25), sl25⟩) (c25 : PySem.W.codeIn K cd25 "_law_pool" = true) (k25 : PySem.W.keepIn K (.ref f25) = true)
    (a26 : PySem.W.nsIn K mainGlobals "_law_take" = some (some (.ref f26))) (l26 : K.lookup f26 = some ⟨oc26, od26, .func (PySem.W.fnOf "_law_take" "_law_take" (defArgs s__law_take) (defBody s__law_take) (defScope s__law_take) .none kV26 dc26 pm26 an26 cd26 ct26), sl26⟩) (c26 : PySem.W.codeIn K cd26 "_law_take" = true) (k26 : PySem.W.keepIn K (.ref f26) = true)
    (a27 : PySem.W.nsIn K mainGlobals "_law_integer" = some (some (.ref f27))) (l27 : K.lookup f27 = some ⟨oc27, od27, .func (PySem.W.fnOf "_law_integer" "_law_integer" (defArgs s__law_integer) (defBody s__law_integer) (defScope s__law_integer) .none kV27 dc27 pm27 an27 cd27 ct27), sl27⟩) (c27 : PySem.W.codeIn K cd27 "_law_integer" = true) (k27 : PySem.W.keepIn K (.ref f27) = true)
    (a28 : PySem.W.nsIn K mainGlobals "_law_text" = some (some (.ref f28))) (l28 : K.lookup f28 = some ⟨oc28, od28, .func (PySem.W.fnOf "_law_text" "_law_text" (defArgs s__law_text) (defBody s__law_text) (defScope s__law_text) .none kV28 dc28 pm28 an28 cd28 ct28), sl28⟩) (c28 : PySem.W.codeIn K cd28 "_law_text" = true) (k28 : PySem.W.keepIn K (.ref f28) = true)
    (a29 : PySem.W.nsIn K mainGlobals "_law_term" = some (some (.ref f29))) (l29 : K.lookup f29 = some ⟨oc29, od29, .func (PySem.W.fnOf "_law_term" "_law_term" (defArgs s__law_term) (defBody s__law_term) (defScope s__law_term) .none kV29 dc29 pm29 an29 cd29 ct29), sl29⟩) (c29 : PySem.W.codeIn K cd29 "_law_term" = true) (k29 : PySem.W.keepIn K (.ref f29) = true)
    (a30 : PySem.W.nsIn K mainGlobals "_law_value" = some (some (.ref f30))) (l30 : K.lookup f30 = some ⟨oc30, od30, .func (PySem.W.fnOf "_law_value" "_law_value" (defArgs s__law_value) (defBody s__law_value) (defScope s__law_value) .none kV30 dc30 pm30 an30 cd30 ct30), sl30⟩) (c30 : PySem.W.codeIn K cd30 "_law_value" = true) (k30 : PySem.W.keepIn K (.ref f30) = true)
    (a31 : PySem.W.nsIn K mainGlobals "_law_size" = some (some (.ref f31))) (l31 : K.lookup f31 = some ⟨oc31, od31, .func (PySem.W.fnOf "_law_size" "_law_size" (defArgs s__law_size) (defBody s__law_size) (defScope s__law_size) .none kV31 dc31 pm31 an31 cd31 ct31), sl31⟩) (c31 : PySem.W.codeIn K cd31 "_law_size" = true) (k31 : PySem.W.keepIn K (.ref f31) = true)
    (a32 : PySem.W.nsIn K mainGlobals "_law_settled" = some (some (.ref f32))) (l32 : K.lookup f32 = some ⟨oc32, od32, .func (PySem.W.fnOf "_law_settled" "_law_settled" (defArgs s__law_settled) (defBody s__law_settled) (defScope s__law_settled) .none kV32 dc32 pm32 an32 cd32 ct32), sl32⟩) (c32 : PySem.W.codeIn K cd32 "_law_settled" = true) (k32 : PySem.W.keepIn K (.ref f32) = true)
    (a33 : PySem.W.nsIn K mainGlobals "_law_quotient" = some (some (.ref f33))) (l33 : K.lookup f33 = some ⟨oc33, od33, .func (PySem.W.fnOf "_law_quotient" "_law_quotient" (defArgs s__law_quotient) (defBody s__law_quotient) (defScope s__law_quotient) .none kV33 dc33 pm33 an33 cd33 ct33), sl33⟩) (c33 : PySem.W.codeIn K cd33 "_law_quotient" = true) (k33 : PySem.W.keepIn K (.ref f33) = true)
    (a34 : PySem.W.nsIn K mainGlobals "_law_parsed" = some (some (.ref f34))) (l34 : K.lookup f34 = some ⟨oc34, od34, .func (PySem.W.fnOf "_law_parsed" "_law_parsed" (defArgs s__law_parsed) (defBody s__law_parsed) (defScope s__law_parsed) .none kV34 dc34 pm34 an34 cd34 ct34), sl34⟩) (c34 : PySem.W.codeIn K cd34 "_law_parsed" = true) (k34 : PySem.W.keepIn K (.ref f34) = true)
    (a35 : PySem.W.nsIn K mainGlobals "_law_one" = some (some (.ref f35))) (l35 : K.lookup f35 = some ⟨oc35, od35, .func (PySem.W.fnOf "_law_one" "_law_one" (defArgs s__law_one) (defBody s__law_one) (defScope s__law_one) .none kV35 dc35 pm35 an35 cd35 ct35), sl35⟩) (c35 : PySem.W.codeIn K cd35 "_law_one" = true) (k35 : PySem.W.keepIn K (.ref f35) = true)
    (a36 : PySem.W.nsIn K mainGlobals "_law_two" = some (some (.ref f36))) (l36 : K.lookup f36 = some ⟨oc36, od36, .func (PySem.W.fnOf "_law_two" "_law_two" (defArgs s__law_two) (defBody s__law_two) (defScope s__law_two) .none kV36 dc36 pm36 an36 cd36 ct36), sl36⟩) (c36 : PySem.W.codeIn K cd36 "_law_two" = true) (k36 : PySem.W.keepIn K (.ref f36) = true)
    (a37 : PySem.W.nsIn K mainGlobals "_law_worked" = some (some (.ref f37))) (l37 : K.lookup f37 = some ⟨oc37, od37, .func (PySem.W.fnOf "_law_worked" "_law_worked" (defArgs s__law_worked) (defBody s__law_worked) (defScope s__law_worked) .none kV37 dc37 pm37 an37 cd37 ct37), sl37⟩) (c37 : PySem.W.codeIn K cd37 "_law_worked" = true) (k37 : PySem.W.keepIn K (.ref f37) = true)
    (a38 : PySem.W.nsIn K mainGlobals "_law_operation" = some (some (.ref f38))) (l38 : K.lookup f38 = some ⟨oc38, od38, .func (PySem.W.fnOf "_law_operation" "_law_operation" (defArgs s__law_operation) (defBody s__law_operation) (defScope s__law_operation) .none kV38 dc38 pm38 an38 cd38 ct38), sl38⟩) (c38 : PySem.W.codeIn K cd38 "_law_operation" = true) (k38 : PySem.W.keepIn K (.ref f38) = true)
    (a39 : PySem.W.nsIn K mainGlobals "_law_over" = some (some (.ref f39))) (l39 : K.lookup f39 = some ⟨oc39, od39, .func (PySem.W.fnOf "_law_over" "_law_over" (defArgs s__law_over) (defBody s__law_over) (defScope s__law_over) .none kV39 dc39 pm39 an39 cd39 ct39), sl39⟩) (c39 : PySem.W.codeIn K cd39 "_law_over" = true) (k39 : PySem.W.keepIn K (.ref f39) = true)
    (a40 : PySem.W.nsIn K mainGlobals "_law_same" = some (some (.ref f40))) (l40 : K.lookup f40 = some ⟨oc40, od40, .func (PySem.W.fnOf "_law_same" "_law_same" (defArgs s__law_same) (defBody s__law_same) (defScope s__law_same) .none kV40 dc40 pm40 an40 cd40 ct40), sl40⟩) (c40 : PySem.W.codeIn K cd40 "_law_same" = true) (k40 : PySem.W.keepIn K (.ref f40) = true)
    (a41 : PySem.W.nsIn K mainGlobals "law" = some (some (.ref f41))) (l41 : K.lookup f41 = some ⟨oc41, od41, .func (PySem.W.fnOf "law" "law" (defArgs s_law) (defBody s_law) (defScope s_law) .none kV41 dc41 pm41 an41 cd41 ct41), sl41⟩) (c41 : PySem.W.codeIn K cd41 "law" = true) (k41 : PySem.W.keepIn K (.ref f41) = true)
    (z0 : PySem.W.nsIn K mainGlobals "abs" = some none)    (z1 : PySem.W.nsIn K mainGlobals "all" = some none)    (z2 : PySem.W.nsIn K mainGlobals "any" = some none)    (z3 : PySem.W.nsIn K mainGlobals "bool" = some none)    (z4 : PySem.W.nsIn K mainGlobals "enumerate" = some none)    (z5 : PySem.W.nsIn K mainGlobals "int" = some none)    (z6 : PySem.W.nsIn K mainGlobals "isinstance" = some none)    (z7 : PySem.W.nsIn K mainGlobals "len" = some none)    (z8 : PySem.W.nsIn K mainGlobals "list" = some none)    (z9 : PySem.W.nsIn K mainGlobals "min" = some none)    (z10 : PySem.W.nsIn K mainGlobals "range" = some none)    (z11 : PySem.W.nsIn K mainGlobals "str" = some none)    (z12 : PySem.W.nsIn K mainGlobals "sum" = some none)    (z13 : PySem.W.nsIn K mainGlobals "tuple" = some none)    (zdig : PySem.W.nsIn K cStatics "sys.int_max_str_digits" = some none)
    {zt0 : Tok} (gs0 : PySem.W.nsIn K mainGlobals "LARGEST" = some (some (.int 1000000000000000000000000000000000000000000000000000000000000 zt0)))
    {zt1 : Tok} (gs1 : PySem.W.nsIn K mainGlobals "LONGEST_TEXT" = some (some (.int 1000 zt1)))
    {zt2 : Tok} (gs2 : PySem.W.nsIn K mainGlobals "MOST_TERMS" = some (some (.int 400 zt2)))
    {zt3 : Tok} (gs3 : PySem.W.nsIn K mainGlobals "MOST_HEIGHT" = some (some (.int 100 zt3)))
    {ga4 : Addr} {gd4 : Option Addr} {gn4 : Nat} {gl4 : Array (Option Value)} {gz4_0 : Str} {gt4_0 : Tok} (gs4 : PySem.W.nsIn K mainGlobals "ABSENT" = some (some (.ref ga4))) (gk4 : K.lookup ga4 = some ⟨.type "tuple", gd4, .seq #[.str gz4_0 gt4_0] gn4, gl4⟩) (ge4 : [gz4_0] = cst_ABSENT)
    {zs5 : Str} {zt5 : Tok} (gs5 : PySem.W.nsIn K mainGlobals "DIGITS" = some (some (.str zs5 zt5))) (ge5 : zs5 = tx cst_DIGITS)
    {ga6 : Addr} {gn6 : Nat} {gh6_0 gh6_1 gh6_2 gh6_3 gh6_4 gh6_5 gh6_6 gh6_7 gh6_8 gh6_9 gh6_10 gh6_11 gh6_12 gh6_13 gh6_14 gh6_15 gh6_16 gh6_17 gh6_18 gh6_19 : Int} {gz6_0 gz6_1 gz6_2 gz6_3 gz6_4 gz6_5 gz6_6 gz6_7 gz6_8 gz6_9 gz6_10 gz6_11 gz6_12 gz6_13 gz6_14 gz6_15 gz6_16 gz6_17 gz6_18 gz6_19 : Str} {gt6_0 gt6_1 gt6_2 gt6_3 gt6_4 gt6_5 gt6_6 gt6_7 gt6_8 gt6_9 gt6_10 gt6_11 gt6_12 gt6_13 gt6_14 gt6_15 gt6_16 gt6_17 gt6_18 gt6_19 : Tok}  (gs6 : PySem.W.nsIn K mainGlobals "OPERATIONS" = some (some (.ref ga6))) (gk6 : K.lookup ga6 = some ⟨.type "dict", none, .dict #[⟨gh6_0, .str gz6_0 gt6_0, .ref f3⟩, ⟨gh6_1, .str gz6_1 gt6_1, .ref f4⟩, ⟨gh6_2, .str gz6_2 gt6_2, .ref f5⟩, ⟨gh6_3, .str gz6_3 gt6_3, .ref f6⟩, ⟨gh6_4, .str gz6_4 gt6_4, .ref f7⟩, ⟨gh6_5, .str gz6_5 gt6_5, .ref f8⟩, ⟨gh6_6, .str gz6_6 gt6_6, .ref f9⟩, ⟨gh6_7, .str gz6_7 gt6_7, .ref f10⟩, ⟨gh6_8, .str gz6_8 gt6_8, .ref f11⟩, ⟨gh6_9, .str gz6_9 gt6_9, .ref f12⟩, ⟨gh6_10, .str gz6_10 gt6_10, .ref f13⟩, ⟨gh6_11, .str gz6_11 gt6_11, .ref f14⟩, ⟨gh6_12, .str gz6_12 gt6_12, .ref f15⟩, ⟨gh6_13, .str gz6_13 gt6_13, .ref f16⟩, ⟨gh6_14, .str gz6_14 gt6_14, .ref f17⟩, ⟨gh6_15, .str gz6_15 gt6_15, .ref f18⟩, ⟨gh6_16, .str gz6_16 gt6_16, .ref f19⟩, ⟨gh6_17, .str gz6_17 gt6_17, .ref f20⟩, ⟨gh6_18, .str gz6_18 gt6_18, .ref f21⟩, ⟨gh6_19, .str gz6_19 gt6_19, .ref f22⟩] gn6, #[]⟩) (ge6 : [gz6_0, gz6_1, gz6_2, gz6_3, gz6_4, gz6_5, gz6_6, gz6_7, gz6_8, gz6_9, gz6_10, gz6_11, gz6_12, gz6_13, gz6_14, gz6_15, gz6_16, gz6_17, gz6_18, gz6_19] = [tx [110, 111, 116], tx [110, 101, 103, 97, 116, 105, 118, 101], tx [108, 101, 110, 103, 116, 104], tx [115, 104, 111, 119, 110], tx [112, 97, 114, 115, 101, 100], tx [108, 97, 98, 101, 108], tx [115, 105, 122, 101], tx [110, 97, 109, 101, 100], tx [97, 100, 100], tx [115, 117, 98, 116, 114, 97, 99, 116], tx [109, 117, 108, 116, 105, 112, 108, 121], tx [113, 117, 111, 116, 105, 101, 110, 116], tx [114, 101, 109, 97, 105, 110, 100, 101, 114], tx [108, 101, 115, 115], tx [115, 97, 109, 101], tx [97, 110, 100], tx [111, 114], tx [97, 112, 112, 101, 110, 100], tx [119, 105, 116, 104], tx [97, 114, 103, 117, 109, 101, 110, 116]]) (gb6 : (ga6 == sysModules) = false)
    (gq6_0 : gh6_0 = PyData.keyHash w.params gz6_0)
    (gq6_1 : gh6_1 = PyData.keyHash w.params gz6_1)
    (gq6_2 : gh6_2 = PyData.keyHash w.params gz6_2)
    (gq6_3 : gh6_3 = PyData.keyHash w.params gz6_3)
    (gq6_4 : gh6_4 = PyData.keyHash w.params gz6_4)
    (gq6_5 : gh6_5 = PyData.keyHash w.params gz6_5)
    (gq6_6 : gh6_6 = PyData.keyHash w.params gz6_6)
    (gq6_7 : gh6_7 = PyData.keyHash w.params gz6_7)
    (gq6_8 : gh6_8 = PyData.keyHash w.params gz6_8)
    (gq6_9 : gh6_9 = PyData.keyHash w.params gz6_9)
    (gq6_10 : gh6_10 = PyData.keyHash w.params gz6_10)
    (gq6_11 : gh6_11 = PyData.keyHash w.params gz6_11)
    (gq6_12 : gh6_12 = PyData.keyHash w.params gz6_12)
    (gq6_13 : gh6_13 = PyData.keyHash w.params gz6_13)
    (gq6_14 : gh6_14 = PyData.keyHash w.params gz6_14)
    (gq6_15 : gh6_15 = PyData.keyHash w.params gz6_15)
    (gq6_16 : gh6_16 = PyData.keyHash w.params gz6_16)
    (gq6_17 : gh6_17 = PyData.keyHash w.params gz6_17)
    (gq6_18 : gh6_18 = PyData.keyHash w.params gz6_18)
    (gq6_19 : gh6_19 = PyData.keyHash w.params gz6_19)
    {ga7 : Addr} {gn7 : Nat} {gh7_0 gh7_1 gh7_2 gh7_3 gh7_4 : Int} {gz7_0 gz7_1 gz7_2 gz7_3 gz7_4 : Str} {gt7_0 gt7_1 gt7_2 gt7_3 gt7_4 : Tok} {qa7_0 : Addr} {qd7_0 : Option Addr} {qn7_0 : Nat} {ql7_0 : Array (Option Value)} {qs7_0_0 : Str} {qt7_0_0 : Tok} {qt7_0_1 : Tok} {qa7_1 : Addr} {qd7_1 : Option Addr} {qn7_1 : Nat} {ql7_1 : Array (Option Value)} {qs7_1_0 : Str} {qt7_1_0 : Tok} {qa7_2 : Addr} {qd7_2 : Option Addr} {qn7_2 : Nat} {ql7_2 : Array (Option Value)} {qs7_2_0 : Str} {qt7_2_0 : Tok} {qa7_3 : Addr} {qd7_3 : Option Addr} {qn7_3 : Nat} {ql7_3 : Array (Option Value)} {qs7_3_0 : Str} {qt7_3_0 : Tok} {qs7_3_1 : Str} {qt7_3_1 : Tok} {qa7_3_2 : Addr} {qd7_3_2 : Option Addr} {qn7_3_2 : Nat} {ql7_3_2 : Array (Option Value)} {qa7_4 : Addr} {qd7_4 : Option Addr} {qn7_4 : Nat} {ql7_4 : Array (Option Value)} {qs7_4_0 : Str} {qt7_4_0 : Tok} {qs7_4_1 : Str} {qt7_4_1 : Tok} (gs7 : PySem.W.nsIn K mainGlobals "BEGINNINGS" = some (some (.ref ga7))) (gk7 : K.lookup ga7 = some ⟨.type "dict", none, .dict #[⟨gh7_0, .str gz7_0 gt7_0, .ref qa7_0⟩, ⟨gh7_1, .str gz7_1 gt7_1, .ref qa7_1⟩, ⟨gh7_2, .str gz7_2 gt7_2, .ref qa7_2⟩, ⟨gh7_3, .str gz7_3 gt7_3, .ref qa7_3⟩, ⟨gh7_4, .str gz7_4 gt7_4, .ref qa7_4⟩] gn7, #[]⟩) (ge7 : [gz7_0, gz7_1, gz7_2, gz7_3, gz7_4] = [tx [115, 117, 109], tx [97, 108, 108], tx [97, 110, 121], tx [99, 111, 108, 108, 101, 99, 116], tx [106, 111, 105, 110]]) (gb7 : (ga7 == sysModules) = false)
    (gq7_0 : gh7_0 = PyData.keyHash w.params gz7_0)
    (gq7_1 : gh7_1 = PyData.keyHash w.params gz7_1)
    (gq7_2 : gh7_2 = PyData.keyHash w.params gz7_2)
    (gq7_3 : gh7_3 = PyData.keyHash w.params gz7_3)
    (gq7_4 : gh7_4 = PyData.keyHash w.params gz7_4)
    (qk7_0 : K.lookup qa7_0 = some ⟨.type "tuple", qd7_0, .seq #[.str qs7_0_0 qt7_0_0, .int 0 qt7_0_1] qn7_0, ql7_0⟩)
    (qe7_0_0 : qs7_0_0 = tx [105, 110, 116, 101, 103, 101, 114])
    (qk7_1 : K.lookup qa7_1 = some ⟨.type "tuple", qd7_1, .seq #[.str qs7_1_0 qt7_1_0, .bool true] qn7_1, ql7_1⟩)
    (qe7_1_0 : qs7_1_0 = tx [98, 111, 111, 108, 101, 97, 110])
    (qk7_2 : K.lookup qa7_2 = some ⟨.type "tuple", qd7_2, .seq #[.str qs7_2_0 qt7_2_0, .bool false] qn7_2, ql7_2⟩)
    (qe7_2_0 : qs7_2_0 = tx [98, 111, 111, 108, 101, 97, 110])
    (qk7_3 : K.lookup qa7_3 = some ⟨.type "tuple", qd7_3, .seq #[.str qs7_3_0 qt7_3_0, .str qs7_3_1 qt7_3_1, .ref qa7_3_2] qn7_3, ql7_3⟩)
    (qe7_3_0 : qs7_3_0 = tx [116, 101, 114, 109])
    (qe7_3_1 : qs7_3_1 = tx [])
    (qk7_3_2 : K.lookup qa7_3_2 = some ⟨.type "tuple", qd7_3_2, .seq #[] qn7_3_2, ql7_3_2⟩)
    (qk7_4 : K.lookup qa7_4 = some ⟨.type "tuple", qd7_4, .seq #[.str qs7_4_0 qt7_4_0, .str qs7_4_1 qt7_4_1] qn7_4, ql7_4⟩)
    (qe7_4_0 : qs7_4_0 = tx [116, 101, 120, 116])
    (qe7_4_1 : qs7_4_1 = tx [])
    {ga8 : Addr} {gn8 : Nat} {gh8_0 gh8_1 gh8_2 gh8_3 gh8_4 : Int} {gz8_0 gv8_0 gz8_1 gv8_1 gz8_2 gv8_2 gz8_3 gv8_3 gz8_4 gv8_4 : Str} {gt8_0 gu8_0 gt8_1 gu8_1 gt8_2 gu8_2 gt8_3 gu8_3 gt8_4 gu8_4 : Tok} (gs8 : PySem.W.nsIn K mainGlobals "STEPS" = some (some (.ref ga8))) (gk8 : K.lookup ga8 = some ⟨.type "dict", none, .dict #[⟨gh8_0, .str gz8_0 gt8_0, .str gv8_0 gu8_0⟩, ⟨gh8_1, .str gz8_1 gt8_1, .str gv8_1 gu8_1⟩, ⟨gh8_2, .str gz8_2 gt8_2, .str gv8_2 gu8_2⟩, ⟨gh8_3, .str gz8_3 gt8_3, .str gv8_3 gu8_3⟩, ⟨gh8_4, .str gz8_4 gt8_4, .str gv8_4 gu8_4⟩] gn8, #[]⟩) (ge8 : [(gz8_0, gv8_0), (gz8_1, gv8_1), (gz8_2, gv8_2), (gz8_3, gv8_3), (gz8_4, gv8_4)] = cst_STEPS) (gb8 : (ga8 == sysModules) = false)
    (gq8_0 : gh8_0 = PyData.keyHash w.params gz8_0)
    (gq8_1 : gh8_1 = PyData.keyHash w.params gz8_1)
    (gq8_2 : gh8_2 = PyData.keyHash w.params gz8_2)
    (gq8_3 : gh8_3 = PyData.keyHash w.params gz8_3)
    (gq8_4 : gh8_4 = PyData.keyHash w.params gz8_4)
 :
    ∃ fd : FuncData, (∀ (s : Shared) (v : Value), BindsTo s fd ⟨[v], []⟩ [("script", v)]) ∧ ∀ base : Heap, K.In base → base.Ns mainGlobals mg → FnOk l.prog w K mg base CX0 lawLevel fa fd ["script"] (Spc K W_law) := by
  have e := hfa.symm.trans (PySem.W.mg_of X G a41)
  cases e
  have T : Top K mg w := ⟨⟨f0, _, fun_mk (st := s_settled) l0 c0 k0, PySem.W.mg_of X G a0, (fun_mk (st := s_settled) l0 c0 k0).binds (ps := ["value"]) fun _ _ _ _ _ _ us hl => match us, hl with | [_], _ => rfl⟩, ⟨f1, _, fun_mk (st := s_is_too_large) l1 c1 k1, PySem.W.mg_of X G a1, (fun_mk (st := s_is_too_large) l1 c1 k1).binds (ps := ["value"]) fun _ _ _ _ _ _ us hl => match us, hl with | [_], _ => rfl⟩, ⟨f2, _, fun_mk (st := s_is_large_term) l2 c2 k2, PySem.W.mg_of X G a2, (fun_mk (st := s_is_large_term) l2 c2 k2).binds (ps := ["term"]) fun _ _ _ _ _ _ us hl => match us, hl with | [_], _ => rfl⟩, ⟨f3, _, fun_mk (st := s_opposite) l3 c3 k3, PySem.W.mg_of X G a3, (fun_mk (st := s_opposite) l3 c3 k3).binds (ps := ["value"]) fun _ _ _ _ _ _ us hl => match us, hl with | [_], _ => rfl⟩, ⟨f4, _, fun_mk (st := s_negative) l4 c4 k4, PySem.W.mg_of X G a4, (fun_mk (st := s_negative) l4 c4 k4).binds (ps := ["value"]) fun _ _ _ _ _ _ us hl => match us, hl with | [_], _ => rfl⟩, ⟨f5, _, fun_mk (st := s_length) l5 c5 k5, PySem.W.mg_of X G a5, (fun_mk (st := s_length) l5 c5 k5).binds (ps := ["value"]) fun _ _ _ _ _ _ us hl => match us, hl with | [_], _ => rfl⟩, ⟨f6, _, fun_mk (st := s_shown) l6 c6 k6, PySem.W.mg_of X G a6, (fun_mk (st := s_shown) l6 c6 k6).binds (ps := ["value"]) fun _ _ _ _ _ _ us hl => match us, hl with | [_], _ => rfl⟩, ⟨f7, _, fun_mk (st := s_parsed) l7 c7 k7, PySem.W.mg_of X G a7, (fun_mk (st := s_parsed) l7 c7 k7).binds (ps := ["value"]) fun _ _ _ _ _ _ us hl => match us, hl with | [_], _ => rfl⟩, ⟨f8, _, fun_mk (st := s_label) l8 c8 k8, PySem.W.mg_of X G a8, (fun_mk (st := s_label) l8 c8 k8).binds (ps := ["value"]) fun _ _ _ _ _ _ us hl => match us, hl with | [_], _ => rfl⟩, ⟨f9, _, fun_mk (st := s_size) l9 c9 k9, PySem.W.mg_of X G a9, (fun_mk (st := s_size) l9 c9 k9).binds (ps := ["value"]) fun _ _ _ _ _ _ us hl => match us, hl with | [_], _ => rfl⟩, ⟨f10, _, fun_mk (st := s_named) l10 c10 k10, PySem.W.mg_of X G a10, (fun_mk (st := s_named) l10 c10 k10).binds (ps := ["value"]) fun _ _ _ _ _ _ us hl => match us, hl with | [_], _ => rfl⟩, ⟨f11, _, fun_mk (st := s_added) l11 c11 k11, PySem.W.mg_of X G a11, (fun_mk (st := s_added) l11 c11 k11).binds (ps := ["first", "second"]) fun _ _ _ _ _ _ us hl => match us, hl with | [_, _], _ => rfl⟩, ⟨f12, _, fun_mk (st := s_subtracted) l12 c12 k12, PySem.W.mg_of X G a12, (fun_mk (st := s_subtracted) l12 c12 k12).binds (ps := ["first", "second"]) fun _ _ _ _ _ _ us hl => match us, hl with | [_, _], _ => rfl⟩, ⟨f13, _, fun_mk (st := s_multiplied) l13 c13 k13, PySem.W.mg_of X G a13, (fun_mk (st := s_multiplied) l13 c13 k13).binds (ps := ["first", "second"]) fun _ _ _ _ _ _ us hl => match us, hl with | [_, _], _ => rfl⟩, ⟨f14, _, fun_mk (st := s_quotient) l14 c14 k14, PySem.W.mg_of X G a14, (fun_mk (st := s_quotient) l14 c14 k14).binds (ps := ["first", "second"]) fun _ _ _ _ _ _ us hl => match us, hl with | [_, _], _ => rfl⟩, ⟨f15, _, fun_mk (st := s_remainder) l15 c15 k15, PySem.W.mg_of X G a15, (fun_mk (st := s_remainder) l15 c15 k15).binds (ps := ["first", "second"]) fun _ _ _ _ _ _ us hl => match us, hl with | [_, _], _ => rfl⟩, ⟨f16, _, fun_mk (st := s_less) l16 c16 k16, PySem.W.mg_of X G a16, (fun_mk (st := s_less) l16 c16 k16).binds (ps := ["first", "second"]) fun _ _ _ _ _ _ us hl => match us, hl with | [_, _], _ => rfl⟩, ⟨f17, _, fun_mk (st := s_same) l17 c17 k17, PySem.W.mg_of X G a17, (fun_mk (st := s_same) l17 c17 k17).binds (ps := ["first", "second"]) fun _ _ _ _ _ _ us hl => match us, hl with | [_, _], _ => rfl⟩, ⟨f18, _, fun_mk (st := s_both) l18 c18 k18, PySem.W.mg_of X G a18, (fun_mk (st := s_both) l18 c18 k18).binds (ps := ["first", "second"]) fun _ _ _ _ _ _ us hl => match us, hl with | [_, _], _ => rfl⟩, ⟨f19, _, fun_mk (st := s_either) l19 c19 k19, PySem.W.mg_of X G a19, (fun_mk (st := s_either) l19 c19 k19).binds (ps := ["first", "second"]) fun _ _ _ _ _ _ us hl => match us, hl with | [_, _], _ => rfl⟩, ⟨f20, _, fun_mk (st := s_appended) l20 c20 k20, PySem.W.mg_of X G a20, (fun_mk (st := s_appended) l20 c20 k20).binds (ps := ["first", "second"]) fun _ _ _ _ _ _ us hl => match us, hl with | [_, _], _ => rfl⟩, ⟨f21, _, fun_mk (st := s_extended) l21 c21 k21, PySem.W.mg_of X G a21, (fun_mk (st := s_extended) l21 c21 k21).binds (ps := ["first", "second"]) fun _ _ _ _ _ _ us hl => match us, hl with | [_, _], _ => rfl⟩, ⟨f22, _, fun_mk (st := s_argument) l22 c22 k22, PySem.W.mg_of X G a22, (fun_mk (st := s_argument) l22 c22 k22).binds (ps := ["first", "second"]) fun _ _ _ _ _ _ us hl => match us, hl with | [_, _], _ => rfl⟩, ⟨f23, _, fun_mk (st := s_worked) l23 c23 k23, PySem.W.mg_of X G a23, (fun_mk (st := s_worked) l23 c23 k23).binds (ps := ["head", "operands"]) fun _ _ _ _ _ _ us hl => match us, hl with | [_, _], _ => rfl⟩, ⟨f24, _, fun_mk (st := s_gathered) l24 c24 k24, PySem.W.mg_of X G a24, (fun_mk (st := s_gathered) l24 c24 k24).binds (ps := ["head", "values", "between"]) fun _ _ _ _ _ _ us hl => match us, hl with | [_, _, _], _ => rfl⟩, ⟨f25, _, fun_mk (st := s__law_pool) l25 c25 k25, PySem.W.mg_of X G a25, (fun_mk (st := s__law_pool) l25 c25 k25).binds (ps := ["script"]) fun _ _ _ _ _ _ us hl => match us, hl with | [_], _ => rfl⟩, ⟨f26, _, fun_mk (st := s__law_take) l26 c26 k26, PySem.W.mg_of X G a26, (fun_mk (st := s__law_take) l26 c26 k26).binds (ps := ["pool", "many"]) fun _ _ _ _ _ _ us hl => match us, hl with | [_, _], _ => rfl⟩, ⟨f27, _, fun_mk (st := s__law_integer) l27 c27 k27, PySem.W.mg_of X G a27, (fun_mk (st := s__law_integer) l27 c27 k27).binds (ps := ["pool"]) fun _ _ _ _ _ _ us hl => match us, hl with | [_], _ => rfl⟩, ⟨f28, _, fun_mk (st := s__law_text) l28 c28 k28, PySem.W.mg_of X G a28, (fun_mk (st := s__law_text) l28 c28 k28).binds (ps := ["pool"]) fun _ _ _ _ _ _ us hl => match us, hl with | [_], _ => rfl⟩, ⟨f29, _, fun_mk (st := s__law_term) l29 c29 k29, PySem.W.mg_of X G a29, (fun_mk (st := s__law_term) l29 c29 k29).binds (ps := ["pool"]) fun _ _ _ _ _ _ us hl => match us, hl with | [_], _ => rfl⟩, ⟨f30, _, fun_mk (st := s__law_value) l30 c30 k30, PySem.W.mg_of X G a30, (fun_mk (st := s__law_value) l30 c30 k30).binds (ps := ["pool", "sort"]) fun _ _ _ _ _ _ us hl => match us, hl with | [_, _], _ => rfl⟩, ⟨f31, _, fun_mk (st := s__law_size) l31 c31 k31, PySem.W.mg_of X G a31, (fun_mk (st := s__law_size) l31 c31 k31).binds (ps := ["term"]) fun _ _ _ _ _ _ us hl => match us, hl with | [_], _ => rfl⟩, ⟨f32, _, fun_mk (st := s__law_settled) l32 c32 k32, PySem.W.mg_of X G a32, (fun_mk (st := s__law_settled) l32 c32 k32).binds (ps := ["value"]) fun _ _ _ _ _ _ us hl => match us, hl with | [_], _ => rfl⟩, ⟨f33, _, fun_mk (st := s__law_quotient) l33 c33 k33, PySem.W.mg_of X G a33, (fun_mk (st := s__law_quotient) l33 c33 k33).binds (ps := ["left", "right"]) fun _ _ _ _ _ _ us hl => match us, hl with | [_, _], _ => rfl⟩, ⟨f34, _, fun_mk (st := s__law_parsed) l34 c34 k34, PySem.W.mg_of X G a34, (fun_mk (st := s__law_parsed) l34 c34 k34).binds (ps := ["text"]) fun _ _ _ _ _ _ us hl => match us, hl with | [_], _ => rfl⟩, ⟨f35, _, fun_mk (st := s__law_one) l35 c35 k35, PySem.W.mg_of X G a35, (fun_mk (st := s__law_one) l35 c35 k35).binds (ps := ["head", "value"]) fun _ _ _ _ _ _ us hl => match us, hl with | [_, _], _ => rfl⟩, ⟨f36, _, fun_mk (st := s__law_two) l36 c36 k36, PySem.W.mg_of X G a36, (fun_mk (st := s__law_two) l36 c36 k36).binds (ps := ["head", "one", "other"]) fun _ _ _ _ _ _ us hl => match us, hl with | [_, _, _], _ => rfl⟩, ⟨f37, _, fun_mk (st := s__law_worked) l37 c37 k37, PySem.W.mg_of X G a37, (fun_mk (st := s__law_worked) l37 c37 k37).binds (ps := ["head", "operands"]) fun _ _ _ _ _ _ us hl => match us, hl with | [_, _], _ => rfl⟩, ⟨f38, _, fun_mk (st := s__law_operation) l38 c38 k38, PySem.W.mg_of X G a38, (fun_mk (st := s__law_operation) l38 c38 k38).binds (ps := ["pool"]) fun _ _ _ _ _ _ us hl => match us, hl with | [_], _ => rfl⟩, ⟨f39, _, fun_mk (st := s__law_over) l39 c39 k39, PySem.W.mg_of X G a39, (fun_mk (st := s__law_over) l39 c39 k39).binds (ps := ["head", "values", "between"]) fun _ _ _ _ _ _ us hl => match us, hl with | [_, _, _], _ => rfl⟩, ⟨f40, _, fun_mk (st := s__law_same) l40 c40 k40, PySem.W.mg_of X G a40, (fun_mk (st := s__law_same) l40 c40 k40).binds (ps := ["actual", "due"]) fun _ _ _ _ _ _ us hl => match us, hl with | [_, _], _ => rfl⟩, PySem.W.mg_none_of X G z0, PySem.W.mg_none_of X G z1, PySem.W.mg_none_of X G z2, PySem.W.mg_none_of X G z3, PySem.W.mg_none_of X G z4, PySem.W.mg_none_of X G z5, PySem.W.mg_none_of X G z6, PySem.W.mg_none_of X G z7, PySem.W.mg_none_of X G z8, PySem.W.mg_none_of X G z9, PySem.W.mg_none_of X G z10, PySem.W.mg_none_of X G z11, PySem.W.mg_none_of X G z12, PySem.W.mg_none_of X G z13, zdig, ⟨zt0, PySem.W.mg_of X G gs0⟩, ⟨zt1, PySem.W.mg_of X G gs1⟩, ⟨zt2, PySem.W.mg_of X G gs2⟩, ⟨zt3, PySem.W.mg_of X G gs3⟩, ⟨ga4, PySem.W.mg_of X G gs4, by rw [← ge4]; exact rep_gtup (its := [.str gz4_0 gt4_0]) gk4 ⟨⟨_, rfl⟩, True.intro⟩ (by show 1 ≤ sizeLine; decide)⟩, ⟨zt5, by rw [← ge5]; exact PySem.W.mg_of X G gs5⟩, ⟨ga6, ga6, PySem.W.mg_of X G gs6, f3, f4, f5, f6, f7, f8, f9, f10, f11, f12, f13, f14, f15, f16, f17, f18, f19, f20, f21, f22, by cases ge6; exact ⟨⟨⟨_, _, gk6, ⟨⟨_, _, rfl, gq6_0⟩, ⟨_, _, rfl, gq6_1⟩, ⟨_, _, rfl, gq6_2⟩, ⟨_, _, rfl, gq6_3⟩, ⟨_, _, rfl, gq6_4⟩, ⟨_, _, rfl, gq6_5⟩, ⟨_, _, rfl, gq6_6⟩, ⟨_, _, rfl, gq6_7⟩, ⟨_, _, rfl, gq6_8⟩, ⟨_, _, rfl, gq6_9⟩, ⟨_, _, rfl, gq6_10⟩, ⟨_, _, rfl, gq6_11⟩, ⟨_, _, rfl, gq6_12⟩, ⟨_, _, rfl, gq6_13⟩, ⟨_, _, rfl, gq6_14⟩, ⟨_, _, rfl, gq6_15⟩, ⟨_, _, rfl, gq6_16⟩, ⟨_, _, rfl, gq6_17⟩, ⟨_, _, rfl, gq6_18⟩, ⟨_, _, rfl, gq6_19⟩, True.intro⟩, ⟨_, _, _, _, rfl, rfl, rfl, ⟨_, _, _, _, rfl, rfl, rfl, ⟨_, _, _, _, rfl, rfl, rfl, ⟨_, _, _, _, rfl, rfl, rfl, ⟨_, _, _, _, rfl, rfl, rfl, ⟨_, _, _, _, rfl, rfl, rfl, ⟨_, _, _, _, rfl, rfl, rfl, ⟨_, _, _, _, rfl, rfl, rfl, ⟨_, _, _, _, rfl, rfl, rfl, ⟨_, _, _, _, rfl, rfl, rfl, ⟨_, _, _, _, rfl, rfl, rfl, ⟨_, _, _, _, rfl, rfl, rfl, ⟨_, _, _, _, rfl, rfl, rfl, ⟨_, _, _, _, rfl, rfl, rfl, ⟨_, _, _, _, rfl, rfl, rfl, ⟨_, _, _, _, rfl, rfl, rfl, ⟨_, _, _, _, rfl, rfl, rfl, ⟨_, _, _, _, rfl, rfl, rfl, ⟨_, _, _, _, rfl, rfl, rfl, ⟨_, _, _, _, rfl, rfl, rfl, rfl⟩⟩⟩⟩⟩⟩⟩⟩⟩⟩⟩⟩⟩⟩⟩⟩⟩⟩⟩⟩⟩, gb6⟩, PySem.W.mg_of X G a3, PySem.W.mg_of X G a4, PySem.W.mg_of X G a5, PySem.W.mg_of X G a6, PySem.W.mg_of X G a7, PySem.W.mg_of X G a8, PySem.W.mg_of X G a9, PySem.W.mg_of X G a10, PySem.W.mg_of X G a11, PySem.W.mg_of X G a12, PySem.W.mg_of X G a13, PySem.W.mg_of X G a14, PySem.W.mg_of X G a15, PySem.W.mg_of X G a16, PySem.W.mg_of X G a17, PySem.W.mg_of X G a18, PySem.W.mg_of X G a19, PySem.W.mg_of X G a20, PySem.W.mg_of X G a21, PySem.W.mg_of X G a22⟩⟩, ⟨ga7, ga7, PySem.W.mg_of X G gs7, qa7_0, qa7_1, qa7_2, qa7_3, qa7_4, by cases ge7; exact ⟨⟨⟨_, _, gk7, ⟨⟨_, _, rfl, gq7_0⟩, ⟨_, _, rfl, gq7_1⟩, ⟨_, _, rfl, gq7_2⟩, ⟨_, _, rfl, gq7_3⟩, ⟨_, _, rfl, gq7_4⟩, True.intro⟩, ⟨_, _, _, _, rfl, rfl, rfl, ⟨_, _, _, _, rfl, rfl, rfl, ⟨_, _, _, _, rfl, rfl, rfl, ⟨_, _, _, _, rfl, rfl, rfl, ⟨_, _, _, _, rfl, rfl, rfl, rfl⟩⟩⟩⟩⟩⟩, gb7⟩, fun G => rep_ctup (its := [.str qs7_0_0 qt7_0_0, .int 0 qt7_0_1]) qk7_0 (by show 2 ≤ sizeLine; decide) (.cons ⟨.str qs7_0_0, ⟨_, rfl⟩, by rw [← qe7_0_0]; exact rep_of_str⟩ (.cons ⟨.int 0, ⟨_, rfl⟩, rep_of_int⟩ (.nil))), fun G => rep_ctup (its := [.str qs7_1_0 qt7_1_0, .bool true]) qk7_1 (by show 2 ≤ sizeLine; decide) (.cons ⟨.str qs7_1_0, ⟨_, rfl⟩, by rw [← qe7_1_0]; exact rep_of_str⟩ (.cons ⟨.bl true, rfl, rep_of_bl⟩ (.nil))), fun G => rep_ctup (its := [.str qs7_2_0 qt7_2_0, .bool false]) qk7_2 (by show 2 ≤ sizeLine; decide) (.cons ⟨.str qs7_2_0, ⟨_, rfl⟩, by rw [← qe7_2_0]; exact rep_of_str⟩ (.cons ⟨.bl false, rfl, rep_of_bl⟩ (.nil))), fun G => rep_ctup (its := [.str qs7_3_0 qt7_3_0, .str qs7_3_1 qt7_3_1, .ref qa7_3_2]) qk7_3 (by show 3 ≤ sizeLine; decide) (.cons ⟨.str qs7_3_0, ⟨_, rfl⟩, by rw [← qe7_3_0]; exact rep_of_str⟩ (.cons ⟨.str qs7_3_1, ⟨_, rfl⟩, by rw [← qe7_3_1]; exact rep_of_str⟩ (.cons ⟨.ref qa7_3_2, rfl, rep_ctup (its := []) qk7_3_2 (by show 0 ≤ sizeLine; decide) (.nil)⟩ (.nil)))), fun G => rep_ctup (its := [.str qs7_4_0 qt7_4_0, .str qs7_4_1 qt7_4_1]) qk7_4 (by show 2 ≤ sizeLine; decide) (.cons ⟨.str qs7_4_0, ⟨_, rfl⟩, by rw [← qe7_4_0]; exact rep_of_str⟩ (.cons ⟨.str qs7_4_1, ⟨_, rfl⟩, by rw [← qe7_4_1]; exact rep_of_str⟩ (.nil)))⟩⟩, ⟨ga8, PySem.W.mg_of X G gs8, by rw [← ge8]; exact ⟨⟨_, _, gk8, ⟨⟨_, _, rfl, gq8_0⟩, ⟨_, _, rfl, gq8_1⟩, ⟨_, _, rfl, gq8_2⟩, ⟨_, _, rfl, gq8_3⟩, ⟨_, _, rfl, gq8_4⟩, True.intro⟩, ⟨_, _, _, _, _, rfl, rfl, rfl, ⟨_, _, _, _, _, rfl, rfl, rfl, ⟨_, _, _, _, _, rfl, rfl, rfl, ⟨_, _, _, _, _, rfl, rfl, rfl, ⟨_, _, _, _, _, rfl, rfl, rfl, rfl⟩⟩⟩⟩⟩⟩, gb8⟩⟩⟩
  exact ⟨PySem.W.fnOf "law" "law" (defArgs s_law) (defBody s_law) (defScope s_law) .none kV41 dc41 pm41 an41 cd41 ct41, fun s v => .of_eq rfl, fun base _ _ => ok_law T (fun_mk (st := s_law) l41 c41 k41)⟩


end PK

open PySem PySem.W PyProof.Rows
set_option maxHeartbeats 0 in
theorem PySem.Challenge.cw_tongues_k45_values_holds : PySem.Challenge.rw_tongues_k45_values.Holds := by
  w_on; o_law; k_head; (case hw => w_witness2)
  k_fill
  refine L2.walk_ofK (l := PySem.Challenge.rw_tongues_k45_values) (n := 63) (k := PK.lawLevel) (x := "script") (CX := L2.CX0) (sp := fun K => Tg.Spc K PK.W_law) rfl (by decide) rfl ⟨rfl, by decide, by decide⟩ (fun w h Y => PySem.W.kIn_of Y) ?F (fun K H a ns hl _ hS => PK.law_asks hS hl) (fun _ _ _ _ h => h)
  case F =>
    intro w mg fa h KX G hmg
    refine' PK.all_mk KX G hmg ?a0 ?l0 ?c0 ?k0 ?a1 ?l1 ?c1 ?k1 ?a2 ?l2 ?c2 ?k2 ?a3 ?l3 ?c3 ?k3 ?a4 ?l4 ?c4 ?k4 ?a5 ?l5 ?c5 ?k5 ?a6 ?l6 ?c6 ?k6 ?a7 ?l7 ?c7 ?k7 ?a8 ?l8 ?c8 ?k8 ?a9 ?l9 ?c9 ?k9 ?a10 ?l10 ?c10 ?k10 ?a11 ?l11 ?c11 ?k11 ?a12 ?l12 ?c12 ?k12 ?a13 ?l13 ?c13 ?k13 ?a14 ?l14 ?c14 ?k14 ?a15 ?l15 ?c15 ?k15 ?a16 ?l16 ?c16 ?k16 ?a17 ?l17 ?c17 ?k17 ?a18 ?l18 ?c18 ?k18 ?a19 ?l19 ?c19 ?k19 ?a20 ?l20 ?c20 ?k20 ?a21 ?l21 ?c21 ?k21 ?a22 ?l22 ?c22 ?k22 ?a23 ?l23 ?c23 ?k23 ?a24 ?l24 ?c24 ?k24 ?a25 ?l25 ?c25 ?k25 ?a26 ?l26 ?c26 ?k26 ?a27 ?l27 ?c27 ?k27 ?a28 ?l28 ?c28 ?k28 ?a29 ?l29 ?c29 ?k29 ?a30 ?l30 ?c30 ?k30 ?a31 ?l31 ?c31 ?k31 ?a32 ?l32 ?c32 ?k32 ?a33 ?l33 ?c33 ?k33 ?a34 ?l34 ?c34 ?k34 ?a35 ?l35 ?c35 ?k35 ?a36 ?l36 ?c36 ?k36 ?a37 ?l37 ?c37 ?k37 ?a38 ?l38 ?c38 ?k38 ?a39 ?l39 ?c39 ?k39 ?a40 ?l40 ?c40 ?k40 ?a41 ?l41 ?c41 ?k41 ?z0 ?z1 ?z2 ?z3 ?z4 ?z5 ?z6 ?z7 ?z8 ?z9 ?z10 ?z11 ?z12 ?z13 ?zdig ?gs0 ?gs1 ?gs2 ?gs3 ?gs4 ?gk4 ?ge4 ?gs5 ?ge5 ?gs6 ?gk6 ?ge6 ?gb6 ?gq6_0 ?gq6_1 ?gq6_2 ?gq6_3 ?gq6_4 ?gq6_5 ?gq6_6 ?gq6_7 ?gq6_8 ?gq6_9 ?gq6_10 ?gq6_11 ?gq6_12 ?gq6_13 ?gq6_14 ?gq6_15 ?gq6_16 ?gq6_17 ?gq6_18 ?gq6_19 ?gs7 ?gk7 ?ge7 ?gb7 ?gq7_0 ?gq7_1 ?gq7_2 ?gq7_3 ?gq7_4 ?qk7_0 ?qe7_0_0 ?qk7_1 ?qe7_1_0 ?qk7_2 ?qe7_2_0 ?qk7_3 ?qe7_3_0 ?qe7_3_1 ?qk7_3_2 ?qk7_4 ?qe7_4_0 ?qe7_4_1 ?gs8 ?gk8 ?ge8 ?gb8 ?gq8_0 ?gq8_1 ?gq8_2 ?gq8_3 ?gq8_4
    (case a0 => k_is); (case l0 => k_is); (case c0 => k_is); (case k0 => k_is); (case a1 => k_is); (case l1 => k_is); (case c1 => k_is); (case k1 => k_is); (case a2 => k_is); (case l2 => k_is); (case c2 => k_is); (case k2 => k_is); (case a3 => k_is); (case l3 => k_is); (case c3 => k_is); (case k3 => k_is); (case a4 => k_is); (case l4 => k_is); (case c4 => k_is); (case k4 => k_is); (case a5 => k_is); (case l5 => k_is); (case c5 => k_is); (case k5 => k_is); (case a6 => k_is); (case l6 => k_is); (case c6 => k_is); (case k6 => k_is); (case a7 => k_is); (case l7 => k_is); (case c7 => k_is); (case k7 => k_is); (case a8 => k_is); (case l8 => k_is); (case c8 => k_is); (case k8 => k_is); (case a9 => k_is); (case l9 => k_is); (case c9 => k_is); (case k9 => k_is); (case a10 => k_is); (case l10 => k_is); (case c10 => k_is); (case k10 => k_is); (case a11 => k_is); (case l11 => k_is); (case c11 => k_is); (case k11 => k_is); (case a12 => k_is); (case l12 => k_is); (case c12 => k_is); (case k12 => k_is); (case a13 => k_is); (case l13 => k_is); (case c13 => k_is); (case k13 => k_is); (case a14 => k_is); (case l14 => k_is); (case c14 => k_is); (case k14 => k_is); (case a15 => k_is); (case l15 => k_is); (case c15 => k_is); (case k15 => k_is); (case a16 => k_is); (case l16 => k_is); (case c16 => k_is); (case k16 => k_is); (case a17 => k_is); (case l17 => k_is); (case c17 => k_is); (case k17 => k_is); (case a18 => k_is); (case l18 => k_is); (case c18 => k_is); (case k18 => k_is); (case a19 => k_is); (case l19 => k_is); (case c19 => k_is); (case k19 => k_is); (case a20 => k_is); (case l20 => k_is); (case c20 => k_is); (case k20 => k_is); (case a21 => k_is); (case l21 => k_is); (case c21 => k_is); (case k21 => k_is); (case a22 => k_is); (case l22 => k_is); (case c22 => k_is); (case k22 => k_is); (case a23 => k_is); (case l23 => k_is); (case c23 => k_is); (case k23 => k_is); (case a24 => k_is); (case l24 => k_is); (case c24 => k_is); (case k24 => k_is); (case a25 => k_is); (case l25 => k_is); (case c25 => k_is); (case k25 => k_is); (case a26 => k_is); (case l26 => k_is); (case c26 => k_is); (case k26 => k_is); (case a27 => k_is); (case l27 => k_is); (case c27 => k_is); (case k27 => k_is); (case a28 => k_is); (case l28 => k_is); (case c28 => k_is); (case k28 => k_is); (case a29 => k_is); (case l29 => k_is); (case c29 => k_is); (case k29 => k_is); (case a30 => k_is); (case l30 => k_is); (case c30 => k_is); (case k30 => k_is); (case a31 => k_is); (case l31 => k_is); (case c31 => k_is); (case k31 => k_is); (case a32 => k_is); (case l32 => k_is); (case c32 => k_is); (case k32 => k_is); (case a33 => k_is); (case l33 => k_is); (case c33 => k_is); (case k33 => k_is); (case a34 => k_is); (case l34 => k_is); (case c34 => k_is); (case k34 => k_is); (case a35 => k_is); (case l35 => k_is); (case c35 => k_is); (case k35 => k_is); (case a36 => k_is); (case l36 => k_is); (case c36 => k_is); (case k36 => k_is); (case a37 => k_is); (case l37 => k_is); (case c37 => k_is); (case k37 => k_is); (case a38 => k_is); (case l38 => k_is); (case c38 => k_is); (case k38 => k_is); (case a39 => k_is); (case l39 => k_is); (case c39 => k_is); (case k39 => k_is); (case a40 => k_is); (case l40 => k_is); (case c40 => k_is); (case k40 => k_is); (case a41 => k_is); (case l41 => k_is); (case c41 => k_is); (case k41 => k_is); (case z0 => k_is); (case z1 => k_is); (case z2 => k_is); (case z3 => k_is); (case z4 => k_is); (case z5 => k_is); (case z6 => k_is); (case z7 => k_is); (case z8 => k_is); (case z9 => k_is); (case z10 => k_is); (case z11 => k_is); (case z12 => k_is); (case z13 => k_is); (case zdig => k_is); (case gs0 => k_is); (case gs1 => k_is); (case gs2 => k_is); (case gs3 => k_is); (case gs4 => k_is); (case gk4 => k_is); (case ge4 => first | rfl | decide +kernel); (case gs5 => k_is); (case ge5 => first | rfl | decide +kernel); (case gs6 => k_is); (case gk6 => k_is); (case ge6 => first | rfl | decide +kernel); (case gb6 => first | rfl | decide +kernel); (case gq6_0 => first | rfl | decide +kernel); (case gq6_1 => first | rfl | decide +kernel); (case gq6_2 => first | rfl | decide +kernel); (case gq6_3 => first | rfl | decide +kernel); (case gq6_4 => first | rfl | decide +kernel); (case gq6_5 => first | rfl | decide +kernel); (case gq6_6 => first | rfl | decide +kernel); (case gq6_7 => first | rfl | decide +kernel); (case gq6_8 => first | rfl | decide +kernel); (case gq6_9 => first | rfl | decide +kernel); (case gq6_10 => first | rfl | decide +kernel); (case gq6_11 => first | rfl | decide +kernel); (case gq6_12 => first | rfl | decide +kernel); (case gq6_13 => first | rfl | decide +kernel); (case gq6_14 => first | rfl | decide +kernel); (case gq6_15 => first | rfl | decide +kernel); (case gq6_16 => first | rfl | decide +kernel); (case gq6_17 => first | rfl | decide +kernel); (case gq6_18 => first | rfl | decide +kernel); (case gq6_19 => first | rfl | decide +kernel); (case gs7 => k_is); (case gk7 => k_is); (case ge7 => first | rfl | decide +kernel); (case gb7 => first | rfl | decide +kernel); (case gq7_0 => first | rfl | decide +kernel); (case gq7_1 => first | rfl | decide +kernel); (case gq7_2 => first | rfl | decide +kernel); (case gq7_3 => first | rfl | decide +kernel); (case gq7_4 => first | rfl | decide +kernel); (case qk7_0 => k_is); (case qe7_0_0 => first | rfl | decide +kernel); (case qk7_1 => k_is); (case qe7_1_0 => first | rfl | decide +kernel); (case qk7_2 => k_is); (case qe7_2_0 => first | rfl | decide +kernel); (case qk7_3 => k_is); (case qe7_3_0 => first | rfl | decide +kernel); (case qe7_3_1 => first | rfl | decide +kernel); (case qk7_3_2 => k_is); (case qk7_4 => k_is); (case qe7_4_0 => first | rfl | decide +kernel); (case qe7_4_1 => first | rfl | decide +kernel); (case gs8 => k_is); (case gk8 => k_is); (case ge8 => first | rfl | decide +kernel); (case gb8 => first | rfl | decide +kernel); (case gq8_0 => first | rfl | decide +kernel); (case gq8_1 => first | rfl | decide +kernel); (case gq8_2 => first | rfl | decide +kernel); (case gq8_3 => first | rfl | decide +kernel); (case gq8_4 => first | rfl | decide +kernel)
