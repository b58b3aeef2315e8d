import PyProof.Rows.All
import Wide.All
import OpenK.AllK
import Wide.FinOn
import HandS.ForMost
import HandS.IsInst
import HandS.Codes
import HandS.Steps
import HandS.Exc
import HandS.TupAny
import HandS.StrMore
import HandS.Flow
import HandS.Small
import HandS.Conv
import PyProof.Rows.RegReprOcc
import PyProof.StrLawsLast
import KE.GoesEnum
import HandS.ForExc
import HandS.ExcInit
import HandS.ExcField
import HandS.ExcIs
import KE.KExcIs
import PyProof.ReprLen
import PyProof.ReprRoads
import PyProof.StrLawsRepr
import PyProof.FitsInt
import HandS.Ends
import Wide.All
import OpenK.AllK
import Wide.FinOn
import HandS.More
import HandS.Replace
import PyProof.AutoSeq1
import KE.KIntText
import KE.IntTextLaws
import OpenK.Peek
import HandS.CallLocal
import HandS.Star
import HandS.Deep
import HandS.Wide
import HandS.AnyAll
import HandS.EndTab
import HandS.ReplaceList
import PyProof.DictDisplay
import PyProof.DictUpdate
import KE.KDictLaw
import HandS.Zip
import HandS.WordsDict
import PySem.Challenge.RW_tongues_k44_expressions
set_option Elab.async false
set_option linter.all false
set_option maxRecDepth 100000
set_option maxHeartbeats 1000000
/-! Tg: readings over deep data: what a reading asks, said of values without addresses. -/
namespace Tg
open PySem L2

/-! ### deep data -/
inductive D where
  | non | bl (b : Bool) | int (i : Int) | str (s : Str) | ty (n : String) | ref (a : Addr)
  | tup (ds : List D) | lst (ds : List D) | lsk (ds : List D)

mutual
def Rep (K : PySem.W.Frag) (G : Hp) : D → V → Prop
  | .non, v => v = .non
  | .bl b, v => v = .bl b
  | .int i, v => v = .int i
  | .str s, v => v = .str s
  | .ty n, v => v = .ty n
  | .ref a, v => v = .ref a
  | .tup ds, v => ∃ a xs, v = .ref a ∧ SqT K G a xs ∧ Reps K G ds xs
  | .lst ds, v => ∃ a xs, v = .ref a ∧ G a = some (.lst xs) ∧ Reps K G ds xs
  | .lsk ds, v => ∃ a xs, v = .ref a ∧ SqL K G a xs ∧ Reps K G ds xs
def Reps (K : PySem.W.Frag) (G : Hp) : List D → List V → Prop
  | [], xs => xs = []
  | d :: ds, xs => ∃ x r, xs = x :: r ∧ Rep K G d x ∧ Reps K G ds r
end

section
variable {K : PySem.W.Frag} {G G' H H' : Hp}
theorem Same.seqT {a : Addr} {xs : List V} (e : Same G G') (h : SqT K G a xs) : SqT K G' a xs := by
  rcases h with (h | ⟨o, h⟩) | h
  · exact .inl (.inl (e _ _ h))
  · exact .inl (.inr ⟨o, e _ _ h⟩)
  · exact .inr h
mutual
theorem Rep.mono (e : Same G G') : ∀ (d : D) (v : V), Rep K G d v → Rep K G' d v
  | .non, _, h => h
  | .bl _, _, h => h
  | .int _, _, h => h
  | .str _, _, h => h
  | .ty _, _, h => h
  | .ref _, _, h => h
  | .tup ds, _, h => by
    unfold Rep at h ⊢
    obtain ⟨a, xs, r, q, s⟩ := h
    exact ⟨a, xs, r, Same.seqT e q, Reps.mono e ds xs s⟩
  | .lst ds, _, h => by
    unfold Rep at h ⊢
    obtain ⟨a, xs, r, q, s⟩ := h
    exact ⟨a, xs, r, e _ _ q, Reps.mono e ds xs s⟩
  | .lsk ds, _, h => by
    unfold Rep at h ⊢
    obtain ⟨a, xs, r, q, s⟩ := h
    exact ⟨a, xs, r, e.seq q, Reps.mono e ds xs s⟩
theorem Reps.mono (e : Same G G') : ∀ (ds : List D) (xs : List V), Reps K G ds xs → Reps K G' ds xs
  | [], _, h => h
  | d :: ds, _, h => by
    unfold Reps at h ⊢
    obtain ⟨x, r, q, s, t⟩ := h
    exact ⟨x, r, q, Rep.mono e d x s, Reps.mono e ds r t⟩
end
theorem Reps.len : ∀ {ds : List D} {xs : List V}, Reps K G ds xs → xs.length = ds.length
  | [], _, h => by
    unfold Reps at h
    rw [h]
    rfl
  | d :: ds, _, h => by
    unfold Reps at h
    obtain ⟨x, r, q, _, t⟩ := h
    rw [q, List.length_cons, List.length_cons, Reps.len t]
theorem Reps.get : ∀ {ds : List D} {xs : List V} {i : Nat} {d : D}, Reps K G ds xs → ds[i]? = some d → ∃ x, xs[i]? = some x ∧ Rep K G d x
  | [], _, i, d, _, e => by simp at e
  | d :: ds, _, i, d', h, e => by
    unfold Reps at h
    obtain ⟨x, r, q, s, t⟩ := h
    subst q
    cases i with
    | zero =>
      have e1 : d = d' := by simpa using e
      subst e1
      exact ⟨x, rfl, s⟩
    | succ i =>
      have e1 : ds[i]? = some d' := by simpa using e
      obtain ⟨y, e2, s2⟩ := Reps.get t e1
      exact ⟨y, by simpa using e2, s2⟩
theorem Reps.get' : ∀ {ds : List D} {xs : List V} {i : Nat} {x : V}, Reps K G ds xs → xs[i]? = some x → ∃ d, ds[i]? = some d ∧ Rep K G d x
  | [], _, i, x, h, e => by
    unfold Reps at h
    rw [h] at e
    simp at e
  | d :: ds, _, i, x', h, e => by
    unfold Reps at h
    obtain ⟨x, r, q, s, t⟩ := h
    subst q
    cases i with
    | zero =>
      have e1 : x = x' := by simpa using e
      subst e1
      exact ⟨d, rfl, s⟩
    | succ i =>
      have e1 : r[i]? = some x' := by simpa using e
      obtain ⟨y, e2, s2⟩ := Reps.get' t e1
      exact ⟨y, by simpa using e2, s2⟩
theorem Reps.append : ∀ {ds es : List D} {xs ys : List V}, Reps K G ds xs → Reps K G es ys → Reps K G (ds ++ es) (xs ++ ys)
  | [], es, xs, ys, h, g => by
    unfold Reps at h
    rw [h]
    exact g
  | d :: ds, es, xs, ys, h, g => by
    unfold Reps at h
    obtain ⟨x, r, q, s, t⟩ := h
    subst q
    show Reps K G (d :: (ds ++ es)) (x :: (r ++ ys))
    unfold Reps
    exact ⟨x, _, rfl, s, Reps.append t g⟩
theorem Reps.one {d : D} {x : V} (h : Rep K G d x) : Reps K G [d] [x] := by
  unfold Reps
  exact ⟨x, [], rfl, h, by unfold Reps; rfl⟩
theorem Reps.nil : Reps K G [] [] := by
  unfold Reps
  rfl
theorem Reps.cons {d : D} {x : V} {ds : List D} {xs : List V} (h : Rep K G d x) (t : Reps K G ds xs) : Reps K G (d :: ds) (x :: xs) := by
  unfold Reps
  exact ⟨x, xs, rfl, h, t⟩
theorem Reps.uncons {d : D} {ds : List D} {xs : List V} (h : Reps K G (d :: ds) xs) : ∃ x r, xs = x :: r ∧ Rep K G d x ∧ Reps K G ds r := by
  unfold Reps at h
  exact h
theorem Reps.set : ∀ {ds : List D} {xs : List V} {i : Nat} {d : D} {x : V}, Reps K G ds xs → Rep K G d x → Reps K G (ds.set i d) (xs.set i x)
  | [], _, i, d, x, h, g => by
    unfold Reps at h
    rw [h]
    simp only [List.set_nil]
    exact Reps.nil
  | c :: ds, _, i, d, x, h, g => by
    obtain ⟨y, r, q, s, t⟩ := Reps.uncons h
    subst q
    cases i with
    | zero => exact Reps.cons g t
    | succ i => exact Reps.cons s (Reps.set t g)
theorem Reps.drop : ∀ {ds : List D} {xs : List V} (n : Nat), Reps K G ds xs → Reps K G (ds.drop n) (xs.drop n)
  | _, _, 0, h => h
  | [], _, n + 1, h => by
    unfold Reps at h
    rw [h]
    exact Reps.nil
  | c :: ds, _, n + 1, h => by
    obtain ⟨y, r, q, s, t⟩ := Reps.uncons h
    subst q
    exact Reps.drop n t
theorem Reps.take : ∀ {ds : List D} {xs : List V} (n : Nat), Reps K G ds xs → Reps K G (ds.take n) (xs.take n)
  | _, _, 0, h => Reps.nil
  | [], _, n + 1, h => by
    unfold Reps at h
    rw [h]
    exact Reps.nil
  | c :: ds, _, n + 1, h => by
    obtain ⟨y, r, q, s, t⟩ := Reps.uncons h
    subst q
    exact Reps.cons s (Reps.take n t)
theorem Reps.ints : ∀ {is : List Int} {xs : List V}, Reps K G (is.map D.int) xs → xs = is.map V.int
  | [], xs, h => by
    unfold Reps at h
    rw [h]
    rfl
  | i :: is, xs, h => by
    obtain ⟨x, r, q, s, t⟩ := Reps.uncons h
    unfold Rep at s
    rw [q, s, Reps.ints t]
    rfl
theorem Reps.ofInts : ∀ {is : List Int}, Reps K G (is.map D.int) (is.map V.int)
  | [] => Reps.nil
  | i :: is => Reps.cons (by unfold Rep; rfl) Reps.ofInts
theorem Reps.bls : ∀ {is : List Bool} {xs : List V}, Reps K G (is.map D.bl) xs → xs = is.map V.bl
  | [], xs, h => by
    unfold Reps at h
    rw [h]
    rfl
  | i :: is, xs, h => by
    obtain ⟨x, r, q, s, t⟩ := Reps.uncons h
    unfold Rep at s
    rw [q, s, Reps.bls t]
    rfl
theorem Reps.strs : ∀ {is : List Str} {xs : List V}, Reps K G (is.map D.str) xs → xs = is.map V.str
  | [], xs, h => by
    unfold Reps at h
    rw [h]
    rfl
  | i :: is, xs, h => by
    obtain ⟨x, r, q, s, t⟩ := Reps.uncons h
    unfold Rep at s
    rw [q, s, Reps.strs t]
    rfl
theorem rep_int {i : Int} {v : V} (h : Rep K G (.int i) v) : v = .int i := by
  unfold Rep at h
  exact h
theorem rep_str {i : Str} {v : V} (h : Rep K G (.str i) v) : v = .str i := by
  unfold Rep at h
  exact h
theorem rep_bl {i : Bool} {v : V} (h : Rep K G (.bl i) v) : v = .bl i := by
  unfold Rep at h
  exact h
theorem rep_non {v : V} (h : Rep K G .non v) : v = .non := by
  unfold Rep at h
  exact h
theorem rep_ref {a : Addr} {v : V} (h : Rep K G (.ref a) v) : v = .ref a := by
  unfold Rep at h
  exact h
theorem rep_ty {n : String} {v : V} (h : Rep K G (.ty n) v) : v = .ty n := by
  unfold Rep at h
  exact h
theorem rep_tup {ds : List D} {v : V} (h : Rep K G (.tup ds) v) : ∃ a xs, v = .ref a ∧ SqT K G a xs ∧ Reps K G ds xs := by
  unfold Rep at h
  exact h
theorem rep_lst {ds : List D} {v : V} (h : Rep K G (.lst ds) v) : ∃ a xs, v = .ref a ∧ G a = some (.lst xs) ∧ Reps K G ds xs := by
  unfold Rep at h
  exact h
theorem rep_lsk {ds : List D} {v : V} (h : Rep K G (.lsk ds) v) : ∃ a xs, v = .ref a ∧ SqL K G a xs ∧ Reps K G ds xs := by
  unfold Rep at h
  exact h
theorem rep_mk_tup {ds : List D} {a : Addr} {xs : List V} (h : SqT K G a xs) (r : Reps K G ds xs) : Rep K G (.tup ds) (.ref a) := by
  unfold Rep
  exact ⟨a, xs, rfl, h, r⟩
theorem rep_mk_lst {ds : List D} {a : Addr} {xs : List V} (h : G a = some (.lst xs)) (r : Reps K G ds xs) : Rep K G (.lst ds) (.ref a) := by
  unfold Rep
  exact ⟨a, xs, rfl, h, r⟩
theorem rep_mk_lsk {ds : List D} {a : Addr} {xs : List V} (h : SqL K G a xs) (r : Reps K G ds xs) : Rep K G (.lsk ds) (.ref a) := by
  unfold Rep
  exact ⟨a, xs, rfl, h, r⟩
theorem rep_of_int {i : Int} : Rep K G (.int i) (.int i) := by unfold Rep; rfl
theorem rep_of_str {i : Str} : Rep K G (.str i) (.str i) := by unfold Rep; rfl
theorem rep_of_bl {i : Bool} : Rep K G (.bl i) (.bl i) := by unfold Rep; rfl
theorem rep_of_non : Rep K G .non .non := by unfold Rep; rfl
theorem rep_of_ref {a : Addr} : Rep K G (.ref a) (.ref a) := by unfold Rep; rfl
theorem rep_of_ty {n : String} : Rep K G (.ty n) (.ty n) := by unfold Rep; rfl
end

/-! ### what may change: lists, dicts with int and text keys, instances -/
inductive MO where
  | lst (ds : List D)
  | dK (kvs : List (Key × D))
  | ins (C dx : Addr) (fs : List (Str × D))
  | xd (fs : List (Str × D))
  | tb
abbrev Mu := List (Addr × MO)
def RepKV (K : PySem.W.Frag) (G : Hp) {κ : Type} : List (κ × D) → List (κ × V) → Prop
  | [], xs => xs = []
  | (k, d) :: ds, xs => ∃ x r, xs = (k, x) :: r ∧ Rep K G d x ∧ RepKV K G ds r
def RepM (K : PySem.W.Frag) (G : Hp) : MO → HO → Prop
  | .lst ds, o => ∃ xs, o = .lst xs ∧ Reps K G ds xs
  | .dK kvs, o => ∃ ps, o = .dK ps ∧ RepKV K G kvs ps
  | .ins C dx fs, o => ∃ ps, o = .ins C dx ps ∧ RepKV K G fs ps
  | .xd fs, o => ∃ ps, o = .xd ps ∧ RepKV K G fs ps
  | .tb, o => ∃ ps : Array Value, o = .tbl ps ∧ TriplesOk ps.toList
section
variable {K : PySem.W.Frag} {G G' H H' : Hp}
theorem RepKV.mono {κ : Type} (e : Same G G') : ∀ {ds : List (κ × D)} {xs : List (κ × V)}, RepKV K G ds xs → RepKV K G' ds xs
  | [], _, h => h
  | (k, d) :: ds, _, h => by
    unfold RepKV at h ⊢
    obtain ⟨x, r, q, s, t⟩ := h
    exact ⟨x, r, q, Rep.mono e _ _ s, RepKV.mono e t⟩
theorem RepM.mono (e : Same G G') {m : MO} {o : HO} (h : RepM K G m o) : RepM K G' m o := by
  cases m with
  | lst ds =>
    obtain ⟨xs, r, s⟩ := h
    exact ⟨xs, r, Reps.mono e _ _ s⟩
  | dK kvs =>
    obtain ⟨xs, r, s⟩ := h
    exact ⟨xs, r, RepKV.mono e s⟩
  | ins C dx fs =>
    obtain ⟨xs, r, s⟩ := h
    exact ⟨xs, r, RepKV.mono e s⟩
  | xd fs =>
    obtain ⟨xs, r, s⟩ := h
    exact ⟨xs, r, RepKV.mono e s⟩
  | tb => exact h
end

/-- the state: G the part of the heap that stays, M what may change -/
structure S (K : PySem.W.Frag) (G H : Hp) (M : Mu) : Prop where
  same : Same G H
  mu : ∀ p ∈ M, G p.1 = none ∧ ∃ o, H p.1 = some o ∧ RepM K G p.2 o
  nd : (M.map (·.1)).Nodup
/-- from (G, H) with what may change at A, to (G', H') with what may change at A' -/
structure Step (A : List Addr) (G H : Hp) (A' : List Addr) (G' H' : Hp) : Prop where
  gg : Same G G'
  fr : ∀ b, H b ≠ none → b ∉ A → G' b = G b
  keep : ∀ b o, b ∉ A → H b = some o → H' b = some o
  alive : ∀ b, H b ≠ none → H' b ≠ none
  own : ∀ b ∈ A', b ∈ A ∨ H b = none
abbrev ads (M : Mu) : List Addr := M.map (·.1)

section
variable {K : PySem.W.Frag} {G G' G1 G2 H H' H1 H2 : Hp} {A A1 A2 : List Addr} {M M' M1 M2 : Mu}
theorem Step.refl : Step A G H A G H := ⟨Same.refl G, fun _ _ _ => rfl, fun _ _ _ h => h, fun _ h => h, fun _ h => .inl h⟩
theorem Step.trans (a : Step A G H A1 G1 H1) (b : Step A1 G1 H1 A2 G2 H2) : Step A G H A2 G2 H2 := by
  have no : ∀ c, H c ≠ none → c ∉ A → c ∉ A1 := fun c h n z => by
    rcases a.own c z with q | q
    · exact n q
    · exact h q
  refine ⟨a.gg.trans b.gg, fun c h n => ?_, fun c o n h => ?_, fun c h => b.alive c (a.alive c h), fun c h => ?_⟩
  · rw [b.fr c (a.alive c h) (no c h n), a.fr c h n]
  · exact b.keep c o (no c (by rw [h]; exact fun z => nomatch z) n) (a.keep c o n h)
  · rcases b.own c h with q | q
    · exact a.own c q
    · right
      cases e : H c with
      | none => rfl
      | some o => exact absurd q (a.alive c (by rw [e]; exact fun z => nomatch z))
/-- forgetting some of what may change -/
theorem S.sub (s : S K G H (M1 ++ M2)) : S K G H M1 := ⟨s.same, fun p hp => s.mu p (List.mem_append_left _ hp), by
  have h := s.nd
  rw [List.map_append] at h
  exact (List.nodup_append.mp h).1⟩
/-- a new frozen object -/
theorem S.frozen (s : S K G H M) {p : Addr} {o : HO} (hp : H p = none) : S K (upd G p o) (upd H p o) M ∧ Step (ads M) G H (ads M) (upd G p o) (upd H p o) ∧ Same G (upd G p o) := by
  have gp : G p = none := s.same.free hp
  have gs : Same G (upd G p o) := fun b u e => by
    rw [upd_ne (ne_of_none e gp)]
    exact e
  refine ⟨⟨fun b u e => ?_, fun q hq => ?_, s.nd⟩, ⟨gs, fun b hb _ => ?_, fun b u _ e => ?_, fun b e => ?_, fun b hb => .inl hb⟩, gs⟩
  · by_cases hb : b = p
    · subst hb
      rw [upd_same] at e ⊢
      exact e
    · rw [upd_ne hb] at e ⊢
      exact s.same b u e
  · obtain ⟨g1, o1, h1, r1⟩ := s.mu q hq
    have ne : q.1 ≠ p := ne_of_none h1 hp
    exact ⟨by rw [upd_ne ne]; exact g1, o1, by rw [upd_ne ne]; exact h1, r1.mono gs⟩
  · rw [upd_ne (fun z => hb (by rw [z]; exact hp))]
  · rw [upd_ne (ne_of_none e hp)]
    exact e
  · by_cases hb : b = p
    · subst hb
      rw [upd_same]
      exact fun z => nomatch z
    · rw [upd_ne hb]
      exact e
/-- a new object that may change -/
theorem S.fresh (s : S K G H M) {p : Addr} {o : HO} {m : MO} (hp : H p = none) (r : RepM K G m o) : S K G (upd H p o) (M ++ [(p, m)]) ∧ Step (ads M) G H (ads (M ++ [(p, m)])) G (upd H p o) := by
  have gp : G p = none := s.same.free hp
  refine ⟨⟨fun b u e => ?_, fun q hq => ?_, ?_⟩, ⟨Same.refl G, fun b hb _ => rfl, fun b u _ e => ?_, fun b e => ?_, fun b hb => ?_⟩⟩
  · rw [upd_ne (ne_of_none e gp)]
    exact s.same b u e
  · rcases List.mem_append.mp hq with hq | hq
    · obtain ⟨g1, o1, h1, r1⟩ := s.mu q hq
      exact ⟨g1, o1, by rw [upd_ne (ne_of_none h1 hp)]; exact h1, r1⟩
    · have e : q = (p, m) := by simpa using hq
      subst e
      exact ⟨gp, o, upd_same, r⟩
  · rw [List.map_append, List.nodup_append]
    refine ⟨s.nd, by simp, fun a ha b hb => ?_⟩
    have e : b = p := by simpa using hb
    subst e
    obtain ⟨q, hq, rfl⟩ := List.mem_map.mp ha
    obtain ⟨_, o1, h1, _⟩ := s.mu q hq
    exact ne_of_none h1 hp
  · rw [upd_ne (ne_of_none e hp)]
    exact e
  · by_cases hb : b = p
    · subst hb
      rw [upd_same]
      exact fun z => nomatch z
    · rw [upd_ne hb]
      exact e
  · have hb' : b ∈ M.map (·.1) ++ [p] := by simpa [ads] using hb
    rcases List.mem_append.mp hb' with hb | hb
    · exact .inl hb
    · have e : b = p := by simpa using hb
      subst e
      exact .inr hp
/-- what may change is changed -/
theorem S.write (s : S K G H (M1 ++ (p, m) :: M2)) {o : HO} {m' : MO} (r : RepM K G m' o) : S K G (upd H p o) (M1 ++ (p, m') :: M2) ∧ Step (ads (M1 ++ (p, m) :: M2)) G H (ads (M1 ++ (p, m') :: M2)) G (upd H p o) := by
  obtain ⟨gp, o0, hp, r0⟩ := s.mu (p, m) (by simp)
  have nd := s.nd
  have ads_eq : ads (M1 ++ (p, m') :: M2) = ads (M1 ++ (p, m) :: M2) := by simp [ads]
  have nd' : (M1.map (·.1) ++ p :: M2.map (·.1)).Nodup := by simpa using nd
  have out : ∀ q, q ∈ M1 ∨ q ∈ M2 → q.1 ≠ p := fun q hq z => by
    rw [List.nodup_append] at nd'
    obtain ⟨_, h2, h3⟩ := nd'
    rcases hq with hq | hq
    · exact h3 q.1 (List.mem_map.mpr ⟨q, hq, rfl⟩) p (by simp) z
    · exact (List.nodup_cons.mp h2).1 (List.mem_map.mpr ⟨q, hq, z⟩)
  refine ⟨⟨fun b u e => ?_, fun q hq => ?_, by rw [show (M1 ++ (p, m') :: M2).map (·.1) = (M1 ++ (p, m) :: M2).map (·.1) from ads_eq]; exact nd⟩, ⟨Same.refl G, fun b hb _ => rfl, fun b u hb e => ?_, fun b e => ?_, fun b hb => .inl (by rw [← ads_eq]; exact hb)⟩⟩
  · rw [upd_ne (ne_of_none e gp)]
    exact s.same b u e
  · have old : ∀ q, q ∈ M1 ∨ q ∈ M2 → G q.1 = none ∧ ∃ o1, upd H p o q.1 = some o1 ∧ RepM K G q.2 o1 := fun q hq => by
      obtain ⟨g1, o1, h1, r1⟩ := s.mu q (by rcases hq with hq | hq <;> simp [hq])
      exact ⟨g1, o1, by rw [upd_ne (out q hq)]; exact h1, r1⟩
    rcases List.mem_append.mp hq with hq | hq
    · exact old q (.inl hq)
    · rcases List.mem_cons.mp hq with e | hq
      · subst e
        exact ⟨gp, o, upd_same, r⟩
      · exact old q (.inr hq)
  · have ne : b ≠ p := fun z => hb (by simp [ads, z])
    rw [upd_ne ne]
    exact e
  · by_cases hb : b = p
    · subst hb
      rw [upd_same]
      exact fun z => nomatch z
    · rw [upd_ne hb]
      exact e
/-- what may change is frozen -/
theorem S.freeze {p : Addr} {ds : List D} (s : S K G H (M1 ++ (p, .lst ds) :: M2)) : ∃ xs, S K (upd G p (.lst xs)) H (M1 ++ M2) ∧ Step (ads (M1 ++ (p, .lst ds) :: M2)) G H (ads (M1 ++ M2)) (upd G p (.lst xs)) H ∧ Same G (upd G p (.lst xs)) ∧ Rep K (upd G p (.lst xs)) (.lst ds) (.ref p) := by
  obtain ⟨gp, o0, hp, r0⟩ := s.mu (p, .lst ds) (by simp)
  obtain ⟨xs, rfl, rx⟩ := r0
  have gs : Same G (upd G p (.lst xs)) := fun b u e => by
    rw [upd_ne (ne_of_none e gp)]
    exact e
  have nd := s.nd
  have nd' : (M1.map (·.1) ++ p :: M2.map (·.1)).Nodup := by simpa using nd
  have out : ∀ q, q ∈ M1 ∨ q ∈ M2 → q.1 ≠ p := fun q hq z => by
    rw [List.nodup_append] at nd'
    obtain ⟨_, h2, h3⟩ := nd'
    rcases hq with hq | hq
    · exact h3 q.1 (List.mem_map.mpr ⟨q, hq, rfl⟩) p (by simp) z
    · exact (List.nodup_cons.mp h2).1 (List.mem_map.mpr ⟨q, hq, z⟩)
  refine ⟨xs, ⟨fun b u e => ?_, fun q hq => ?_, ?_⟩, ⟨gs, fun b hb hn => ?_, fun b u hb e => e, fun b e => e, fun b hb => .inl ?_⟩, gs, ?_⟩
  · by_cases hb : b = p
    · subst hb
      rw [upd_same] at e
      rw [← e]
      exact hp
    · rw [upd_ne hb] at e
      exact s.same b u e
  · have hq' := List.mem_append.mp hq
    obtain ⟨g1, o1, h1, r1⟩ := s.mu q (by rcases hq' with z | z <;> simp [z])
    exact ⟨by rw [upd_ne (out q hq')]; exact g1, o1, h1, r1.mono gs⟩
  · rw [List.map_append]
    rw [List.nodup_append] at nd' ⊢
    obtain ⟨h1, h2, h3⟩ := nd'
    exact ⟨h1, (List.nodup_cons.mp h2).2, fun a ha b hb => h3 a ha b (List.mem_cons_of_mem _ hb)⟩
  · rw [upd_ne]
    intro z
    exact hn (by simp [ads, z])
  · simp only [ads, List.map_append, List.mem_append, List.map_cons, List.mem_cons] at hb ⊢
    rcases hb with z | z
    · exact .inl z
    · exact .inr (.inr z)
  · exact rep_mk_lst upd_same (Reps.mono gs _ _ rx)
end

/-! ### slots -/
abbrev DS := List (Option D)
structure RelS (K : PySem.W.Frag) (G : Hp) (δ : DS) (σ : L2.St) : Prop where
  len : δ.length = σ.length
  at_ : ∀ (i : Nat) (d : D), δ[i]? = some (some d) → ∃ v, σ[i]? = some (some v) ∧ Rep K G d v
section
variable {K : PySem.W.Frag} {G G' H H' : Hp} {δ : DS} {σ : L2.St}
theorem RelS.mono (e : Same G G') (r : RelS K G δ σ) : RelS K G' δ σ := ⟨r.len, fun i d h => let ⟨v, a, b⟩ := r.at_ i d h; ⟨v, a, Rep.mono e _ _ b⟩⟩
theorem RelS.set (r : RelS K G δ σ) (i : Nat) {d : D} {v : V} (h : Rep K G d v) : RelS K G (δ.set i (some d)) (σ.set i (some v)) := by
  refine ⟨by rw [List.length_set, List.length_set]; exact r.len, fun j e hj => ?_⟩
  by_cases hij : i = j
  · subst hij
    rw [List.getElem?_set] at hj ⊢
    rw [if_pos rfl] at hj ⊢
    rw [← r.len]
    split at hj
    · rename_i hl
      have e1 : d = e := by simpa using hj
      subst e1
      rw [if_pos hl]
      exact ⟨v, rfl, h⟩
    · cases hj
  · rw [List.getElem?_set_ne hij] at hj ⊢
    exact r.at_ j e hj
theorem RelS.setD (r : RelS K G δ σ) (i : Nat) {d : D} {v : V} (e : σ[i]? = some (some v)) (h : Rep K G d v) : RelS K G (δ.set i (some d)) σ := by
  refine ⟨by rw [List.length_set]; exact r.len, fun j f hj => ?_⟩
  by_cases hij : i = j
  · subst hij
    rw [List.getElem?_set, if_pos rfl] at hj
    split at hj
    · have e1 : d = f := by simpa using hj
      subst e1
      exact ⟨v, e, h⟩
    · cases hj
  · rw [List.getElem?_set_ne hij] at hj
    exact r.at_ j f hj
theorem RelS.drop (r : RelS K G δ σ) (i : Nat) : RelS K G (δ.set i none) (σ.set i none) := by
  refine ⟨by rw [List.length_set, List.length_set]; exact r.len, fun j e hj => ?_⟩
  by_cases hij : i = j
  · subst hij
    rw [List.getElem?_set, if_pos rfl] at hj
    split at hj <;> cases hj
  · rw [List.getElem?_set_ne hij] at hj ⊢
    exact r.at_ j e hj
/-- forgetting slots -/
theorem RelS.weak {δ' : DS} (r : RelS K G δ σ) (hl : δ'.length = δ.length) (h : ∀ (i : Nat) (d : D), δ'[i]? = some (some d) → δ[i]? = some (some d)) : RelS K G δ' σ := ⟨hl.trans r.len, fun i d e => r.at_ i d (h i d e)⟩
end
def startD (n : Nat) (ds : List D) : DS := ds.map some ++ List.replicate (n - ds.length) none
theorem relS_start {K : PySem.W.Frag} {G : Hp} {N : List Str} {ds : List D} {vs : List V} (r : Reps K G ds vs) : RelS K G (startD N.length ds) (L2.start N vs) := by
  have hl := r.len
  refine ⟨by simp [startD, L2.start, hl], fun i d h => ?_⟩
  unfold startD at h
  unfold L2.start
  by_cases hi : i < ds.length
  · rw [List.getElem?_append_left (by simpa using hi), List.getElem?_map] at h
    cases e : ds[i]? with
    | none => rw [e] at h; cases h
    | some d' =>
      rw [e] at h
      have e1 : d' = d := by simpa using h
      subst e1
      obtain ⟨x, e2, q⟩ := r.get e
      refine ⟨x, ?_, q⟩
      rw [List.getElem?_append_left (by simp [hl]; exact hi), List.getElem?_map, e2]
      rfl
  · rw [List.getElem?_append_right (by simpa using hi), List.getElem?_replicate] at h
    split at h <;> cases h

/-! ### readings over deep data -/
section
variable (K : PySem.W.Frag)
/-- behind an evaluation: the value d, what may change is M' -/
def AE (te : TE) (δ : DS) (M : Mu) (k : D → Mu → Prop) : Prop := ∀ σ G H Q, RelS K G δ σ → S K G H M →
  (∀ d M' v G' H', k d M' → S K G' H' M' → Step (ads M) G H (ads M') G' H' → Rep K G' d v → Q v H') → te σ H Q
def AT (tt : TT) (δ : DS) (M : Mu) (k : Bool → Mu → Prop) : Prop := ∀ σ G H Q, RelS K G δ σ → S K G H M →
  (∀ b M' G' H', k b M' → S K G' H' M' → Step (ads M) G H (ads M') G' H' → Q b H') → tt σ H Q
def AA (ta : TA) (δ : DS) (M : Mu) (k : List D → Mu → Prop) : Prop := ∀ σ G H Q, RelS K G δ σ → S K G H M →
  (∀ ds M' vs G' H', k ds M' → S K G' H' M' → Step (ads M) G H (ads M') G' H' → Reps K G' ds vs → Q vs H') → ta σ H Q
def AO (to : TO) (δ : DS) (M : Mu) (k : Option Int → Mu → Prop) : Prop := ∀ σ G H Q, RelS K G δ σ → S K G H M →
  (∀ o M' G' H', k o M' → S K G' H' M' → Step (ads M) G H (ads M') G' H' → Q o H') → to σ H Q
/-- an operation on two values, on one, on a list of values -/
def AR (r : R2) (x y : D) (M : Mu) (k : D → Mu → Prop) : Prop := ∀ vx vy G H Q, Rep K G x vx → Rep K G y vy → S K G H M →
  (∀ d M' v G' H', k d M' → S K G' H' M' → Step (ads M) G H (ads M') G' H' → Rep K G' d v → Q v H') → r vx vy H Q
def AU (r : V → Hp → VK → Prop) (x : D) (M : Mu) (k : D → Mu → Prop) : Prop := ∀ vx G H Q, Rep K G x vx → S K G H M →
  (∀ d M' v G' H', k d M' → S K G' H' M' → Step (ads M) G H (ads M') G' H' → Rep K G' d v → Q v H') → r vx H Q
def AC (r : List V → Hp → VK → Prop) (xs : List D) (M : Mu) (k : D → Mu → Prop) : Prop := ∀ vs G H Q, Reps K G xs vs → S K G H M →
  (∀ d M' v G' H', k d M' → S K G' H' M' → Step (ads M) G H (ads M') G' H' → Rep K G' d v → Q v H') → r vs H Q
/-- a method of x on a list of values -/
def AM (r : V → List V → Hp → VK → Prop) (x : D) (xs : List D) (M : Mu) (k : D → Mu → Prop) : Prop := ∀ vx vs G H Q, Rep K G x vx → Reps K G xs vs → S K G H M →
  (∀ d M' v G' H', k d M' → S K G' H' M' → Step (ads M) G H (ads M') G' H' → Rep K G' d v → Q v H') → r vx vs H Q
def AG (g : TG) (d : D) (δ : DS) (M : Mu) (k : DS → Mu → Prop) : Prop := ∀ v σ G H Q, Rep K G d v → RelS K G δ σ → S K G H M →
  (∀ δ' M' σ' G' H', k δ' M' → RelS K G' δ' σ' → S K G' H' M' → Step (ads M) G H (ads M') G' H' → Q σ' H') → g v σ H Q
def AGs (g : TGs) (ds : List D) (δ : DS) (M : Mu) (k : DS → Mu → Prop) : Prop := ∀ vs σ G H Q, Reps K G ds vs → RelS K G δ σ → S K G H M →
  (∀ δ' M' σ' G' H', k δ' M' → RelS K G' δ' σ' → S K G' H' M' → Step (ads M) G H (ads M') G' H' → Q σ' H') → g vs σ H Q
/-- what is wanted behind a statement -/
structure AEnds where
  nx : DS → Mu → Prop
  rt : D → Mu → Prop
  bk : DS → Mu → Prop := fun _ _ => False
  ct : DS → Mu → Prop := fun _ _ => False
  /-- what is raised: the error's fields; W, who takes it (the error's own dict, the heap) -/
  xs : List (Str × D) → Mu → Prop := fun _ _ => False
  W : Addr → Hp → Prop := fun _ _ => False
structure Fit (A : AEnds) (M : Mu) (G H : Hp) (E : Ends) : Prop where
  nx : ∀ δ' M' σ' G' H', A.nx δ' M' → RelS K G' δ' σ' → S K G' H' M' → Step (ads M) G H (ads M') G' H' → E.nx σ' H'
  rt : ∀ d M' v G' H', A.rt d M' → S K G' H' M' → Step (ads M) G H (ads M') G' H' → Rep K G' d v → E.rt v H'
  bk : ∀ δ' M' σ' G' H', A.bk δ' M' → RelS K G' δ' σ' → S K G' H' M' → Step (ads M) G H (ads M') G' H' → E.bk σ' H'
  ct : ∀ δ' M' σ' G' H', A.ct δ' M' → RelS K G' δ' σ' → S K G' H' M' → Step (ads M) G H (ads M') G' H' → E.ct σ' H'
  xs : ∀ fs M' d G' H', A.xs fs M' → S K G' H' (M' ++ [(d, .xd fs)]) → Step (ads M) G H (ads (M' ++ [(d, .xd fs)])) G' H' → A.W d H'
def AS (ts : TS) (δ : DS) (M : Mu) (A : AEnds) : Prop := ∀ σ G H E, RelS K G δ σ → S K G H M → Fit K A M G H E → ts E σ H
/-- what a for walks: the items ds -/
def ItOk (J : It) (G : Hp) (ds : List D) : Prop := ∀ i G1 H1 M, Same G G1 → S K G1 H1 M →
  (∀ d, ds[i]? = some d → J.go i H1 ∧ ∀ x H', J.yld i H1 x H' → ∃ G', S K G' H' M ∧ Step (ads M) G1 H1 (ads M) G' H' ∧ Rep K G' d x) ∧ (i = ds.length → J.stop i H1)
def AI (wi : TI) (δ : DS) (M : Mu) (k : List D → Mu → Prop) : Prop := ∀ σ G H R, RelS K G δ σ → S K G H M →
  (∀ ds M' G' H' J, k ds M' → S K G' H' M' → Step (ads M) G H (ads M') G' H' → ItOk K J G' ds → R J H') → wi σ H R
end
end Tg
set_option Elab.async false
set_option linter.all false
set_option maxRecDepth 100000
set_option maxHeartbeats 1000000
namespace Tg
open PySem L2
section
variable {K : PySem.W.Frag} {δ : DS} {M : Mu} {ta tb te to ti : TE} {k : D → Mu → Prop} {i : Nat} {d x y : D}
/-! ### expressions -/
theorem ae_var (h : δ[i]? = some (some d)) (q : k d M) : AE K (tVar i) δ M k := fun σ G H Q r s f =>
  let ⟨v, e, rv⟩ := r.at_ i d h
  ⟨v, e, f d M v G H q s Step.refl rv⟩
theorem ae_c {v : V} (h : ∀ G, Rep K G d v) (q : k d M) : AE K (tC v) δ M k := fun σ G H Q r s f => f d M v G H q s Step.refl (h G)
theorem ae_int {j : Int} (q : k (.int j) M) : AE K (tC (.int j)) δ M k := ae_c (fun _ => rep_of_int) q
theorem ae_bl {b : Bool} (q : k (.bl b) M) : AE K (tC (.bl b)) δ M k := ae_c (fun _ => rep_of_bl) q
theorem ae_non (q : k .non M) : AE K (tC .non) δ M k := ae_c (fun _ => rep_of_non) q
theorem ae_str {z : Str} (q : k (.str z) M) : AE K (tC (.str z)) δ M k := ae_c (fun _ => rep_of_str) q
theorem ae_ref {a : Addr} (q : k (.ref a) M) : AE K (tC (.ref a)) δ M k := ae_c (fun _ => rep_of_ref) q
theorem ae_ty {n : String} (q : k (.ty n) M) : AE K (tC (.ty n)) δ M k := ae_c (fun _ => rep_of_ty) q
theorem ae_op {r : R2} (h : AE K ta δ M fun x M1 => AE K tb δ M1 fun y M2 => AR K r x y M2 k) : AE K (tOp r ta tb) δ M k := fun σ G H Q rs s f =>
  h σ G H _ rs s fun x M1 vx G1 H1 h1 s1 st1 r1 => h1 σ G1 H1 _ (rs.mono st1.gg) s1 fun y M2 vy G2 H2 h2 s2 st2 r2 =>
    h2 vx vy G2 H2 Q (Rep.mono st2.gg _ _ r1) r2 s2 fun d M3 v G3 H3 q s3 st3 r3 => f d M3 v G3 H3 q s3 ((st1.trans st2).trans st3) r3
theorem ae_un {r : V → Hp → VK → Prop} (h : AE K ta δ M fun x M1 => AU K r x M1 k) : AE K (tUn r ta) δ M k := fun σ G H Q rs s f =>
  h σ G H _ rs s fun x M1 vx G1 H1 h1 s1 st1 r1 => h1 vx G1 H1 Q r1 s1 fun d M3 v G3 H3 q s3 st3 r3 => f d M3 v G3 H3 q s3 (st1.trans st3) r3
theorem ae_andV (h : AE K ta δ M fun x M1 => ∃ b, x = .bl b ∧ (b = true → AE K tb δ M1 k) ∧ (b = false → k (.bl false) M1)) : AE K (tAndV ta tb) δ M k := fun σ G H Q rs s f =>
  h σ G H _ rs s fun x M1 vx G1 H1 ⟨b, e, h1, h2⟩ s1 st1 r1 => by
    subst e
    refine ⟨b, rep_bl r1, ?_⟩
    cases b with
    | true =>
      rw [if_pos rfl]
      exact h1 rfl σ G1 H1 Q (rs.mono st1.gg) s1 fun d M3 v G3 H3 q s3 st3 r3 => f d M3 v G3 H3 q s3 (st1.trans st3) r3
    | false =>
      rw [if_neg Bool.false_ne_true]
      exact f _ M1 _ G1 H1 (h2 rfl) s1 st1 rep_of_bl
theorem ae_orV (h : AE K ta δ M fun x M1 => ∃ b, x = .bl b ∧ (b = false → AE K tb δ M1 k) ∧ (b = true → k (.bl true) M1)) : AE K (tOrV ta tb) δ M k := fun σ G H Q rs s f =>
  h σ G H _ rs s fun x M1 vx G1 H1 ⟨b, e, h1, h2⟩ s1 st1 r1 => by
    subst e
    refine ⟨b, rep_bl r1, ?_⟩
    cases b with
    | false =>
      rw [if_neg Bool.false_ne_true]
      exact h1 rfl σ G1 H1 Q (rs.mono st1.gg) s1 fun d M3 v G3 H3 q s3 st3 r3 => f d M3 v G3 H3 q s3 (st1.trans st3) r3
    | true =>
      rw [if_pos rfl]
      exact f _ M1 _ G1 H1 (h2 rfl) s1 st1 rep_of_bl
theorem ae_notV (h : AE K ta δ M fun x M1 => ∃ b, x = .bl b ∧ k (.bl (!b)) M1) : AE K (tNotV ta) δ M k := fun σ G H Q rs s f =>
  h σ G H _ rs s fun x M1 vx G1 H1 ⟨b, e, h1⟩ s1 st1 r1 => by
    subst e
    exact ⟨b, rep_bl r1, f _ M1 _ G1 H1 h1 s1 st1 rep_of_bl⟩
theorem ae_if {t : TT} (h : AT K t δ M fun b M1 => (b = true → AE K ta δ M1 k) ∧ (b = false → AE K tb δ M1 k)) : AE K (tIf t ta tb) δ M k := fun σ G H Q rs s f =>
  h σ G H _ rs s fun b M1 G1 H1 ⟨h1, h2⟩ s1 st1 => by
    cases b with
    | true =>
      rw [if_pos rfl]
      exact h1 rfl σ G1 H1 Q (rs.mono st1.gg) s1 fun d M3 v G3 H3 q s3 st3 r3 => f d M3 v G3 H3 q s3 (st1.trans st3) r3
    | false =>
      rw [if_neg Bool.false_ne_true]
      exact h2 rfl σ G1 H1 Q (rs.mono st1.gg) s1 fun d M3 v G3 H3 q s3 st3 r3 => f d M3 v G3 H3 q s3 (st1.trans st3) r3
/-! ### tests -/
variable {t u : TT} {kb : Bool → Mu → Prop}
theorem at_test (h : AE K te δ M fun d M' => ∃ b, d = .bl b ∧ kb b M') : AT K (tTest te) δ M kb := fun σ G H Q rs s f =>
  h σ G H _ rs s fun x M1 vx G1 H1 ⟨b, e, h1⟩ s1 st1 r1 => by
    subst e
    exact ⟨b, rep_bl r1, f b M1 G1 H1 h1 s1 st1⟩
theorem at_B (h : AE K te δ M fun d M' => ∃ b, d = .bl b ∧ kb b M') : AT K (tB te) δ M kb := fun σ G H Q rs s f =>
  h σ G H _ rs s fun x M1 vx G1 H1 ⟨b, e, h1⟩ s1 st1 r1 => by
    subst e
    exact ⟨b, rep_bl r1, f b M1 G1 H1 h1 s1 st1⟩
theorem at_and (h : AT K t δ M fun b M1 => (b = true → AT K u δ M1 kb) ∧ (b = false → kb false M1)) : AT K (tAnd t u) δ M kb := fun σ G H Q rs s f =>
  h σ G H _ rs s fun b M1 G1 H1 ⟨h1, h2⟩ s1 st1 => by
    cases b with
    | true =>
      rw [if_pos rfl]
      exact h1 rfl σ G1 H1 Q (rs.mono st1.gg) s1 fun d M3 G3 H3 q s3 st3 => f d M3 G3 H3 q s3 (st1.trans st3)
    | false =>
      rw [if_neg Bool.false_ne_true]
      exact f _ M1 G1 H1 (h2 rfl) s1 st1
theorem at_or (h : AT K t δ M fun b M1 => (b = false → AT K u δ M1 kb) ∧ (b = true → kb true M1)) : AT K (tOr t u) δ M kb := fun σ G H Q rs s f =>
  h σ G H _ rs s fun b M1 G1 H1 ⟨h1, h2⟩ s1 st1 => by
    cases b with
    | false =>
      rw [if_neg Bool.false_ne_true]
      exact h1 rfl σ G1 H1 Q (rs.mono st1.gg) s1 fun d M3 G3 H3 q s3 st3 => f d M3 G3 H3 q s3 (st1.trans st3)
    | true =>
      rw [if_pos rfl]
      exact f _ M1 G1 H1 (h2 rfl) s1 st1
theorem at_not (h : AT K t δ M fun b M1 => kb (!b) M1) : AT K (tNot t) δ M kb := fun σ G H Q rs s f =>
  h σ G H _ rs s fun b M1 G1 H1 h1 s1 st1 => f _ M1 G1 H1 h1 s1 st1
/-- a value's truth -/
def truD : D → Bool
  | .non => false
  | .bl b => b
  | .int i => i != 0
  | .str z => ((z.length : Int) != 0)
  | .tup ds => !ds.isEmpty
  | .lst ds => !ds.isEmpty
  | .lsk ds => !ds.isEmpty
  | _ => true
def TruOk : D → Prop
  | .str z => z.length ≤ sizeLine
  | .ref _ => False
  | .ty _ => False
  | _ => True
theorem isEmpty_len {α β : Type} {xs : List α} {ys : List β} (h : xs.length = ys.length) : xs.isEmpty = ys.isEmpty := by
  cases xs <;> cases ys <;> simp_all
theorem truV_of {G H : Hp} {v : V} (e : Same G H) (o : TruOk d) (r : Rep K G d v) : TruV K v H (truD d) := by
  cases d with
  | non => rw [rep_non r]; rfl
  | bl b => rw [rep_bl r]; rfl
  | int i => rw [rep_int r]; rfl
  | str z => rw [rep_str r]; exact ⟨o, rfl⟩
  | ty n => exact o.elim
  | ref a => exact o.elim
  | tup ds =>
    obtain ⟨a, xs, rfl, h, rs⟩ := rep_tup r
    exact .inr (.inl ⟨xs, Same.seqT e h, by rw [show truD (.tup ds) = !ds.isEmpty from rfl, isEmpty_len rs.len]⟩)
  | lst ds =>
    obtain ⟨a, xs, rfl, h, rs⟩ := rep_lst r
    exact .inl ⟨xs, .inl (.inl (e _ _ h)), by rw [show truD (.lst ds) = !ds.isEmpty from rfl, isEmpty_len rs.len]⟩
  | lsk ds =>
    obtain ⟨a, xs, rfl, h, rs⟩ := rep_lsk r
    exact .inl ⟨xs, e.seq h, by rw [show truD (.lsk ds) = !ds.isEmpty from rfl, isEmpty_len rs.len]⟩
def tTruU (K : PySem.W.Frag) (ta : TE) : TT := fun σ H Q => ta σ H fun x H' => ∃ k, TruV K x H' k ∧ Q k H'
theorem pt_tru {X : Cx} {a : Expr} (ha : PE X a ta) (he : ∀ whole, isTrue a X.env whole = (do let v ← whole; standAt a.pos; holding [v] (truthy v)) := by intro _; rfl) : PT X a (tTruU X.K ta) := pt_truth ha he
theorem at_tru (h : AE K te δ M fun d M' => TruOk d ∧ kb (truD d) M') : AT K (tTruU K te) δ M kb := fun σ G H Q rs s f =>
  h σ G H _ rs s fun x M1 vx G1 H1 ⟨o, h1⟩ s1 st1 r1 => ⟨truD x, truV_of s1.same o r1, f _ M1 G1 H1 h1 s1 st1⟩
/-! ### operations -/
theorem ar_int {g : Int → Int → Int} {a b : Int} (q : k (.int (g a b)) M) : AR K (rI0 fun i j => .int (g i j)) (.int a) (.int b) M k := fun vx vy G H Q rx ry s f =>
  ⟨a, b, rep_int rx, rep_int ry, f _ M _ G H q s Step.refl rep_of_int⟩
theorem ar_cmp {g : Int → Int → Bool} {a b : Int} (q : k (.bl (g a b)) M) : AR K (rI0 fun i j => .bl (g i j)) (.int a) (.int b) M k := fun vx vy G H Q rx ry s f =>
  ⟨a, b, rep_int rx, rep_int ry, f _ M _ G H q s Step.refl rep_of_bl⟩
theorem ar_intC {C : Int → Int → Prop} {g : Int → Int → Int} {a b : Int} (c : C a b) (q : k (.int (g a b)) M) : AR K (rI C fun i j => .int (g i j)) (.int a) (.int b) M k := fun vx vy G H Q rx ry s f =>
  ⟨a, b, rep_int rx, rep_int ry, c, f _ M _ G H q s Step.refl rep_of_int⟩
theorem ar_add {a b : Int} (q : k (.int (a + b)) M) : AR K (rI0 fun i j => .int (i + j)) (.int a) (.int b) M k := ar_int (g := fun i j => i + j) q
theorem ar_sub {a b : Int} (q : k (.int (a - b)) M) : AR K (rI0 fun i j => .int (i - j)) (.int a) (.int b) M k := ar_int (g := fun i j => i - j) q
theorem ar_or1 {r1 r2 : R2} (h : AR K r1 x y M k) : AR K (fun x y H Q => r1 x y H Q ∨ r2 x y H Q) x y M k := fun vx vy G H Q rx ry s f => .inl (h vx vy G H Q rx ry s f)
theorem ar_or2 {r1 r2 : R2} (h : AR K r2 x y M k) : AR K (fun x y H Q => r1 x y H Q ∨ r2 x y H Q) x y M k := fun vx vy G H Q rx ry s f => .inr (h vx vy G H Q rx ry s f)
theorem au_neg {a : Int} (q : k (.int (-a)) M) : AU K (rU fun i => .int (-i)) (.int a) M k := fun vx G H Q rx s f => ⟨a, rep_int rx, f _ M _ G H q s Step.refl rep_of_int⟩
/-- equality of two scalars -/
def sclD : D → D → Option Bool
  | .int a, .int b => some (decide (a = b))
  | .str a, .str b => some (decide (a = b))
  | .bl a, .bl b => some (decide (a = b))
  | .non, .non => some true
  | .non, .int _ => some false
  | .int _, .non => some false
  | .non, .str _ => some false
  | .str _, .non => some false
  | _, _ => none
theorem ar_eqD {b : Bool} (h : sclD x y = some b) (q : k (.bl b) M) : AR K rEq x y M k := fun vx vy G H Q rx ry s f => by
  have go : ∀ (c : Bool), scal vx vy = true → decide (vx = vy) = c → c = b → rEq vx vy H Q := fun c h1 h2 h3 => ⟨h1, by
    rw [h2, h3]
    exact f _ M _ G H q s Step.refl rep_of_bl⟩
  cases x <;> cases y <;> simp only [sclD, Option.some.injEq, reduceCtorEq] at h
  · rw [rep_non rx, rep_non ry] at go ⊢
    exact go true rfl (by simp) h
  · rename_i j
    rw [rep_non rx, rep_int ry] at go ⊢
    exact go false rfl (by simp) h
  · rename_i j
    rw [rep_non rx, rep_str ry] at go ⊢
    exact go false rfl (by simp) h
  · rename_i i j
    rw [rep_bl rx, rep_bl ry] at go ⊢
    exact go _ rfl (by simp) h
  · rw [rep_int rx, rep_non ry] at go ⊢
    exact go false rfl (by simp) h
  · rename_i i j
    rw [rep_int rx, rep_int ry] at go ⊢
    exact go _ rfl (by simp) h
  · rw [rep_str rx, rep_non ry] at go ⊢
    exact go false rfl (by simp) h
  · rename_i i j
    rw [rep_str rx, rep_str ry] at go ⊢
    exact go _ rfl (by simp) h
theorem ar_neD {b : Bool} (h : sclD x y = some b) (q : k (.bl (!b)) M) : AR K rNe x y M k := fun vx vy G H Q rx ry s f => by
  have go : ∀ (c : Bool), scal vx vy = true → decide (vx = vy) = c → c = b → rNe vx vy H Q := fun c h1 h2 h3 => ⟨h1, by
    rw [h2, h3]
    exact f _ M _ G H q s Step.refl rep_of_bl⟩
  cases x <;> cases y <;> simp only [sclD, Option.some.injEq, reduceCtorEq] at h
  · rw [rep_non rx, rep_non ry] at go ⊢
    exact go true rfl (by simp) h
  · rename_i j
    rw [rep_non rx, rep_int ry] at go ⊢
    exact go false rfl (by simp) h
  · rename_i j
    rw [rep_non rx, rep_str ry] at go ⊢
    exact go false rfl (by simp) h
  · rename_i i j
    rw [rep_bl rx, rep_bl ry] at go ⊢
    exact go _ rfl (by simp) h
  · rw [rep_int rx, rep_non ry] at go ⊢
    exact go false rfl (by simp) h
  · rename_i i j
    rw [rep_int rx, rep_int ry] at go ⊢
    exact go _ rfl (by simp) h
  · rw [rep_str rx, rep_non ry] at go ⊢
    exact go false rfl (by simp) h
  · rename_i i j
    rw [rep_str rx, rep_str ry] at go ⊢
    exact go _ rfl (by simp) h
def isNon : D → Bool
  | .non => true
  | _ => false
theorem isNon_of {G : Hp} {v : V} (r : Rep K G d v) : decide (v = V.non) = isNon d := by
  cases d with
  | non => rw [rep_non r]; rfl
  | bl b => rw [rep_bl r]; rfl
  | int i => rw [rep_int r]; rfl
  | str z => rw [rep_str r]; rfl
  | ty n => rw [rep_ty r]; rfl
  | ref a => rw [rep_ref r]; rfl
  | tup ds => obtain ⟨a, xs, rfl, _⟩ := rep_tup r; rfl
  | lst ds => obtain ⟨a, xs, rfl, _⟩ := rep_lst r; rfl
  | lsk ds => obtain ⟨a, xs, rfl, _⟩ := rep_lsk r; rfl
theorem ar_isN (q : k (.bl (isNon x)) M) : AR K rIsN x .non M k := fun vx vy G H Q rx ry s f => ⟨rep_non ry, by
  rw [isNon_of rx]
  exact f _ M _ G H q s Step.refl rep_of_bl⟩
theorem ar_notN (q : k (.bl (!isNon x)) M) : AR K rNotN x .non M k := fun vx vy G H Q rx ry s f => ⟨rep_non ry, by
  rw [isNon_of rx]
  exact f _ M _ G H q s Step.refl rep_of_bl⟩
/-! ### items -/
theorem atI_rep {G : Hp} {ds : List D} {xs : List V} {j : Int} (r : Reps K G ds xs) (h : atI ds j = some d) : ∃ v, atI xs j = some v ∧ Rep K G d v := by
  unfold atI at h ⊢
  rw [r.len]
  cases e : ixN ds.length j with
  | none => rw [e] at h; cases h
  | some m =>
    rw [e] at h
    exact r.get h
theorem ar_ixL {ds : List D} {j : Int} (h : atI ds j = some d) (q : k d M) : AR K (rIxL K) (.lst ds) (.int j) M k := fun vx vy G H Q rx ry s f => by
  obtain ⟨a, xs, rfl, ha, rs⟩ := rep_lst rx
  obtain ⟨v, e, rv⟩ := atI_rep rs h
  exact ⟨a, xs, j, v, rfl, rep_int ry, .inl (.inl (s.same _ _ ha)), e, f d M v G H q s Step.refl rv⟩
theorem ar_ixK {ds : List D} {j : Int} (h : atI ds j = some d) (q : k d M) : AR K (rIxL K) (.lsk ds) (.int j) M k := fun vx vy G H Q rx ry s f => by
  obtain ⟨a, xs, rfl, ha, rs⟩ := rep_lsk rx
  obtain ⟨v, e, rv⟩ := atI_rep rs h
  exact ⟨a, xs, j, v, rfl, rep_int ry, s.same.seq ha, e, f d M v G H q s Step.refl rv⟩
theorem ar_ixT {ds : List D} {j : Int} (h : atI ds j = some d) (q : k d M) : AR K (rIxT K) (.tup ds) (.int j) M k := fun vx vy G H Q rx ry s f => by
  obtain ⟨a, xs, rfl, ha, rs⟩ := rep_tup rx
  obtain ⟨v, e, rv⟩ := atI_rep rs h
  exact ⟨a, xs, j, v, rfl, rep_int ry, Same.seqT s.same ha, e, f d M v G H q s Step.refl rv⟩
theorem ar_ixS {z : Str} {j : Int} {c : Nat} (hz : z.length ≤ sizeLine) (h : atI z.cps.toList j = some c) (q : k (.str ⟨#[c]⟩) M) : AR K rIxS (.str z) (.int j) M k := fun vx vy G H Q rx ry s f =>
  ⟨z, j, c, rep_str rx, rep_int ry, hz, h, f _ M _ G H q s Step.refl rep_of_str⟩
/-- an item of a list that may change -/
theorem ar_ixM {a : Addr} {M1 M2 : Mu} {ds : List D} {j : Int} (e : M = M1 ++ (a, .lst ds) :: M2) (h : atI ds j = some d) (q : k d M) : AR K (rIxL K) (.ref a) (.int j) M k := fun vx vy G H Q rx ry s f => by
  obtain ⟨_, o, ho, r⟩ := s.mu (a, .lst ds) (by rw [e]; simp)
  obtain ⟨xs, rfl, rs⟩ := r
  obtain ⟨v, e2, rv⟩ := atI_rep rs h
  exact ⟨a, xs, j, v, rep_ref rx, rep_int ry, .inl (.inl ho), e2, f d M v G H q s Step.refl rv⟩
theorem aix_L {ds : List D} {j : Int} (h : atI ds j = some d) (q : k d M) : AR K (rIx K) (.lst ds) (.int j) M k := ar_or1 (ar_ixL h q)
theorem aix_K {ds : List D} {j : Int} (h : atI ds j = some d) (q : k d M) : AR K (rIx K) (.lsk ds) (.int j) M k := ar_or1 (ar_ixK h q)
theorem aix_T {ds : List D} {j : Int} (h : atI ds j = some d) (q : k d M) : AR K (rIx K) (.tup ds) (.int j) M k := ar_or2 (ar_or1 (ar_ixT h q))
theorem aix_S {z : Str} {j : Int} {c : Nat} (hz : z.length ≤ sizeLine) (h : atI z.cps.toList j = some c) (q : k (.str ⟨#[c]⟩) M) : AR K (rIx K) (.str z) (.int j) M k := ar_or2 (ar_or2 (ar_ixS hz h q))
theorem aix_M {a : Addr} {M1 M2 : Mu} {ds : List D} {j : Int} (e : M = M1 ++ (a, .lst ds) :: M2) (h : atI ds j = some d) (q : k d M) : AR K (rIx K) (.ref a) (.int j) M k := ar_or1 (ar_ixM e h q)
/-! ### arguments, calls -/
variable {kl : List D → Mu → Prop}
theorem aa_nil (q : kl [] M) : AA K tNil δ M kl := fun σ G H Q r s f => f [] M [] G H q s Step.refl Reps.nil
theorem aa_cons {tr : TA} (h : AE K te δ M fun d M1 => AA K tr δ M1 fun ds M2 => kl (d :: ds) M2) : AA K (tCons te tr) δ M kl := fun σ G H Q rs s f =>
  h σ G H _ rs s fun x M1 vx G1 H1 h1 s1 st1 r1 => h1 σ G1 H1 _ (rs.mono st1.gg) s1 fun ds M2 vs G2 H2 h2 s2 st2 r2 =>
    f (x :: ds) M2 (vx :: vs) G2 H2 h2 s2 (st1.trans st2) (Reps.cons (Rep.mono st2.gg _ _ r1) r2)
theorem ae_tup {ts : TA} (h : AA K ts δ M fun ds M1 => ds.length ≤ sizeLine ∧ k (.tup ds) M1) : AE K (tTup ts) δ M k := fun σ G H Q rs s f =>
  h σ G H _ rs s fun ds M1 vs G1 H1 ⟨hl, h1⟩ s1 st1 r1 => ⟨by rw [r1.len]; exact hl, fun p hp => by
    obtain ⟨s2, st2, e2⟩ := s1.frozen (o := .tup vs) hp
    exact f _ M1 _ _ _ h1 s2 (st1.trans st2) (rep_mk_tup (.inl (.inl upd_same)) (Reps.mono e2 _ _ r1))⟩
theorem ae_lst {ts : TA} (h : AA K ts δ M fun ds M1 => ds.length ≤ sizeLine ∧ k (.lst ds) M1) : AE K (tLst ts) δ M k := fun σ G H Q rs s f =>
  h σ G H _ rs s fun ds M1 vs G1 H1 ⟨hl, h1⟩ s1 st1 r1 => ⟨by rw [r1.len]; exact hl, fun p hp => by
    obtain ⟨s2, st2, e2⟩ := s1.frozen (o := .lst vs) hp
    exact f _ M1 _ _ _ h1 s2 (st1.trans st2) (rep_mk_lst upd_same (Reps.mono e2 _ _ r1))⟩
/-- a list that is to change -/
def tLstM (t : TA) : TE := tLst t
theorem pe_lstM {X : Cx} {es : List Expr} {t : TA} {pos : Pos} (h : PE X (.List es pos) (tLst t)) : PE X (.List es pos) (tLstM t) := h
theorem ae_lstM {ts : TA} (h : AA K ts δ M fun ds M1 => ds.length ≤ sizeLine ∧ ∀ a, k (.ref a) (M1 ++ [(a, .lst ds)])) : AE K (tLstM ts) δ M k := fun σ G H Q rs s f =>
  h σ G H _ rs s fun ds M1 vs G1 H1 ⟨hl, h1⟩ s1 st1 r1 => ⟨by rw [r1.len]; exact hl, fun p hp => by
    obtain ⟨s2, st2⟩ := s1.fresh (m := .lst ds) (o := .lst vs) hp ⟨vs, rfl, r1⟩
    exact f _ _ _ _ _ (h1 p) s2 (st1.trans st2) rep_of_ref⟩
theorem ae_cb {r : List V → Hp → VK → Prop} {ts : TA} (h : AA K ts δ M fun ds M1 => AC K r ds M1 k) : AE K (tCB r ts) δ M k := fun σ G H Q rs s f =>
  h σ G H _ rs s fun ds M1 vs G1 H1 h1 s1 st1 r1 => h1 vs G1 H1 Q r1 s1 fun d M3 v G3 H3 q s3 st3 r3 => f d M3 v G3 H3 q s3 (st1.trans st3) r3
theorem ac_or1 {r1 r2 : List V → Hp → VK → Prop} {xs : List D} (h : AC K r1 xs M k) : AC K (fun xs H Q => r1 xs H Q ∨ r2 xs H Q) xs M k := fun vs G H Q rx s f => .inl (h vs G H Q rx s f)
theorem ac_or2 {r1 r2 : List V → Hp → VK → Prop} {xs : List D} (h : AC K r2 xs M k) : AC K (fun xs H Q => r1 xs H Q ∨ r2 xs H Q) xs M k := fun vs G H Q rx s f => .inr (h vs G H Q rx s f)
/-! ### a def's promise over deep data -/
def Spc (K : PySem.W.Frag) (W : List D → Mu → (D → Mu → Prop) → Prop) : Sp := fun vs H Q _ => ∃ G ds M k, Reps K G ds vs ∧ S K G H M ∧ W ds M k ∧
  ∀ d M' v G' H', k d M' → S K G' H' M' → Step (ads M) G H (ads M') G' H' → Rep K G' d v → Q v H'
abbrev Wt := List D → Mu → (D → Mu → Prop) → Prop
theorem S.join {G H G' H' : Hp} {Mc R Mc' : Mu} (s : S K G H (Mc ++ R)) (s' : S K G' H' Mc') (st : Step (ads Mc) G H (ads Mc') G' H') :
    S K G' H' (Mc' ++ R) ∧ Step (ads (Mc ++ R)) G H (ads (Mc' ++ R)) G' H' := by
  have nd := s.nd
  rw [List.map_append, List.nodup_append] at nd
  obtain ⟨n1, n2, n3⟩ := nd
  have rout : ∀ p ∈ R, p.1 ∉ ads Mc := fun p hp z => n3 p.1 z p.1 (List.mem_map.mpr ⟨p, hp, rfl⟩) rfl
  have ral : ∀ p ∈ R, H p.1 ≠ none := fun p hp z => by
    obtain ⟨_, o, ho, _⟩ := s.mu p (List.mem_append_right _ hp)
    rw [z] at ho
    cases ho
  refine ⟨⟨s'.same, fun p hp => ?_, ?_⟩, ⟨st.gg, fun b hb hn => st.fr b hb fun z => hn ?_, fun b o hn e => st.keep b o (fun z => hn ?_) e, st.alive, fun b hb => ?_⟩⟩
  · rcases List.mem_append.mp hp with hp | hp
    · exact s'.mu p hp
    · obtain ⟨g1, o, ho, r⟩ := s.mu p (List.mem_append_right _ hp)
      exact ⟨by rw [st.fr _ (ral p hp) (rout p hp)]; exact g1, o, st.keep _ _ (rout p hp) ho, r.mono st.gg⟩
  · rw [List.map_append, List.nodup_append]
    refine ⟨s'.nd, n2, fun a ha b hb e => ?_⟩
    subst e
    obtain ⟨p, hp, rfl⟩ := List.mem_map.mp hb
    rcases st.own _ ha with q | q
    · exact rout p hp q
    · exact ral p hp q
  · simp only [ads, List.map_append, List.mem_append]
    exact .inl z
  · simp only [ads, List.map_append, List.mem_append]
    exact .inl z
  · simp only [ads, List.map_append, List.mem_append] at hb ⊢
    rcases hb with hb | hb
    · rcases st.own b hb with q | q
      · exact .inl (.inl q)
      · exact .inr q
    · exact .inl (.inr hb)
/-- a call of a def whose promise is W: Mc is what it may change, R what it does not see, kc what is known behind it -/
theorem ae_call {W : Wt} {E : XK} {ts : TA} (h : AA K ts δ M fun ds M1 => ∃ Mc R kc, M1 = Mc ++ R ∧ W ds Mc kc ∧ ∀ d Mc', kc d Mc' → k d (Mc' ++ R)) : AE K (tCall (Spc K W) [] E ts) δ M k := fun σ G H Q rs s f =>
  h σ G H _ rs s fun ds M1 vs G1 H1 ⟨Mc, R, kc, e, hw, hk⟩ s1 st1 r1 => by
    subst e
    refine ⟨G1, ds, Mc, kc, by rw [List.append_nil]; exact r1, s1.sub, hw, fun d M' v G' H' hd s' st' rv => ?_⟩
    obtain ⟨s2, st2⟩ := s1.join s' st'
    exact f d _ v G' H' (hk d M' hd) s2 (st1.trans st2) rv
/-- freezing, ahead of what follows -/
theorem k_freeze {a : Addr} {ds : List D} {M1 M2 : Mu} {te : TE} (h : AE K te δ M fun d M' => d = .ref a ∧ M' = M1 ++ (a, .lst ds) :: M2 ∧ k (.lst ds) (M1 ++ M2)) : AE K te δ M k := fun σ G H Q rs s f =>
  h σ G H _ rs s fun x M1 vx G1 H1 ⟨e1, e2, h1⟩ s1 st1 r1 => by
    subst e1 e2
    obtain ⟨xs, s2, st2, e3, r2⟩ := s1.freeze
    rw [rep_ref r1]
    exact f _ _ _ _ _ h1 s2 (st1.trans st2) r2
/-! ### targets -/
variable {kg : DS → Mu → Prop}
theorem ag_name (q : kg (δ.set i (some d)) M) : AG K (gName i) d δ M kg := fun v σ G H Q rv rs s f => f _ M _ G H q (rs.set i rv) s Step.refl
theorem ag_tup {n : Nat} {g : TGs} {ds : List D} (hl : ds.length = n) (h : AGs K g ds δ M kg) : AG K (gTup K n g) (.tup ds) δ M kg := fun v σ G H Q rv rs s f => by
  obtain ⟨a, xs, rfl, ha, rx⟩ := rep_tup rv
  exact ⟨a, xs, rfl, Same.seqT s.same ha, by rw [rx.len, hl], h xs σ G H Q rx rs s f⟩
theorem ags_nil (q : kg δ M) : AGs K gNil [] δ M kg := fun v σ G H Q rv rs s f => by
  unfold Reps at rv
  exact ⟨rv, f _ M _ G H q rs s Step.refl⟩
theorem ags_cons {t : TG} {u : TGs} {r : List D} (h : AG K t d δ M fun δ1 M1 => AGs K u r δ1 M1 kg) : AGs K (gCons t u) (d :: r) δ M kg := fun v σ G H Q rv rs s f => by
  obtain ⟨x, xs, rfl, r1, r2⟩ := rv.uncons
  exact ⟨x, xs, rfl, h x σ G H _ r1 rs s fun δ1 M1 σ1 G1 H1 h1 rs1 s1 st1 => h1 xs σ1 G1 H1 Q (Reps.mono st1.gg _ _ r2) rs1 s1 fun δ2 M2 σ2 G2 H2 h2 rs2 s2 st2 => f δ2 M2 σ2 G2 H2 h2 rs2 s2 (st1.trans st2)⟩
/-- a[j] = d, of a list that may change -/
def PutM (o i v : D) (M : Mu) (q : Mu → Prop) : Prop := ∃ a ds M1 M2 j n, o = .ref a ∧ i = .int j ∧ M = M1 ++ (a, .lst ds) :: M2 ∧ ixN ds.length j = some n ∧ q (M1 ++ (a, .lst (ds.set n v)) :: M2)
theorem ag_setL (h : AE K to δ M fun o M1 => AE K ti δ M1 fun j M2 => PutM o j d M2 fun M3 => kg δ M3) : AG K (gSub to ti rSetL) d δ M kg := fun v σ G H Q rv rs s f =>
  h σ G H _ rs s fun o M1 vo G1 H1 h1 s1 st1 r1 => h1 σ G1 H1 _ (rs.mono st1.gg) s1 fun j M2 vj G2 H2 h2 s2 st2 r2 => by
    obtain ⟨a, ds, N1, N2, jj, n, rfl, rfl, rfl, hn, q⟩ := h2
    obtain ⟨g0, o, ho, r⟩ := s2.mu (a, .lst ds) (by simp)
    obtain ⟨xs, rfl, rx⟩ := r
    obtain ⟨s3, st3⟩ := s2.write (o := .lst (xs.set n v)) (m' := .lst (ds.set n d)) ⟨_, rfl, Reps.set rx (Rep.mono (st1.trans st2).gg _ _ rv)⟩
    exact ⟨a, xs, jj, n, rep_ref r1, rep_int r2, ho, by rw [rx.len]; exact hn, f δ _ σ G2 _ q (rs.mono (st1.trans st2).gg) s3 ((st1.trans st2).trans st3)⟩
end
/-! ### statements -/
section
variable {K : PySem.W.Frag} {δ : DS} {M : Mu} {ta tb te to ti : TE} {i : Nat} {A : AEnds} {t u : TS} {tt : TT}
theorem Fit.go {M' : Mu} {G H G' H' : Hp} {E : Ends} (f : Fit K A M G H E) (st : Step (ads M) G H (ads M') G' H') : Fit K A M' G' H' E :=
  ⟨fun δ' M2 σ' G2 H2 a r s st2 => f.nx δ' M2 σ' G2 H2 a r s (st.trans st2), fun d M2 v G2 H2 a s st2 r => f.rt d M2 v G2 H2 a s (st.trans st2) r,
   fun δ' M2 σ' G2 H2 a r s st2 => f.bk δ' M2 σ' G2 H2 a r s (st.trans st2), fun δ' M2 σ' G2 H2 a r s st2 => f.ct δ' M2 σ' G2 H2 a r s (st.trans st2),
   fun fs M2 d G2 H2 a s st2 => f.xs fs M2 d G2 H2 a s (st.trans st2)⟩
theorem as_next (q : A.nx δ M) : AS K tNext δ M A := fun σ G H E rs s f => f.nx δ M σ G H q rs s Step.refl
theorem as_seq (h : AS K t δ M { A with nx := fun δ' M' => AS K u δ' M' A }) : AS K (tSeq t u) δ M A := fun σ G H E rs s f =>
  h σ G H { E with nx := u E } rs s ⟨fun δ' M' σ' G' H' a rs' s' st => a σ' G' H' E rs' s' (f.go st), f.rt, f.bk, f.ct, f.xs⟩
theorem as_asg {g : TG} (h : AE K te δ M fun d M1 => AG K g d δ M1 A.nx) : AS K (tAsg te g) δ M A := fun σ G H E rs s f =>
  h σ G H _ rs s fun d M1 v G1 H1 h1 s1 st1 r1 => h1 v σ G1 H1 E.nx r1 (rs.mono st1.gg) s1 fun δ' M' σ' G' H' a rs' s' st => f.nx δ' M' σ' G' H' a rs' s' (st1.trans st)
theorem as_set (h : AE K te δ M fun d M1 => A.nx (δ.set i (some d)) M1) : AS K (tAsg te (gName i)) δ M A := as_asg fun σ G H Q rs s f => h σ G H Q rs s fun d M' v G' H' q => f d M' v G' H' (ag_name q)
theorem as_ret (h : AE K te δ M A.rt) : AS K (tRet te) δ M A := fun σ G H E rs s f => h σ G H E.rt rs s fun d M1 v G1 H1 h1 s1 st1 r1 => f.rt d M1 v G1 H1 h1 s1 st1 r1
theorem as_retN (h : A.rt .non M) : AS K tRetN δ M A := fun σ G H E rs s f => f.rt .non M .non G H h s Step.refl rep_of_non
theorem as_if (h : AT K tt δ M fun b M1 => (b = true → AS K t δ M1 A) ∧ (b = false → AS K u δ M1 A)) : AS K (tIfS tt t u) δ M A := fun σ G H E rs s f =>
  h σ G H _ rs s fun b M1 G1 H1 ⟨h1, h2⟩ s1 st1 => by
    cases b with
    | true =>
      rw [if_pos rfl]
      exact h1 rfl σ G1 H1 E (rs.mono st1.gg) s1 (f.go st1)
    | false =>
      rw [if_neg Bool.false_ne_true]
      exact h2 rfl σ G1 H1 E (rs.mono st1.gg) s1 (f.go st1)
theorem as_drop (h : AE K te δ M fun _ M1 => A.nx δ M1) : AS K (tDrop te) δ M A := fun σ G H E rs s f => h σ G H _ rs s fun d M1 v G1 H1 h1 s1 st1 r1 => f.nx δ M1 σ G1 H1 h1 (rs.mono st1.gg) s1 st1
theorem as_brk (h : A.bk δ M) : AS K tBreak δ M A := fun σ G H E rs s f => f.bk δ M σ G H h rs s Step.refl
theorem as_cont (h : A.ct δ M) : AS K tCont δ M A := fun σ G H E rs s f => f.ct δ M σ G H h rs s Step.refl
theorem as_aug {r : TIp} {x : D} (hx : δ[i]? = some (some x)) (h : AE K te δ M fun y M1 => AR K r x y M1 fun z M2 => A.nx (δ.set i (some z)) M2) : AS K (tAug i te r) δ M A := fun σ G H E rs s f => by
  obtain ⟨v, e, rv⟩ := rs.at_ i x hx
  exact ⟨v, e, h σ G H _ rs s fun y M1 vy G1 H1 h1 s1 st1 r1 => h1 v vy G1 H1 _ (Rep.mono st1.gg _ _ rv) r1 s1 fun z M2 vz G2 H2 h2 s2 st2 r2 =>
    f.nx _ M2 _ G2 H2 h2 ((rs.mono (st1.trans st2).gg).set i r2) s2 (st1.trans st2)⟩
theorem as_while (I : Nat → DS → Mu → Prop) (m : Nat) (h0 : I m δ M) (h : ∀ m δ' M', I m δ' M' → AT K tt δ' M' fun b M1 => (b = true → AS K t δ' M1 { A with nx := fun δ2 M2 => ∃ m', m' < m ∧ I m' δ2 M2, ct := fun δ2 M2 => ∃ m', m' < m ∧ I m' δ2 M2, bk := A.nx }) ∧ (b = false → A.nx δ' M1)) : AS K (tWhile tt t) δ M A := fun σ G H E rs s f =>
  ⟨fun m σ' H' => ∃ δ' M' G', I m δ' M' ∧ RelS K G' δ' σ' ∧ S K G' H' M' ∧ Step (ads M) G H (ads M') G' H', ⟨m, δ, M, G, h0, rs, s, Step.refl⟩, fun m σ' H' ⟨δ', M', G', hI, rs', s', st'⟩ =>
    h m δ' M' hI σ' G' H' _ rs' s' fun b M1 G1 H1 ⟨h1, h2⟩ s1 st1 => by
      cases b with
      | true =>
        rw [if_pos rfl]
        refine ⟨fun σ2 H2 => ∃ m', m' < m ∧ ∃ δ' M' G', I m' δ' M' ∧ RelS K G' δ' σ2 ∧ S K G' H2 M' ∧ Step (ads M) G H (ads M') G' H2, fun σ2 H2 ⟨m', hm, q⟩ => ⟨m', hm, q⟩, ?_⟩
        refine h1 rfl σ' G1 H1 _ (rs'.mono st1.gg) s1 ⟨?_, ?_, ?_, ?_, ?_⟩
        · rintro δ2 M2 σ2 G2 H2 ⟨m', hm, q⟩ rs2 s2 st2
          exact ⟨m', hm, δ2, M2, G2, q, rs2, s2, (st'.trans st1).trans st2⟩
        · intro d M2 v G2 H2 q s2 st2 r2
          exact f.rt d M2 v G2 H2 q s2 ((st'.trans st1).trans st2) r2
        · intro δ2 M2 σ2 G2 H2 q rs2 s2 st2
          exact f.nx δ2 M2 σ2 G2 H2 q rs2 s2 ((st'.trans st1).trans st2)
        · rintro δ2 M2 σ2 G2 H2 ⟨m', hm, q⟩ rs2 s2 st2
          exact ⟨m', hm, δ2, M2, G2, q, rs2, s2, (st'.trans st1).trans st2⟩
        · intro fs M2 d G2 H2 q s2 st2
          exact f.xs fs M2 d G2 H2 q s2 ((st'.trans st1).trans st2)
      | false =>
        rw [if_neg Bool.false_ne_true]
        exact f.nx δ' M1 σ' G1 H1 (h2 rfl) (rs'.mono st1.gg) s1 (st'.trans st1)⟩
theorem as_for {wi : TI} {g : TG} (h : AI K wi δ M fun ds M1 => ∃ I : Nat → DS → Mu → Prop, I 0 δ M1 ∧
      (∀ i d δ' M', ds[i]? = some d → I i δ' M' → AG K g d δ' M' fun δ2 M2 => AS K t δ2 M2 { A with nx := I (i + 1), ct := I (i + 1), bk := A.nx }) ∧
      (∀ δ' M', I ds.length δ' M' → A.nx δ' M')) : AS K (tFor wi g t) δ M A := fun σ G H E rs s f =>
  h σ G H _ rs s fun ds M1 G1 H1 J ⟨I, h0, hs, he⟩ s1 st1 ok => by
    refine ⟨fun i m σ' H' => m = ds.length - i ∧ i ≤ ds.length ∧ ∃ δ' M' G', I i δ' M' ∧ RelS K G' δ' σ' ∧ S K G' H' M' ∧ Step (ads M1) G1 H1 (ads M') G' H', ⟨ds.length, by simp, Nat.zero_le _, δ, M1, G1, h0, rs.mono st1.gg, s1, Step.refl⟩, ?_⟩
    rintro i m σ' H' ⟨rfl, hi, δ', M', G', hI, rs', s', st'⟩
    obtain ⟨o1, o2⟩ := ok i G' H' M' st'.gg s'
    by_cases hl : i < ds.length
    · obtain ⟨hgo, hy⟩ := o1 ds[i] (List.getElem?_eq_getElem hl)
      refine .inr ⟨hgo, fun σ2 H2 => ∃ δ' M' G', I (i + 1) δ' M' ∧ RelS K G' δ' σ2 ∧ S K G' H2 M' ∧ Step (ads M1) G1 H1 (ads M') G' H2, fun σ2 H2 q => ⟨ds.length - (i + 1), by omega, rfl, hl, q⟩, fun x H2 y => ?_⟩
      obtain ⟨G2, s2, st2, r2⟩ := hy x H2 y
      refine hs i ds[i] δ' M' (List.getElem?_eq_getElem hl) hI x σ' G2 H2 _ r2 (rs'.mono st2.gg) s2 fun δ3 M3 σ3 G3 H3 h3 rs3 s3 st3 => ?_
      refine h3 σ3 G3 H3 _ rs3 s3 ⟨?_, ?_, ?_, ?_, ?_⟩
      · intro δ4 M4 σ4 G4 H4 q rs4 s4 st4
        exact ⟨δ4, M4, G4, q, rs4, s4, ((st'.trans st2).trans st3).trans st4⟩
      · intro d M4 v G4 H4 q s4 st4 r4
        exact f.rt d M4 v G4 H4 q s4 (st1.trans (((st'.trans st2).trans st3).trans st4)) r4
      · intro δ4 M4 σ4 G4 H4 q rs4 s4 st4
        exact f.nx δ4 M4 σ4 G4 H4 q rs4 s4 (st1.trans (((st'.trans st2).trans st3).trans st4))
      · intro δ4 M4 σ4 G4 H4 q rs4 s4 st4
        exact ⟨δ4, M4, G4, q, rs4, s4, ((st'.trans st2).trans st3).trans st4⟩
      · intro fs M4 d G4 H4 q s4 st4
        exact f.xs fs M4 d G4 H4 q s4 (st1.trans (((st'.trans st2).trans st3).trans st4))
    · have e : i = ds.length := by omega
      subst e
      exact .inl ⟨o2 rfl, f.nx δ' M' σ' G' H' (he δ' M' hI) rs' s' (st1.trans st')⟩
/-- the freezing of a slot -/
theorem as_freeze {a : Addr} {ds : List D} {M1 M2 : Mu} (hi : δ[i]? = some (some (.ref a))) (e : M = M1 ++ (a, .lst ds) :: M2) (h : AS K t (δ.set i (some (.lst ds))) (M1 ++ M2) A) : AS K t δ M A := fun σ G H E rs s f => by
  subst e
  obtain ⟨xs, s2, st2, e3, r2⟩ := s.freeze
  obtain ⟨v, hv, rv⟩ := rs.at_ i _ hi
  rw [rep_ref rv] at hv
  exact h σ _ H E ((rs.mono e3).setD i hv r2) s2 (f.go st2)
/-- what follows, by another word -/
theorem AS.mono {A' : AEnds} (h : AS K t δ M A') (h1 : ∀ δ M, A'.nx δ M → A.nx δ M) (h2 : ∀ d M, A'.rt d M → A.rt d M) (h3 : ∀ δ M, A'.bk δ M → A.bk δ M) (h4 : ∀ δ M, A'.ct δ M → A.ct δ M) (h5 : ∀ fs M, A'.xs fs M → A.xs fs M) (h6 : ∀ d H, A.W d H → A'.W d H) : AS K t δ M A := fun σ G H E rs s f =>
  h σ G H E rs s ⟨fun δ' M' σ' G' H' q => f.nx δ' M' σ' G' H' (h1 _ _ q), fun d M' v G' H' q => f.rt d M' v G' H' (h2 _ _ q), fun δ' M' σ' G' H' q => f.bk δ' M' σ' G' H' (h3 _ _ q), fun δ' M' σ' G' H' q => f.ct δ' M' σ' G' H' (h4 _ _ q), fun fs M' d G' H' q s' st => h6 _ _ (f.xs fs M' d G' H' (h5 _ _ q) s' st)⟩
end
end Tg
set_option Elab.async false
set_option linter.all false
set_option maxRecDepth 100000
set_option maxHeartbeats 1000000
namespace Tg
open PySem L2 PyProof.Rows
/-! ### what is walked -/
section
variable {K : PySem.W.Frag} {G : Hp}
theorem itOk_list {a : Addr} {xs : List V} {ds : List D} (h : SqL K G a xs) (r : Reps K G ds xs) : ItOk K (Itl K a) G ds := fun i G1 H1 M e s => by
  have hq : SqL K H1 a xs := s.same.seq (e.seq h)
  refine ⟨fun d hd => ?_, fun hi => ⟨xs, hq, by rw [r.len, hi]; exact Nat.le_refl _⟩⟩
  obtain ⟨x, hx, rx⟩ := r.get hd
  refine ⟨⟨xs, x, hq, hx⟩, fun y H' hy => ?_⟩
  obtain ⟨rfl, hy⟩ := hy
  have e2 : x = y := Option.some.inj (hx.symm.trans (hy xs hq))
  subst e2
  exact ⟨G1, s, Step.refl, Rep.mono e _ _ rx⟩
theorem itOk_tup {a : Addr} {xs : List V} {ds : List D} (h : SqT K G a xs) (r : Reps K G ds xs) : ItOk K (Itt K a) G ds := fun i G1 H1 M e s => by
  have hq : SqT K H1 a xs := Same.seqT s.same (Same.seqT e h)
  refine ⟨fun d hd => ?_, fun hi => ⟨xs, hq, by rw [r.len, hi]; exact Nat.le_refl _⟩⟩
  obtain ⟨x, hx, rx⟩ := r.get hd
  refine ⟨⟨xs, x, hq, hx⟩, fun y H' hy => ?_⟩
  obtain ⟨rfl, hy⟩ := hy
  have e2 : x = y := Option.some.inj (hx.symm.trans (hy xs hq))
  subst e2
  exact ⟨G1, s, Step.refl, Rep.mono e _ _ rx⟩
/-- the ints from lo on -/
def rng (lo : Int) (n : Nat) : List D := (List.range n).map fun i => .int (lo + (i : Nat))
theorem rng_len (lo : Int) (n : Nat) : (rng lo n).length = n := by simp [rng]
theorem rng_get {lo : Int} {n i : Nat} {d : D} (h : (rng lo n)[i]? = some d) : i < n ∧ d = .int (lo + (i : Nat)) := by
  unfold rng at h
  rw [List.getElem?_map] at h
  by_cases hi : i < n
  · rw [List.getElem?_range hi] at h
    exact ⟨hi, by simpa using h.symm⟩
  · rw [List.getElem?_eq_none (by simpa using hi)] at h
    cases h
theorem itOk_rng {lo : Int} {n : Nat} : ItOk K (Itr lo n) G (rng lo n) := fun i G1 H1 M e s => by
  refine ⟨fun d hd => ?_, fun hi => ?_⟩
  · obtain ⟨hi, rfl⟩ := rng_get hd
    refine ⟨hi, fun y H' hy => ?_⟩
    obtain ⟨rfl, rfl⟩ := hy
    exact ⟨G1, s, Step.refl, rep_of_int⟩
  · rw [rng_len] at hi
    exact Nat.le_of_eq hi.symm
def signs (z : Str) : List D := z.cps.toList.map fun c => .str ⟨#[c]⟩
theorem itOk_str {z : Str} : ItOk K (Its z) G (signs z) := fun i G1 H1 M e s => by
  refine ⟨fun d hd => ?_, fun hi => ?_⟩
  · unfold signs at hd
    rw [List.getElem?_map] at hd
    cases hc : z.cps.toList[i]? with
    | none => rw [hc] at hd; cases hd
    | some c =>
      rw [hc] at hd
      have e1 : D.str ⟨#[c]⟩ = d := by simpa using hd
      subst e1
      have hi : i < z.cps.size := by
        have h2 := (List.getElem?_eq_some_iff.mp hc).1
        simpa using h2
      refine ⟨hi, fun y H' hy => ?_⟩
      obtain ⟨rfl, c', h1, rfl⟩ := hy
      have e2 : c = c' := by
        have h3 : z.cps[i]? = some c := by simpa using hc
        rw [h1] at h3
        exact (Option.some.inj h3).symm
      subst e2
      exact ⟨G1, s, Step.refl, rep_of_str⟩
  · have h2 : z.cps.size ≤ i := by
      rw [hi]
      simp [signs]
    exact h2
/-- pairs of a number and an item -/
def enumD (ds : List D) : List D := ds.zipIdx.map fun p => .tup [.int (p.2 : Nat), p.1]
theorem itOk_enum {a : Addr} {xs : List V} {ds : List D} (h : SqL K G a xs) (r : Reps K G ds xs) : ItOk K (Ite K a) G (enumD ds) := fun i G1 H1 M e s => by
  have hq : SqL K H1 a xs := s.same.seq (e.seq h)
  refine ⟨fun d hd => ?_, fun hi => ⟨xs, hq, by rw [r.len, hi]; simp [enumD]⟩⟩
  unfold enumD at hd
  rw [List.getElem?_map, List.getElem?_zipIdx] at hd
  cases hc : ds[i]? with
  | none => rw [hc] at hd; cases hd
  | some c =>
    rw [hc] at hd
    have e1 : D.tup [.int ((0 + i : Nat) : Int), c] = d := by simpa using hd
    rw [Nat.zero_add] at e1
    subst e1
    obtain ⟨x, hx, rx⟩ := r.get hc
    refine ⟨⟨xs, x, hq, hx⟩, fun y H' hy => ?_⟩
    obtain ⟨T, x', rfl, nT, rfl, hy⟩ := hy
    have e2 : x = x' := Option.some.inj (hx.symm.trans (hy xs hq))
    subst e2
    obtain ⟨s2, st2, e3⟩ := s.frozen (o := .tup [.int (i : Nat), x]) nT
    exact ⟨_, s2, st2, rep_mk_tup (.inl (.inl upd_same)) (Reps.cons rep_of_int (Reps.one (Rep.mono (e.trans e3) _ _ rx)))⟩
end
/-- a list, a tuple, a text -/
def iSeq (K : PySem.W.Frag) (tl : TE) : TI := fun σ H R => tl σ H fun x H1 => (∃ a, x = .ref a ∧ (∃ xs, SqL K H1 a xs) ∧ R (Itl K a) H1) ∨ (∃ a, x = .ref a ∧ (∃ xs, SqT K H1 a xs) ∧ R (Itt K a) H1) ∨ (∃ z, x = .str z ∧ R (Its z) H1)
theorem pi_seq {X : Cx} {tg l : Expr} {tl : TE} (hl : PE X l tl) : PI X tg l (iSeq X.K tl) := by
  refine ⟨fun pins s σ H R I h => ?_⟩
  refine thn (hl.run pins s σ H _ I h) fun v s1 ⟨x, H1, I1, r1, q1⟩ => ?_
  rcases q1 with ⟨a, e, ⟨xs, hq⟩, q⟩ | ⟨a, e, ⟨xs, hq⟩, q⟩ | ⟨z, e, q⟩
  · subst e
    cases r1
    obtain ⟨its, rv, p, hz⟩ := I1.list hq
    refine wpAny_pyIter_list p.isList ?_
    refine ⟨s1.heap.objs.size, [s1.heap.objs.size], _, _, H1, rfl, I1.kept (t' := s1.toks) fun b o e => Heap.get?_push_of_some _ e, turn_list a _, ⟨_, Heap.get?_push_size _ rfl, rfl, rfl⟩, fun b hb => ?_, q⟩
    have e : b = s1.heap.objs.size := by simpa using hb
    subst e
    exact I1.fpOk (Nat.le_refl _) (I1.hok.fresh (Nat.le_refl _))
  · subst e
    cases r1
    obtain ⟨its, rv, p, hz⟩ := I1.tuple hq
    refine wpAny_pyIter_tuple (show s1.heap.IsTuple a its.toArray from p) ?_
    refine ⟨s1.heap.objs.size, [s1.heap.objs.size], _, _, H1, rfl, I1.kept (t' := s1.toks) fun b o e => Heap.get?_push_of_some _ e, turn_tuple a _, ⟨_, Heap.get?_push_size _ rfl, rfl, rfl⟩, fun b hb => ?_, q⟩
    have e : b = s1.heap.objs.size := by simpa using hb
    subst e
    exact I1.fpOk (Nat.le_refl _) (I1.hok.fresh (Nat.le_refl _))
  · subst e
    obtain ⟨t, rfl⟩ := r1
    cases ha : z.cps.all (· < 128)
    · exact wpAny_pyIter_wide ha (pi_one (tk := s1.toks) I1 _ (turn_str _ z t "str_iterator" (.inr rfl)) ⟨_, Heap.get?_push_size _ rfl, rfl, rfl⟩ q)
    · exact wpAny_pyIter_ascii ha (pi_one (tk := s1.toks) I1 _ (turn_str _ z t "str_ascii_iterator" (.inl rfl)) ⟨_, Heap.get?_push_size _ rfl, rfl, rfl⟩ q)
/-- the items of a deep value -/
def itemsD : D → Option (List D)
  | .lst ds => some ds
  | .lsk ds => some ds
  | .tup ds => some ds
  | .str z => some (signs z)
  | _ => none
section
variable {K : PySem.W.Frag} {δ : DS} {M : Mu} {ta tb te tl : TE} {k : D → Mu → Prop} {ki : List D → Mu → Prop}
theorem ai_seq (h : AE K tl δ M fun d M1 => ∃ ds, itemsD d = some ds ∧ ki ds M1) : AI K (iSeq K tl) δ M ki := fun σ G H R rs s f =>
  h σ G H _ rs s fun d M1 v G1 H1 ⟨ds, e, h1⟩ s1 st1 r1 => by
    cases d <;> simp only [itemsD, Option.some.injEq, reduceCtorEq] at e
    · subst e
      rw [rep_str r1]
      exact .inr (.inr ⟨_, rfl, f _ M1 G1 H1 _ h1 s1 st1 itOk_str⟩)
    · subst e
      obtain ⟨a, xs, rfl, ha, rx⟩ := rep_tup r1
      exact .inr (.inl ⟨a, rfl, ⟨xs, Same.seqT s1.same ha⟩, f _ M1 G1 H1 _ h1 s1 st1 (itOk_tup ha rx)⟩)
    · subst e
      obtain ⟨a, xs, rfl, ha, rx⟩ := rep_lst r1
      exact .inl ⟨a, rfl, ⟨xs, .inl (.inl (s1.same _ _ ha))⟩, f _ M1 G1 H1 _ h1 s1 st1 (itOk_list (.inl (.inl ha)) rx)⟩
    · subst e
      obtain ⟨a, xs, rfl, ha, rx⟩ := rep_lsk r1
      exact .inl ⟨a, rfl, ⟨xs, s1.same.seq ha⟩, f _ M1 G1 H1 _ h1 s1 st1 (itOk_list ha rx)⟩
theorem ai_range1 {ts : TA} (h : AA K ts δ M fun ds M1 => ∃ j : Int, ds = [.int j] ∧ -(2 ^ 62) ≤ j ∧ j < 2 ^ 62 ∧ ki (rng 0 j.toNat) M1) : AI K (iRng1 ts) δ M ki := fun σ G H R rs s f =>
  h σ G H _ rs s fun ds M1 vs G1 H1 ⟨j, e, h2, h3, h1⟩ s1 st1 r1 => by
    subst e
    obtain ⟨x, r, rfl, rx, rr⟩ := r1.uncons
    unfold Reps at rr
    subst rr
    exact ⟨j, by rw [rep_int rx], h2, h3, f _ M1 G1 H1 _ h1 s1 st1 itOk_rng⟩
theorem ai_range2 {ts : TA} (h : AA K ts δ M fun ds M1 => ∃ i j : Int, ds = [.int i, .int j] ∧ (-(2 ^ 62) ≤ i ∧ i < 2 ^ 62 ∧ -(2 ^ 62) ≤ j ∧ j < 2 ^ 62) ∧ ki (rng i (j - i).toNat) M1) : AI K (iRng2 ts) δ M ki := fun σ G H R rs s f =>
  h σ G H _ rs s fun ds M1 vs G1 H1 ⟨i, j, e, h2, h1⟩ s1 st1 r1 => by
    subst e
    obtain ⟨x, r, rfl, rx, rr⟩ := r1.uncons
    obtain ⟨y, r2, rfl, ry, rr⟩ := rr.uncons
    unfold Reps at rr
    subst rr
    exact ⟨i, j, by rw [rep_int rx, rep_int ry], h2, f _ M1 G1 H1 _ h1 s1 st1 itOk_rng⟩
/-! ### comprehensions -/
def wipeD (δ : DS) : List Nat → DS
  | [] => δ
  | v :: vs => (wipeD δ vs).set v none
theorem relS_wipe {G : Hp} {σ : L2.St} (r : RelS K G δ σ) : ∀ vs : List Nat, RelS K G (wipeD δ vs) (wipe σ vs)
  | [] => r
  | v :: vs => (relS_wipe r vs).drop v
/-- the target of a comprehension stores into the wiped slots alone -/
structure OwnG (vs : List Nat) (g : TG) : Prop where
  run : ∀ x σ H (Q : L2.St → Hp → Prop), g x σ H Q → g x σ H fun σ2 H2 => wipe σ2 vs = wipe σ vs ∧ Q σ2 H2
theorem wipe_set {σ : L2.St} {i : Nat} {v : Option V} : ∀ {vs : List Nat}, i ∈ vs → wipe (σ.set i v) vs = wipe σ vs
  | w :: vs, h => by
    show (wipe (σ.set i v) vs).set w none = (wipe σ vs).set w none
    by_cases hi : i ∈ vs
    · rw [wipe_set hi]
    · have e : i = w := by
        rcases List.mem_cons.mp h with e | e
        · exact e
        · exact absurd e hi
      subst e
      have aux : ∀ us : List Nat, (wipe (σ.set i v) us).set i none = (wipe σ us).set i none := by
        intro us
        induction us with
        | nil => show (σ.set i v).set i none = σ.set i none; rw [List.set_set]
        | cons u us ih =>
          show ((wipe (σ.set i v) us).set u none).set i none = ((wipe σ us).set u none).set i none
          by_cases hu : u = i
          · subst hu
            rw [List.set_set, List.set_set]
            exact ih
          · rw [List.set_comm _ _ hu, List.set_comm _ _ hu, ih]
      exact aux vs
theorem wipe_wipe {σ : L2.St} : ∀ vs : List Nat, wipe (wipe σ vs) vs = wipe σ vs := by
  have aux : ∀ (us vs : List Nat), (∀ u ∈ us, u ∈ vs) → wipe (wipe σ us) vs = wipe σ vs := by
    intro us
    induction us with
    | nil => intro vs _; rfl
    | cons u us ih =>
      intro vs h
      show wipe ((wipe σ us).set u none) vs = wipe σ vs
      rw [wipe_set (h u (by simp))]
      exact ih vs fun w hw => h w (List.mem_cons_of_mem _ hw)
  exact fun vs => aux vs vs fun _ h => h
theorem ownG_name {i : Nat} {vs : List Nat} (h : i ∈ vs) : OwnG vs (gName i) := ⟨fun x σ H Q q => ⟨wipe_set h, q⟩⟩
/-- several names -/
structure OwnGs (vs : List Nat) (g : TGs) : Prop where
  run : ∀ xs σ H (Q : L2.St → Hp → Prop), g xs σ H Q → g xs σ H fun σ2 H2 => wipe σ2 vs = wipe σ vs ∧ Q σ2 H2
theorem ownGs_nil {vs : List Nat} : OwnGs vs gNil := ⟨fun xs σ H Q ⟨e, q⟩ => ⟨e, rfl, q⟩⟩
theorem ownGs_cons {i : Nat} {vs : List Nat} {u : TGs} (h : i ∈ vs) (hu : OwnGs vs u) : OwnGs vs (gCons (gName i) u) := ⟨fun xs σ H Q ⟨v, r, e, q⟩ => ⟨v, r, e, by
  have q2 : u r (σ.set i (some v)) H Q := q
  have q3 := hu.run r (σ.set i (some v)) H Q q2
  rw [wipe_set h] at q3
  exact q3⟩⟩
theorem ownG_tup {n : Nat} {vs : List Nat} {u : TGs} (hu : OwnGs vs u) : OwnG vs (gTup K n u) := ⟨fun x σ H Q ⟨a, xs, e, hs, hl, q⟩ => ⟨a, xs, e, hs, hl, hu.run xs σ H Q q⟩⟩
theorem ae_lc {wi : TI} {g : TG} {tt : TT} {vs : List Nat} (og : OwnG vs g) (h : AI K wi δ M fun ds M1 => ds.length < sizeLine ∧ ∃ I : Nat → List D → Mu → Prop, I 0 [] M1 ∧
      (∀ i d acc M', ds[i]? = some d → I i acc M' → AG K g d (wipeD δ vs) M' fun δ2 M2 => AT K tt δ2 M2 fun b M3 => (b = true → AE K te δ2 M3 fun y M4 => I (i + 1) (acc ++ [y]) M4) ∧ (b = false → I (i + 1) acc M3)) ∧
      (∀ acc M', I ds.length acc M' → k (.lst acc) M')) : AE K (tLc wi g tt te vs) δ M k := fun σ G H Q rs s f =>
  h σ G H _ rs s fun ds M1 G1 H1 J ⟨hz, I, h0, hs, he⟩ s1 st1 ok Dl nD => by
    have gD : G1 Dl = none := s1.same.free nD
    have nM : ∀ p ∈ M1, p.1 ≠ Dl := fun p hp => by
      obtain ⟨_, o, ho, _⟩ := s1.mu p hp
      exact ne_of_none ho nD
    -- the state behind i turns; the list at Dl beside
    refine ⟨fun i m H' => m = ds.length - i ∧ i ≤ ds.length ∧ ∃ acc xs M' G', acc.length ≤ i ∧ I i acc M' ∧ H' Dl = some (.lst xs) ∧ Reps K G' acc xs ∧ G' Dl = none ∧ Dl ∉ ads M' ∧ S K G' H' M' ∧ Step (ads M1) G1 H1 (ads M') G' H',
      ⟨ds.length, by simp, Nat.zero_le _, [], [], M1, G1, Nat.le_refl _, h0, upd_same, Reps.nil, gD, fun z => ?_, ?_, ?_⟩, ?_⟩
    · obtain ⟨p, hp, e⟩ := List.mem_map.mp z
      exact nM p hp e
    · refine ⟨fun b u e => ?_, fun p hp => ?_, s1.nd⟩
      · rw [upd_ne (ne_of_none e gD)]
        exact s1.same b u e
      · obtain ⟨g1, o, ho, r⟩ := s1.mu p hp
        exact ⟨g1, o, by rw [upd_ne (nM p hp)]; exact ho, r⟩
    · refine ⟨Same.refl _, fun _ _ _ => rfl, fun b o _ e => ?_, fun b e => ?_, fun b hb => .inl hb⟩
      · rw [upd_ne (ne_of_none e nD)]
        exact e
      · by_cases hb : b = Dl
        · subst hb
          rw [upd_same]
          exact fun z => nomatch z
        · rw [upd_ne hb]
          exact e
    rintro i m H' ⟨rfl, hi, acc, xs, M', G', hal, hI, hD, rx, gD', nD', s', st'⟩
    obtain ⟨o1, o2⟩ := ok i G' H' M' st'.gg s'
    by_cases hl : i < ds.length
    · obtain ⟨hgo, hy⟩ := o1 ds[i] (List.getElem?_eq_getElem hl)
      -- the list at Dl beside any further step
      have beside : ∀ {A2 : List Addr} {G2 H2 : Hp}, Step (ads M') G' H' A2 G2 H2 → H2 Dl = some (.lst xs) ∧ G2 Dl = none ∧ Dl ∉ A2 := fun {A2 G2 H2} st => by
        refine ⟨st.keep _ _ nD' hD, ?_, fun z => ?_⟩
        · rw [st.fr Dl (by rw [hD]; exact fun z => nomatch z) nD']
          exact gD'
        · rcases st.own _ z with q | q
          · exact nD' q
          · rw [hD] at q
            cases q
      refine .inr ⟨hgo, fun H2 => ∃ acc xs M' G', acc.length ≤ i + 1 ∧ I (i + 1) acc M' ∧ H2 Dl = some (.lst xs) ∧ Reps K G' acc xs ∧ G' Dl = none ∧ Dl ∉ ads M' ∧ S K G' H2 M' ∧ Step (ads M1) G1 H1 (ads M') G' H2, fun H2 q => ⟨ds.length - (i + 1), by omega, rfl, hl, q⟩, fun x H2 y => ?_⟩
      obtain ⟨G2, s2, st2, r2⟩ := hy x H2 y
      have rsw : RelS K G2 (wipeD δ vs) (wipe σ vs) := relS_wipe (rs.mono (st1.gg.trans (st'.gg.trans st2.gg))) vs
      have body := hs i ds[i] acc M' (List.getElem?_eq_getElem hl) hI x (wipe σ vs) G2 H2 (fun σ2 H3 => tt σ2 H3 fun b H4 =>
        if b = true then te σ2 H4 fun y H5 => ∃ acc, H5 Dl = some (.lst acc) ∧ acc.length < sizeLine ∧ (fun H2 => ∃ acc xs M' G', acc.length ≤ i + 1 ∧ I (i + 1) acc M' ∧ H2 Dl = some (.lst xs) ∧ Reps K G' acc xs ∧ G' Dl = none ∧ Dl ∉ ads M' ∧ S K G' H2 M' ∧ Step (ads M1) G1 H1 (ads M') G' H2) (upd H5 Dl (.lst (acc ++ [y])))
        else (fun H2 => ∃ acc xs M' G', acc.length ≤ i + 1 ∧ I (i + 1) acc M' ∧ H2 Dl = some (.lst xs) ∧ Reps K G' acc xs ∧ G' Dl = none ∧ Dl ∉ ads M' ∧ S K G' H2 M' ∧ Step (ads M1) G1 H1 (ads M') G' H2) H4) r2 rsw s2 ?_
      · have fin := og.run x (wipe σ vs) H2 _ body
        rw [wipe_wipe] at fin
        exact fin
      · intro δ3 M3 σ3 G3 H3 h3 rs3 s3 st3
        refine h3 σ3 G3 H3 _ rs3 s3 fun b M4 G4 H4 ⟨h4, h5⟩ s4 st4 => ?_
        cases b with
        | true =>
          rw [if_pos rfl]
          refine h4 rfl σ3 G4 H4 _ (rs3.mono st4.gg) s4 fun y M5 vy G5 H5 q5 s5 st5 r5 => ?_
          have sta := ((st2.trans st3).trans st4).trans st5
          obtain ⟨b1, b2, b3⟩ := beside sta
          refine ⟨xs, b1, by rw [rx.len]; exact Nat.lt_of_le_of_lt hal (Nat.lt_of_lt_of_le hl (Nat.le_of_lt hz)), acc ++ [y], xs ++ [vy], M5, G5, by rw [List.length_append]; exact Nat.succ_le_succ hal, q5, upd_same, (Reps.mono sta.gg _ _ rx).append (Reps.one r5), b2, b3, ?_, ?_⟩
          · refine ⟨fun c u e => ?_, fun p hp => ?_, s5.nd⟩
            · rw [upd_ne (ne_of_none e b2)]
              exact s5.same c u e
            · obtain ⟨g1, o, ho, r⟩ := s5.mu p hp
              exact ⟨g1, o, by rw [upd_ne (fun z => b3 (List.mem_map.mpr ⟨p, hp, z⟩))]; exact ho, r⟩
          · have stb := st'.trans sta
            refine ⟨stb.gg, stb.fr, fun c o hc e => ?_, fun c e => ?_, stb.own⟩
            · rw [upd_ne (ne_of_none e nD)]
              exact stb.keep c o hc e
            · by_cases hcD : c = Dl
              · subst hcD
                rw [upd_same]
                exact fun z => nomatch z
              · rw [upd_ne hcD]
                exact stb.alive c e
        | false =>
          rw [if_neg Bool.false_ne_true]
          have sta := (st2.trans st3).trans st4
          obtain ⟨b1, b2, b3⟩ := beside sta
          exact ⟨acc, xs, M4, G4, Nat.le_succ_of_le hal, h5 rfl, b1, Reps.mono sta.gg _ _ rx, b2, b3, s4, st'.trans sta⟩
    · have e : i = ds.length := by omega
      subst e
      refine .inl ⟨o2 rfl, ?_⟩
      -- the list is frozen
      have sD : S K G' H' ([] ++ (Dl, .lst acc) :: M') := ⟨s'.same, fun p hp => by
        rcases List.mem_cons.mp hp with e | hp
        · subst e
          exact ⟨gD', _, hD, xs, rfl, rx⟩
        · exact s'.mu p hp, by
        show ((Dl, MO.lst acc) :: M' |>.map (·.1)).Nodup
        rw [List.map_cons, List.nodup_cons]
        exact ⟨nD', s'.nd⟩⟩
      obtain ⟨ys, s5, st5, e5, r5⟩ := sD.freeze
      refine f (.lst acc) M' (.ref Dl) _ H' (he acc M' hI) s5 (st1.trans ?_) r5
      refine ⟨st'.gg.trans e5, fun b hb hn => ?_, st'.keep, st'.alive, st'.own⟩
      rw [upd_ne (fun z => by rw [z] at hb; exact hb nD)]
      exact st'.fr b hb hn
end
/-! ### a def -/
section
variable {P : Program} {w : World} {K : PySem.W.Frag} {mg : Str → Option Value} {base : Heap}
theorem spc_ok {W : Wt} {x qual : Str} {st : Stmt} {f : Addr} {fd : FuncData} {N ps : List Str} {k : Nat} (F : Fun K x qual st f fd) (Sc : FnScope N ps (defScope st)) (len : ∀ ds M kk, W ds M kk → ds.length = ps.length)
    (hbody : ∀ (cdv : Value) (A : Around) (outer : List Env) (s : Shared) (H : Hp) (E : XK), Room k (A.deeper (envOfC qual (defScope st) s.heap.objs.size f cdv)) →
      ∃ t, PSs (cxOf CX0 P w K mg base N qual (defScope st) f cdv A outer s H E).nox (defBody st) t ∧ ∀ ds M kk, W ds M kk → AS K t (startD N.length ds) M { nx := fun _ M' => kk .non M', rt := kk }) : FnOk P w K mg base CX0 (k + 1) f fd ps (Spc K W) := by
  refine F.ok Sc (fun vs H Q E h => ?_) (fun cdv A outer s H vs Q E hr h => ?_)
  · obtain ⟨G, ds, M, kk, r, _, hw, _⟩ := h
    rw [r.len]
    exact len ds M kk hw
  · obtain ⟨G, ds, M, kk, r, hs, hw, q⟩ := h
    obtain ⟨t, pt, ht⟩ := hbody cdv A outer s H E hr
    refine ⟨t, pt, ht ds M kk hw (start N vs) G H _ (relS_start r) hs ⟨?_, ?_, ?_, ?_, ?_⟩⟩
    · intro δ' M' σ' G' H' a rs' s' st'
      exact q .non M' .non G' H' a s' st' rep_of_non
    · intro d M' v G' H' a s' st' rv
      exact q d M' v G' H' a s' st' rv
    · intro δ' M' σ' G' H' a
      exact a.elim
    · intro δ' M' σ' G' H' a
      exact a.elim
    · intro fs M' d G' H' a
      exact a.elim
end
end Tg
set_option Elab.async false
set_option linter.all false
set_option maxRecDepth 100000
set_option maxHeartbeats 1000000
namespace Tg
open PySem L2 PyProof.Rows
/-! ### texts by their codes -/
def tx (l : List Nat) : Str := ⟨l.toArray⟩
theorem tx_len (l : List Nat) : (tx l).length = l.length := by
  show l.toArray.size = l.length
  simp
theorem tx_codes (z : Str) : tx z.cps.toList = z := by
  cases z
  simp [tx]
theorem tx_cps (l : List Nat) : (tx l).cps.toList = l := by simp [tx]
theorem tx_inj {a b : List Nat} (h : tx a = tx b) : a = b := by
  have := congrArg (fun z : Str => z.cps.toList) h
  simpa [tx] using this
theorem tx_app (a b : List Nat) : tx a ++ tx b = tx (a ++ b) := by
  show (⟨a.toArray ++ b.toArray⟩ : Str) = ⟨(a ++ b).toArray⟩
  simp
theorem tx_nil : tx [] = (⟨#[]⟩ : Str) := rfl
theorem tx_signs (l : List Nat) : signs (tx l) = l.map fun c => .str (tx [c]) := by
  unfold signs
  rw [tx_cps]
  rfl
theorem tx_eq {a b : List Nat} : decide (tx a = tx b) = decide (a = b) := by
  by_cases h : a = b
  · subst h; simp
  · rw [decide_eq_false h, decide_eq_false fun z => h (tx_inj z)]
theorem tx_join (ls : List (List Nat)) : Txt.join (tx []) (ls.map tx) = tx ls.flatten := by
  rw [TL.join_eq]
  induction ls with
  | nil => rfl
  | cons a r ih =>
    cases r with
    | nil =>
      show tx a = _
      simp
    | cons b r =>
      show tx a ++ tx [] ++ Str.join (tx []) ((b :: r).map tx) = _
      rw [ih, tx_app, tx_app]
      simp
theorem tx_cut (l : List Nat) (lo hi : Option Int) : cutS (tx l) lo hi = tx ((l.drop (HT.sIx l.length 0 lo)).take (HT.sIx l.length l.length hi - HT.sIx l.length 0 lo)) := by
  unfold cutS
  rw [tx_len, tx_cps]
  rfl
/-! ### universal operations -/
section
variable {X : Cx}
abbrev rAddU (K : PySem.W.Frag) : R2 := fun x y H Q => (rI0 fun i j => .int (i + j)) x y H Q ∨ ((fun x y H Q => ∃ i j, x = .str i ∧ y = .str j ∧ i.length + j.length ≤ sizeLine ∧ Q (.str (i ++ j)) H) x y H Q ∨ (rCat x y H Q ∨ rCatA K x y H Q))
theorem op_addU : OpR X (binaryOp .Add) (rAddU X.K) := op_add.or (op_add_str.or (op_cat.or op_catA))
abbrev rIAddU : R2 := fun x y H Q => (rI0 fun i j => .int (i + j)) x y H Q ∨ ((fun x y H Q => ∃ i j, x = .str i ∧ y = .str j ∧ i.length + j.length ≤ sizeLine ∧ Q (.str (i ++ j)) H) x y H Q)
theorem ip_addU : PIp X .Add rIAddU := iop_add.or iop_add_str
theorem ip_subU : PIp X .Sub (rI0 fun i j => .int (i - j)) := iop_sub
def rSlU (K : PySem.W.Frag) : V → Option Int → Option Int → Hp → VK → Prop := fun x lo hi H Q => rSlL K x lo hi H Q ∨ (rSlS x lo hi H Q ∨ rSlA K x lo hi H Q)
theorem sl_any : SlR X (rSlU X.K) := by
  intro pins s σ H x v vl vu lo hi sl Q I rx hs pl pu h
  rcases h with h | h | h
  · exact sl_list pins s σ H x v vl vu lo hi sl Q I rx hs pl pu h
  · exact sl_str pins s σ H x v vl vu lo hi sl Q I rx hs pl pu h
  · exact sl_tupA pins s σ H x v vl vu lo hi sl Q I rx hs pl pu h
def rLenU (K : PySem.W.Frag) : List V → Hp → VK → Prop := fun xs H Q => (∃ p ys, xs = [.ref p] ∧ (SqL K H p ys ∨ SqT K H p ys) ∧ Q (.int ys.length) H) ∨ (∃ z, xs = [.str z] ∧ z.length ≤ sizeLine ∧ Q (.int z.length) H)
theorem call_lenU : CallR X (.builtin "len") (rLenU X.K) := call_len_seq.or call_len_str
def rTupU (K : PySem.W.Frag) : List V → Hp → VK → Prop := fun xs H Q => ∃ p ys, xs = [.ref p] ∧ ((SqL K H p ys ∧ ∀ l, H l = none → Q (.ref l) (upd H l (.tup ys))) ∨ (SqT K H p ys ∧ Q (.ref p) H))
theorem call_tupU : CallR X (.type "tuple") (rTupU X.K) := call_tuple_of
def rListU (K : PySem.W.Frag) : List V → Hp → VK → Prop := fun xs H Q => ∃ p ys, xs = [.ref p] ∧ (SqL K H p ys ∨ SqT K H p ys) ∧ ∀ l, H l = none → Q (.ref l) (upd H l (.lst ys))
theorem call_listU : CallR X (.type "list") (rListU X.K) := call_list_of
def rIntU : List V → Hp → VK → Prop := fun xs H Q => (∃ i, xs = [.int i] ∧ Q (.int i) H) ∨ ∃ k, xs = [.bl k] ∧ Q (.int (if k then 1 else 0)) H
theorem call_intU : CallR X (.type "int") rIntU := call_int1
def rMin2 : List V → Hp → VK → Prop := fun xs H Q => ∃ i j, xs = [.int i, .int j] ∧ Q (.int (if j < i then j else i)) H
theorem call_minU (hc : X.calm = true) : CallR X (.builtin "min") rMin2 := call_min2 hc
end
section
variable {K : PySem.W.Frag} {δ : DS} {M : Mu} {ta tb te to : TE} {k : D → Mu → Prop} {x y d : D}
theorem au_int {a b : Int} (q : k (.int (a + b)) M) : AR K (rAddU K) (.int a) (.int b) M k := ar_or1 (ar_int q)
theorem au_str {a b : List Nat} (h : a.length + b.length ≤ sizeLine) (q : k (.str (tx (a ++ b))) M) : AR K (rAddU K) (.str (tx a)) (.str (tx b)) M k := ar_or2 (ar_or1 fun vx vy G H Q rx ry s f =>
  ⟨tx a, tx b, rep_str rx, rep_str ry, by rw [tx_len, tx_len]; exact h, by rw [tx_app]; exact f _ M _ G H q s Step.refl rep_of_str⟩)
theorem au_lst {a b : List D} (h : a.length + b.length ≤ sizeLine) (q : k (.lst (a ++ b)) M) : AR K (rAddU K) (.lst a) (.lst b) M k := ar_or2 (ar_or2 (ar_or1 fun vx vy G H Q rx ry s f => by
  obtain ⟨p, xs, rfl, hp, r1⟩ := rep_lst rx
  obtain ⟨q', ys, rfl, hq, r2⟩ := rep_lst ry
  refine ⟨p, q', xs, ys, rfl, rfl, s.same _ _ hp, s.same _ _ hq, by rw [r1.len, r2.len]; exact h, fun l hl => ?_⟩
  obtain ⟨s2, st2, e2⟩ := s.frozen (o := .lst (xs ++ ys)) hl
  exact f _ M _ _ _ q s2 st2 (rep_mk_lst upd_same (Reps.mono e2 _ _ (r1.append r2)))))
theorem au_tup {a b : List D} (h : a.length + b.length ≤ sizeLine) (q : k (.tup (a ++ b)) M) : AR K (rAddU K) (.tup a) (.tup b) M k := ar_or2 (ar_or2 (ar_or2 fun vx vy G H Q rx ry s f => by
  obtain ⟨p, xs, rfl, hp, r1⟩ := rep_tup rx
  obtain ⟨q', ys, rfl, hq, r2⟩ := rep_tup ry
  refine ⟨p, q', xs, ys, rfl, rfl, Same.seqT s.same hp, Same.seqT s.same hq, by rw [r1.len, r2.len]; exact h, fun e => ?_, fun e1 e2 => ?_, fun e1 e2 l hl => ?_⟩
  · refine f _ M _ G H q s Step.refl (rep_mk_tup hq ?_)
    have e1 : a = [] := List.length_eq_zero_iff.mp (by rw [← r1.len, e]; rfl)
    subst e1
    exact r2
  · refine f _ M _ G H q s Step.refl (rep_mk_tup hp ?_)
    have e1 : b = [] := List.length_eq_zero_iff.mp (by rw [← r2.len, e2]; rfl)
    subst e1
    rw [List.append_nil]
    exact r1
  · obtain ⟨s2, st2, e2⟩ := s.frozen (o := .tup (xs ++ ys)) hl
    exact f _ M _ _ _ q s2 st2 (rep_mk_tup (.inl (.inl upd_same)) (Reps.mono e2 _ _ (r1.append r2)))))
theorem ai_int {a b : Int} (q : k (.int (a + b)) M) : AR K rIAddU (.int a) (.int b) M k := ar_or1 (ar_int q)
theorem ai_str {a b : List Nat} (h : a.length + b.length ≤ sizeLine) (q : k (.str (tx (a ++ b))) M) : AR K rIAddU (.str (tx a)) (.str (tx b)) M k := ar_or2 fun vx vy G H Q rx ry s f =>
  ⟨tx a, tx b, rep_str rx, rep_str ry, by rw [tx_len, tx_len]; exact h, by rw [tx_app]; exact f _ M _ G H q s Step.refl rep_of_str⟩
theorem au_ixS {l : List Nat} {j : Int} {c : Nat} (hz : l.length ≤ sizeLine) (h : atI l j = some c) (q : k (.str (tx [c])) M) : AR K (rIx K) (.str (tx l)) (.int j) M k :=
  aix_S (by rw [tx_len]; exact hz) (by rw [tx_cps]; exact h) q
/-! ### slices -/
variable {ko : Option Int → Mu → Prop}
theorem ao_none (q : ko none M) : AO K tNoPart δ M ko := fun σ G H Q rs s f => f none M G H q s Step.refl
theorem ao_some (h : AE K te δ M fun d M1 => ∃ i, d = .int i ∧ ko (some i) M1) : AO K (tPart te) δ M ko := fun σ G H Q rs s f =>
  h σ G H _ rs s fun d M1 v G1 H1 ⟨i, e, q⟩ s1 st1 r1 => by
    subst e
    exact ⟨i, rep_int r1, f _ M1 G1 H1 q s1 st1⟩
/-- a slice of a value -/
def ASl (K : PySem.W.Frag) (r : V → Option Int → Option Int → Hp → VK → Prop) (x : D) (lo hi : Option Int) (M : Mu) (k : D → Mu → Prop) : Prop := ∀ vx G H Q, Rep K G x vx → S K G H M →
  (∀ d M' v G' H', k d M' → S K G' H' M' → Step (ads M) G H (ads M') G' H' → Rep K G' d v → Q v H') → r vx lo hi H Q
theorem ae_sl {r : V → Option Int → Option Int → Hp → VK → Prop} {tl th : TO} (h : AE K te δ M fun x M1 => AO K tl δ M1 fun lo M2 => AO K th δ M2 fun hi M3 => ASl K r x lo hi M3 k) : AE K (L2.tSl r te tl th) δ M k := fun σ G H Q rs s f =>
  h σ G H _ rs s fun x M1 v G1 H1 h1 s1 st1 r1 => h1 σ G1 H1 _ (rs.mono st1.gg) s1 fun lo M2 G2 H2 h2 s2 st2 => h2 σ G2 H2 _ (rs.mono (st1.trans st2).gg) s2 fun hi M3 G3 H3 h3 s3 st3 =>
    h3 v G3 H3 Q (Rep.mono (st2.trans st3).gg _ _ r1) s3 fun d M4 v4 G4 H4 q s4 st4 r4 => f d M4 v4 G4 H4 q s4 (((st1.trans st2).trans st3).trans st4) r4
def cutD {α : Type} (xs : List α) (lo hi : Option Int) : List α := (xs.drop (HT.sIx xs.length 0 lo)).take (HT.sIx xs.length xs.length hi - HT.sIx xs.length 0 lo)
theorem cutD_len {α : Type} (xs : List α) (lo hi : Option Int) : (cutD xs lo hi).length ≤ xs.length := by
  unfold cutD
  rw [List.length_take, List.length_drop]
  omega
theorem reps_cut {G : Hp} {ds : List D} {xs : List V} (r : Reps K G ds xs) (lo hi : Option Int) : Reps K G (cutD ds lo hi) (cutV xs lo hi) := by
  unfold cutD cutV
  rw [r.len]
  exact (r.drop _).take _
theorem asl_lst {ds : List D} {lo hi : Option Int} (q : k (.lst (cutD ds lo hi)) M) : ASl K (rSlU K) (.lst ds) lo hi M k := fun vx G H Q rx s f => by
  obtain ⟨a, xs, rfl, ha, rs⟩ := rep_lst rx
  refine .inl ⟨a, xs, rfl, .inl (.inl (s.same _ _ ha)), fun l hl => ?_⟩
  obtain ⟨s2, st2, e2⟩ := s.frozen (o := .lst (cutV xs lo hi)) hl
  exact f _ M _ _ _ q s2 st2 (rep_mk_lst upd_same (Reps.mono e2 _ _ (reps_cut rs lo hi)))
theorem asl_str {l : List Nat} {lo hi : Option Int} (hz : l.length ≤ sizeLine) (q : k (.str (tx (cutD l lo hi))) M) : ASl K (rSlU K) (.str (tx l)) lo hi M k := fun vx G H Q rx s f =>
  .inr (.inl ⟨tx l, rep_str rx, by rw [tx_len]; exact hz, by
    rw [tx_cut]
    exact f _ M _ G H q s Step.refl rep_of_str⟩)
/-! ### built-ins -/

def lenD : D → Option Nat
  | .lst ds => some ds.length
  | .lsk ds => some ds.length
  | .tup ds => some ds.length
  | _ => none
theorem ac_lenD {n : Nat} (h : lenD x = some n) (q : k (.int (n : Int)) M) : AC K (rLenU K) [x] M k := fun vs G H Q rx s f => by
  obtain ⟨v, r, rfl, r1, rr⟩ := rx.uncons
  unfold Reps at rr
  subst rr
  cases x <;> simp only [lenD, Option.some.injEq, reduceCtorEq] at h
  · obtain ⟨a, xs, rfl, ha, rs⟩ := rep_tup r1
    refine .inl ⟨a, xs, rfl, .inr (Same.seqT s.same ha), ?_⟩
    rw [rs.len, h]
    exact f _ M _ G H q s Step.refl rep_of_int
  · obtain ⟨a, xs, rfl, ha, rs⟩ := rep_lst r1
    refine .inl ⟨a, xs, rfl, .inl (.inl (.inl (s.same _ _ ha))), ?_⟩
    rw [rs.len, h]
    exact f _ M _ G H q s Step.refl rep_of_int
  · obtain ⟨a, xs, rfl, ha, rs⟩ := rep_lsk r1
    refine .inl ⟨a, xs, rfl, .inl (s.same.seq ha), ?_⟩
    rw [rs.len, h]
    exact f _ M _ G H q s Step.refl rep_of_int
theorem ac_lenS {l : List Nat} (hz : l.length ≤ sizeLine) (q : k (.int (l.length : Int)) M) : AC K (rLenU K) [.str (tx l)] M k := fun vs G H Q rx s f => by
  obtain ⟨v, r, rfl, r1, rr⟩ := rx.uncons
  unfold Reps at rr
  subst rr
  refine .inr ⟨tx l, by rw [rep_str r1], by rw [tx_len]; exact hz, ?_⟩
  rw [tx_len]
  exact f _ M _ G H q s Step.refl rep_of_int
theorem ac_lenM {a : Addr} {M1 M2 : Mu} {ds : List D} (e : M = M1 ++ (a, .lst ds) :: M2) (q : k (.int (ds.length : Int)) M) : AC K (rLenU K) [.ref a] M k := fun vs G H Q rx s f => by
  obtain ⟨v, r, rfl, r1, rr⟩ := rx.uncons
  unfold Reps at rr
  subst rr
  obtain ⟨_, o, ho, r⟩ := s.mu (a, .lst ds) (by rw [e]; simp)
  obtain ⟨xs, rfl, rs⟩ := r
  refine .inl ⟨a, xs, by rw [rep_ref r1], .inl (.inl (.inl ho)), ?_⟩
  rw [rs.len]
  exact f _ M _ G H q s Step.refl rep_of_int
theorem ac_int {i : Int} (q : k (.int i) M) : AC K rIntU [.int i] M k := fun vs G H Q rx s f => by
  obtain ⟨v, r, rfl, r1, rr⟩ := rx.uncons
  unfold Reps at rr
  subst rr
  exact .inl ⟨i, by rw [rep_int r1], f _ M _ G H q s Step.refl rep_of_int⟩
theorem ac_min {i j : Int} (q : k (.int (if j < i then j else i)) M) : AC K rMin2 [.int i, .int j] M k := fun vs G H Q rx s f => by
  obtain ⟨v, r, rfl, r1, rr⟩ := rx.uncons
  obtain ⟨u, r, rfl, r2, rr⟩ := rr.uncons
  unfold Reps at rr
  subst rr
  exact ⟨i, j, by rw [rep_int r1, rep_int r2], f _ M _ G H q s Step.refl rep_of_int⟩
theorem ac_tupL {ds : List D} (q : k (.tup ds) M) : AC K (rTupU K) [.lst ds] M k := fun vs G H Q rx s f => by
  obtain ⟨v, r, rfl, r1, rr⟩ := rx.uncons
  unfold Reps at rr
  subst rr
  obtain ⟨a, xs, rfl, ha, rs⟩ := rep_lst r1
  refine ⟨a, xs, rfl, .inl ⟨.inl (.inl (s.same _ _ ha)), fun l hl => ?_⟩⟩
  obtain ⟨s2, st2, e2⟩ := s.frozen (o := .tup xs) hl
  exact f _ M _ _ _ q s2 st2 (rep_mk_tup (.inl (.inl upd_same)) (Reps.mono e2 _ _ rs))
theorem ac_tupT {ds : List D} (q : k (.tup ds) M) : AC K (rTupU K) [.tup ds] M k := fun vs G H Q rx s f => by
  obtain ⟨v, r, rfl, r1, rr⟩ := rx.uncons
  unfold Reps at rr
  subst rr
  obtain ⟨a, xs, rfl, ha, rs⟩ := rep_tup r1
  exact ⟨a, xs, rfl, .inr ⟨Same.seqT s.same ha, f _ M _ G H q s Step.refl (rep_mk_tup ha rs)⟩⟩
theorem ac_tupM {a : Addr} {M1 M2 : Mu} {ds : List D} (e : M = M1 ++ (a, .lst ds) :: M2) (q : k (.tup ds) M) : AC K (rTupU K) [.ref a] M k := fun vs G H Q rx s f => by
  obtain ⟨v, r, rfl, r1, rr⟩ := rx.uncons
  unfold Reps at rr
  subst rr
  obtain ⟨_, o, ho, r⟩ := s.mu (a, .lst ds) (by rw [e]; simp)
  obtain ⟨xs, rfl, rs⟩ := r
  refine ⟨a, xs, by rw [rep_ref r1], .inl ⟨.inl (.inl ho), fun l hl => ?_⟩⟩
  obtain ⟨s2, st2, e2⟩ := s.frozen (o := .tup xs) hl
  exact f _ M _ _ _ q s2 st2 (rep_mk_tup (.inl (.inl upd_same)) (Reps.mono e2 _ _ rs))
theorem ac_list {ds : List D} (h : x = .lst ds ∨ x = .tup ds ∨ x = .lsk ds) (q : k (.lst ds) M) : AC K (rListU K) [x] M k := fun vs G H Q rx s f => by
  obtain ⟨v, r, rfl, r1, rr⟩ := rx.uncons
  unfold Reps at rr
  subst rr
  have go : ∀ (a : Addr) (xs : List V), v = .ref a → (SqL K H a xs ∨ SqT K H a xs) → Reps K G ds xs → rListU K [v] H Q := fun a xs e h1 h2 => ⟨a, xs, by rw [e], h1, fun l hl => by
    obtain ⟨s2, st2, e2⟩ := s.frozen (o := .lst xs) hl
    exact f _ M _ _ _ q s2 st2 (rep_mk_lst upd_same (Reps.mono e2 _ _ h2))⟩
  rcases h with rfl | rfl | rfl
  · obtain ⟨a, xs, e, ha, rs⟩ := rep_lst r1
    exact go a xs e (.inl (.inl (.inl (s.same _ _ ha)))) rs
  · obtain ⟨a, xs, e, ha, rs⟩ := rep_tup r1
    exact go a xs e (.inr (Same.seqT s.same ha)) rs
  · obtain ⟨a, xs, e, ha, rs⟩ := rep_lsk r1
    exact go a xs e (.inl (s.same.seq ha)) rs
theorem ac_listM {ds : List D} (h : x = .lst ds ∨ x = .tup ds ∨ x = .lsk ds) (q : ∀ a, k (.ref a) (M ++ [(a, .lst ds)])) : AC K (rListU K) [x] M k := fun vs G H Q rx s f => by
  obtain ⟨v, r, rfl, r1, rr⟩ := rx.uncons
  unfold Reps at rr
  subst rr
  have go : ∀ (a : Addr) (xs : List V), v = .ref a → (SqL K H a xs ∨ SqT K H a xs) → Reps K G ds xs → rListU K [v] H Q := fun a xs e h1 h2 => ⟨a, xs, by rw [e], h1, fun l hl => by
    obtain ⟨s2, st2⟩ := s.fresh (o := .lst xs) (m := .lst ds) hl ⟨xs, rfl, h2⟩
    exact f _ _ _ _ _ (q l) s2 st2 rep_of_ref⟩
  rcases h with rfl | rfl | rfl
  · obtain ⟨a, xs, e, ha, rs⟩ := rep_lst r1
    exact go a xs e (.inl (.inl (.inl (s.same _ _ ha)))) rs
  · obtain ⟨a, xs, e, ha, rs⟩ := rep_tup r1
    exact go a xs e (.inr (Same.seqT s.same ha)) rs
  · obtain ⟨a, xs, e, ha, rs⟩ := rep_lsk r1
    exact go a xs e (.inl (s.same.seq ha)) rs
theorem ac_all {bs : List Bool} (q : k (.bl (bs.all id)) M) : AC K (rAll K) [.lst (bs.map .bl)] M k := fun vs G H Q rx s f => by
  obtain ⟨v, r, rfl, r1, rr⟩ := rx.uncons
  unfold Reps at rr
  subst rr
  obtain ⟨a, xs, rfl, ha, rs⟩ := rep_lst r1
  rw [rs.bls] at ha
  exact ⟨a, bs, rfl, .inl (.inl (s.same _ _ ha)), f _ M _ G H q s Step.refl rep_of_bl⟩
theorem ac_any {bs : List Bool} (q : k (.bl (bs.any id)) M) : AC K (rAny K) [.lst (bs.map .bl)] M k := fun vs G H Q rx s f => by
  obtain ⟨v, r, rfl, r1, rr⟩ := rx.uncons
  unfold Reps at rr
  subst rr
  obtain ⟨a, xs, rfl, ha, rs⟩ := rep_lst r1
  rw [rs.bls] at ha
  exact ⟨a, bs, rfl, .inl (.inl (s.same _ _ ha)), f _ M _ G H q s Step.refl rep_of_bl⟩
/-! ### isinstance -/
def typeD : D → Option String
  | .non => some "NoneType"
  | .bl _ => some "bool"
  | .int _ => some "int"
  | .str _ => some "str"
  | .tup _ => some "tuple"
  | .lst _ => some "list"
  | _ => none
theorem tyX_of {G H : Hp} {v : V} {n : String} (e : Same G H) (h : typeD d = some n) (r : Rep K G d v) : TyX K H v (.type n) := by
  cases d <;> simp only [typeD, Option.some.injEq, reduceCtorEq] at h
  · rw [rep_non r, ← h]
    exact .base .non
  · rw [rep_bl r, ← h]
    exact .base (.bl _)
  · rw [rep_int r, ← h]
    exact .base (.int _)
  · rw [rep_str r, ← h]
    exact .base (.str _)
  · obtain ⟨a, xs, rfl, ha, _⟩ := rep_tup r
    rw [← h]
    rcases Same.seqT e ha with (q | ⟨o, q⟩) | ⟨o, its, n, q1, q2, q3⟩
    · exact .base (.tup q)
    · exact .fTuple q
    · exact .kTuple q1 q2
  · obtain ⟨a, xs, rfl, ha, _⟩ := rep_lst r
    rw [← h]
    exact .base (.lst (e _ _ ha))
theorem ac_isi {n c : String} {b : Bool} (h : typeD x = some n) (hk : PySem.W.kitOne K (.type n) (.type c) = some b) (q : k (.bl b) M) : AC K (rIsi K) [x, .ty c] M k := fun vs G H Q rx s f => by
  obtain ⟨v, r, rfl, r1, rr⟩ := rx.uncons
  obtain ⟨u, r, rfl, r2, rr⟩ := rr.uncons
  unfold Reps at rr
  subst rr
  exact ⟨v, u, .type n, .type c, b, rfl, by rw [rep_ty r2]; exact .ty c, tyX_of s.same h r1, hk, f _ M _ G H q s Step.refl rep_of_bl⟩
/-! ### methods -/
/-- a method of a list -/
def LstM (x : D) (M1 : Mu) : Prop := (∃ ds, x = D.lst ds) ∨ (∃ ds, x = D.lsk ds) ∨ ∃ a ds N1 N2, x = D.ref a ∧ M1 = N1 ++ (a, MO.lst ds) :: N2
theorem lstM_ref {a : Addr} {ds : List D} {M1 N1 N2 : Mu} (e : M1 = N1 ++ (a, MO.lst ds) :: N2) : LstM (.ref a) M1 := .inr (.inr ⟨a, ds, N1, N2, rfl, e⟩)
theorem ae_lm {r : V → List V → Hp → VK → Prop} {ts : TA} (h : AE K to δ M fun x M1 => LstM x M1 ∧ AA K ts δ M1 fun xs M2 => AM K r x xs M2 k) : AE K (tBM K "list" r to ts) δ M k := fun σ G H Q rs s f =>
  h σ G H _ rs s fun x M1 v G1 H1 ⟨ht, h1⟩ s1 st1 r1 => by
    refine ⟨?_, h1 σ G1 H1 _ (rs.mono st1.gg) s1 fun xs M2 vs G2 H2 h2 s2 st2 r2 => h2 v vs G2 H2 Q (Rep.mono st2.gg _ _ r1) r2 s2 fun d M3 v3 G3 H3 q s3 st3 r3 => f d M3 v3 G3 H3 q s3 ((st1.trans st2).trans st3) r3⟩
    rcases ht with ⟨ds, e⟩ | ⟨ds, e⟩ | ⟨a, ds, N1, N2, e, e2⟩
    · subst e
      obtain ⟨a, xs, rfl, ha, _⟩ := rep_lst r1
      exact .inl ⟨rfl, xs, .inl (.inl (s1.same _ _ ha))⟩
    · subst e
      obtain ⟨a, xs, rfl, ha, _⟩ := rep_lsk r1
      exact .inl ⟨rfl, xs, s1.same.seq ha⟩
    · subst e
      rw [rep_ref r1]
      obtain ⟨_, o, ho, r⟩ := s1.mu (a, .lst ds) (by rw [e2]; simp)
      obtain ⟨xs, rfl, rs⟩ := r
      exact .inl ⟨rfl, xs, .inl (.inl ho)⟩
theorem am_append {a : Addr} {ds : List D} {M1 M2 : Mu} (e : M = M1 ++ (a, .lst ds) :: M2) (hz : ds.length < sizeLine) (q : k .non (M1 ++ (a, .lst (ds ++ [d])) :: M2)) : AM K rAppend (.ref a) [d] M k := fun vx vs G H Q rx rxs s f => by
  subst e
  obtain ⟨v, r, rfl, r1, rr⟩ := rxs.uncons
  unfold Reps at rr
  subst rr
  obtain ⟨g0, o, ho, r⟩ := s.mu (a, .lst ds) (by simp)
  obtain ⟨xs, rfl, rs⟩ := r
  obtain ⟨s2, st2⟩ := s.write (o := .lst (xs ++ [v])) (m' := .lst (ds ++ [d])) ⟨_, rfl, rs.append (Reps.one r1)⟩
  exact ⟨a, xs, v, rep_ref rx, rfl, ho, by rw [rs.len]; exact hz, f _ _ _ _ _ q s2 st2 rep_of_non⟩
theorem am_extend {a : Addr} {ds es : List D} {M1 M2 : Mu} (e : M = M1 ++ (a, .lst ds) :: M2) (hz : ds.length + es.length ≤ sizeLine) (q : k .non (M1 ++ (a, .lst (ds ++ es)) :: M2)) : AM K rExtend (.ref a) [.lst es] M k := fun vx vs G H Q rx rxs s f => by
  subst e
  obtain ⟨v, r, rfl, r1, rr⟩ := rxs.uncons
  unfold Reps at rr
  subst rr
  obtain ⟨b, ys, rfl, hb, r2⟩ := rep_lst r1
  obtain ⟨g0, o, ho, r⟩ := s.mu (a, .lst ds) (by simp)
  obtain ⟨xs, rfl, rs⟩ := r
  obtain ⟨s2, st2⟩ := s.write (o := .lst (xs ++ ys)) (m' := .lst (ds ++ es)) ⟨_, rfl, rs.append r2⟩
  exact ⟨a, b, xs, ys, rep_ref rx, rfl, ho, s.same _ _ hb, by rw [rs.len, r2.len]; exact hz, f _ _ _ _ _ q s2 st2 rep_of_non⟩
abbrev rJoin (K : PySem.W.Frag) : V → List V → Hp → VK → Prop := fun x xs H Q => ∃ a p, ∃ ys : List Str, x = .str a ∧ xs = [.ref p] ∧ (SqL K H p (ys.map V.str) ∨ SqT K H p (ys.map V.str)) ∧
      (ys.map (·.length)).sum + ys.length * a.length ≤ 16777216 ∧ Q (.str (Txt.join a ys)) H
theorem ae_m1 {r : V → List V → Hp → VK → Prop} (h : AE K to δ M fun x M1 => (∃ z, x = .str z) ∧ AE K te δ M1 fun y M2 => AM K r x [y] M2 k) : AE K (tM1 r to te) δ M k := fun σ G H Q rs s f =>
  h σ G H _ rs s fun x M1 v G1 H1 ⟨⟨z, hz⟩, h1⟩ s1 st1 r1 => by
    subst hz
    refine ⟨⟨z, rep_str r1⟩, h1 σ G1 H1 _ (rs.mono st1.gg) s1 fun y M2 vy G2 H2 h2 s2 st2 r2 => h2 v [vy] G2 H2 Q (Rep.mono st2.gg _ _ r1) (Reps.one r2) s2 fun d M3 v3 G3 H3 q s3 st3 r3 => f d M3 v3 G3 H3 q s3 ((st1.trans st2).trans st3) r3⟩
theorem am_join {ls : List (List Nat)} (hz : (ls.map (·.length)).sum ≤ 16777216) (q : k (.str (tx ls.flatten)) M) : AM K (rJoin K) (.str (tx [])) [.lst (ls.map fun l => .str (tx l))] M k := fun vx vs G H Q rx rxs s f => by
  obtain ⟨v, r, rfl, r1, rr⟩ := rxs.uncons
  unfold Reps at rr
  subst rr
  obtain ⟨b, ys, rfl, hb, r2⟩ := rep_lst r1
  have e : ys = (ls.map tx).map V.str := by
    have h2 : ls.map (fun l => D.str (tx l)) = (ls.map tx).map D.str := by simp
    rw [h2] at r2
    exact r2.strs
  refine ⟨tx [], b, ls.map tx, rep_str rx, rfl, .inl (.inl (.inl (by rw [← e]; exact s.same _ _ hb))), ?_, ?_⟩
  · have h1 : ((ls.map tx).map (·.length)) = ls.map (·.length) := by
      rw [List.map_map]
      exact List.map_congr_left fun l _ => tx_len l
    rw [h1, tx_len]
    simpa using hz
  · rw [tx_join]
    exact f _ M _ G H q s Step.refl rep_of_str
end
end Tg
set_option Elab.async false
set_option linter.all false
set_option maxRecDepth 100000
set_option maxHeartbeats 1000000
namespace Tg
open PySem L2 PyProof.Rows
/-! ### the rules with the written part by its name -/
section
variable {X : Cx} {K : PySem.W.Frag} {e a b : Expr} {ta tb te tl : TE} {pos : Pos}
theorem ix_K (h : X.K = K := by rfl) : IxR X (rIx K) := h ▸ ix_seq
theorem add_K (h : X.K = K := by rfl) : OpR X (binaryOp .Add) (rAddU K) := h ▸ op_addU
theorem sl_K (h : X.K = K := by rfl) : SlR X (rSlU K) := h ▸ sl_any
theorem len_K (h : X.K = K := by rfl) : CallR X (.builtin "len") (rLenU K) := h ▸ call_lenU
theorem tup_K (h : X.K = K := by rfl) : CallR X (.type "tuple") (rTupU K) := h ▸ call_tupU
theorem list_K (h : X.K = K := by rfl) : CallR X (.type "list") (rListU K) := h ▸ call_listU
theorem all_K (hc : X.calm = true) (h : X.K = K := by rfl) : CallR X (.builtin "all") (rAll K) := h ▸ cr_all hc
theorem any_K (hc : X.calm = true) (h : X.K = K := by rfl) : CallR X (.builtin "any") (rAny K) := h ▸ cr_any hc
theorem isi_K (h : X.K = K := by rfl) : CallR X (.builtin "isinstance") (rIsi K) := h ▸ call_isi
theorem seq_K {tg l : Expr} (hl : PE X l tl) (h : X.K = K := by rfl) : PI X tg l (iSeq K tl) := h ▸ pi_seq hl
theorem tru_K {t : TE} (ha : PE X a t) (h : X.K = K := by rfl) (he : ∀ whole, isTrue a X.env whole = (do let v ← whole; standAt a.pos; holding [v] (truthy v)) := by intro _; rfl) : PT X a (tTruU K t) := h ▸ pt_tru ha he
theorem gtup_K {es : List Expr} {k : Nat} {t : TGs} {n : Nat} (hc : X.calm = true) (hg : PGs X es t) (h : X.K = K := by rfl)
    (hn : (assignEach es X.env).length = n := by rfl) (hst : (assignEach es X.env).findIdx? (·.1) = none := by rfl) : PG X (.Tuple es k pos) (gTup K n t) := h ▸ pg_tup hc hg hn hst
theorem app_K {o : Expr} {es : List Expr} {to : TE} {t : TA} {apos cpos : Pos} (h0 : PE X (.Call (.Attribute o "append" apos) (e :: es) [] cpos) (tBM X.K "list" rAppend to t)) (h : X.K = K := by rfl) : PE X (.Call (.Attribute o "append" apos) (e :: es) [] cpos) (tBM K "list" rAppend to t) := h ▸ h0
theorem ext_K {o : Expr} {es : List Expr} {to : TE} {t : TA} {apos cpos : Pos} (h0 : PE X (.Call (.Attribute o "extend" apos) (e :: es) [] cpos) (tBM X.K "list" rExtend to t)) (h : X.K = K := by rfl) : PE X (.Call (.Attribute o "extend" apos) (e :: es) [] cpos) (tBM K "list" rExtend to t) := h ▸ h0
theorem popAt_K {o : Expr} {es : List Expr} {to : TE} {t : TA} {apos cpos : Pos} (h0 : PE X (.Call (.Attribute o "pop" apos) (e :: es) [] cpos) (tBM X.K "list" rPopAt to t)) (h : X.K = K := by rfl) : PE X (.Call (.Attribute o "pop" apos) (e :: es) [] cpos) (tBM K "list" rPopAt to t) := h ▸ h0
theorem join_K {o : Expr} {to : TE} {apos cpos : Pos} (h0 : PE X (.Call (.Attribute o "join" apos) [e] [] cpos) (tM1 (rJoin X.K) to te)) (h : X.K = K := by rfl) : PE X (.Call (.Attribute o "join" apos) [e] [] cpos) (tM1 (rJoin K) to te) := h ▸ h0
/-! ### three comparisons in a row -/
def tChain3 (r r' r2 : R2) (ta tb tc td : TE) : TE := fun σ H Q => ta σ H fun x H1 => tb σ H1 fun y H2 => r x y H2 fun z H3 => ∃ k, z = .bl k ∧ (if k = true then tc σ H3 fun w' H4 => r' y w' H4 fun z2 H5 => ∃ k2, z2 = .bl k2 ∧ (if k2 = true then td σ H5 fun w2 H6 => r2 w' w2 H6 Q else Q (.bl false) H5) else Q (.bl false) H3)
end
section
variable {X : Cx} {pins : List (Addr × Obj)} {a b c d : Expr} {ta tb tc td : TE} {pos : Pos}
theorem pt_chain3 {op op' op2 : CmpOp} {r r' r2 : R2} (ho : OpR X (compareOp op) r) (ho' : OpR X (compareOp op') r') (ho2 : OpR X (compareOp op2) r2) (ha : PE X a ta) (hb : PE X b tb) (hc : PE X c tc) (hd : PE X d td)
    (hm : lastMarks [op, op', op2] [b, c, d] = false := by with_unfolding_all rfl) : PT X (.Compare a [op, op', op2] [b, c, d] pos) (tTest (tChain3 r r' r2 ta tb tc td)) := by
  refine ⟨fun pins s σ H Q I h => ?_⟩
  refine isTrue_chain (thn (ha.run pins s σ H _ I h) fun v s1 ⟨x, H1, I1, r1, q1⟩ => test_link (thn (hb.run pins s1 σ H1 _ I1 q1) fun u s2 ⟨y, H2, I2, ry, q2⟩ =>
    thn (ho pins s2 σ H2 x y v u _ I2 r1 ry q2) fun dd s3 ⟨z, H3, I3, r3, k, e, q3⟩ => ?_)) hm
  subst e
  cases r3
  refine wpAny_truthy_bool ?_
  cases k with
  | false =>
    obtain ⟨k', e', q'⟩ := q3
    cases e'
    exact ite_ff ⟨H3, I3, q'⟩
  | true =>
    refine ite_tt (test_link (thn (hc.run pins s3 σ H3 _ I3 q3) fun w' s4 ⟨z', H4, I4, r4, q4⟩ => thn (ho' pins s4 σ H4 y z' u w' _ I4 ry r4 q4) fun d' s5 ⟨z2, H5, I5, r5, k2, e2, q5⟩ => ?_))
    subst e2
    cases r5
    refine wpAny_truthy_bool ?_
    cases k2 with
    | false =>
      obtain ⟨k', e', q'⟩ := q5
      cases e'
      exact ite_ff ⟨H5, I5, q'⟩
    | true =>
      refine ite_tt (test_last (thn (hd.run pins s5 σ H5 _ I5 q5) fun w2 s6 ⟨z3, H6, I6, r6, q6⟩ => thn (ho2 pins s6 σ H6 z' z3 w' w2 _ I6 r4 r6 q6) fun d2 s7 ⟨z4, H7, I7, r7, k3, e3, q7⟩ => ?_))
      subst e3
      cases r7
      exact wpAny_truthy_bool ⟨H7, I7, q7⟩
end
section
variable {K : PySem.W.Frag} {δ : DS} {M : Mu} {ta tb tc td te to ti tx : TE} {k : D → Mu → Prop} {x y d : D}
theorem ae_chain {r r' : R2} (h : AE K ta δ M fun x M1 => AE K tb δ M1 fun y M2 => AR K r x y M2 fun z M3 => ∃ b, z = .bl b ∧ (b = true → AE K tc δ M3 fun w M4 => AR K r' y w M4 k) ∧ (b = false → k (.bl false) M3)) : AE K (tChain r r' ta tb tc) δ M k := fun σ G H Q rs s f =>
  h σ G H _ rs s fun x M1 vx G1 H1 h1 s1 st1 r1 => h1 σ G1 H1 _ (rs.mono st1.gg) s1 fun y M2 vy G2 H2 h2 s2 st2 r2 =>
    h2 vx vy G2 H2 _ (Rep.mono st2.gg _ _ r1) r2 s2 fun z M3 vz G3 H3 ⟨b, e, q1, q2⟩ s3 st3 r3 => by
      subst e
      refine ⟨b, rep_bl r3, ?_⟩
      have st := (st1.trans st2).trans st3
      cases b with
      | true =>
        rw [if_pos rfl]
        exact q1 rfl σ G3 H3 _ (rs.mono st.gg) s3 fun w M4 vw G4 H4 h4 s4 st4 r4 => h4 vy vw G4 H4 Q (Rep.mono (st3.trans st4).gg _ _ r2) r4 s4 fun d M5 v G5 H5 q s5 st5 r5 => f d M5 v G5 H5 q s5 ((st.trans st4).trans st5) r5
      | false =>
        rw [if_neg Bool.false_ne_true]
        exact f _ M3 _ G3 H3 (q2 rfl) s3 st rep_of_bl
theorem ae_chain3 {r r' r2 : R2} (h : AE K ta δ M fun x M1 => AE K tb δ M1 fun y M2 => AR K r x y M2 fun z M3 => ∃ b, z = .bl b ∧ (b = true → AE K tc δ M3 fun w M4 => AR K r' y w M4 fun z2 M5 => ∃ b2, z2 = .bl b2 ∧ (b2 = true → AE K td δ M5 fun w2 M6 => AR K r2 w w2 M6 k) ∧ (b2 = false → k (.bl false) M5)) ∧ (b = false → k (.bl false) M3)) : AE K (tChain3 r r' r2 ta tb tc td) δ M k := fun σ G H Q rs s f =>
  h σ G H _ rs s fun x M1 vx G1 H1 h1 s1 st1 r1 => h1 σ G1 H1 _ (rs.mono st1.gg) s1 fun y M2 vy G2 H2 h2 s2 st2 ry =>
    h2 vx vy G2 H2 _ (Rep.mono st2.gg _ _ r1) ry s2 fun z M3 vz G3 H3 ⟨b, e, q1, q2⟩ s3 st3 r3 => by
      subst e
      refine ⟨b, rep_bl r3, ?_⟩
      have st := (st1.trans st2).trans st3
      cases b with
      | true =>
        rw [if_pos rfl]
        exact q1 rfl σ G3 H3 _ (rs.mono st.gg) s3 fun w M4 vw G4 H4 h4 s4 st4 r4 => h4 vy vw G4 H4 _ (Rep.mono (st3.trans st4).gg _ _ ry) r4 s4 fun d M5 v G5 H5 ⟨b2, e2, q3, q4⟩ s5 st5 r5 => by
          subst e2
          refine ⟨b2, rep_bl r5, ?_⟩
          have st' := (st.trans st4).trans st5
          cases b2 with
          | true =>
            rw [if_pos rfl]
            exact q3 rfl σ G5 H5 _ (rs.mono st'.gg) s5 fun w2 M6 vw2 G6 H6 h6 s6 st6 r6 => h6 vw vw2 G6 H6 Q (Rep.mono (st5.trans st6).gg _ _ r4) r6 s6 fun d M7 v G7 H7 q s7 st7 r7 => f d M7 v G7 H7 q s7 ((st'.trans st6).trans st7) r7
          | false =>
            rw [if_neg Bool.false_ne_true]
            exact f _ M5 _ G5 H5 (q4 rfl) s5 st' rep_of_bl
      | false =>
        rw [if_neg Bool.false_ne_true]
        exact f _ M3 _ G3 H3 (q2 rfl) s3 st rep_of_bl
/-! ### the slots at the entry -/
theorem as_start {n : Nat} {ds : List D} {δ' : DS} {t : TS} {A : AEnds} (e : startD n ds = δ') (h : AS K t δ' M A) : AS K t (startD n ds) M A := e ▸ h
theorem as_slots {δ' : DS} {t : TS} {A : AEnds} (e : δ = δ') (h : AS K t δ' M A) : AS K t δ M A := e ▸ h
/-! ### list(range(..)) -/
theorem ae_listRg1 {ta : TE} (h : AE K ta δ M fun d M1 => ∃ j : Int, d = .int j ∧ 0 ≤ j ∧ j ≤ 16777216 ∧ k (.lst (rng 0 j.toNat)) M1) : AE K (tLstRg (tRg1 ta)) δ M k := fun σ G H Q rs s f =>
  h σ G H _ rs s fun d M1 v G1 H1 ⟨j, e, h0, h2, q⟩ s1 st1 r1 => by
    subst e
    refine ⟨j, rep_int r1, RgOk.of_le (Int.le_refl 0) h2 (by decide) h0, fun l hl => ?_⟩
    obtain ⟨s2, st2, e2⟩ := s1.frozen (o := .lst (rgV 0 j)) hl
    refine f _ M1 _ _ _ q s2 (st1.trans st2) (rep_mk_lst upd_same ?_)
    have e3 : rgV 0 j = (((List.range j.toNat).map fun (i : Nat) => ((0 : Int) + (i : Nat))).map V.int) := by
      unfold rgV
      rw [List.map_map, Int.sub_zero]
      rfl
    have e4 : rng 0 j.toNat = (((List.range j.toNat).map fun (i : Nat) => ((0 : Int) + (i : Nat))).map D.int) := by
      unfold rng
      rw [List.map_map]
      rfl
    rw [e3, e4]
    exact Reps.ofInts
/-! ### dicts -/
def valD {κ : Type} [DecidableEq κ] (kvs : List (κ × D)) (q : κ) : Option D := (kvs.find? fun kv => decide (kv.1 = q)).map (·.2)
def putD {κ : Type} [DecidableEq κ] (kvs : List (κ × D)) (q : κ) (v : D) : List (κ × D) :=
  if (kvs.any fun kv => decide (kv.1 = q)) = true then kvs.map (fun kv => if kv.1 = q then (kv.1, v) else kv) else kvs ++ [(q, v)]
def keyD : Key → D
  | .inl i => .int i
  | .inr z => .str z
theorem rep_key {G : Hp} {v : V} : ∀ {q : Key}, Rep K G (keyD q) v → v = kV q
  | .inl _, h => rep_int h
  | .inr _, h => rep_str h
theorem repKV_len {κ : Type} {G : Hp} : ∀ {ds : List (κ × D)} {xs : List (κ × V)}, RepKV K G ds xs → xs.length = ds.length
  | [], _, h => by
    unfold RepKV at h
    rw [h]
    rfl
  | (q, d) :: ds, _, h => by
    unfold RepKV at h
    obtain ⟨x, r, e, _, t⟩ := h
    rw [e, List.length_cons, List.length_cons, repKV_len t]
theorem repKV_get {κ : Type} [DecidableEq κ] {G : Hp} {q : κ} : ∀ {ds : List (κ × D)} {xs : List (κ × V)}, RepKV K G ds xs → (∀ d, valD ds q = some d → ∃ v, valV xs q = some v ∧ Rep K G d v) ∧ (valD ds q = none → valV xs q = none)
  | [], _, h => by
    unfold RepKV at h
    rw [h]
    exact ⟨fun d e => by simp [valD] at e, fun _ => rfl⟩
  | (q', d') :: ds, _, h => by
    unfold RepKV at h
    obtain ⟨x, r, e, rx, t⟩ := h
    subst e
    have ih := repKV_get (q := q) t
    by_cases hq : q' = q
    · subst hq
      refine ⟨fun d e => ⟨x, by simp [valV], ?_⟩, fun e => ?_⟩
      · have e1 : d' = d := by simpa [valD] using e
        subst e1
        exact rx
      · simp [valD] at e
    · have e1 : valD ((q', d') :: ds) q = valD ds q := by simp [valD, hq]
      have e2 : valV ((q', x) :: r) q = valV r q := by simp [valV, hq]
      rw [e1, e2]
      exact ih
theorem repKV_any {κ : Type} [DecidableEq κ] {G : Hp} {q : κ} : ∀ {ds : List (κ × D)} {xs : List (κ × V)}, RepKV K G ds xs → (xs.any fun kv => decide (kv.1 = q)) = (ds.any fun kv => decide (kv.1 = q))
  | [], _, h => by
    unfold RepKV at h
    rw [h]
    rfl
  | (q', d') :: ds, _, h => by
    unfold RepKV at h
    obtain ⟨x, r, e, rx, t⟩ := h
    subst e
    rw [List.any_cons, List.any_cons, repKV_any t]
theorem repKV_map {κ : Type} [DecidableEq κ] {G : Hp} {q : κ} {d : D} {v : V} (hv : Rep K G d v) : ∀ {ds : List (κ × D)} {xs : List (κ × V)}, RepKV K G ds xs → RepKV K G (ds.map fun kv => if kv.1 = q then (kv.1, d) else kv) (xs.map fun kv => if kv.1 = q then (kv.1, v) else kv)
  | [], _, h => by
    unfold RepKV at h
    rw [h]
    show RepKV K G [] []
    unfold RepKV
    rfl
  | (q', d') :: ds, _, h => by
    unfold RepKV at h
    obtain ⟨x, r, e, rx, t⟩ := h
    subst e
    rw [List.map_cons, List.map_cons]
    by_cases hq : q' = q
    · rw [if_pos hq, if_pos hq]
      unfold RepKV
      exact ⟨v, _, rfl, hv, repKV_map hv t⟩
    · rw [if_neg hq, if_neg hq]
      unfold RepKV
      exact ⟨x, _, rfl, rx, repKV_map hv t⟩
theorem repKV_snoc {κ : Type} {G : Hp} {q : κ} {d : D} {v : V} (hv : Rep K G d v) : ∀ {ds : List (κ × D)} {xs : List (κ × V)}, RepKV K G ds xs → RepKV K G (ds ++ [(q, d)]) (xs ++ [(q, v)])
  | [], _, h => by
    unfold RepKV at h
    rw [h]
    show RepKV K G [(q, d)] [(q, v)]
    unfold RepKV
    exact ⟨v, [], rfl, hv, by unfold RepKV; rfl⟩
  | (q', d') :: ds, _, h => by
    unfold RepKV at h
    obtain ⟨x, r, e, rx, t⟩ := h
    subst e
    show RepKV K G ((q', d') :: (ds ++ [(q, d)])) ((q', x) :: (r ++ [(q, v)]))
    unfold RepKV
    exact ⟨x, _, rfl, rx, repKV_snoc hv t⟩
theorem repKV_put {κ : Type} [DecidableEq κ] {G : Hp} {q : κ} {d : D} {v : V} (hv : Rep K G d v) {ds : List (κ × D)} {xs : List (κ × V)} (h : RepKV K G ds xs) : RepKV K G (putD ds q d) (putK xs q v) := by
  unfold putD putK
  rw [repKV_any h]
  split
  · exact repKV_map hv h
  · exact repKV_snoc hv h
theorem ae_dnew (q : ∀ a, k (.ref a) (M ++ [(a, .dK [])])) : AE K tDNewK δ M k := fun σ G H Q rs s f p hp => by
  obtain ⟨s2, st2⟩ := s.fresh (o := .dK []) (m := .dK []) hp ⟨[], rfl, by unfold RepKV; rfl⟩
  exact f _ _ _ _ _ (q p) s2 st2 rep_of_ref
def rSetU : TSet := fun o i v H Q => rSetL o i v H Q ∨ rSetD o i v H Q
theorem set_any {X : Cx} (hu : X.A.units + 1 < cLine) : PSet X rSetU := fun pins s σ H o i v ov iv u Q I ro ri rv h => by
  rcases h with h | h
  · exact set_list pins s σ H o i v ov iv u Q I ro ri rv h
  · exact set_dict hu pins s σ H o i v ov iv u Q I ro ri rv h
/-- o[i] = v, of a list or a dict that may change -/
def PutU (o i v : D) (M : Mu) (q : Mu → Prop) : Prop := PutM o i v M q ∨ ∃ a kvs M1 M2 key, o = .ref a ∧ i = keyD key ∧ M = M1 ++ (a, .dK kvs) :: M2 ∧ kvs.length < sizeLine ∧ q (M1 ++ (a, .dK (putD kvs key v)) :: M2)
theorem put_l {a : Addr} {ds : List D} {M1 M2 : Mu} {j : Int} {n : Nat} {v : D} {q : Mu → Prop} (e : M = M1 ++ (a, .lst ds) :: M2) (hn : ixN ds.length j = some n) (h : q (M1 ++ (a, .lst (ds.set n v)) :: M2)) : PutU (.ref a) (.int j) v M q := .inl ⟨a, ds, M1, M2, j, n, rfl, rfl, e, hn, h⟩
theorem put_d {a : Addr} {kvs : List (Key × D)} {M1 M2 : Mu} {i : D} {key : Key} {v : D} {q : Mu → Prop} (e : M = M1 ++ (a, .dK kvs) :: M2) (hi : i = keyD key) (hl : kvs.length < sizeLine) (h : q (M1 ++ (a, .dK (putD kvs key v)) :: M2)) : PutU (.ref a) i v M q := .inr ⟨a, kvs, M1, M2, key, rfl, hi, e, hl, h⟩
theorem ag_setU {kg : DS → Mu → Prop} (h : AE K to δ M fun o M1 => AE K ti δ M1 fun j M2 => PutU o j d M2 fun M3 => kg δ M3) : AG K (gSub to ti rSetU) d δ M kg := fun v σ G H Q rv rs s f =>
  h σ G H _ rs s fun o M1 vo G1 H1 h1 s1 st1 r1 => h1 σ G1 H1 _ (rs.mono st1.gg) s1 fun j M2 vj G2 H2 h2 s2 st2 r2 => by
    have rv2 := Rep.mono (st1.trans st2).gg _ _ rv
    have rs2 := rs.mono (st1.trans st2).gg
    rcases h2 with ⟨a, ds, N1, N2, jj, n, rfl, rfl, rfl, hn, q⟩ | ⟨a, kvs, N1, N2, key, rfl, rfl, rfl, hl, q⟩
    · obtain ⟨g0, o, ho, r⟩ := s2.mu (a, .lst ds) (by simp)
      obtain ⟨xs, rfl, rx⟩ := r
      obtain ⟨s3, st3⟩ := s2.write (o := .lst (xs.set n v)) (m' := .lst (ds.set n d)) ⟨_, rfl, Reps.set rx rv2⟩
      exact .inl ⟨a, xs, jj, n, rep_ref r1, rep_int r2, ho, by rw [rx.len]; exact hn, f δ _ σ G2 _ q rs2 s3 ((st1.trans st2).trans st3)⟩
    · obtain ⟨g0, o, ho, r⟩ := s2.mu (a, .dK kvs) (by simp)
      obtain ⟨xs, rfl, rx⟩ := r
      obtain ⟨s3, st3⟩ := s2.write (o := .dK (putK xs key v)) (m' := .dK (putD kvs key d)) ⟨_, rfl, repKV_put rv2 rx⟩
      exact .inr ⟨a, _, rep_ref r1, by rw [rep_key r2]; exact DPut.k ho (by rw [repKV_len rx]; exact hl), f δ _ σ G2 _ q rs2 s3 ((st1.trans st2).trans st3)⟩
/-- a dict that may change, asked -/
theorem ae_dget2 (h : AE K td δ M fun o M1 => (∃ a kvs N1 N2, o = .ref a ∧ M1 = N1 ++ (a, MO.dK kvs) :: N2) ∧ AE K te δ M1 fun i M2 => AE K tx δ M2 fun z M3 => ∃ a kvs N1 N2 key, o = .ref a ∧ i = keyD key ∧ M3 = N1 ++ (a, MO.dK kvs) :: N2 ∧ k ((valD kvs key).getD z) M3) : AE K (tDGet2 td te tx) δ M k := fun σ G H Q rs s f =>
  h σ G H _ rs s fun o M1 vo G1 H1 ⟨⟨a, kvs, N1, N2, e1, e2⟩, h1⟩ s1 st1 r1 => by
    subst e1
    refine ⟨a, rep_ref r1, ?_, h1 σ G1 H1 _ (rs.mono st1.gg) s1 fun i M2 vi G2 H2 h2 s2 st2 r2 => h2 σ G2 H2 _ (rs.mono (st1.trans st2).gg) s2 fun z M3 vz G3 H3 h3 s3 st3 r3 => ?_⟩
    · obtain ⟨g0, o, ho, r⟩ := s1.mu (a, .dK kvs) (by rw [e2]; simp)
      obtain ⟨xs, rfl, rx⟩ := r
      exact .inl ⟨xs, .inl ho⟩
    · obtain ⟨a', kvs, N1, N2, key, e3, e4, e5, q⟩ := h3
      cases e3
      subst e4
      obtain ⟨g0, o, ho, r⟩ := s3.mu (a, .dK kvs) (by rw [e5]; simp)
      obtain ⟨xs, rfl, rx⟩ := r
      have st := (st1.trans st2).trans st3
      rw [rep_key r2]
      refine ⟨valV xs key, DGet.k ho, ?_⟩
      obtain ⟨g1, g2⟩ := repKV_get (q := key) rx
      cases hv : valD kvs key with
      | none =>
        rw [hv] at q
        rw [g2 hv]
        exact f z M3 vz G3 H3 q s3 st r3
      | some dv =>
        rw [hv] at q
        obtain ⟨v, e6, r6⟩ := g1 dv hv
        rw [e6]
        exact f dv M3 v G3 H3 q s3 st r6
end
end Tg
namespace Tg
open PySem L2
theorem dcase {p : Prop} [Decidable p] {A B : Prop} (h1 : p → A) (h2 : ¬ p → B) : (decide p = true → A) ∧ (decide p = false → B) := ⟨fun c => h1 (of_decide_eq_true c), fun c => h2 (of_decide_eq_false c)⟩
theorem dcaseN {p : Prop} [Decidable p] {A B : Prop} (h1 : ¬ p → A) (h2 : p → B) : ((!decide p) = true → A) ∧ ((!decide p) = false → B) := ⟨fun c => h1 (by
  intro q
  rw [decide_eq_true q] at c
  cases c), fun c => h2 (by
  by_cases q : p
  · exact q
  · rw [decide_eq_false q] at c
    cases c)⟩
theorem dcaseR {p : Prop} [Decidable p] {A B : Prop} (h1 : ¬ p → A) (h2 : p → B) : (decide p = false → A) ∧ (decide p = true → B) := ⟨fun c => h1 (of_decide_eq_false c), fun c => h2 (of_decide_eq_true c)⟩
theorem bcaseT {A B : Prop} (h : A) : (true = true → A) ∧ (true = false → B) := ⟨fun _ => h, fun c => nomatch c⟩
theorem bcaseF {A B : Prop} (h : B) : (false = true → A) ∧ (false = false → B) := ⟨fun c => (nomatch c), fun _ => h⟩
theorem bcaseTR {A B : Prop} (h : B) : (true = false → A) ∧ (true = true → B) := ⟨fun c => (nomatch c), fun _ => h⟩
theorem bcaseFR {A B : Prop} (h : A) : (false = false → A) ∧ (false = true → B) := ⟨fun _ => h, fun c => nomatch c⟩
theorem cmul_l {i j : Int} (h1 : -(2 ^ 64) < i) (h2 : i < 2 ^ 64) : CMul i j := .inl ⟨h1, h2⟩
theorem cmul_r {i j : Int} (h1 : -(2 ^ 64) < j) (h2 : j < 2 ^ 64) : CMul i j := .inr ⟨h1, h2⟩
theorem at_yes {K : PySem.W.Frag} {δ : DS} {M : Mu} {kb : Bool → Mu → Prop} (q : kb true M) : AT K tYes δ M kb := fun σ G H Q rs s f => f true M G H q s Step.refl
end Tg
namespace Tg
open PySem L2
section
variable {K : PySem.W.Frag} {M : Mu} {k : D → Mu → Prop} {a : Addr} {ds es : List D} {M2 : Mu} {x y : Addr × MO} {j : Int} {n : Nat} {v d i : D} {q : Mu → Prop} {kvs : List (Key × D)} {key : Key}
theorem put_l0 (hn : ixN ds.length j = some n) (h : q ((a, .lst (ds.set n v)) :: M2)) : PutU (.ref a) (.int j) v ((a, .lst ds) :: M2) q := put_l (M1 := []) rfl hn h
theorem put_l1 (hn : ixN ds.length j = some n) (h : q (x :: (a, .lst (ds.set n v)) :: M2)) : PutU (.ref a) (.int j) v (x :: (a, .lst ds) :: M2) q := put_l (M1 := [x]) rfl hn h
theorem put_d0 (hi : i = keyD key) (hl : kvs.length < sizeLine) (h : q ((a, .dK (putD kvs key v)) :: M2)) : PutU (.ref a) i v ((a, .dK kvs) :: M2) q := put_d (M1 := []) rfl hi hl h
theorem put_d1 (hi : i = keyD key) (hl : kvs.length < sizeLine) (h : q (x :: (a, .dK (putD kvs key v)) :: M2)) : PutU (.ref a) i v (x :: (a, .dK kvs) :: M2) q := put_d (M1 := [x]) rfl hi hl h
theorem aix0 (h : atI ds j = some d) (q : k d ((a, .lst ds) :: M2)) : AR K (rIx K) (.ref a) (.int j) ((a, .lst ds) :: M2) k := aix_M (M1 := []) rfl h q
theorem aix1 (h : atI ds j = some d) (q : k d (x :: (a, .lst ds) :: M2)) : AR K (rIx K) (.ref a) (.int j) (x :: (a, .lst ds) :: M2) k := aix_M (M1 := [x]) rfl h q
theorem app0 (hz : ds.length < sizeLine) (q : k .non ((a, .lst (ds ++ [d])) :: M2)) : AM K rAppend (.ref a) [d] ((a, .lst ds) :: M2) k := am_append (M1 := []) rfl hz q
theorem app1 (hz : ds.length < sizeLine) (q : k .non (x :: (a, .lst (ds ++ [d])) :: M2)) : AM K rAppend (.ref a) [d] (x :: (a, .lst ds) :: M2) k := am_append (M1 := [x]) rfl hz q
theorem app2 (hz : ds.length < sizeLine) (q : k .non (x :: y :: (a, .lst (ds ++ [d])) :: M2)) : AM K rAppend (.ref a) [d] (x :: y :: (a, .lst ds) :: M2) k := am_append (M1 := [x, y]) rfl hz q
theorem ext0 (hz : ds.length + es.length ≤ sizeLine) (q : k .non ((a, .lst (ds ++ es)) :: M2)) : AM K rExtend (.ref a) [.lst es] ((a, .lst ds) :: M2) k := am_extend (M1 := []) rfl hz q
theorem lst0 : LstM (.ref a) ((a, MO.lst ds) :: M2) := lstM_ref (N1 := []) rfl
theorem lst1 : LstM (.ref a) (x :: (a, MO.lst ds) :: M2) := lstM_ref (N1 := [x]) rfl
theorem lst2 : LstM (.ref a) (x :: y :: (a, MO.lst ds) :: M2) := lstM_ref (N1 := [x, y]) rfl
theorem lenM0 (q : k (.int (ds.length : Int)) ((a, .lst ds) :: M2)) : AC K (rLenU K) [.ref a] ((a, .lst ds) :: M2) k := ac_lenM (M1 := []) rfl q
theorem lenM1 (q : k (.int (ds.length : Int)) (x :: (a, .lst ds) :: M2)) : AC K (rLenU K) [.ref a] (x :: (a, .lst ds) :: M2) k := ac_lenM (M1 := [x]) rfl q
theorem tupM0 (q : k (.tup ds) ((a, .lst ds) :: M2)) : AC K (rTupU K) [.ref a] ((a, .lst ds) :: M2) k := ac_tupM (M1 := []) rfl q
theorem tupM1 (q : k (.tup ds) (x :: (a, .lst ds) :: M2)) : AC K (rTupU K) [.ref a] (x :: (a, .lst ds) :: M2) k := ac_tupM (M1 := [x]) rfl q
variable {δ : DS} {t : TS} {A : AEnds} {s : Nat}
theorem frz0 (hi : δ[s]? = some (some (.ref a))) (h : AS K t (δ.set s (some (.lst ds))) M2 A) : AS K t δ ((a, .lst ds) :: M2) A := as_freeze (M1 := []) hi rfl h
theorem frz1 (hi : δ[s]? = some (some (.ref a))) (h : AS K t (δ.set s (some (.lst ds))) (x :: M2) A) : AS K t δ (x :: (a, .lst ds) :: M2) A := as_freeze (M1 := [x]) hi rfl h
theorem frz2 (hi : δ[s]? = some (some (.ref a))) (h : AS K t (δ.set s (some (.lst ds))) (x :: y :: M2) A) : AS K t δ (x :: y :: (a, .lst ds) :: M2) A := as_freeze (M1 := [x, y]) hi rfl h
end
end Tg
namespace Tg
open PySem L2
theorem as_cut {K : PySem.W.Frag} {δ : DS} {M : Mu} {A : AEnds} {t u : TS} (J : DS → Mu → Prop) (h1 : AS K t δ M { A with nx := J }) (h2 : ∀ δ' M', J δ' M' → AS K u δ' M' A) : AS K (tSeq t u) δ M A :=
  as_seq (h1.mono (fun δ M q => h2 δ M q) (fun _ _ q => q) (fun _ _ q => q) (fun _ _ q => q) (fun _ _ q => q) (fun _ _ q => q))
end Tg
namespace Tg
open PySem L2
theorem len_ok {ds : List D} (n : Nat) (h : ds.length = n) (hn : n ≤ 1000 := by decide) : ds.length ≤ sizeLine := by
  rw [h]
  exact Nat.le_trans hn (by decide)
end Tg
set_option Elab.async false
set_option linter.all false
set_option maxRecDepth 100000
set_option maxHeartbeats 1000000
namespace Tg
open PySem L2 PyProof.Rows
/-! ### methods of texts -/
section
variable {X : Cx} {e : Expr}
abbrev rCount : V → List V → Hp → VK → Prop := fun x xs H Q => ∃ a b, x = .str a ∧ xs = [.str b] ∧ Q (.int (Txt.count a b)) H
abbrev rRfind4 : V → List V → Hp → VK → Prop := fun x xs H Q => ∃ (a b : Str) (i j : Int), x = .str a ∧ xs = [.str b, .int i, .int j] ∧ Q (.int (Txt.rfindIn a b i j)) H
theorem rf_K {K : PySem.W.Frag} {o : Expr} {es : List Expr} {to : TE} {t : TA} {apos cpos : Pos} (h0 : PE X (.Call (.Attribute o "rfind" apos) (e :: es) [] cpos) (tBM X.K "str" rRfind4 to t)) (h : X.K = K := by rfl) : PE X (.Call (.Attribute o "rfind" apos) (e :: es) [] cpos) (tBM K "str" rRfind4 to t) := h ▸ h0
end
section
variable {K : PySem.W.Frag} {δ : DS} {M : Mu} {to : TE} {k : D → Mu → Prop}
theorem ae_sm {r : V → List V → Hp → VK → Prop} {ts : TA} (h : AE K to δ M fun x M1 => (∃ z, x = D.str z) ∧ AA K ts δ M1 fun xs M2 => AM K r x xs M2 k) : AE K (tBM K "str" r to ts) δ M k := fun σ G H Q rs s f =>
  h σ G H _ rs s fun x M1 v G1 H1 ⟨⟨z, e⟩, h1⟩ s1 st1 r1 => by
    subst e
    refine ⟨by rw [rep_str r1]; exact rfl, h1 σ G1 H1 _ (rs.mono st1.gg) s1 fun xs M2 vs G2 H2 h2 s2 st2 r2 => h2 v vs G2 H2 Q (Rep.mono st2.gg _ _ r1) r2 s2 fun d M3 v3 G3 H3 q s3 st3 r3 => f d M3 v3 G3 H3 q s3 ((st1.trans st2).trans st3) r3⟩
/-- how often a code stands in a list -/
def nls (l : List Nat) : Nat := (l.filter fun c => decide (c = 10)).length
def col : List Nat → Nat → Nat
  | [], n => n
  | c :: r, n => col r (if c = 10 then 1 else n + 1)
theorem col_snoc (c : Nat) : ∀ (l : List Nat) (n : Nat), col (l ++ [c]) n = if c = 10 then 1 else col l n + 1
  | [], n => rfl
  | d :: l, n => col_snoc c l _
theorem nls_snoc (l : List Nat) (c : Nat) : nls (l ++ [c]) = if c = 10 then nls l + 1 else nls l := by
  unfold nls
  rw [List.filter_append, List.length_append]
  by_cases h : c = 10
  · subst h
    simp
  · simp [h]
theorem nls_cnt : ∀ l : List Nat, cnt 10 l = (nls l : Int)
  | [] => rfl
  | c :: r => by
    rw [cnt_cons, nls_cnt r]
    unfold nls
    by_cases h : c = 10
    · subst h
      simp
      omega
    · simp [h]
theorem am_nls {l : List Nat} (q : k (.int (nls l)) M) : AM K rCount (.str (tx l)) [.str (Str.ofString "\n")] M k := fun vx vs G H Q rx rxs s f => by
  obtain ⟨v, r, rfl, r1, rr⟩ := rxs.uncons
  unfold Reps at rr
  subst rr
  refine ⟨tx l, Str.ofString "\n", rep_str rx, by rw [rep_str r1], ?_⟩
  have e : Txt.count (tx l) (Str.ofString "\n") = (nls l : Int) := by
    rw [show Str.ofString "\n" = (⟨#[10]⟩ : Str) from by decide +kernel, count_cnt, tx_cps, nls_cnt]
  rw [e]
  exact f _ M _ G H q s Step.refl rep_of_int
/-- the column behind the signs of l -/
theorem rfind_col (l : List Nat) (j : Nat) (hj : j ≤ l.length) : (j : Int) - Txt.rfindIn (tx l) (Str.ofString "\n") 0 j = (col (l.take j) 1 : Nat) := by
  have e1 : Str.ofString "\n" = (⟨#[10]⟩ : Str) := by decide +kernel
  rw [e1]
  unfold Txt.rfindIn
  have e2 : fromIndex (tx l).length 0 = 0 := by
    unfold fromIndex
    simp
  have e3 : toIndexW (tx l).length (j : Int) = j := by
    unfold toIndexW
    rw [tx_len, if_neg (by omega)]
    omega
  rw [e2, e3, StrLaws.last_eq]
  have key := StrLaws.last_run (tx l) ⟨#[10]⟩ j (List.range' 0 (j + 1 - 0)) [] none (fun _ h => nomatch h) (fun _ h => nomatch h) (by simpa using List.pairwise_lt_range' (s := 0) (n := j + 1 - 0))
  rw [List.nil_append] at key
  have at_iff : ∀ i, StrLaws.At (tx l) ⟨#[10]⟩ j i ↔ i < j ∧ l[i]? = some 10 := fun i => by
    have h0 := StrLaws.subAt_one (tx l) 10 i
    rw [tx_cps] at h0
    have h1 : (⟨#[10]⟩ : Str).length = 1 := rfl
    unfold StrLaws.At
    constructor
    · rintro ⟨h2, h3⟩
      rw [h1] at h2
      exact ⟨by omega, h0.mp ⟨by rw [h1, tx_len]; omega, h3⟩⟩
    · rintro ⟨h2, h3⟩
      exact ⟨by rw [h1]; omega, (h0.mpr h3).2⟩
  -- the column by the last line feed
  have main : ∀ j, j ≤ l.length → (∀ a, a < j → l[a]? = some 10 → (∀ i, a < i → i < j → l[i]? ≠ some 10) → (col (l.take j) 1 : Int) = j - a) ∧ ((∀ i, i < j → l[i]? ≠ some 10) → (col (l.take j) 1 : Int) = j + 1) := by
    intro j
    induction j with
    | zero =>
      intro _
      exact ⟨fun a h => absurd h (by omega), fun _ => by simp [col]⟩
    | succ j ih =>
      intro hj
      obtain ⟨i1, i2⟩ := ih (by omega)
      have hl : j < l.length := by omega
      have e : l.take (j + 1) = l.take j ++ [l[j]] := by
        rw [List.take_add_one, List.getElem?_eq_getElem hl]
        rfl
      rw [e, col_snoc]
      by_cases h : l[j] = 10
      · rw [if_pos h]
        have hs : l[j]? = some 10 := by rw [List.getElem?_eq_getElem hl, h]
        refine ⟨fun a ha h1 h2 => ?_, fun h2 => absurd hs (h2 j (by omega))⟩
        by_cases hc : a = j
        · subst hc
          omega
        · exact absurd hs (h2 j (by omega) (by omega))
      · rw [if_neg h]
        have hs : l[j]? ≠ some 10 := by
          rw [List.getElem?_eq_getElem hl]
          exact fun z => h (Option.some.inj z)
        refine ⟨fun a ha h1 h2 => ?_, fun h2 => ?_⟩
        · have hc : a ≠ j := fun z => hs (by rw [← z]; exact h1)
          have := i1 a (by omega) h1 fun i hi hi2 => h2 i hi (by omega)
          omega
        · have := i2 fun i hi => h2 i (by omega)
          omega
  obtain ⟨m1, m2⟩ := main j hj
  have mem : ∀ i, i < j → i ∈ List.range' 0 (j + 1 - 0) := fun i hi => by simp [List.mem_range']; omega
  cases hr : (forIn (List.range' 0 (j + 1 - 0)) none (StrLaws.lastBody (tx l) ⟨#[10]⟩ j)).run with
  | none =>
    rw [hr] at key
    have := m2 fun i hi hs => key i (mem i hi) ((at_iff i).mpr ⟨hi, hs⟩)
    show (j : Int) - (-1) = _
    omega
  | some a =>
    rw [hr] at key
    obtain ⟨k1, k2⟩ := key
    obtain ⟨h1, h2⟩ := (at_iff a).mp k1
    have := m1 a h1 h2 fun i hi hi2 hs => k2 i (mem i hi2) hi ((at_iff i).mpr ⟨hi2, hs⟩)
    show (j : Int) - (a : Int) = _
    omega
theorem am_rfind {l : List Nat} {j : Nat} {i1 : Int} {b : Str} (hi : i1 = 0) (hb : b = Str.ofString "\n") (q : k (.int (Txt.rfindIn (tx l) (Str.ofString "\n") 0 j)) M) : AM K rRfind4 (.str (tx l)) [.str b, .int i1, .int j] M k := fun vx vs G H Q rx rxs s f => by
  subst hi hb
  obtain ⟨v, r, rfl, r1, rr⟩ := rxs.uncons
  obtain ⟨v2, r, rfl, r2, rr⟩ := rr.uncons
  obtain ⟨v3, r, rfl, r3, rr⟩ := rr.uncons
  unfold Reps at rr
  subst rr
  exact ⟨tx l, _, 0, j, rep_str rx, by rw [rep_str r1, rep_int r2, rep_int r3], f _ M _ G H q s Step.refl rep_of_int⟩
theorem tru_ok_bl {b : Bool} : TruOk (.bl b) := True.intro
theorem tru_ok_int {i : Int} : TruOk (.int i) := True.intro
theorem tru_ok_lst {ds : List D} : TruOk (.lst ds) := True.intro
theorem caseT {b : Bool} {A B : Prop} (h : b = true) (q : A) : (b = true → A) ∧ (b = false → B) := ⟨fun _ => q, fun c => nomatch h.symm.trans c⟩
theorem caseF {b : Bool} {A B : Prop} (h : b = false) (q : B) : (b = true → A) ∧ (b = false → B) := ⟨fun c => (nomatch h.symm.trans c), fun _ => q⟩
theorem caseTR {b : Bool} {A B : Prop} (h : b = true) (q : B) : (b = false → A) ∧ (b = true → B) := ⟨fun c => (nomatch h.symm.trans c), fun _ => q⟩
theorem caseFR {b : Bool} {A B : Prop} (h : b = false) (q : A) : (b = false → A) ∧ (b = true → B) := ⟨fun _ => q, fun c => nomatch h.symm.trans c⟩
theorem ac_isiT {x : D} {n c : String} (h : typeD x = some n) (hk : PySem.W.kitOne K (.type n) (.type c) = some true) (q : k (.bl true) M) : AC K (rIsi K) [x, .ty c] M k := ac_isi h hk q
theorem ac_isiF {x : D} {n c : String} (h : typeD x = some n) (hk : PySem.W.kitOne K (.type n) (.type c) = some false) (q : k (.bl false) M) : AC K (rIsi K) [x, .ty c] M k := ac_isi h hk q
/-! ### dicts, asked -/
theorem val_put {κ : Type} [DecidableEq κ] {kvs : List (κ × D)} {q q' : κ} {v : D} : valD (putD kvs q v) q' = if q = q' then some v else valD kvs q' := by
  unfold putD
  by_cases h : (kvs.any fun kv => decide (kv.1 = q)) = true
  · rw [if_pos h]
    induction kvs with
    | nil => simp at h
    | cons kv r ih =>
      obtain ⟨p, d⟩ := kv
      rw [List.map_cons]
      by_cases hp : p = q
      · subst hp
        rw [if_pos rfl]
        by_cases hq : p = q'
        · subst hq
          simp [valD]
        · rw [if_neg hq]
          have e : ∀ r : List (κ × D), valD (r.map fun kv => if kv.1 = p then (kv.1, v) else kv) q' = valD r q' := by
            intro r
            induction r with
            | nil => rfl
            | cons kv r ih =>
              obtain ⟨p2, d2⟩ := kv
              rw [List.map_cons]
              by_cases h2 : p2 = p
              · subst h2
                rw [if_pos rfl]
                have a : valD ((p2, v) :: r.map fun kv => if kv.1 = p2 then (kv.1, v) else kv) q' = valD (r.map fun kv => if kv.1 = p2 then (kv.1, v) else kv) q' := by simp [valD, hq]
                have b : valD ((p2, d2) :: r) q' = valD r q' := by simp [valD, hq]
                rw [a, b, ih]
              · rw [if_neg h2]
                by_cases h3 : p2 = q'
                · simp [valD, h3]
                · have a : valD ((p2, d2) :: r.map fun kv => if kv.1 = p then (kv.1, v) else kv) q' = valD (r.map fun kv => if kv.1 = p then (kv.1, v) else kv) q' := by simp [valD, h3]
                  have b : valD ((p2, d2) :: r) q' = valD r q' := by simp [valD, h3]
                  rw [a, b, ih]
          have a : valD ((p, v) :: r.map fun kv => if kv.1 = p then (kv.1, v) else kv) q' = valD (r.map fun kv => if kv.1 = p then (kv.1, v) else kv) q' := by simp [valD, hq]
          have b : valD ((p, d) :: r) q' = valD r q' := by simp [valD, hq]
          rw [a, b, e]
      · rw [if_neg hp]
        have h' : (r.any fun kv => decide (kv.1 = q)) = true := by simpa [hp] using h
        by_cases hq : p = q'
        · subst hq
          rw [if_neg (Ne.symm hp)]
          simp [valD]
        · have a : valD ((p, d) :: r.map fun kv => if kv.1 = q then (kv.1, v) else kv) q' = valD (r.map fun kv => if kv.1 = q then (kv.1, v) else kv) q' := by simp [valD, hq]
          have b : valD ((p, d) :: r) q' = valD r q' := by simp [valD, hq]
          rw [a, b, ih h']
  · rw [if_neg h]
    induction kvs with
    | nil =>
      by_cases hq : q = q'
      · simp [valD, hq]
      · simp [valD, hq]
    | cons kv r ih =>
      obtain ⟨p, d⟩ := kv
      have hp : p ≠ q := fun z => h (by simp [z])
      have h' : ¬ (r.any fun kv => decide (kv.1 = q)) = true := fun z => h (by rw [List.any_cons, z, Bool.or_true])
      by_cases hq : p = q'
      · subst hq
        rw [if_neg (Ne.symm hp)]
        simp [valD]
      · have a : valD ((p, d) :: r ++ [(q, v)]) q' = valD (r ++ [(q, v)]) q' := by simp [valD, hq]
        have b : valD ((p, d) :: r) q' = valD r q' := by simp [valD, hq]
        rw [a, b, ih h']
theorem put_len {κ : Type} [DecidableEq κ] {kvs : List (κ × D)} {q : κ} {v : D} : (putD kvs q v).length ≤ kvs.length + 1 := by
  unfold putD
  split
  · rw [List.length_map]
    omega
  · rw [List.length_append]
    exact Nat.le_refl _
end
end Tg
set_option Elab.async false
set_option linter.all false
set_option maxRecDepth 100000
set_option maxHeartbeats 1000000
namespace Tg
open PySem L2 PyProof.Rows
/-! ### numbers ahead of what a tuple holds -/
/-- the tuple at a, turn by turn, its items behind their numbers in pairs that are new -/
def Iet (K : PySem.W.Frag) (a : Addr) : It where
  go := fun i H => ∃ ys y, SqT K H a ys ∧ ys[i]? = some y
  yld := fun i H v H' => ∃ p y, v = .ref p ∧ H p = none ∧ H' = upd H p (.tup [.int (i : Nat), y]) ∧ ∀ ys, SqT K H a ys → ys[i]? = some y
  stop := fun i H => ∃ ys, SqT K H a ys ∧ ys.length ≤ i
/-- how the two cells of the walk stand ahead of turn i -/
def EtAt (a en it : Addr) (i : Nat) (h : Heap) : Prop := (∃ old, IsEnum h en it (i : Int) old) ∧ h.IsTupleIter it a i ∧ en ≠ it
theorem turn_enumT {P : Program} {w : World} {K : PySem.W.Frag} {es : List Expr} {n : Nat} {tp : Pos} (a en it : Addr) : Turn P w K (.Tuple es n tp) (Iet K a) [en, it] en (EtAt a en it) where
  mem := List.mem_cons_self ..
  obj := by
    rintro i h ⟨⟨old, he⟩, ⟨o, ho, hc, hd⟩, _⟩ b hb
    rcases List.mem_cons.mp hb with rfl | hb
    · exact ⟨_, he, fun _ q => nomatch q⟩
    · cases List.mem_singleton.mp hb
      refine ⟨o, ho, fun v q => ?_⟩
      rw [hd] at q
      cases q
  keep := by
    rintro i h h' ⟨⟨old, he⟩, hi, ne⟩ k
    exact ⟨⟨old, k en (List.mem_cons_self ..) _ he⟩, hi.at fun o q => k it (by simp) o q, ne⟩
  item := by
    rintro X rfl rfl rfl calm i pins s σ H E I hf ⟨⟨old, he⟩, hit, ne⟩ ⟨ys, y, hq, hy⟩
    obtain ⟨its, rv, tp', hz⟩ := I.tuple hq
    obtain ⟨u, hu, ru⟩ := rv.get hy
    have ta : s.heap.IsTuple a its.toArray := tp'
    have lt : i < its.toArray.size := by
      have := (List.getElem?_eq_some_iff.mp hu).1
      simpa using this
    have ea : a ≠ en := by
      rintro rfl
      obtain ⟨o, ho, hc, _⟩ := ta
      rw [he] at ho
      cases ho
      exact absurd (Value.type.inj hc) (by decide)
    have ia : a ≠ it := by
      rintro rfl
      obtain ⟨o, ho, hc, _⟩ := ta
      obtain ⟨o2, ho2, hc2, _⟩ := hit
      rw [ho] at ho2
      cases ho2
      rw [hc] at hc2
      exact absurd (Value.type.inj hc2) (by decide)
    have sen : en < s.heap.objs.size := Heap.lt_size he
    have sit : it < s.heap.objs.size := by
      obtain ⟨_, q, _⟩ := hit
      exact Heap.lt_size q
    have nofp : en ∉ [it, a] := fun z => by
      rcases List.mem_cons.mp z with z | z
      · exact ne z
      · exact ea (List.mem_singleton.mp z).symm
    refine wpAny_pyNext_enum_itemD (Draws.tuple (A := X.A.in1) (I.ok.hd calm) it a ia its.toArray) he ⟨hit, ta⟩ lt ne nofp fun v h1 tk hv out st1 hT hs1 hk => ?_
    have ev : v = u := by
      have h2 : its[i]? = some v := by simpa using hv
      rw [hu] at h2
      exact (Option.some.inj h2).symm
    subst ev
    refine ⟨_, rfl, wpAny_letOwnedTupleGo_enum (s := { s with heap := h1, toks := tk + 1 }) out fun h2 he2 sb => ?_⟩
    have hT2 : h2.get? s.heap.objs.size = some { cls := .type "tuple", data := .seq #[.int i tk, v] } := by
      rw [sb.2 _ (Nat.ne_of_gt sen)]
      exact hT
    have fresh : ObjOk X.prog X.w (upd H s.heap.objs.size (.tup [.int (i : Nat), y])) h2 s.heap.objs.size (.tup [.int (i : Nat), y]) := by
      refine ⟨by show 2 ≤ sizeLine; decide, [.int i tk, v], ?_, _, hT2, rfl, _, rfl⟩
      exact .cons ⟨_, rfl⟩ (.cons ru .nil)
    have kept : ∀ b ob, b ∉ [en, it] → s.heap.get? b = some ob → h2.get? b = some ob := fun b ob hb q => by
      rw [sb.2 b fun z => hb (by simp [z])]
      exact hk b ob (fun z => hb (by simp [z])) (fun z => hb (by simp [z])) q
    have I2 : Inv X pins σ (upd H s.heap.objs.size (.tup [.int (i : Nat), y])) { s with heap := h2, toks := tk + 1 } := I.turnedNew (ch := [en, it]) kept hf (Nat.le_refl _) fresh
    refine ⟨.ref s.heap.objs.size, _, I2, rfl, ⟨_, y, rfl, I.hok.fresh (Nat.le_refl _), rfl, fun zs hz => ?_⟩, ⟨⟨v, ?_⟩, ?_, ne⟩, fun b hb => ?_⟩
    · rw [I.tuple_inj hz hq]
      exact hy
    · rw [show ((i + 1 : Nat) : Int) = (i : Int) + 1 by omega]
      exact he2
    · exact st1.1.at fun o q => (sb.2 it (Ne.symm ne)).trans q
    · have lb : b < s.heap.objs.size := by
        rcases List.mem_cons.mp hb with rfl | hb
        · exact sen
        · cases List.mem_singleton.mp hb
          exact sit
      rw [upd_ne (Nat.ne_of_lt lb)]
      exact (hf b hb).1
  done := by
    rintro X rfl rfl rfl calm i pins s σ H E I hf ⟨⟨old, he⟩, hit, ne⟩ ⟨ys, hq, hy⟩
    obtain ⟨its, rv, tp', hz⟩ := I.tuple hq
    have ta : s.heap.IsTuple a its.toArray := tp'
    obtain ⟨f0, f1, f2, f3, f4, f5⟩ := hf it (by simp)
    have hn : its.toArray[i]? = none := by
      have := rv.length
      simp
      omega
    have hT : s.TypeIs (.ref en) "enumerate" := ⟨_, he, rfl⟩
    unfold pyNext
    refine wpAny_bind (wpAny_attempt (wpAny_callSpecial?_slot (name := Str.ofString "__next__") hT F.slot_enumerate_next (wpAny_call_entry F.slot_enumerate_next hT F.entry_enumerate_next ?_ (F.args_enumerate_next_1 _))))
    show wpAny _ _ (field (.ref en) 2 >>= _) _ _ _
    refine wpAny_bind (wpAny_field he rfl (x := .ref it) rfl (wpAny_bind (wpAny_nextOf_tuple_end (I.ok.hd calm) hit ta hn fun h' x he' hx' => ?_)))
    obtain ⟨o, ho, hc⟩ := hx'
    refine wpAny_bind (wpAny_isInstance (T := "StopIteration") (b := true) ⟨o, ho, hc⟩ isSubtype_stop (wpAny_pure ⟨rfl, ?_⟩))
    exact I.turned (t' := s.toks) (fun b o hb q => he' b o hb q) f0 f1 f3 f4 f5
  self := by
    rintro A i s Q E ⟨⟨_, he⟩, _⟩ h
    exact wpAny_pyIter_enum he h
set_option maxHeartbeats 2000000 in
/-- what enumerate(v) makes -/
theorem new_enum {v : Value} {o : Obj} {H0 : Heap → Prop} (B : Begins v o H0) : Meets (Builtin.«enumerate.__new__» ⟨[.type "enumerate", v], []⟩) (fun _ R s => H0 s.heap ∧
    R (.ok (.ret (.ref (s.heap.push o).objs.size))) { s with heap := (s.heap.push o).push { cls := .type "enumerate", data := .fields #[.none, .bool false, .ref s.heap.objs.size, rawInt 0, .none, .none] } }) :=
  .of_wp fun prog w A R s hh => by
    obtain ⟨hp, g, d, tk, os⟩ := s
    obtain ⟨hH, hR⟩ := hh
    have hsub := sub_enumerate
    have begun : ∀ {A' : Around} {E Q : Value → Shared → Prop}, Q (.ref hp.objs.size) ⟨hp.push o, g, d, tk, os⟩ → wpAny (model prog w) A' (pyIter v) Q E ⟨hp, g, d, tk, os⟩ := fun q => B.iter _ _ _ _ ⟨hp, g, d, tk, os⟩ _ hH q
    wp_walk using begun
    refine wpAny_stack_any fun st => wpAny_pure ?_
    split
    · rename_i c _ _ _ _ _
      rcases c == Value.type "enumerate" with _ | _ <;> (wp_walk using begun; exact ⟨_, rfl, hR⟩)
    · wp_walk using begun
      exact ⟨_, rfl, hR⟩
theorem call_enumT {prog : Program} {w : World} {A : Around} {E : Value → Shared → Prop} {s : Shared} {a : Addr} {its : Array Value} {Q : Value → Shared → Prop} (ta : s.heap.IsTuple a its)
    (q : ∀ h', IsEnum h' (s.heap.objs.size + 1) s.heap.objs.size 0 .none → h'.IsTupleIter s.heap.objs.size a 0 → (∀ b o, s.heap.get? b = some o → h'.get? b = some o) → Q (.ref (s.heap.objs.size + 1)) { s with heap := h' }) :
    wpAny (model prog w) A (call (.type "enumerate") [.ref a]) Q E s := by
  refine callType_new F.called_enumerate (by decide) (F.typeCall_enumerate_1 _) (F.newCall_enumerate_1 _) (fun obj => F.args_object_init_2 obj _) F.entry_enumerate_new (new_enum (begins_tuple a its)) ⟨ta, ?_⟩
  show _ ∧ _
  have sz : (s.heap.push { cls := .type "tuple_iterator", data := .fields #[.ref a, .int 0 0] }).objs.size = s.heap.objs.size + 1 := Heap.size_push ..
  rw [sz]
  have he : IsEnum ((s.heap.push { cls := .type "tuple_iterator", data := .fields #[.ref a, .int 0 0] }).push { cls := .type "enumerate", data := .fields #[.none, .bool false, .ref s.heap.objs.size, rawInt 0, .none, .none] }) (s.heap.objs.size + 1) s.heap.objs.size 0 .none := by
    have h0 := Heap.get?_push_size (s.heap.push { cls := .type "tuple_iterator", data := .fields #[.ref a, .int 0 0] }) (o := { cls := .type "enumerate", data := .fields #[.none, .bool false, .ref s.heap.objs.size, rawInt 0, .none, .none] }) rfl
    rw [sz] at h0
    exact h0
  exact ⟨⟨_, he, rfl⟩, q _ he ⟨_, Heap.get?_push_of_some _ (Heap.get?_push_size _ rfl), rfl, rfl⟩ fun b o x => Heap.get?_push_of_some _ (Heap.get?_push_of_some _ x)⟩
/-- enumerate of a list or of a tuple -/
def iEnS (K : PySem.W.Frag) (ta : TA) : TI := fun σ H R => ta σ H fun vs H1 => ∃ a xs, vs = [.ref a] ∧ ((SqL K H1 a xs ∧ R (Ite K a) H1) ∨ (SqT K H1 a xs ∧ R (Iet K a) H1))
theorem pi_enS {X : Cx} {e : Expr} {ta : TA} {p pos tp : Pos} {es : List Expr} {n : Nat} (hg : Gl X "enumerate") (hm : X.mg "enumerate" = none) (ha : PA X [e] ta) (hs : starEach [e] X.env = [(false, eval e X.env)] := by rfl) : PI X (.Tuple es n tp) (.Call (.Name "enumerate" p) [e] [] pos) (iEnS X.K ta) := by
  refine ⟨fun pins s σ H R I h => ?_⟩
  refine Call_ (ld_blt I hg hm boot_enumerate (PyProof.Rows.callWith_type1 (thn (ha.run pos pins s σ H _ I h) fun us s1 ⟨vs, H1, I1, r1, a, xs, ex, alt⟩ => ?_) hs rfl))
  subst ex
  obtain ⟨u, rfl, ru⟩ : ∃ u, us = [u] ∧ RelV (.ref a) u := by
    cases r1 with
    | cons r rr =>
      cases rr
      exact ⟨_, rfl, r⟩
  cases ru
  have fp : ∀ b ∈ [s1.heap.objs.size + 1, s1.heap.objs.size], FpOk X pins H1 b := fun b hb => by
    have le : s1.heap.objs.size ≤ b := by
      rcases List.mem_cons.mp hb with rfl | hb
      · exact Nat.le_succ _
      · exact Nat.le_of_eq (List.mem_singleton.mp hb).symm
    exact I1.fpOk le (I1.hok.fresh le)
  rcases alt with ⟨hq, q⟩ | ⟨hq, q⟩
  · obtain ⟨its, rv, p', _⟩ := I1.list hq
    exact call_enumerate_list p'.isList fun h' he hit _ hk => wpAny_pyIter_enum he ⟨_, _, _, _, H1, rfl, I1.kept (t' := s1.toks) hk, turn_enum a (s1.heap.objs.size + 1) s1.heap.objs.size, ⟨⟨.none, he⟩, hit, Nat.succ_ne_self _⟩, fp, q⟩
  · obtain ⟨its, rv, p', _⟩ := I1.tuple hq
    exact call_enumT (show s1.heap.IsTuple a its.toArray from p') fun h' he hit hk => wpAny_pyIter_enum he ⟨_, _, _, _, H1, rfl, I1.kept (t' := s1.toks) hk, turn_enumT a (s1.heap.objs.size + 1) s1.heap.objs.size, ⟨⟨.none, he⟩, hit, Nat.succ_ne_self _⟩, fp, q⟩
section
variable {K : PySem.W.Frag} {G : Hp} {δ : DS} {M : Mu} {ki : List D → Mu → Prop}
theorem itOk_enumT {a : Addr} {xs : List V} {ds : List D} (h : SqT K G a xs) (r : Reps K G ds xs) : ItOk K (Iet K a) G (enumD ds) := fun i G1 H1 M e s => by
  have hq : SqT K H1 a xs := Same.seqT s.same (Same.seqT e h)
  refine ⟨fun d hd => ?_, fun hi => ⟨xs, hq, by rw [r.len, hi]; simp [enumD]⟩⟩
  unfold enumD at hd
  rw [List.getElem?_map, List.getElem?_zipIdx] at hd
  cases hc : ds[i]? with
  | none => rw [hc] at hd; cases hd
  | some c =>
    rw [hc] at hd
    have e1 : D.tup [.int ((0 + i : Nat) : Int), c] = d := by simpa using hd
    rw [Nat.zero_add] at e1
    subst e1
    obtain ⟨x, hx, rx⟩ := r.get hc
    refine ⟨⟨xs, x, hq, hx⟩, fun y H' hy => ?_⟩
    obtain ⟨T, x', rfl, nT, rfl, hy⟩ := hy
    have e2 : x = x' := Option.some.inj (hx.symm.trans (hy xs hq))
    subst e2
    obtain ⟨s2, st2, e3⟩ := s.frozen (o := .tup [.int (i : Nat), x]) nT
    exact ⟨_, s2, st2, rep_mk_tup (.inl (.inl upd_same)) (Reps.cons rep_of_int (Reps.one (Rep.mono (e.trans e3) _ _ rx)))⟩
def seqD : D → Option (List D)
  | .lst ds => some ds
  | .tup ds => some ds
  | _ => none
theorem ai_enum {ts : TA} (h : AA K ts δ M fun ds M1 => ∃ d es, ds = [d] ∧ seqD d = some es ∧ ki (enumD es) M1) : AI K (iEnS K ts) δ M ki := fun σ G H R rs s f =>
  h σ G H _ rs s fun ds M1 vs G1 H1 ⟨d, es, e, he, h1⟩ s1 st1 r1 => by
    subst e
    obtain ⟨x, r, rfl, rx, rr⟩ := r1.uncons
    unfold Reps at rr
    subst rr
    cases d <;> simp only [seqD, Option.some.injEq, reduceCtorEq] at he
    · subst he
      obtain ⟨a, xs, rfl, ha, rs2⟩ := rep_tup rx
      exact ⟨a, xs, rfl, .inr ⟨Same.seqT s1.same ha, f _ M1 G1 H1 _ h1 s1 st1 (itOk_enumT ha rs2)⟩⟩
    · subst he
      obtain ⟨a, xs, rfl, ha, rs2⟩ := rep_lst rx
      exact ⟨a, xs, rfl, .inl ⟨.inl (.inl (s1.same _ _ ha)), f _ M1 G1 H1 _ h1 s1 st1 (itOk_enum (.inl (.inl ha)) rs2)⟩⟩
theorem enumD_get {ds : List D} {i : Nat} {d : D} (h : (enumD ds)[i]? = some d) : ∃ c, ds[i]? = some c ∧ d = .tup [.int (i : Nat), c] := by
  unfold enumD at h
  rw [List.getElem?_map, List.getElem?_zipIdx] at h
  cases hc : ds[i]? with
  | none => rw [hc] at h; cases h
  | some c =>
    rw [hc] at h
    have e1 : D.tup [.int ((0 + i : Nat) : Int), c] = d := by simpa using h
    rw [Nat.zero_add] at e1
    exact ⟨c, rfl, e1.symm⟩
theorem enumD_len (ds : List D) : (enumD ds).length = ds.length := by simp [enumD]
end
section
variable {X : Cx} {K : PySem.W.Frag}
theorem enS_K {e : Expr} {ta : TA} {p pos tp : Pos} {es : List Expr} {n : Nat} (h0 : PI X (.Tuple es n tp) (.Call (.Name "enumerate" p) [e] [] pos) (iEnS X.K ta)) (h : X.K = K := by rfl) : PI X (.Tuple es n tp) (.Call (.Name "enumerate" p) [e] [] pos) (iEnS K ta) := h ▸ h0
end
end Tg
set_option Elab.async false
set_option linter.all false
set_option maxRecDepth 100000
set_option maxHeartbeats 1000000
namespace Tg
open PySem L2 PyProof.Rows
section
variable {K : PySem.W.Frag} {δ : DS} {M M1 M2 : Mu} {te : TE} {k : D → Mu → Prop} {kb : Bool → Mu → Prop} {a : Addr} {ds : List D} {x : Addr × MO}
/-- a list, some times over -/
theorem ar_rep {j : Int} (h0 : 0 ≤ j) (h1 : ds.length * j.toNat ≤ 16777216) (h2 : j < 16777217) (q : k (.lst (List.replicate j.toNat ds).flatten) M) : AR K rRep (.lst ds) (.int j) M k := fun vx vy G H Q rx ry s f => by
  obtain ⟨p, xs, rfl, hp, r1⟩ := rep_lst rx
  refine ⟨p, j, xs, rfl, rep_int ry, s.same _ _ hp, by omega, by omega, by rw [r1.len]; exact h1, fun l hl => ?_⟩
  obtain ⟨s2, st2, e2⟩ := s.frozen (o := .lst (List.replicate j.toNat xs).flatten) hl
  refine f _ M _ _ _ q s2 st2 (rep_mk_lst upd_same ?_)
  have go : ∀ n : Nat, Reps K (upd G l (.lst (List.replicate j.toNat xs).flatten)) (List.replicate n ds).flatten (List.replicate n xs).flatten := by
    intro n
    induction n with
    | zero => exact Reps.nil
    | succ n ih =>
      rw [List.replicate_succ, List.replicate_succ, List.flatten_cons, List.flatten_cons]
      exact (Reps.mono e2 _ _ r1).append ih
  exact go _
theorem reps_erase {G : Hp} : ∀ {ds : List D} {xs : List V} (n : Nat), Reps K G ds xs → Reps K G (ds.eraseIdx n) (xs.eraseIdx n)
  | [], _, n, h => by
    unfold Reps at h
    rw [h]
    simp only [List.eraseIdx_nil]
    exact Reps.nil
  | c :: ds, _, n, h => by
    obtain ⟨y, r, q, s, t⟩ := Reps.uncons h
    subst q
    cases n with
    | zero => exact t
    | succ n => exact Reps.cons s (reps_erase n t)
theorem am_popAt {i : Nat} {d : D} (e : M = M1 ++ (a, .lst ds) :: M2) (hi : ds[i]? = some d) (hz : ds.length ≤ 16777216) (q : k d (M1 ++ (a, .lst (ds.eraseIdx i)) :: M2)) : AM K rPopAt (.ref a) [.int i] M k := fun vx vs G H Q rx rxs s f => by
  subst e
  obtain ⟨v, r, rfl, r1, rr⟩ := rxs.uncons
  unfold Reps at rr
  subst rr
  obtain ⟨g0, o, ho, r⟩ := s.mu (a, .lst ds) (by simp)
  obtain ⟨xs, rfl, rs⟩ := r
  obtain ⟨y, hy, ry⟩ := rs.get hi
  have hl := (List.getElem?_eq_some_iff.mp hi).1
  obtain ⟨s2, st2⟩ := s.write (o := .lst (xs.eraseIdx i)) (m' := .lst (ds.eraseIdx i)) ⟨_, rfl, reps_erase i rs⟩
  refine ⟨a, xs, i, i, y, rep_ref rx, by rw [rep_int r1], ho, by omega, by omega, ?_, hy, f _ _ _ _ _ q s2 st2 ry⟩
  rw [rs.len]
  unfold seqIndex?
  have e1 : (if (i : Int) < 0 then (i : Int) + (ds.length : Int) else (i : Int)) = i := if_neg (by omega)
  simp only [e1]
  rw [if_pos (by simp; omega), Int.toNat_natCast]
theorem at_truM (h : AE K te δ M fun d M' => ∃ a ds N1 N2, d = .ref a ∧ M' = N1 ++ (a, MO.lst ds) :: N2 ∧ kb (!ds.isEmpty) M') : AT K (tTruU K te) δ M kb := fun σ G H Q rs s f =>
  h σ G H _ rs s fun d M1 vx G1 H1 ⟨a, ds, N1, N2, e1, e2, h1⟩ s1 st1 r1 => by
    subst e1
    obtain ⟨g0, o, ho, r⟩ := s1.mu (a, .lst ds) (by rw [e2]; simp)
    obtain ⟨xs, rfl, rx⟩ := r
    refine ⟨!ds.isEmpty, ?_, f _ M1 G1 H1 h1 s1 st1⟩
    rw [rep_ref r1]
    exact .inl ⟨xs, .inl (.inl ho), by rw [isEmpty_len rx.len]⟩
theorem ext1 {es : List D} (hz : ds.length + es.length ≤ sizeLine) (q : k .non (x :: (a, .lst (ds ++ es)) :: M2)) : AM K rExtend (.ref a) [.lst es] (x :: (a, .lst ds) :: M2) k := am_extend (M1 := [x]) rfl hz q
end
end Tg
set_option Elab.async false
set_option linter.all false
set_option maxRecDepth 100000
set_option maxHeartbeats 1000000
/-! Tg: what is raised: an own error with two fields. -/
namespace Tg
open PySem L2 PyProof.Rows
/-! ### the promise of a def that may raise an error of the class C -/
abbrev WtX := List D → Mu → (D → Mu → Prop) → (List (Str × D) → Mu → Prop) → Prop
def SpcX (K : PySem.W.Frag) (C : Addr) (W : WtX) : Sp := fun vs H Q E => ∃ G ds M k kx, Reps K G ds vs ∧ S K G H M ∧ W ds M k kx ∧
  (∀ d M' v G' H', k d M' → S K G' H' M' → Step (ads M) G H (ads M') G' H' → Rep K G' d v → Q v H') ∧
  ∀ fs M' d G' H', kx fs M' → S K G' H' (M' ++ [(d, .xd fs)]) → Step (ads M) G H (ads (M' ++ [(d, .xd fs)])) G' H' → E (.ref C) (some d) H'
section
variable {P : Program} {w : World} {K : PySem.W.Frag} {mg : Str → Option Value} {base : Heap}
theorem spc_okX {C : Addr} {W : WtX} {x qual : Str} {st : Stmt} {f : Addr} {fd : FuncData} {N ps : List Str} {k : Nat} (F : Fun K x qual st f fd) (Sc : FnScope N ps (defScope st)) (len : ∀ ds M kk kx, W ds M kk kx → ds.length = ps.length)
    (hbody : ∀ (cdv : Value) (A : Around) (outer : List Env) (s : Shared) (H : Hp) (E : XK), Room k (A.deeper (envOfC qual (defScope st) s.heap.objs.size f cdv)) →
      ∃ t, PSs (cxOf (L2.CX P w) P w K mg base N qual (defScope st) f cdv A outer s H E) (defBody st) t ∧
        ∀ ds M kk kx, W ds M kk kx → AS K t (startD N.length ds) M { nx := fun _ M' => kk .non M', rt := kk, xs := kx, W := fun d H' => E (.ref C) (some d) H' }) : FnOk P w K mg base (L2.CX P w) (k + 1) f fd ps (SpcX K C W) := by
  refine F.okX Sc (fun vs H Q E h => ?_) (fun cdv A outer s H vs Q E hr h => ?_)
  · obtain ⟨G, ds, M, kk, kx, r, _, hw, _⟩ := h
    rw [r.len]
    exact len ds M kk kx hw
  · obtain ⟨G, ds, M, kk, kx, r, hs, hw, q, qx⟩ := h
    obtain ⟨t, pt, ht⟩ := hbody cdv A outer s H E hr
    refine ⟨t, pt, ht ds M kk kx hw (start N vs) G H _ (relS_start r) hs ⟨?_, ?_, ?_, ?_, ?_⟩⟩
    · intro δ' M' σ' G' H' a rs' s' st'
      exact q .non M' .non G' H' a s' st' rep_of_non
    · intro d M' v G' H' a s' st' rv
      exact q d M' v G' H' a s' st' rv
    · intro δ' M' σ' G' H' a
      exact a.elim
    · intro δ' M' σ' G' H' a
      exact a.elim
    · intro fs M' d G' H' a s' st'
      exact qx fs M' d G' H' a s' st'
end
/-! ### raising -/
/-- what __init__ of an error with two fields leaves -/
def spIni (K : PySem.W.Frag) (C : Addr) (f1 f2 : Str) : Sp := fun vs H Q _ => ∃ a y z, vs = [.ref a, y, z] ∧ H a = some (exo a C none) ∧
  ∀ dx, H dx = none → dx ≠ a → Q .non (upd (upd (upd H dx (exd dx [(f1, y)])) a (exo a C (some dx))) dx (exd dx [(f2, z), (f1, y)]))
/-- raise X(e1, e2) -/
def tRaiseO (K : PySem.W.Frag) (C : Addr) (f1 f2 : Str) (E : XK) (ta : TA) : TS := fun _ σ H => tMkO C (spIni K C f1 f2) [] ta σ H fun cls d H' => E cls d H'
section
variable {K : PySem.W.Frag} {δ : DS} {M : Mu} {A : AEnds} {C : Addr} {f1 f2 : Str} {E : XK} {ta : TA}
theorem upd_swap {H : Hp} {a b : Addr} {o u : HO} (h : a ≠ b) : upd (upd H a o) b u = upd (upd H b u) a o := by
  funext c
  by_cases h1 : c = b
  · subst h1
    rw [upd_same, upd_ne (Ne.symm h), upd_same]
  · rw [upd_ne h1]
    by_cases h2 : c = a
    · subst h2
      rw [upd_same, upd_same]
    · rw [upd_ne h2, upd_ne h2, upd_ne h1]
theorem as_raise (hA : A.W = fun d H' => E (.ref C) (some d) H') (h : AA K ta δ M fun ds M1 => ∃ y z, ds = [y, z] ∧ A.xs [(f2, z), (f1, y)] M1) : AS K (tRaiseO K C f1 f2 E ta) δ M A := fun σ G H E' rs s f =>
  h σ G H _ rs s fun ds M1 vs G1 H1 ⟨y, z, e, hx⟩ s1 st1 r1 => by
    subst e
    obtain ⟨vy, r, rfl, ry, rr⟩ := r1.uncons
    obtain ⟨vz, r, rfl, rz, rr⟩ := rr.uncons
    unfold Reps at rr
    subst rr
    refine ⟨by show 2 ≤ 1000; decide, fun a ha => ⟨a, vy, vz, rfl, upd_same, fun dx hdx hne => ⟨rfl, dx, [(f2, vz), (f1, vy)], ?_, upd_same, ?_, ?_⟩⟩⟩
    · rw [upd_ne (Ne.symm hne), upd_same]
    · have h0 := hdx
      rw [upd_ne hne] at h0
      exact h0
    · have hd1 : H1 dx = none := by
        have h0 := hdx
        rw [upd_ne hne] at h0
        exact h0
      have e : upd (del (upd (upd (upd (upd H1 a (exo a C none)) dx (exd dx [(f1, vy)])) a (exo a C (some dx))) dx (exd dx [(f2, vz), (f1, vy)])) a) dx (.xd [(f2, vz), (f1, vy)]) = upd H1 dx (.xd [(f2, vz), (f1, vy)]) := by
        funext b
        by_cases h1 : b = dx
        · subst h1
          rw [upd_same, upd_same]
        · rw [upd_ne h1, upd_ne h1]
          by_cases h2 : b = a
          · subst h2
            rw [del_same, ha]
          · rw [del_ne h2, upd_ne h1, upd_ne h2, upd_ne h1, upd_ne h2]
      rw [e]
      obtain ⟨s2, st2⟩ := s1.fresh (o := .xd [(f2, vz), (f1, vy)]) (m := .xd [(f2, z), (f1, y)]) hd1 ⟨_, rfl, by
        unfold RepKV
        refine ⟨vz, _, rfl, rz, ?_⟩
        unfold RepKV
        exact ⟨vy, [], rfl, ry, by unfold RepKV; rfl⟩⟩
      have q := f.xs _ M1 dx G1 _ hx s2 (st1.trans st2)
      rw [hA] at q
      exact q
end
section
variable {X : Cx} {K : PySem.W.Frag} {C fI : Addr} {k : Nat} {fd : FuncData} {f1 f2 x : Str} {e e2 : Expr} {es : List Expr} {ta : TA} {p pos pos2 : Pos} {CX : CXT} {E : XK}
theorem ps_raiseO (hc : X.calm = true) (tk : Takes X (fun cls d _ H => E cls d H)) (T : OexC X.K C) (iC : PySem.W.findIn X.K (.ref C) "__init__" = some (some (.ref fI))) (tI : PySem.W.typeIn X.K (.ref fI) = some (.type "function"))
    (F1 : FnOk X.prog X.w X.K X.mg X.base CX k fI fd ["self", f1, f2] (spIni X.K C f1 f2)) (hr : Room (k + 1) X.A) (hb : Binds X.K fd ["self", f1, f2] []) (hx : Passes CX X (fun _ _ _ => False)) (hg : Gl X x) (hm : X.mg x = some (.ref C)) (ha : PA X (e :: es) ta)
    (hdb : (x == ("__debug__" : Str)) = false := by decide) (he : starEach (e :: es) X.env = (false, eval e X.env) :: starEach es X.env := by rfl) (hpl : (backTo pos (starEach es X.env)).any (·.1) = false := by rfl) :
    PS X (.Raise (some (.Call (.Name x p) (e :: es) [] pos)) none pos2) (tRaiseO X.K C f1 f2 E ta) := ps_raise hc tk (pmk_oex T iC tI F1 hr hb .nil hx hg hm ha hdb he hpl)
end
/-! ### an error caught -/
section
variable {K : PySem.W.Frag} {δ : DS} {M : Mu} {A : AEnds} {C : Addr} {W : WtX} {ta : TA} {ib i : Nat} {ts : Addr → Value → Option Addr → TS}
/-- try: x = f(..) except X as n: suite -/
def tTryX (K : PySem.W.Frag) (C : Addr) (W : WtX) (ta : TA) (ib i : Nat) (ts : Addr → Value → Option Addr → TS) : TS := fun D σ H => tAsg (tCallS (SpcX K C W) (WE (wAs K (.ref C) i ts (fun _ _ _ _ => False) D)) ta) (gName ib) D σ H
theorem as_tryX (te : PySem.W.exmOne K (.ref C) (.ref C) = some true) (h : AA K ta δ M fun ds M1 => ∃ Mc R kc kx, M1 = Mc ++ R ∧ W ds Mc kc kx ∧ (∀ d Mc', kc d Mc' → A.nx (δ.set ib (some d)) (Mc' ++ R)) ∧
      ∀ fs Mc' a d, kx fs Mc' → AS K (ts a (.ref C) (some d)) (δ.set i (some (.ref a))) ((Mc' ++ [(d, .xd fs)]) ++ R) { A with nx := fun δ' M' => A.nx (δ'.set i none) M', bk := fun δ' M' => A.bk (δ'.set i none) M', ct := fun δ' M' => A.ct (δ'.set i none) M' }) :
    AS K (tTryX K C W ta ib i ts) δ M A := fun σ G H E rs s f =>
  h σ G H _ rs s fun ds M1 vs G1 H1 ⟨Mc, R, kc, kx, e, hw, hn, hx⟩ s1 st1 r1 => by
    subst e
    refine ⟨G1, ds, Mc, kc, kx, r1, s1.sub, hw, fun d M' v G' H' hd s' st' rv => ?_, fun fs M' d G' H' hk s' st' => ?_⟩
    · obtain ⟨s2, st2⟩ := s1.join s' st'
      exact f.nx _ _ _ G' H' (hn d M' hd) ((rs.mono (st1.trans st2).gg).set ib rv) s2 (st1.trans st2)
    · obtain ⟨s2, st2⟩ := s1.join s' st'
      have st := st1.trans st2
      have fg := f.go st
      refine ⟨true, te, fun _ a ha => ?_, fun q => nomatch q⟩
      refine hx fs M' a d hk (σ.set i (some (.ref a))) G' H' _ ((rs.mono st.gg).set i rep_of_ref) s2 ⟨?_, fg.rt, ?_, ?_, fg.xs⟩
      · intro δ' M2 σ' G2 H2 q r s3 st3
        exact fg.nx _ M2 _ G2 H2 q (r.drop i) s3 st3
      · intro δ' M2 σ' G2 H2 q r s3 st3
        exact fg.bk _ M2 _ G2 H2 q (r.drop i) s3 st3
      · intro δ' M2 σ' G2 H2 q r s3 st3
        exact fg.ct _ M2 _ G2 H2 q (r.drop i) s3 st3
theorem repKV_look {G : Hp} {f : Str} {d : D} : ∀ {ds : List (Str × D)} {xs : List (Str × V)}, RepKV K G ds xs → ds.lookup f = some d → ∃ v, xs.lookup f = some v ∧ Rep K G d v
  | [], _, _, e => nomatch e
  | (q, d') :: ds, _, h, e => by
    unfold RepKV at h
    obtain ⟨x, r, rfl, rx, t⟩ := h
    rw [List.lookup_cons] at e ⊢
    cases hq : f == q with
    | true =>
      rw [hq] at e
      cases e
      exact ⟨x, rfl, rx⟩
    | false =>
      rw [hq] at e
      exact repKV_look t e
variable {a d : Addr} {f : Str} {te : TE} {k : D → Mu → Prop}
theorem ae_xf (h : AE K te δ M fun x M1 => x = .ref a ∧ ∃ fs y N1 N2, M1 = N1 ++ (d, .xd fs) :: N2 ∧ fs.lookup f = some y ∧ k y M1) : AE K (tXf a (.ref C) (some d) C f te) δ M k := fun σ G H Q rs s f' =>
  h σ G H _ rs s fun x M1 v G1 H1 ⟨e1, fs, y, N1, N2, e2, hl, q⟩ s1 st1 r1 => by
    subst e1
    obtain ⟨g0, o, ho, r⟩ := s1.mu (d, .xd fs) (by rw [e2]; simp)
    obtain ⟨ps, rfl, rp⟩ := r
    obtain ⟨v, hv, rv⟩ := repKV_look rp hl
    exact ⟨rep_ref r1, rfl, d, ps, v, rfl, ho, hv, f' y M1 v G1 H1 q s1 st1 rv⟩
end
/-! ### isinstance of the error that is caught -/
/-- e the error at a of the class D with its dict -/
def rIsX (K : PySem.W.Frag) (D a : Addr) (cls : Value) (d : Option Addr) : List V → Hp → VK → Prop := fun xs H Q => ∃ (dd : Addr) (c : V) (cv : Value) (b : Bool) (fs : List (Str × V)), cls = .ref D ∧ d = some dd ∧ xs = [.ref a, c] ∧ H dd = some (.xd fs) ∧ (∀ u, RelV c u → u = cv) ∧ PySem.W.kitOne K (.ref D) cv = some b ∧ Q (.bl b) H
theorem call_isX {X : Cx} {a D : Addr} {cls : Value} {d : Option Addr} {oe : Obj} {pn : List (Addr × Obj)} (C : ExcC X.K D) (hz : Zc cls d oe) (hf : ∃ vs, oe.data = .fields vs) : CallR (X.suite a ((a, oe) :: pn)) (.builtin "isinstance") (rIsX X.K D a cls d) := by
  rintro pins s σ H xs us Q I r ⟨dd, c, cv, b, fs, ec1, ed1, rfl, hdd, hcv, e, q⟩
  subst ec1 ed1
  obtain ⟨u1, u2, rfl, r1, r2⟩ : ∃ u1 u2, us = [u1, u2] ∧ RelV (.ref a) u1 ∧ RelV c u2 := by
    cases r with
    | cons rx rr =>
      cases rr with
      | cons rt rr =>
        cases rr
        exact ⟨_, _, rfl, rx, rt⟩
  cases r1
  have ec := hcv _ r2
  subst ec
  have at_a := (I.pin (a, oe) (List.mem_append_left _ (List.mem_cons_self ..))).1
  obtain ⟨mA, hns, _⟩ : ObjOk X.prog X.w H s.heap dd (.xd fs) := I.hok dd _ hdd
  obtain ⟨od, ho, _⟩ := lookIn_ns hns
  obtain ⟨vs, hv⟩ := hf
  have J : PySem.W.InstAt s.heap a oe D (some od) := ⟨at_a, hz.1, by unfold PySem.W.notCls; rw [hv] <;> rfl, by rw [hz.2]; exact ho⟩
  have hcl : (PySem.W.clsIn X.K D).isSome = true := by
    obtain ⟨cd, h1, _⟩ := PySem.W.any_some C.hd
    rw [h1]
    rfl
  exact PySem.W.kia_one (PySem.W.kitx_exc hcl C.hg C.hk C.hs C.ha C.hn C.ht C.hm) I.kIn J e (fun z => nomatch z) fun tk => ⟨.bl b, H, I.kept (t' := tk) fun _ _ z => z, rfl, q⟩
section
variable {K : PySem.W.Frag} {M : Mu} {k : D → Mu → Prop} {a d C : Addr}
theorem ac_isXref {Cx : Addr} {b : Bool} {fs : List (Str × D)} (N1 N2 : Mu) (hM : M = N1 ++ (d, .xd fs) :: N2) (hk : PySem.W.kitOne K (.ref C) (.ref Cx) = some b) (q : k (.bl b) M) : AC K (rIsX K C a (.ref C) (some d)) [.ref a, .ref Cx] M k := fun vs G H Q rx s f => by
  obtain ⟨v, r, rfl, r1, rr⟩ := rx.uncons
  obtain ⟨u, r, rfl, r2, rr⟩ := rr.uncons
  unfold Reps at rr
  subst rr
  obtain ⟨g0, o, ho, r⟩ := s.mu (d, .xd fs) (by rw [hM]; simp)
  obtain ⟨ps, rfl, _⟩ := r
  exact ⟨d, u, .ref Cx, b, ps, rfl, rfl, by rw [rep_ref r1], ho, fun z hz => by rw [rep_ref r2] at hz; exact hz, hk, f _ M _ G H q s Step.refl rep_of_bl⟩
theorem ac_isXty {n : String} {b : Bool} {fs : List (Str × D)} (N1 N2 : Mu) (hM : M = N1 ++ (d, .xd fs) :: N2) (hk : PySem.W.kitOne K (.ref C) (.type n) = some b) (q : k (.bl b) M) : AC K (rIsX K C a (.ref C) (some d)) [.ref a, .ty n] M k := fun vs G H Q rx s f => by
  obtain ⟨v, r, rfl, r1, rr⟩ := rx.uncons
  obtain ⟨u, r, rfl, r2, rr⟩ := rr.uncons
  unfold Reps at rr
  subst rr
  obtain ⟨g0, o, ho, r⟩ := s.mu (d, .xd fs) (by rw [hM]; simp)
  obtain ⟨ps, rfl, _⟩ := r
  exact ⟨d, u, .type n, b, ps, rfl, rfl, by rw [rep_ref r1], ho, fun z hz => by rw [rep_ty r2] at hz; exact hz, hk, f _ M _ G H q s Step.refl rep_of_bl⟩
end
/-! ### what the written part says of an own error's class -/
structure ErrC (K : PySem.W.Frag) (mg : Str → Option Value) (x qual : Str) (st : Stmt) (f1 f2 : Str) (C : Addr) : Prop where
  o : OexC K C
  m : mg x = some (.ref C)
  i : ∃ fI fd, PySem.W.findIn K (.ref C) "__init__" = some (some (.ref fI)) ∧ PySem.W.typeIn K (.ref fI) = some (.type "function") ∧ Fun K "__init__" qual st fI fd ∧ Binds K fd ["self", f1, f2] []
  n1 : PySem.W.findIn K (.ref C) f1 = some none
  n2 : PySem.W.findIn K (.ref C) f2 = some none
  xf : XfC K C
  self : PySem.W.exmOne K (.ref C) (.ref C) = some true
  ec : ExcC K C
/-- a def that may raise, by its name -/
structure CalX (P : Program) (w : World) (K : PySem.W.Frag) (mg : Str → Option Value) (base : Heap) (k : Nat) (x : Str) (sp : Sp) : Prop where
  ex : ∃ (f : Addr) (fd : FuncData) (ps : List Str), FnOk P w K mg base (L2.CX P w) k f fd ps sp ∧ mg x = some (.ref f) ∧ PySem.W.keepIn K (.ref f) = true ∧ Binds K fd ps []
section
variable {X : Cx} {k j : Nat} {x : Str} {sp : Sp} {W : WX} {e : Expr} {es : List Expr} {t : TA} {p pos : Pos}
theorem pe_cX (tk : Takes X W) (c : CalX X.prog X.w X.K X.mg X.base k x sp) (hr : Room j X.A) (hk : k ≤ j) (hg : Gl X x) (ha : PA X (e :: es) t)
    (hdb : (x == ("__debug__" : Str)) = false := by decide) (he : starEach (e :: es) X.env = (false, eval e X.env) :: starEach es X.env := by rfl) (hpl : (backTo pos (starEach es X.env)).any (·.1) = false := by rfl) :
    PE X (.Call (.Name x p) (e :: es) [] pos) (tCallS sp (WE W) t) := by
  obtain ⟨f, fd, ps, F, hm, kp, b⟩ := c.ex
  exact pe_callS F (hr.mono hk) hg hm kp b (fun σ => passAt tk σ) ha hdb he hpl
end
/-! ### what is known of a class by its name -/
theorem ae_refC {K : PySem.W.Frag} {δ : DS} {M : Mu} {k : D → Mu → Prop} {a : Addr} (q : k (.ref a) M) : AE K (tC (.ref a)) δ M k := fun σ G H Q rs s f => f _ M _ G H q s Step.refl rep_of_ref
/-- what may change is forgotten -/
theorem ae_forget {K : PySem.W.Frag} {δ : DS} {M : Mu} {k : D → Mu → Prop} {te : TE} (h : AE K te δ M fun d _ => k d []) : AE K te δ M k := fun σ G H Q rs s f =>
  h σ G H Q rs s fun d M' v G' H' q s' st r => f d [] v G' H' q ⟨s'.same, (fun _ h => nomatch h), List.nodup_nil⟩ ⟨st.gg, st.fr, st.keep, st.alive, (fun _ h => nomatch h)⟩ r
/-! ### facts of classes -/
theorem exm_self {K : PySem.W.Frag} {S : Addr} (h1 : PySem.W.subIn K (.ref S) (.type "BaseException") = some true) (h2 : PySem.W.isClsIn K S = true) (h3 : PySem.W.typeIn K (.ref S) = some (.type "type")) (h4 : PySem.W.subIn K (.ref S) (.ref S) = some true) :
    PySem.W.exmOne K (.ref S) (.ref S) = some true := by
  have h2' : (PySem.W.clsIn K S).isSome = true := h2
  unfold PySem.W.exmOne PySem.W.kitCls
  rw [h1, if_pos (by decide)]
  show (if ((PySem.W.clsIn K S).isSome && PySem.W.typeIn K (.ref S) == some (.type "type")) = true then PySem.W.subIn K (.ref S) (.ref S) else none) = some true
  rw [h2', h3, if_pos (by decide), h4]
theorem kit_ref {K : PySem.W.Frag} {S : Addr} {t : Value} (h2 : PySem.W.isClsIn K S = true) (h3 : PySem.W.typeIn K (.ref S) = some (.type "type")) (h4 : PySem.W.subIn K t (.ref S) = some true) : PySem.W.kitOne K t (.ref S) = some true := by
  have h2' : (PySem.W.clsIn K S).isSome = true := h2
  unfold PySem.W.kitOne
  split
  · rfl
  · show (if ((PySem.W.clsIn K S).isSome && PySem.W.typeIn K (.ref S) == some (.type "type")) = true then PySem.W.subIn K t (.ref S) else none) = some true
    rw [h2', h3, if_pos (by decide), h4]
theorem kit_ty {K : PySem.W.Frag} {T : String} {t : Value} (h2 : PySem.W.kitMeta T = true) (h4 : PySem.W.subIn K t (.type T) = some true) : PySem.W.kitOne K t (.type T) = some true := by
  unfold PySem.W.kitOne
  split
  · rfl
  · show (if PySem.W.kitMeta T = true then PySem.W.subIn K t (.type T) else none) = some true
    rw [if_pos h2, h4]
end Tg
set_option Elab.async false
set_option linter.all false
set_option maxRecDepth 100000
set_option maxHeartbeats 1000000
/-! Tg: the text of deep data. -/
namespace Tg
open PySem L2 PyProof.Rows
mutual
def toPy : D → PyData
  | .non => .none
  | .bl b => .bool b
  | .int i => .int i
  | .str z => .str z
  | .tup ds => .tuple (toPys ds)
  | .lst ds => .list (toPys ds)
  | .lsk ds => .list (toPys ds)
  | .ty _ => .none
  | .ref _ => .none
def toPys : List D → List PyData
  | [] => []
  | d :: ds => toPy d :: toPys ds
end
mutual
/-- data that can be shown: plain, small ints, signs that are signs -/
def Sho : D → Prop
  | .non => True
  | .bl _ => True
  | .int i => i.natAbs < 1000000
  | .str z => ∀ c ∈ z.cps.toList, c < 128
  | .tup ds => Shos ds
  | .lst ds => Shos ds
  | .lsk ds => Shos ds
  | .ty _ => False
  | .ref _ => False
def Shos : List D → Prop
  | [] => True
  | d :: ds => Sho d ∧ Shos ds
end
mutual
/-- no text of it is longer -/
def wt : D → Nat
  | .non => 4
  | .bl _ => 5
  | .int _ => 4000
  | .str z => 10 * z.length + 2
  | .tup ds => wts ds + 3
  | .lst ds => wts ds + 3
  | .lsk ds => wts ds + 3
  | .ty _ => 4
  | .ref _ => 4
def wts : List D → Nat
  | [] => 0
  | d :: ds => wt d + 2 + wts ds
end
theorem log_small {i : Int} (h : i.natAbs < 1000000) : i.natAbs.log2 < 1920 := by
  by_cases e : i.natAbs = 0
  · rw [e]
    decide
  · rw [Nat.log2_lt e]
    exact Nat.lt_of_lt_of_le h (Nat.le_trans (by decide : 1000000 ≤ 2 ^ 20) (Nat.pow_le_pow_right (by decide) (by decide)))
mutual
theorem show_ok : ∀ d : D, Sho d → (toPy d).showable = true ∧ (toPy d).hasDict = false ∧ (toPy d).shown.length ≤ wt d
  | .non, _ => ⟨rfl, rfl, by decide +kernel⟩
  | .bl true, _ => ⟨rfl, rfl, by decide +kernel⟩
  | .bl false, _ => ⟨rfl, rfl, by decide +kernel⟩
  | .int i, h => by
    unfold Sho at h
    have hl := log_small h
    refine ⟨decide_eq_true hl, rfl, ?_⟩
    have e := int_text_length_le (k := 1920) (by decide) hl
    show (Str.ofString (toString i)).length ≤ 4000
    rw [PySem.ofString_length]
    omega
  | .str z, h => by
    unfold Sho at h
    exact ⟨rfl, rfl, StrLaws.reprText_len z fun c hc => Nat.lt_trans (h c hc) (by decide)⟩
  | .tup ds, h => by
    unfold Sho at h
    obtain ⟨h1, h2, h3, h4⟩ := show_oks ds h
    refine ⟨h1, h2, ?_⟩
    have e := tupleText_len_le (PyData.shownAll (toPys ds))
    show (tupleText (PyData.shownAll (toPys ds))).length ≤ wts ds + 3
    omega
  | .lst ds, h => by
    unfold Sho at h
    obtain ⟨h1, h2, h3, h4⟩ := show_oks ds h
    refine ⟨h1, h2, ?_⟩
    have e := listText_len_le (PyData.shownAll (toPys ds))
    show (listText (PyData.shownAll (toPys ds))).length ≤ wts ds + 3
    omega
  | .lsk ds, h => by
    unfold Sho at h
    obtain ⟨h1, h2, h3, h4⟩ := show_oks ds h
    refine ⟨h1, h2, ?_⟩
    have e := listText_len_le (PyData.shownAll (toPys ds))
    show (listText (PyData.shownAll (toPys ds))).length ≤ wts ds + 3
    omega
  | .ty _, h => by
    unfold Sho at h
    exact h.elim
  | .ref _, h => by
    unfold Sho at h
    exact h.elim
theorem show_oks : ∀ ds : List D, Shos ds → PyData.showableAll (toPys ds) = true ∧ PyData.hasDictAll (toPys ds) = false ∧ ((PyData.shownAll (toPys ds)).map (·.length)).sum + 2 * (PyData.shownAll (toPys ds)).length ≤ wts ds ∧ True
  | [], _ => ⟨rfl, rfl, Nat.le_refl _, True.intro⟩
  | d :: ds, h => by
    unfold Shos at h
    obtain ⟨a1, a2, a3⟩ := show_ok d h.1
    obtain ⟨b1, b2, b3, _⟩ := show_oks ds h.2
    refine ⟨?_, ?_, ?_, True.intro⟩
    · show ((toPy d).showable && PyData.showableAll (toPys ds)) = true
      rw [a1, b1]
      rfl
    · show ((toPy d).hasDict || PyData.hasDictAll (toPys ds)) = false
      rw [a2, b2]
      rfl
    · show (((toPy d).shown :: PyData.shownAll (toPys ds)).map (·.length)).sum + 2 * ((toPy d).shown :: PyData.shownAll (toPys ds)).length ≤ wt d + 2 + wts ds
      rw [List.map_cons, List.sum_cons, List.length_cons]
      omega
end
section
variable {K : PySem.W.Frag} {G H : Hp}
mutual
theorem dp_of (e : Same G H) : ∀ (d : D) (v : V), Sho d → Rep K G d v → Dp K H v (toPy d)
  | .non, _, _, r => by
    rw [rep_non r]
    exact .non
  | .bl b, _, _, r => by
    rw [rep_bl r]
    exact .bl b
  | .int i, _, _, r => by
    rw [rep_int r]
    exact .int i
  | .str z, _, _, r => by
    rw [rep_str r]
    exact .str z
  | .tup ds, _, h, r => by
    unfold Sho at h
    obtain ⟨a, xs, rfl, q, rs⟩ := rep_tup r
    exact .tup (Same.seqT e q) (dps_of e ds xs h rs)
  | .lst ds, _, h, r => by
    unfold Sho at h
    obtain ⟨a, xs, rfl, q, rs⟩ := rep_lst r
    exact .lst (.inl (.inl (e _ _ q))) (dps_of e ds xs h rs)
  | .lsk ds, _, h, r => by
    unfold Sho at h
    obtain ⟨a, xs, rfl, q, rs⟩ := rep_lsk r
    exact .lst (e.seq q) (dps_of e ds xs h rs)
  | .ty _, _, h, _ => by
    unfold Sho at h
    exact h.elim
  | .ref _, _, h, _ => by
    unfold Sho at h
    exact h.elim
theorem dps_of (e : Same G H) : ∀ (ds : List D) (vs : List V), Shos ds → Reps K G ds vs → DpAll K H vs (toPys ds)
  | [], _, _, r => by
    unfold Reps at r
    rw [r]
    exact .nil
  | d :: ds, _, h, r => by
    unfold Shos at h
    obtain ⟨x, xs, rfl, r1, r2⟩ := r.uncons
    exact .cons (dp_of e d x h.1 r1) (dps_of e ds xs h.2 r2)
end
end
/-! ### repr -/
def rRepr (K : PySem.W.Frag) : List V → Hp → VK → Prop := fun xs H Q => ∃ a d, xs = [.ref a] ∧ Dp K H (.ref a) d ∧ d.showable = true ∧ d.hasDict = false ∧ d.depth ≤ 40 ∧ d.shown.length ≤ sizeLine ∧ Q (.str d.shown) H
theorem call_reprD {X : Cx} (hg : X.A.guards = some []) (hu : X.A.units + 64 < cLine) : CallR X (.builtin "repr") (rRepr X.K) := by
  rintro pins s σ H xs us Q I r ⟨a, d, rfl, hd, h1, h2, h3, h4, q⟩
  obtain ⟨u, rfl, ru⟩ : ∃ u, us = [u] ∧ RelV (.ref a) u := by
    cases r with
    | cons rx rr =>
      cases rr
      exact ⟨_, rfl, rx⟩
  obtain rfl : u = Value.ref a := ru
  obtain ⟨as, rd⟩ := Dp.reads I d (.ref a) _ hd rfl
  exact repr_of_reads' rd h1 (fun z => absurd (h2.symm.trans z) Bool.false_ne_true) hg (by omega) (fun _ _ e => e) (fun h' u tk hk => ⟨.str d.shown, H, I.kept (t' := tk) hk, ⟨_, rfl⟩, q⟩) h4
section
variable {K : PySem.W.Frag} {M : Mu} {k : D → Mu → Prop}
theorem ac_repr {ds : List D} (hs : Sho (.tup ds)) (hw : wt (.tup ds) ≤ 16777216) (hd : (toPy (.tup ds)).depth ≤ 40) (q : k (.str (toPy (.tup ds)).shown) M) : AC K (rRepr K) [.tup ds] M k := fun vs G H Q rx s f => by
  obtain ⟨v, r, rfl, r1, rr⟩ := rx.uncons
  unfold Reps at rr
  subst rr
  obtain ⟨h1, h2, h3⟩ := show_ok _ hs
  have hsz := sizeLine_eq
  have dp := dp_of s.same _ v hs r1
  obtain ⟨a, xs, rfl, _⟩ := rep_tup r1
  exact ⟨a, _, rfl, dp, h1, h2, hd, by omega, f _ M _ G H q s Step.refl rep_of_str⟩
end
end Tg
set_option Elab.async false
set_option linter.all false
set_option maxRecDepth 100000
set_option maxHeartbeats 2000000
/-! Tg: the law's own call, where it is known that nothing is being shown. -/
namespace Tg
open PySem L2 PySem.Spec PyProof.Rows
/-- one call of a def, around which A stands -/
theorem run_at {P : Program} {w : World} {K : PySem.W.Frag} {mg : Str → Option Value} {base : Heap} {k : Nat} {x qual : Str} {st : Stmt} {f : Addr} {fd : FuncData} {N ps : List Str} {A : Around} {outer : List Env} {s : Shared} {H : Hp} {args : Args} {us : List Value} {vs : List V} {Q : VK} {E : XK}
    (F : Fun K x qual st f fd) (Sc : FnScope N ps (defScope st)) (hl : vs.length = ps.length) (hr : Room (k + 1) A) (e0 : Env0 P w K mg base A outer s H) (hb : BindsTo s fd args (ps.zip us)) (r : Vals vs us)
    (body : ∀ cdv : Value, Room k (A.deeper (envOfC qual (defScope st) s.heap.objs.size f cdv)) → ∃ t, PSs (cxOf CX0 P w K mg base N qual (defScope st) f cdv A outer s H E) (defBody st) t ∧ t { nx := fun _ H' => Q .non H', rt := Q } (start N vs) H) :
    codeAny (model P w) A (.call (.ref f) args) (CR CX0 outer P w H s Q E) s := by
  obtain ⟨oc, od, kV, doc, pm, an, cdv, ct, osl, rfl, lk, hcd⟩ := F.ex
  have kin : K.In s.heap := e0.mod.kin.keeps fun b o q => (e0.bs b o q).1
  have kinds : ∀ y ∈ ps.zip us, (defScope st).names.lookup y.1 = some .local ∨ ((defScope st).names.lookup y.1 = some .cell ∧ ((cellsFrom (s.heap.objs.size + 1) (defScope st).names []).lookup y.1).isSome = true) := by
    rintro ⟨n, v⟩ hy
    rcases Sc.par n (List.of_mem_zip hy).1 with z | z
    · exact .inl z
    · exact .inr ⟨z, PySem.W.cellsFrom_some _ _ _ (.inl z)⟩
  refine codeAny_call_function hr.depth (kin _ _ lk) rfl Sc.co Sc.gen rfl (PySem.W.codeRec_of kin hcd) (hb _ _ _ _ (wpAny_newFunctionEnv_cells Sc.kind kinds fun env he s1 ic => ?_))
  subst he
  refine ⟨(e0.mod.nolimit.keeps fun b o q => (e0.bs b o q).1).keeps ic.toInCall.keep, codeAny_func ?_⟩
  obtain ⟨t, ht, hq⟩ := body cdv (hr.deeper _)
  refine wpAny_mono (ht.run [] s1 (start N vs) H _ (inv_start Sc hr.hd e0 hl r ic) hq) ?_ fun e s' z => z
  intro fl s' z
  cases fl with
  | ret u =>
    obtain ⟨v, σ', H', J, rv, q⟩ := z
    exact ⟨v, H', J.os, J.bare, J.base, J.hok, rv, q⟩
  | next =>
    obtain ⟨σ', H', J, q⟩ := z
    exact ⟨V.non, H', J.os, J.bare, J.base, J.hok, rfl, q⟩
  | brk =>
    obtain ⟨_, _, _, q⟩ := z
    exact q.elim
  | cont =>
    obtain ⟨_, _, _, q⟩ := z
    exact q.elim
/-- the law's call behind the top -/
theorem law_at {P : Program} {w : World} {K : PySem.W.Frag} {mg mb : Str → Option Value} {fa a : Addr} {s : Shared} {vs : List Value} {ns : List Int}
    (kin : K.In s.heap) (hns : s.heap.Ns mainGlobals mg) (hb : s.heap.Ns builtinsNs mb) (hbb : ∀ x : Str, x ≠ "__name__" → mb x = bootBuiltins x) (hlim : s.heap.NoLimit) (hg : s.gens = #[])
    (ha : s.heap.get? a = some { cls := .type "list", data := .seq vs.toArray }) (hi : IntsAre vs ns) (hl : ns.length ≤ sizeLine)
    (run : ∀ (base : Heap) (H : Hp), K.In base → base.Ns mainGlobals mg → SqL K H a (ns.map V.int) → Env0 P w K mg base callerA [] s H → codeAny (model P w) callerA (.call (.ref fa) ⟨[.ref a], []⟩) (CR CX0 [] P w H s (fun v _ => v = .bl true) fun _ _ _ => False) s) :
    codeAny (model P w) callerA (.call (.ref fa) ⟨[.ref a], []⟩) (fun r s' => r = .ok (.ret (.bool true)) ∧ OldK s.heap s'.heap ∧ s'.os = s.os ∧ AllBare s'.gens) s := by
  have lenV := hi.length
  have main : ∀ H : Hp, Only H → SqL K H a (ns.map V.int) → HOk P w H s.heap → (∀ b, H b ≠ none → b = a ∧ K.lookup a = none) →
      codeAny (model P w) callerA (.call (.ref fa) ⟨[.ref a], []⟩) (fun r s' => r = .ok (.ret (.bool true)) ∧ OldK s.heap s'.heap ∧ s'.os = s.os ∧ AllBare s'.gens) s := by
    intro H only sq hok at_a
    have hid : ∀ {b : Addr} {o : Obj}, s.heap.get? b = some o → H b = none → (hidT s.heap H).get? b = some o := hidT_get
    have free : ∀ {b : Addr} {m : Str → Option Value}, s.heap.Ns b m → H b = none := by
      rintro b m ⟨o, es, ep, e, d, _⟩
      by_cases z : H b = none
      · exact z
      · obtain ⟨e1, _⟩ := at_a b z
        subst e1
        rw [ha] at e
        cases e
        exact nomatch (show Data.seq vs.toArray _ = Data.dict es ep from d)
    have ns2 : ∀ {b : Addr} {m : Str → Option Value}, s.heap.Ns b m → (hidT s.heap H).Ns b m := fun {b m} n => by
      have z := free n
      obtain ⟨o, es, ep, e, d, r⟩ := n
      exact ⟨o, es, ep, hid e z, d, r⟩
    have kin2 : K.In (hidT s.heap H) := fun b o e => by
      refine hid (kin b o e) ?_
      by_cases z : H b = none
      · exact z
      · obtain ⟨e1, e2⟩ := at_a b z
        subst e1
        rw [e2] at e
        cases e
    have mod : Mod K mg (hidT s.heap H) := by
      obtain ⟨mc, h1, h2⟩ := hlim
      exact ⟨kin2, ns2 hns, ⟨mb, ns2 hb, hbb⟩, mc, ns2 h1, h2⟩
    have none_in : ∀ b : Addr, b ∉ ([] : List Addr) := fun b z => nomatch z
    refine codeAny_mono (run _ H kin2 (ns2 hns) sq ⟨rfl, mod, fun b o e => of_hidT e, Nat.le_of_eq (hidT_size _ _), trivial, fun b z => absurd z (none_in b), hok, .of_eq hg⟩) ?_
    intro r s' h
    rcases r with e | fl
    · exact False.elim h
    · cases fl with
      | next => exact False.elim h
      | brk => exact False.elim h
      | cont => exact False.elim h
      | ret u =>
        obtain ⟨v, H', os, bare, un, hok2, rv, q⟩ := h
        cases (show v = .bl true from q)
        cases (show u = Value.bool true from rv)
        refine ⟨rfl, OldK.of_keep fun b o e => ?_, os, bare⟩
        by_cases z : H b = none
        · exact un.keep b o e z (none_in b) (by simp)
        · rcases only b with z2 | ⟨ob, xs, z2⟩
          · exact absurd z2 z
          · obtain ⟨e1, _⟩ := hok b _ z2
            obtain ⟨e2, _⟩ := hok2 b _ (un.frzs b ob _ z2)
            rw [e] at e1
            cases e1
            exact e2
  have rv := vals_ints hi
  by_cases hk : K.lookup a = none
  · refine main (fun b => if b = a then some (.frz { cls := .type "list", data := .seq vs.toArray } (.lst (ns.map V.int))) else none) (fun b => ?_) (.inl (.inr ⟨_, if_pos rfl⟩)) (fun b u z => ?_) fun b z => ?_
    · by_cases e : b = a
      · exact .inr ⟨_, _, if_pos e⟩
      · exact .inl (if_neg e)
    · by_cases e : b = a
      · subst e
        cases (if_pos rfl).symm.trans z
        exact ⟨ha, by rw [List.length_map]; exact hl, vs, _, rv, ha⟩
      · cases (if_neg e).symm.trans z
    · by_cases e : b = a
      · exact ⟨e, hk⟩
      · exact absurd (if_neg e) z
  · obtain ⟨o, ho⟩ := Option.ne_none_iff_exists'.mp hk
    have e := kin a o ho
    rw [ha] at e
    cases e
    exact main (fun _ => none) (fun _ => .inl rfl) (.inr ⟨_, vs.toArray, _, ho, rfl, rfl, rfl, by rw [List.size_toArray, lenV]; exact hl, by simpa using rv⟩) (fun b u z => nomatch z) fun b z => absurd rfl z
/-- the end of a law row, by what its call comes to -/
theorem walk_at_law {l : PySem.W.OpenLaw} {n : Nat} {q : Program} {loose : List Str} {XP : (Str → Option Value) → Heap → Prop} {YP : World → Heap → Prop} {d : DefRec} {K : Params → PySem.W.Frag}
    (hn : l.most = some n) (hn2 : n ≤ sizeLine) (hdf : d.params.defaults = []) (hY : ∀ (w : World) (h : Heap), YP w h → (K w.params).In h)
    (run : ∀ (w : World) (mg : Str → Option Value) (fa a : Addr) (h : Heap) (ns : List Int) (s : Shared) (base : Heap) (H : Hp), (K w.params).In h → h.Ns mainGlobals mg → mg d.name = some (.ref fa) → ns.length ≤ n → (K w.params).In base → base.Ns mainGlobals mg →
      SqL (K w.params) H a (ns.map V.int) → Env0 l.prog w (K w.params) mg base callerA [] s H → codeAny (model l.prog w) callerA (.call (.ref fa) ⟨[.ref a], []⟩) (CR CX0 [] l.prog w H s (fun v _ => v = .bl true) fun _ _ _ => False) s) :
    PySem.W.WalkO q loose XP YP l.row.toRowW d [] (fun f vs => PySem.call f vs) := by
  refine Att.attach_call hn hdf fun w s₀ s1 mg mb fa o pm cd doc a vs ns G Y ho hd hcd hmg hobj hints hlen hg => ?_
  have kin := hY w _ Y
  exact law_at kin G.T.g G.T.b G.T.builtins G.T.nolimit hg hobj hints (Nat.le_trans hlen hn2) fun base H k2 n2 sq e0 => run w mg fa a _ ns s1 base H kin G.T.g hmg hlen k2 n2 sq e0
end Tg
set_option Elab.async false
set_option linter.all false
set_option maxRecDepth 100000
set_option maxHeartbeats 1000000
/-! Tg, objects: fields, methods, making; written dicts; further words. -/
namespace Tg
open PySem L2 PyProof.Rows
section
variable {K : PySem.W.Frag} {G G' H H' : Hp} {M M1 M2 R : Mu}
def putFD (f : Str) (v : D) : List (Str × D) → List (Str × D)
  | [] => [(f, v)]
  | (g, x) :: r => if g = f then (g, v) :: r else (g, x) :: putFD f v r
theorem repKV_putF {f : Str} {d : D} {v : V} (hv : Rep K G d v) : ∀ {ds : List (Str × D)} {xs : List (Str × V)}, RepKV K G ds xs → RepKV K G (putFD f d ds) (putF f v xs)
  | [], _, h => by
    unfold RepKV at h
    rw [h]
    show RepKV K G [(f, d)] [(f, v)]
    unfold RepKV
    exact ⟨v, [], rfl, hv, by unfold RepKV; rfl⟩
  | (g, e) :: ds, _, h => by
    unfold RepKV at h
    obtain ⟨x, r, q, s, t⟩ := h
    subst q
    show RepKV K G (if g = f then (g, d) :: ds else (g, e) :: putFD f d ds) (if g = f then (g, v) :: r else (g, x) :: putF f v r)
    by_cases c : g = f
    · rw [if_pos c, if_pos c]
      unfold RepKV
      exact ⟨v, r, rfl, hv, t⟩
    · rw [if_neg c, if_neg c]
      unfold RepKV
      exact ⟨x, _, rfl, s, repKV_putF hv t⟩
theorem repKV_no {f : Str} : ∀ {ds : List (Str × D)} {xs : List (Str × V)}, RepKV K G ds xs → ds.lookup f = none → xs.lookup f = none
  | [], _, h, _ => by
    unfold RepKV at h
    rw [h]
    rfl
  | (g, e) :: ds, _, h, l => by
    unfold RepKV at h
    obtain ⟨x, r, q, s, t⟩ := h
    subst q
    unfold List.lookup at l ⊢
    cases c : (f == g) with
    | true => rw [c] at l; cases l
    | false =>
      rw [c] at l
      exact repKV_no t l
/-- an object that nobody speaks of -/
theorem S.junk (s : S K G H M) {p : Addr} {o : HO} (hp : H p = none) : S K G (upd H p o) M ∧ Step (ads M) G H (ads M) G (upd H p o) := by
  have gp : G p = none := s.same.free hp
  refine ⟨⟨fun b u e => ?_, fun q hq => ?_, s.nd⟩, ⟨Same.refl G, fun b hb _ => rfl, fun b u _ e => ?_, fun b e => ?_, fun b hb => .inl hb⟩⟩
  · rw [upd_ne (ne_of_none e gp)]
    exact s.same b u e
  · obtain ⟨g1, o1, h1, r1⟩ := s.mu q hq
    exact ⟨g1, o1, by rw [upd_ne (ne_of_none h1 hp)]; exact h1, r1⟩
  · rw [upd_ne (ne_of_none e hp)]
    exact e
  · by_cases hb : b = p
    · subst hb
      rw [upd_same]
      exact fun z => nomatch z
    · rw [upd_ne hb]
      exact e
theorem S.perm (s : S K G H M) (h : M.Perm M') : S K G H M' := ⟨s.same, fun p hp => s.mu p (h.mem_iff.mpr hp), (h.map (·.1)).nodup_iff.mp s.nd⟩
theorem Step.perm {A B A' B' : List Addr} (st : Step A G H A' G' H') (h : ∀ b, b ∈ A ↔ b ∈ B) (h' : ∀ b, b ∈ A' ↔ b ∈ B') : Step B G H B' G' H' :=
  ⟨st.gg, fun b hb n => st.fr b hb fun z => n ((h b).mp z), fun b o n e => st.keep b o (fun z => n ((h b).mp z)) e, st.alive, fun b hb => by
    rcases st.own b ((h' b).mpr hb) with q | q
    · exact .inl ((h b).mp q)
    · exact .inr q⟩
theorem ads_perm {M M' : Mu} (h : M.Perm M') : ∀ b, b ∈ ads M ↔ b ∈ ads M' := fun b => (h.map (·.1)).mem_iff
end
section
variable {K : PySem.W.Frag} {δ : DS} {M : Mu} {ta tb te to ti tv : TE} {k : D → Mu → Prop} {i : Nat} {d x y : D} {A : AEnds} {t u : TS} {f m : Str} {C : Addr}
/-! ### fields -/
theorem ae_fld (h : AE K te δ M fun x M1 => ∃ a C dx fs d N1 N2, x = .ref a ∧ M1 = N1 ++ (a, MO.ins C dx fs) :: N2 ∧ Cls K C ∧ NoAttr K C f ∧ fs.lookup f = some d ∧ k d M1) : AE K (tFld K te f) δ M k := fun σ G H Q rs s f' =>
  h σ G H _ rs s fun x M1 vx G1 H1 ⟨a, C, dx, fs, d, N1, N2, e1, e2, c, n, l, q⟩ s1 st1 r1 => by
    subst e1
    obtain ⟨g0, o, ho, ps, rfl, rk⟩ := s1.mu (a, .ins C dx fs) (by rw [e2]; simp)
    obtain ⟨v, lv, rv⟩ := repKV_look rk l
    exact ⟨a, C, dx, ps, v, rep_ref r1, ho, c, n, lv, f' d M1 v G1 H1 q s1 st1 rv⟩
theorem as_sfld (h : AE K tv δ M fun y M1 => AE K te δ M1 fun x M2 => ∃ a C dx fs N1 N2, x = .ref a ∧ M2 = N1 ++ (a, MO.ins C dx fs) :: N2 ∧ Cls K C ∧ NoAttr K C f ∧ fs.length < 1000 ∧ A.nx δ (N1 ++ (a, MO.ins C dx (putFD f y fs)) :: N2)) : AS K (sFld K te tv f) δ M A := fun σ G H E rs s ft =>
  h σ G H _ rs s fun y M1 vy G1 H1 h1 s1 st1 r1 => h1 σ G1 H1 _ (rs.mono st1.gg) s1 fun x M2 vx G2 H2 ⟨a, C, dx, fs, N1, N2, e1, e2, c, n, l, q⟩ s2 st2 r2 => by
    subst e1 e2
    obtain ⟨g0, o, ho, ps, rfl, rk⟩ := s2.mu (a, .ins C dx fs) (by simp)
    obtain ⟨s3, st3⟩ := s2.write (o := .ins C dx (putF f vy ps)) (m' := .ins C dx (putFD f y fs)) ⟨_, rfl, repKV_putF (Rep.mono st2.gg _ _ r1) rk⟩
    exact ⟨a, C, dx, ps, rep_ref r2, ho, c, n, by rw [repKV_len rk]; exact l, ft.nx _ _ _ _ _ q (rs.mono (st1.trans st2).gg) s3 ((st1.trans st2).trans st3)⟩
/-- self.f += e, of ints -/
theorem as_sfldaug (h : AE K te δ M fun x M1 => ∃ a C dx fs j, x = .ref a ∧ (∃ N1 N2, M1 = N1 ++ (a, MO.ins C dx fs) :: N2) ∧ Cls K C ∧ NoAttr K C f ∧ fs.lookup f = some (.int j) ∧
      AE K tv δ M1 fun y M2 => ∃ b fs' N1 N2, y = .int b ∧ M2 = N1 ++ (a, MO.ins C dx fs') :: N2 ∧ fs'.length < 1000 ∧ A.nx δ (N1 ++ (a, MO.ins C dx (putFD f (.int (j + b)) fs')) :: N2)) : AS K (sFldAug K te tv rAdd f) δ M A := fun σ G H E rs s ft =>
  h σ G H _ rs s fun x M1 vx G1 H1 ⟨a, C, dx, fs, j, e1, ⟨N1, N2, e2⟩, c, n, l, h1⟩ s1 st1 r1 => by
    subst e1
    obtain ⟨g0, o, ho, ps, rfl, rk⟩ := s1.mu (a, .ins C dx fs) (by rw [e2]; simp)
    obtain ⟨v, lv, rv⟩ := repKV_look rk l
    refine ⟨a, C, dx, ps, v, rep_ref r1, ho, c, n, lv, h1 σ G1 H1 _ (rs.mono st1.gg) s1 ?_⟩
    rintro y M2 vy G2 H2 ⟨b, fs', P1, P2, rfl, rfl, l', q⟩ s2 st2 r2
    obtain ⟨g0', o', ho', ps', rfl, rk'⟩ := s2.mu (a, .ins C dx fs') (by simp)
    obtain ⟨s3, st3⟩ := s2.write (o := .ins C dx (putF f (.int (j + b)) ps')) (m' := .ins C dx (putFD f (.int (j + b)) fs')) ⟨_, rfl, repKV_putF rep_of_int rk'⟩
    exact ⟨j, b, rep_int rv, rep_int r2, dx, ps', ho', by rw [repKV_len rk']; exact l', ft.nx _ _ _ _ _ q (rs.mono (st1.trans st2).gg) s3 ((st1.trans st2).trans st3)⟩
/-! ### methods -/
theorem ae_meth {W : Wt} {E : XK} {ts : TA} (h : AE K te δ M fun x M1 => ∃ a dx fs, x = .ref a ∧ (∃ N1 N2, M1 = N1 ++ (a, MO.ins C dx fs) :: N2) ∧ fs.lookup m = none ∧
      AA K ts δ M1 fun ds M2 => ∃ Mc R kc, M2 = Mc ++ R ∧ W (.ref a :: ds) Mc kc ∧ ∀ d Mc', kc d Mc' → k d (Mc' ++ R)) : AE K (tMeth C m (Spc K W) [] E te ts) δ M k := fun σ G H Q rs s f' =>
  h σ G H _ rs s fun x M1 vx G1 H1 ⟨a, dx, fs, e1, ⟨N1, N2, e2⟩, l, h1⟩ s1 st1 r1 => by
    subst e1
    obtain ⟨g0, o, ho, ps, rfl, rk⟩ := s1.mu (a, .ins C dx fs) (by rw [e2]; simp)
    refine ⟨a, dx, ps, rep_ref r1, ho, repKV_no rk l, h1 σ G1 H1 _ (rs.mono st1.gg) s1 ?_⟩
    rintro ds M2 vs G2 H2 ⟨Mc, R, kc, rfl, hw, hk⟩ s2 st2 r2
    rw [rep_ref r1, List.append_nil]
    refine ⟨G2, _, Mc, kc, Reps.cons rep_of_ref r2, s2.sub, hw, fun d M' v G' H' hd s' st' rv => ?_⟩
    obtain ⟨s3, st3⟩ := s2.join s' st'
    exact f' d _ v G' H' (hk d M' hd) s3 ((st1.trans st2).trans st3) rv
/-- C(..): the new object stands first -/
theorem ae_make {W : Wt} {E : XK} {ts : TA} (h : AA K ts δ M fun ds M1 => ∀ x dx, ∃ kc, W (.ref x :: ds) [(x, MO.ins C dx [])] kc ∧ ∀ d Mc', kc d Mc' → d = .non ∧ k (.ref x) (Mc' ++ M1)) : AE K (tMake C (Spc K W) [] E ts) δ M k := fun σ G H Q rs s f' =>
  h σ G H _ rs s fun ds M1 vs G1 H1 h1 s1 st1 r1 x dx nx nd ne => by
    obtain ⟨kc, hw, hk⟩ := h1 x dx
    obtain ⟨s2, st2⟩ := s1.junk (o := .own x) nd
    have nx' : upd H1 dx (.own x) x = none := by rw [upd_ne (Ne.symm ne)]; exact nx
    obtain ⟨s3, st3⟩ := s2.fresh (m := .ins C dx []) (o := .ins C dx []) nx' ⟨[], rfl, by unfold RepKV; rfl⟩
    have hp : (M1 ++ [(x, MO.ins C dx [])]).Perm ([(x, MO.ins C dx [])] ++ M1) := List.perm_append_comm
    have s4 := s3.perm hp
    rw [List.append_nil]
    refine ⟨G1, _, [(x, .ins C dx [])], kc, Reps.cons rep_of_ref r1, s4.sub, hw, fun d M' v G' H' hd s' st' rv => ?_⟩
    obtain ⟨e, q⟩ := hk d M' hd
    subst e
    obtain ⟨s5, st5⟩ := s4.join s' st'
    have st35 := (st3.perm (fun _ => Iff.rfl) (ads_perm hp)).trans st5
    exact ⟨rep_non rv, f' _ _ _ G' H' q s5 ((st1.trans st2).trans st35) rep_of_ref⟩
end
/-! ### the same with K as it stands -/
section
variable {X : Cx} {K : PySem.W.Frag} {o e value : Expr} {f : Str} {pos pos' tpos : Pos} {ta tv : TE}
theorem fld_K (he : PE X o ta) (h : X.K = K := by rfl) (hb : attributeBase o f X.env (eval o X.env) = eval o X.env := by rfl) : PE X (.Attribute o f pos) (tFld K ta f) := h ▸ pe_fld he hb
theorem sfld_K (ha : PE X o ta) (hv : PE X value tv) (h : X.K = K := by rfl) (hs : swapsWith value (some (.Attribute o f pos')) pos.line X.env = pure false := by rfl) : PS X (.Assign [.Attribute o f pos'] value pos) (sFld K ta tv f) := h ▸ ps_fld ha hv hs
theorem sfldaug_K (ha : PE X o ta) (hv : PE X value tv) (h : X.K = K := by rfl) : PS X (.AugAssign (.Attribute o f tpos) .Add value pos) (sFldAug K ta tv rAdd f) := h ▸ ps_fldaug ha hv in_add
end
/-! ### further words -/
/-- x in y: a sign in a text, a text in a text, an item in a list or tuple -/
def rInU (K : PySem.W.Frag) : R2 := fun x y H Q => (∃ (c : Nat) (z : Str), x = .str ⟨#[c]⟩ ∧ y = .str z ∧ Q (.bl (decide (c ∈ z.cps.toList))) H) ∨ ((∃ i j, x = .str i ∧ y = .str j ∧ Q (.bl (!(Builtin.Str.occurrences j i 0 j.length 1).isEmpty)) H) ∨ rIn K false x y H Q)
def rNotInU (K : PySem.W.Frag) : R2 := fun x y H Q => (∃ (c : Nat) (z : Str), x = .str ⟨#[c]⟩ ∧ y = .str z ∧ Q (.bl (!decide (c ∈ z.cps.toList))) H) ∨ ((∃ i j, x = .str i ∧ y = .str j ∧ Q (.bl (!(!(Builtin.Str.occurrences j i 0 j.length 1).isEmpty))) H) ∨ rIn K true x y H Q)
/-- int(x) of a bool -/
def rMulS : R2 := fun x y H Q => ∃ (z : Str) (n : Int), x = .str z ∧ y = .int n ∧ MulOk z n ∧ Q (.str (Txt.mul z n)) H
section
variable {X : Cx} {K : PySem.W.Frag}
theorem in_K (h : X.K = K := by rfl) : OpR X (compareOp .In) (rInU K) := h ▸ op_in_sign.or (op_in_str.or op_in_seq)
theorem notin_K (h : X.K = K := by rfl) : OpR X (compareOp .NotIn) (rNotInU K) := h ▸ op_notIn_sign.or (op_notIn_str.or op_notIn_seq)
theorem op_mulS : OpR X (binaryOp .Mult) rMulS := by
  intro pins s σ H x y v u Q I rx ry h
  obtain ⟨z, n, rfl, rfl, ok, q⟩ := h
  obtain ⟨t, rfl⟩ := rx
  obtain ⟨t', rfl⟩ := ry
  exact SB.mul ok fun t'' k => ⟨.str (Txt.mul z n), H, I.tok _, ⟨_, rfl⟩, q⟩
/-- an item of a list, to be changed in place -/
theorem get_list (h : X.K = K := by rfl) : PGet X (rIxL K) := by
  subst h
  intro pins s σ H x y v u Q I rx ry h
  obtain ⟨p, xs, i, z, rfl, rfl, hq, he, q⟩ := h
  cases rx
  obtain ⟨t, rfl⟩ := ry
  obtain ⟨its, r, pl, hz⟩ := I.list hq
  obtain ⟨j, h1, h2, h3, h4, h5⟩ := atI_get he
  obtain ⟨w, ew, rw'⟩ := r.get h2
  have hl := r.length
  have hn := line63
  have fin : EP X pins σ Q w s := ⟨z, H, I, rw', q⟩
  by_cases h0 : 0 ≤ i
  · have hj : i.toNat = j := by
      rw [seqIndex_of h0 h5] at h1
      exact Option.some.inj h1
    exact wpAny_getItem_list pl.isList h0 (by omega) (by rw [hj]; simpa using ew) fin
  · have hj : (i + (its.toArray.size : Int)).toNat = j := by
      rw [seqIndex_neg (by omega) h4] at h1
      rw [List.size_toArray, ← hl]
      exact Option.some.inj h1
    exact wpAny_getItem_list_neg pl.isList (by omega) (by rw [List.size_toArray] <;> omega) (by omega) (by rw [hj]; simpa using ew) fin
end
/-! ### written dicts: texts by texts -/
def Ents : List DictEntry → List (Str × Str) → Prop
  | [], kvs => kvs = []
  | e :: r, kvs => ∃ k v s t u, kvs = (k, v) :: s ∧ e.key = .str k t ∧ e.val = .str v u ∧ Ents r s
structure KTab (K : PySem.W.Frag) (w : World) (a : Addr) (kvs : List (Str × Str)) : Prop where
  ex : ∃ es n, K.lookup a = some ⟨.type "dict", none, .dict es n, #[]⟩ ∧ PySem.W.KeysLit w.params es.toList ∧ Ents es.toList kvs
  low : (a == sysModules) = false
theorem Ents.look : ∀ {es : List DictEntry} {kvs : List (Str × Str)}, Ents es kvs → ∀ z : Str, es.any (·.refKey) = false ∧ ((kvs.lookup z = none ∧ es.find? (·.key.isStr z) = none) ∨ ∃ e v u, kvs.lookup z = some v ∧ es.find? (·.key.isStr z) = some e ∧ e.val = .str v u)
  | [], _, h, z => by
    unfold Ents at h
    subst h
    exact ⟨rfl, .inl ⟨rfl, rfl⟩⟩
  | e :: r, _, h, z => by
    unfold Ents at h
    obtain ⟨k, v, s, t, u, rfl, e1, e2, h⟩ := h
    obtain ⟨i1, i2⟩ := Ents.look h z
    have r1 : e.refKey = false := by
      unfold DictEntry.refKey
      rw [e1]
    refine ⟨by rw [List.any_cons, r1, i1]; rfl, ?_⟩
    have r2 : e.key.isStr z = (k == z) := by rw [e1]; rfl
    by_cases c : k = z
    · subst c
      have hb : (k == k) = true := beq_self_eq_true k
      exact .inr ⟨e, v, u, by simp [List.lookup, hb], by rw [List.find?_cons, r2, hb], e2⟩
    · have hb : (k == z) = false := beq_eq_false_iff_ne.mpr c
      have hb' : (z == k) = false := beq_eq_false_iff_ne.mpr (Ne.symm c)
      rcases i2 with ⟨i3, i4⟩ | ⟨e', v', u', i3, i4, i5⟩
      · exact .inl ⟨by simp [List.lookup, hb', i3], by rw [List.find?_cons, r2, hb]; exact i4⟩
      · exact .inr ⟨e', v', u', by simp [List.lookup, hb', i3], by rw [List.find?_cons, r2, hb]; exact i4, i5⟩
theorem KTab.ns {K : PySem.W.Frag} {w : World} {a : Addr} {kvs : List (Str × Str)} (h : KTab K w a kvs) (z : Str) : ∃ es n, K.lookup a = some ⟨.type "dict", none, .dict es n, #[]⟩ ∧ PySem.W.KeysLit w.params es.toList ∧
    ((kvs.lookup z = none ∧ PySem.W.nsIn K a z = some none) ∨ ∃ v u, kvs.lookup z = some v ∧ PySem.W.nsIn K a z = some (some (.str v u))) := by
  obtain ⟨es, n, h1, h2, h3⟩ := h.ex
  refine ⟨es, n, h1, h2, ?_⟩
  obtain ⟨g1, g2⟩ := h3.look z
  unfold PySem.W.nsIn
  rw [h1]
  dsimp only
  rcases g2 with ⟨g2, g3⟩ | ⟨e, v, u, g2, g3, g4⟩
  · rw [g3]
    dsimp only
    rw [g1]
    exact .inl ⟨g2, rfl⟩
  · rw [g3]
    dsimp only
    rw [g4]
    exact .inr ⟨v, u, g2, rfl⟩
def optS : Option Str → D
  | none => .non
  | some z => .str z
/-- d.get(z) -/
def tKGet1 (K : PySem.W.Frag) (w : World) (td ty : TE) : TE := fun σ H Q => td σ H fun x H1 => ∃ a kvs, x = .ref a ∧ KTab K w a kvs ∧ ty σ H1 fun y H2 => ∃ z, y = .str z ∧ Q (match kvs.lookup z with | none => .non | some v => .str v) H2
section
variable {X : Cx} {K : PySem.W.Frag} {w : World} {o e : Expr} {apos cpos : Pos} {td ty : TE}
theorem kget1 (ho : PE X o td) (he : PE X e ty) (m : M1 X o "get" apos e cpos) : PE X (.Call (.Attribute o "get" apos) [e] [] cpos) (tKGet1 X.K X.w td ty) := by
  refine ⟨fun pins s σ H Q I h => ?_⟩
  refine wpAny_Call_method m.base m.few m.line PySem.F.plainAttrs_dict PySem.F.slot_dict_get PySem.F.type_dict_get (thn (ho.run pins s σ H _ I h) fun u s1 ⟨x, H1, I1, rx, a, kvs, ex, d, q1⟩ => ?_)
  subst ex
  obtain rfl : u = Value.ref a := rx
  have low := d.low
  obtain ⟨es, n, h1, h2, _⟩ := d.ex
  have hm1 := PySem.W.mapOf_K (prog := X.prog) (w := X.w) I1.kIn h1 h2
  refine ⟨hm1.typeIs, fun b q => ?_, ?_⟩
  · cases q
    exact ⟨_, I1.kIn _ _ h1, rfl⟩
  rw [m.trees]
  refine Calls.callWith_builtin rfl (Calls.evalArgs_plain (Calls.spliced_cons (thn (he.run pins s1 σ H1 _ I1 q1) fun iv s2 ⟨y, H2, I2, ry, z, ey, q2⟩ => Calls.spliced_nil ?_)))
  subst ey
  obtain ⟨t, rfl⟩ := (show ∃ t, iv = Value.str z t from ry)
  obtain ⟨es', n', h1', h2', hz⟩ := d.ns z
  have hm := PySem.W.mapOf_K (prog := X.prog) (w := X.w) I2.kIn h1' h2'
  refine call_meetsIn PySem.F.slot_dict_get hm.typeIs PySem.F.entry_dict_get (PySem.F.args_dict_get_2 _ _) (meets_dict_get (strKind X.prog X.w) a (strKind_is X.prog X.w z t) low) ⟨_, hm, ?_⟩
  rcases hz with ⟨z1, z2⟩ | ⟨v, u, z1, z2⟩
  · rw [z1] at q2
    rw [PySem.W.find_K h1' z2]
    exact ⟨.non, H2, I2.tok _, rfl, q2⟩
  · rw [z1] at q2
    rw [PySem.W.find_K h1' z2]
    exact ⟨.str v, H2, I2.tok _, ⟨_, rfl⟩, q2⟩
theorem kget1_K (ho : PE X o td) (he : PE X e ty) (m : M1 X o "get" apos e cpos) (h : X.K = K := by rfl) (h2 : X.w = w := by rfl) : PE X (.Call (.Attribute o "get" apos) [e] [] cpos) (tKGet1 K w td ty) := h ▸ h2 ▸ kget1 ho he m
theorem kix_K (h : X.K = K := by rfl) (h2 : X.w = w := by rfl) : IxR X (rIxD K w) := h ▸ h2 ▸ ix_kdict
end
section
variable {K : PySem.W.Frag} {w : World} {δ : DS} {M : Mu} {ta tb te to ti tv : TE} {k : D → Mu → Prop} {i : Nat} {d x y : D}
theorem ae_kget1 {td ty : TE} (h : AE K td δ M fun x M1 => ∃ a kvs, x = .ref a ∧ KTab K w a kvs ∧ AE K ty δ M1 fun y M2 => ∃ z, y = .str z ∧ k (optS (kvs.lookup z)) M2) : AE K (tKGet1 K w td ty) δ M k := fun σ G H Q rs s f =>
  h σ G H _ rs s fun x M1 vx G1 H1 ⟨a, kvs, e1, tab, h1⟩ s1 st1 r1 => by
    subst e1
    refine ⟨a, kvs, rep_ref r1, tab, h1 σ G1 H1 _ (rs.mono st1.gg) s1 ?_⟩
    rintro y M2 vy G2 H2 ⟨z, rfl, q⟩ s2 st2 r2
    refine ⟨z, rep_str r2, ?_⟩
    cases e : kvs.lookup z with
    | none =>
      rw [e] at q
      exact f _ M2 _ G2 H2 q s2 (st1.trans st2) rep_of_non
    | some v =>
      rw [e] at q
      exact f _ M2 _ G2 H2 q s2 (st1.trans st2) rep_of_str
theorem ar_kix {a : Addr} {kvs : List (Str × Str)} {z v : Str} (tab : KTab K w a kvs) (h : kvs.lookup z = some v) (q : k (.str v) M) : AR K (rIxD K w) (.ref a) (.str z) M k := fun vx vy G H Q rx ry s f => by
  obtain ⟨es, n, h1, h2, hz⟩ := tab.ns z
  rcases hz with ⟨z1, _⟩ | ⟨v', u, z1, z2⟩
  · rw [h] at z1; cases z1
  · rw [h] at z1
    cases z1
    exact ⟨a, z, .str v, rep_ref rx, rep_str ry, ⟨es, n, _, h1, h2, z2, ⟨_, rfl⟩⟩, f _ M _ G H q s Step.refl rep_of_str⟩
/-! ### in -/
theorem ain_sign {c : Nat} {l : List Nat} (q : k (.bl (decide (c ∈ l))) M) : AR K (rInU K) (.str (tx [c])) (.str (tx l)) M k := fun vx vy G H Q rx ry s f => .inl ⟨c, tx l, rep_str rx, rep_str ry, f _ M _ G H (by rw [tx_cps]; exact q) s Step.refl rep_of_bl⟩
theorem anin_sign {c : Nat} {l : List Nat} (q : k (.bl (!decide (c ∈ l))) M) : AR K (rNotInU K) (.str (tx [c])) (.str (tx l)) M k := fun vx vy G H Q rx ry s f => .inl ⟨c, tx l, rep_str rx, rep_str ry, f _ M _ G H (by rw [tx_cps]; exact q) s Step.refl rep_of_bl⟩
theorem ain_text {a b : Str} (q : k (.bl (!(Builtin.Str.occurrences b a 0 b.length 1).isEmpty)) M) : AR K (rInU K) (.str a) (.str b) M k := fun vx vy G H Q rx ry s f => .inr (.inl ⟨a, b, rep_str rx, rep_str ry, f _ M _ G H q s Step.refl rep_of_bl⟩)
theorem inV_strs {z : Str} : ∀ {ss : List Str}, inV (.str z) (ss.map V.str) = decide (z ∈ ss)
  | [] => rfl
  | a :: ss => by
    have ih := inV_strs (z := z) (ss := ss)
    unfold inV at ih ⊢
    rw [List.map_cons, List.any_cons, ih]
    show (a == z || decide (z ∈ ss)) = _
    by_cases c : a = z
    · subst c; simp
    · have hb : (a == z) = false := beq_eq_false_iff_ne.mpr c
      rw [hb]
      simp [Ne.symm c]
theorem flat_strs : ∀ {ss : List Str}, (ss.map V.str).all flatV = true
  | [] => rfl
  | a :: ss => by
    rw [List.map_cons, List.all_cons, flat_strs]
    rfl
theorem ain_tup {z : Str} {ss : List Str} (q : k (.bl (decide (z ∈ ss))) M) : AR K (rInU K) (.str z) (.tup (ss.map D.str)) M k := fun vx vy G H Q rx ry s f => by
  obtain ⟨a, xs, rfl, ha, rx'⟩ := rep_tup ry
  have e := rx'.strs
  subst e
  refine .inr (.inr ⟨a, _, rfl, .inr (Same.seqT s.same ha), by rw [rep_str rx]; rfl, flat_strs, ?_⟩)
  rw [rep_str rx, if_neg Bool.false_ne_true, inV_strs]
  exact f _ M _ G H q s Step.refl rep_of_bl
theorem anin_tup {z : Str} {ss : List Str} (q : k (.bl (!decide (z ∈ ss))) M) : AR K (rNotInU K) (.str z) (.tup (ss.map D.str)) M k := fun vx vy G H Q rx ry s f => by
  obtain ⟨a, xs, rfl, ha, rx'⟩ := rep_tup ry
  have e := rx'.strs
  subst e
  refine .inr (.inr ⟨a, _, rfl, .inr (Same.seqT s.same ha), by rw [rep_str rx]; rfl, flat_strs, ?_⟩)
  rw [rep_str rx, if_pos rfl, inV_strs]
  exact f _ M _ G H q s Step.refl rep_of_bl
/-! ### texts -/
/-- a text, many times -/
def repL (n : Nat) (l : List Nat) : List Nat := (List.replicate n l).flatten
theorem foldl_app : ∀ (n : Nat) (l : List Nat) (acc : Array Nat), ((List.replicate n l.toArray).foldl (· ++ ·) acc) = acc ++ (repL n l).toArray
  | 0, l, acc => by simp [repL]
  | n + 1, l, acc => by
    rw [List.replicate_succ, List.foldl_cons, foldl_app n l]
    simp [repL, List.replicate_succ]
theorem mul_tx (l : List Nat) (n : Nat) : Txt.mul (tx l) (n : Int) = tx (repL n l) := by
  unfold Txt.mul
  by_cases h : (n : Int) < 1
  · have e : n = 0 := by omega
    subst e
    rfl
  · rw [if_neg h]
    split
    · rename_i c
      rw [Bool.or_eq_true] at c
      rcases c with c | c
      · have e : (n : Int) = 1 := by simpa using c
        have e' : n = 1 := by omega
        subst e'
        simp [repL]
      · have e : (tx l).length = 0 := by simpa using c
        rw [tx_len] at e
        have e' : l = [] := List.length_eq_zero_iff.mp e
        subst e'
        have : repL n ([] : List Nat) = [] := by simp [repL]
        rw [this]
    · show (⟨(List.replicate (n : Int).toNat (tx l).cps).foldl (· ++ ·) #[]⟩ : Str) = _
      have e : (tx l).cps = l.toArray := rfl
      rw [e, Int.toNat_natCast, foldl_app]
      simp [tx]
theorem ar_mulS {l : List Nat} {n : Nat} (hl : l.length ≤ 1000) (hn : n ≤ 1000) (q : k (.str (tx (repL n l))) M) : AR K rMulS (.str (tx l)) (.int n) M k := fun vx vy G H Q rx ry s f => by
  refine ⟨tx l, (n : Nat), rep_str rx, rep_int ry, ⟨?_, ?_, ?_⟩, ?_⟩
  · rw [Bool.or_eq_false_iff]
    exact ⟨decide_eq_false (by omega), decide_eq_false (by omega)⟩
  · intro h1 _
    rw [tx_len]
    have h2 : (1000 : Int) ≤ (2 ^ 63 - 1) / (n : Int) := by
      rw [Int.le_ediv_iff_mul_le (by omega)]
      omega
    omega
  · intro h1 _
    rw [tx_len, Int.toNat_natCast]
    have h3 : l.length * n ≤ 1000 * 1000 := Nat.mul_le_mul hl hn
    have hsz := sizeLine_eq
    exact decide_eq_false (by omega)
  · rw [mul_tx]
    exact f _ M _ G H q s Step.refl rep_of_str
/-- int(flag) -/
theorem ac_intB {b : Bool} (q : k (.int (if b then 1 else 0)) M) : AC K rIntU [.bl b] M k := fun vs G H Q rx s f => by
  obtain ⟨v, r, rfl, r1, r2⟩ := rx.uncons
  unfold Reps at r2
  subst r2
  exact .inr ⟨b, by rw [rep_bl r1], f _ M _ G H q s Step.refl rep_of_int⟩
/-- sep.join of texts -/
def joinL (a : List Nat) : List (List Nat) → List Nat
  | [] => []
  | [l] => l
  | l :: m :: r => l ++ a ++ joinL a (m :: r)
theorem repl_E : True := True.intro
end
end Tg
set_option Elab.async false
set_option linter.all false
set_option maxRecDepth 100000
set_option maxHeartbeats 1000000
/-! Tg, further words: join with a separator, extend by a tuple, insert, index, an item changed in place, a written display. -/
namespace Tg
open PySem L2 PyProof.Rows
section
variable {K : PySem.W.Frag} {w : World} {δ : DS} {M : Mu} {ta tb te to ti tv : TE} {k : D → Mu → Prop} {i : Nat} {d x y : D} {A : AEnds}
theorem tx_joinS (a : List Nat) : ∀ ls : List (List Nat), Str.join (tx a) (ls.map tx) = tx (joinL a ls)
  | [] => rfl
  | [l] => rfl
  | l :: m :: r => by
    show tx l ++ tx a ++ Str.join (tx a) ((m :: r).map tx) = _
    rw [tx_joinS a (m :: r), tx_app, tx_app]
    rfl
theorem am_joinS {a : List Nat} {ls : List (List Nat)} (hz : (ls.map (·.length)).sum + ls.length * a.length ≤ 16777216) (q : k (.str (tx (joinL a ls))) M) : AM K (rJoin K) (.str (tx a)) [.lst (ls.map fun l => .str (tx l))] M k := fun vx vs G H Q rx rxs s f => by
  obtain ⟨v, r, rfl, r1, rr⟩ := rxs.uncons
  unfold Reps at rr
  subst rr
  obtain ⟨b, ys, rfl, hb, r2⟩ := rep_lst r1
  have e : ys = (ls.map tx).map V.str := by
    have h2 : ls.map (fun l => D.str (tx l)) = (ls.map tx).map D.str := by simp
    rw [h2] at r2
    exact r2.strs
  refine ⟨tx a, b, ls.map tx, rep_str rx, rfl, .inl (.inl (.inl (by rw [← e]; exact s.same _ _ hb))), ?_, ?_⟩
  · have h1 : ((ls.map tx).map (·.length)) = ls.map (·.length) := by
      rw [List.map_map]
      exact List.map_congr_left fun l _ => tx_len l
    rw [h1, tx_len, List.length_map]
    exact hz
  · have e2 : Txt.join (tx a) (ls.map tx) = tx (joinL a ls) := by rw [TL.join_eq, tx_joinS]
    rw [e2]
    exact f _ M _ G H q s Step.refl rep_of_str
/-! ### extend by a tuple -/
def rExtendT (K : PySem.W.Frag) : V → List V → Hp → VK → Prop := fun x vs H Q => ∃ l b xs zs, x = .ref l ∧ vs = [.ref b] ∧ H l = some (.lst xs) ∧ SqT K H b zs ∧ xs.length + zs.length ≤ sizeLine ∧ Q .non (upd H l (.lst (xs ++ zs)))
def rExtendU (K : PySem.W.Frag) : V → List V → Hp → VK → Prop := fun x vs H Q => rExtend x vs H Q ∨ rExtendT K x vs H Q
end
section
variable {X : Cx} {K : PySem.W.Frag}
theorem list_extend_tup (l : Addr) (items : Array Value) (n : Nat) (b : Addr) (items2 : Array Value) (n2 : Nat) (dd : Option Addr) (sl : Array (Option Value)) (hs0 : ¬(!items.isEmpty && Builtin.List.listTooLong (items.size + items2.size)) = true) (hs1 : items.size ≤ sizeLine) (hs2 : items.size + items2.size ≤ sizeLine + 1) :
    Meets (Builtin.«list.extend» ⟨[.ref l, .ref b], []⟩) (fun _ R s => s.heap.get? l = some { cls := .type "list", dict := none, data := .seq items n, slots := #[] } ∧ s.heap.get? b = some { cls := .type "tuple", dict := dd, data := .seq items2 n2, slots := sl } ∧ R (.ok (.ret Value.none)) { s with heap := s.heap.update l (Obj.mapSeq fun x => x ++ items2), toks := s.toks }) :=
  .of_wp fun prog w A R s h => by
    obtain ⟨hp, g, d, tk, os⟩ := s; obtain ⟨hl, hb, h⟩ := h; have f1 := AutoSeq1.idx_int; have f2 := AutoSeq1.sub_tuple_tuple; have f3 := AutoSeq1.sub_list_list; have f4 := AutoSeq1.sub_tuple_list; have f5 := AutoSeq1.sub_list_tuple;
    have hz' : (items ++ items2).size ≤ sizeLine + 1 := by rw [Array.size_append]; exact hs2
    wp_walk using (wpAny_updateSeq hl rfl (hz := hs1) (_hz' := hz')), wpAny_loadPart' hl, wpAny_loadPart' hb; exact ⟨_, rfl, h⟩
theorem mt_extendT : MtM X "list.extend" (rExtendT X.K) := by
  intro pins s σ H x vs v us Q I rx rv h
  obtain ⟨l, b, xs, zs, rfl, rfl, hH, hB, hz, q⟩ := h
  cases rx
  obtain ⟨u, rfl, ru⟩ := rv.one
  cases ru
  obtain ⟨z, its, n, r, hl, e⟩ := I.lstM hH
  obtain ⟨its2, r2, ⟨o2, e2, c2, n2, e3⟩, hz2⟩ := I.tuple hB
  obtain ⟨cl, dd, dt, sl⟩ := o2
  cases c2
  cases e3
  have l1 := r.length
  have l2 := r2.length
  have hsz : its.toArray.size + its2.toArray.size ≤ sizeLine := by rw [List.size_toArray, List.size_toArray]; omega
  have hlong : ¬ (!its.toArray.isEmpty && Builtin.List.listTooLong (its.toArray.size + its2.toArray.size)) = true := by
    rw [notLongL hsz, Bool.and_false]
    exact Bool.false_ne_true
  refine call_meets F.slot_list_extend ⟨_, e, rfl⟩ F.entry_list_extend (F.args_list_extend_2 _ _)
    (list_extend_tup l its.toArray n b its2.toArray n2 dd sl hlong (by rw [List.size_toArray]; omega) (by omega)) ⟨e, e2, ?_⟩
  refine ⟨.non, _, I.lset (its' := its ++ its2) hH e (by simp) (r.append r2) ?_, rfl, q⟩
  rw [List.length_append]
  omega
theorem mt_extendU (h : X.K = K := by rfl) : MtM X "list.extend" (rExtendU K) := by
  subst h
  intro pins s σ H x vs v us Q I rx rv h
  rcases h with h | h
  · exact mt_extend pins s σ H x vs v us Q I rx rv h
  · exact mt_extendT pins s σ H x vs v us Q I rx rv h
def rInsert : V → List V → Hp → VK → Prop := fun x vs H Q => ∃ (l : Addr) (xs : List V) (i : Int) (y : V), x = .ref l ∧ vs = [.int i, y] ∧ H l = some (.lst xs) ∧ xs.length < sizeLine ∧ 0 ≤ i ∧ i < 2 ^ 63 ∧ Q .non (upd H l (.lst (xs.take i.toNat ++ [y] ++ xs.drop i.toNat)))
theorem mt_insertU : MtR X "list.insert" rInsert := mt_insert
def rIndex : V → List V → Hp → VK → Prop := fun x xs H Q => ∃ a b i rest, x = .str a ∧ xs = [.str b] ∧ Builtin.Str.occurrences a b 0 a.length 1 = i :: rest ∧ Q (.int (i : Nat)) H
theorem mt_indexU : MtR X "str.index" rIndex := mt_sindex
end
section
variable {K : PySem.W.Frag} {w : World} {δ : DS} {M M1 M2 : Mu} {ta tb te to ti tv : TE} {k : D → Mu → Prop} {i : Nat} {d x y : D} {A : AEnds}
theorem am_extU {a : Addr} {ds es : List D} (e : M = M1 ++ (a, .lst ds) :: M2) (hz : ds.length + es.length ≤ sizeLine) (hx : x = .lst es ∨ x = .tup es) (q : k .non (M1 ++ (a, .lst (ds ++ es)) :: M2)) : AM K (rExtendU K) (.ref a) [x] M k := fun vx vs G H Q rx rxs s f => by
  rcases hx with hx | hx
  · subst hx
    exact .inl (am_extend e hz q vx vs G H Q rx rxs s f)
  · subst hx
    subst e
    obtain ⟨v, r, rfl, r1, rr⟩ := rxs.uncons
    unfold Reps at rr
    subst rr
    obtain ⟨b, ys, rfl, hb, r2⟩ := rep_tup r1
    obtain ⟨g0, o, ho, r⟩ := s.mu (a, .lst ds) (by simp)
    obtain ⟨xs, rfl, rs⟩ := r
    obtain ⟨s2, st2⟩ := s.write (o := .lst (xs ++ ys)) (m' := .lst (ds ++ es)) ⟨_, rfl, rs.append r2⟩
    exact .inr ⟨a, b, xs, ys, rep_ref rx, rfl, ho, Same.seqT s.same hb, by rw [rs.len, r2.len]; exact hz, f _ _ _ _ _ q s2 st2 rep_of_non⟩
theorem am_insert {a : Addr} {ds : List D} {j : Nat} (e : M = M1 ++ (a, .lst ds) :: M2) (hz : ds.length < sizeLine) (hj : j ≤ ds.length) (q : k .non (M1 ++ (a, .lst (ds.take j ++ [d] ++ ds.drop j)) :: M2)) : AM K rInsert (.ref a) [.int j, d] M k := fun vx vs G H Q rx rxs s f => by
  subst e
  obtain ⟨v, r, rfl, r1, rr⟩ := rxs.uncons
  obtain ⟨v2, r', rfl, r2, rr'⟩ := rr.uncons
  unfold Reps at rr'
  subst rr'
  obtain ⟨g0, o, ho, r⟩ := s.mu (a, .lst ds) (by simp)
  obtain ⟨xs, rfl, rs⟩ := r
  have hsz := sizeLine_eq
  obtain ⟨s2, st2⟩ := s.write (o := .lst (xs.take (j : Int).toNat ++ [v2] ++ xs.drop (j : Int).toNat)) (m' := .lst (ds.take j ++ [d] ++ ds.drop j)) ⟨_, rfl, by
    rw [Int.toNat_natCast]
    exact ((Reps.take j rs).append (Reps.one r2)).append (Reps.drop j rs)⟩
  exact ⟨a, xs, j, v2, rep_ref rx, by rw [rep_int r1], ho, by rw [rs.len]; exact hz, by omega, by omega, f _ _ _ _ _ q s2 st2 rep_of_non⟩
theorem am_index {a b : Str} {j : Nat} {rest : List Nat} (h : Builtin.Str.occurrences a b 0 a.length 1 = j :: rest) (q : k (.int (j : Nat)) M) : AM K rIndex (.str a) [.str b] M k := fun vx vs G H Q rx rxs s f => by
  obtain ⟨v, r, rfl, r1, rr⟩ := rxs.uncons
  unfold Reps at rr
  subst rr
  exact ⟨a, b, j, rest, rep_str rx, by rw [rep_str r1], h, f _ M _ G H q s Step.refl rep_of_int⟩
/-- xs[j] op= e -/
theorem as_augL {r : TIp} (h : AE K to δ M fun o M1 => AE K ti δ M1 fun j M2 => ∃ a ds N1 N2 jj n x, o = .ref a ∧ j = .int jj ∧ M2 = N1 ++ (a, MO.lst ds) :: N2 ∧ ixN ds.length jj = some n ∧ ds[n]? = some x ∧
      AE K te δ M2 fun y M3 => AR K r x y M3 fun z M4 => ∃ ds' P1 P2 n', M4 = P1 ++ (a, MO.lst ds') :: P2 ∧ ixN ds'.length jj = some n' ∧ A.nx δ (P1 ++ (a, MO.lst (ds'.set n' z)) :: P2)) : AS K (tAugS to ti te (rIxL K) r rSetL) δ M A := fun σ G H E rs s ft =>
  h σ G H _ rs s fun o M1 vo G1 H1 h1 s1 st1 r1 => h1 σ G1 H1 _ (rs.mono st1.gg) s1 fun j M2 vj G2 H2 h2 s2 st2 r2 => by
    obtain ⟨a, ds, N1, N2, jj, n, x, rfl, rfl, e2, hn, hx, h3⟩ := h2
    obtain ⟨g0, oo, ho, r⟩ := s2.mu (a, .lst ds) (by rw [e2]; simp)
    obtain ⟨xs, rfl, rx⟩ := r
    obtain ⟨vx, ex, rvx⟩ := rx.get hx
    have st12 := st1.trans st2
    refine ⟨a, xs, jj, vx, rep_ref (Rep.mono st2.gg _ _ r1), rep_int r2, .inl (.inl ho), by unfold atI; rw [rx.len, hn]; exact ex, h3 σ G2 H2 _ (rs.mono st12.gg) s2 ?_⟩
    intro y M3 vy G3 H3 h4 s3 st3 r3
    refine h4 vx vy G3 H3 _ (Rep.mono st3.gg _ _ rvx) r3 s3 ?_
    rintro z M4 vz G4 H4 ⟨ds', P1, P2, n', rfl, hn', q⟩ s4 st4 r4
    obtain ⟨g0', oo', ho', r'⟩ := s4.mu (a, .lst ds') (by simp)
    obtain ⟨xs', rfl, rx'⟩ := r'
    obtain ⟨s5, st5⟩ := s4.write (o := .lst (xs'.set n' vz)) (m' := .lst (ds'.set n' z)) ⟨_, rfl, Reps.set rx' r4⟩
    have st := ((st12.trans st3).trans st4).trans st5
    exact ⟨a, xs', jj, n', rep_ref r1, rep_int r2, ho', by rw [rx'.len]; exact hn', ft.nx _ _ _ _ _ q (rs.mono st.gg) s5 st⟩
/-- {'a': 'b', ..}[z] -/
def tDispGet (trs : List (TE × TE)) (ty : TE) : TE := tDGet (tDisp trs) ty
theorem ae_dispGet {kvs : List (Str × Str)} {ty : TE} (hk : kvs.length ≤ 15) (h : AE K ty δ M fun y M2 => ∃ z v, y = .str z ∧ valV (mergeK [] (kvs.map fun p => ((Sum.inr p.1 : Key), V.str p.2))) (Sum.inr z) = some (.str v) ∧ k (.str v) M2) : AE K (tDispGet (kvs.map fun p => (tC (.str p.1), tC (.str p.2))) ty) δ M k := fun σ G H Q rs s f p hp => by
  have all : ∀ (l : List (Str × Str)) (H' : Hp) (R : List (V × V) → Hp → Prop), R (l.map fun p => (V.str p.1, V.str p.2)) H' → tPairs (l.map fun p => (tC (.str p.1), tC (.str p.2))) σ H' R := by
    intro l
    induction l with
    | nil => intro H' R h; exact h
    | cons a l ih => intro H' R h; exact ih H' _ h
  refine all kvs _ _ ⟨upd_same, kvs.map fun p => ((Sum.inr p.1 : Key), V.str p.2), by rw [List.map_map]; rfl, by rw [List.length_map]; exact hk, ?_⟩
  have eH : ∀ o, upd (upd H p (HO.dK [])) p o = upd H p o := fun o => by
    funext b
    by_cases hb : b = p
    · subst hb; rw [upd_same, upd_same]
    · rw [upd_ne hb, upd_ne hb, upd_ne hb]
  rw [eH]
  have hpM : p ∉ ads M := fun z => by
    obtain ⟨q, hq, e⟩ := List.mem_map.mp z
    obtain ⟨_, o, ho, _⟩ := s.mu q hq
    rw [e, hp] at ho
    cases ho
  obtain ⟨s2, st2⟩ := s.junk (o := .dK (mergeK [] (kvs.map fun p => ((Sum.inr p.1 : Key), V.str p.2)))) hp
  refine h σ G _ _ rs s2 ?_
  rintro y M2 vy G2 H2 ⟨z, v, rfl, hv, q⟩ s3 st3 r3
  have hd := st3.keep p _ hpM upd_same
  refine ⟨p, .str v, rfl, ?_, f _ _ _ _ _ q s3 (st2.trans st3) rep_of_str⟩
  rw [rep_str r3, ← hv]
  exact DGet.k (k := Sum.inr z) hd
end
section
variable {X : Cx} {K : PySem.W.Frag}
theorem extU_K {o e : Expr} {es : List Expr} {to : TE} {t : TA} {apos cpos : Pos} (h0 : PE X (.Call (.Attribute o "extend" apos) (e :: es) [] cpos) (tBM X.K "list" (rExtendU X.K) to t)) (h : X.K = K := by rfl) : PE X (.Call (.Attribute o "extend" apos) (e :: es) [] cpos) (tBM K "list" (rExtendU K) to t) := h ▸ h0
theorem ins_K {o e : Expr} {es : List Expr} {to : TE} {t : TA} {apos cpos : Pos} (h0 : PE X (.Call (.Attribute o "insert" apos) (e :: es) [] cpos) (tBM X.K "list" rInsert to t)) (h : X.K = K := by rfl) : PE X (.Call (.Attribute o "insert" apos) (e :: es) [] cpos) (tBM K "list" rInsert to t) := h ▸ h0
theorem dispGet_K {o e : Expr} {trs : List (TE × TE)} {te : TE} {pos : Pos} (hu : X.A.units + 1 < cLine) (h0 : PE X o (tDisp trs)) (h1 : PE X e te) (hs : NoSl e := by exact fun _ _ => rfl) : PE X (.Subscript o e pos) (tDispGet trs te) := pe_dget hu h0 h1 hs
/-- a method of a class -/
structure DefM (K : PySem.W.Frag) (C : Addr) (m qual : Str) (st : Stmt) (ps : List Str) : Prop where
  ex : ∃ f fd, Fun K m qual st f fd ∧ Meth K C m f ∧ Binds K fd ps []
theorem met_of {P : Program} {w : World} {mg : Str → Option Value} {base : Heap} {C : Addr} {m qual : Str} {st : Stmt} {ps : List Str} {k : Nat} {sp : Sp} (c : Cls K C) (D : DefM K C m qual st ps)
    (ok : ∀ f fd, Fun K m qual st f fd → FnOk P w K mg base CX0 k f fd ps sp) : C8.Met P w K mg base k C m sp [] := by
  obtain ⟨f, fd, F, hm, b⟩ := D.ex
  exact ⟨f, fd, ps, [], c, hm, ok f fd F, b, .nil⟩
theorem mak_of {P : Program} {w : World} {mg : Str → Option Value} {base : Heap} {C : Addr} {x qual : Str} {st : Stmt} {ps : List Str} {k : Nat} {sp : Sp} (hm : mg x = some (.ref C)) (h1 : PySem.W.makesIn K C = true) (h2 : PySem.W.keepIn K (.ref C) = true) (D : DefM K C "__init__" qual st ps)
    (ok : ∀ f fd, Fun K "__init__" qual st f fd → FnOk P w K mg base CX0 k f fd ps sp) : C8.Mak P w K mg base k x C sp [] := by
  obtain ⟨f, fd, F, ⟨a1, a2, a3⟩, b⟩ := D.ex
  exact ⟨f, fd, ps, [], ⟨h1, a1, a2, h2⟩, ok f fd F, hm, b, .nil⟩
end
/-! ### constants of the top -/
def StrsV : List Value → List Str → Prop
  | [], ss => match ss with
    | [] => True
    | _ => False
  | v :: r, ss => match ss with
    | [] => False
    | z :: s => (∃ t, v = .str z t) ∧ StrsV r s
theorem StrsV.vals : ∀ {its : List Value} {ss : List Str}, StrsV its ss → Vals (ss.map V.str) its
  | [], [], _ => .nil
  | [], _ :: _, h => h.elim
  | _ :: _, [], h => h.elim
  | v :: r, z :: s, ⟨⟨t, e⟩, h⟩ => .cons ⟨t, e⟩ (StrsV.vals h)
theorem reps_strs {K : PySem.W.Frag} {G : Hp} : ∀ ss : List Str, Reps K G (ss.map D.str) (ss.map V.str)
  | [] => Reps.nil
  | z :: s => Reps.cons rep_of_str (reps_strs s)
theorem rep_gtup {K : PySem.W.Frag} {a : Addr} {dd : Option Addr} {its : List Value} {n : Nat} {sl : Array (Option Value)} {ss : List Str} (hl : K.lookup a = some ⟨.type "tuple", dd, .seq its.toArray n, sl⟩) (hv : StrsV its ss) (hz : its.length ≤ sizeLine := by decide) : ∀ G : Hp, Rep K G (.tup (ss.map D.str)) (.ref a) := fun G =>
  rep_mk_tup (xs := ss.map V.str) (.inr ⟨_, its.toArray, n, hl, rfl, rfl, by simpa using hz, by simpa using hv.vals⟩) (reps_strs ss)
end Tg
set_option Elab.async false
set_option linter.all false
set_option maxRecDepth 100000
set_option maxHeartbeats 1000000
/-! Tg: expressions that may raise; an own error with one field. -/
namespace Tg
open PySem L2 PyProof.Rows
abbrev XS := List (Str × D) → Mu → Prop
/-- as AE, but an error may come out: its fields and what may change (xs), who takes it (W) -/
def AEX (K : PySem.W.Frag) (te : TE) (δ : DS) (M : Mu) (xs : XS) (W : Addr → Hp → Prop) (k : D → Mu → Prop) : Prop := ∀ σ G H Q, RelS K G δ σ → S K G H M →
  (∀ d M' v G' H', k d M' → S K G' H' M' → Step (ads M) G H (ads M') G' H' → Rep K G' d v → Q v H') →
  (∀ fs M' d G' H', xs fs M' → S K G' H' (M' ++ [(d, .xd fs)]) → Step (ads M) G H (ads (M' ++ [(d, .xd fs)])) G' H' → W d H') → te σ H Q
def AAX (K : PySem.W.Frag) (ta : TA) (δ : DS) (M : Mu) (xs : XS) (W : Addr → Hp → Prop) (k : List D → Mu → Prop) : Prop := ∀ σ G H Q, RelS K G δ σ → S K G H M →
  (∀ ds M' vs G' H', k ds M' → S K G' H' M' → Step (ads M) G H (ads M') G' H' → Reps K G' ds vs → Q vs H') →
  (∀ fs M' d G' H', xs fs M' → S K G' H' (M' ++ [(d, .xd fs)]) → Step (ads M) G H (ads (M' ++ [(d, .xd fs)])) G' H' → W d H') → ta σ H Q
section
variable {K : PySem.W.Frag} {δ : DS} {M : Mu} {ta tb te to ti tv : TE} {ts : TA} {k : D → Mu → Prop} {ka : List D → Mu → Prop} {i : Nat} {d x y : D} {A : AEnds} {xs : XS} {W : Addr → Hp → Prop} {C Ce : Addr} {m : Str} {E : XK}
theorem aex_ae (h : AE K te δ M k) : AEX K te δ M xs W k := fun σ G H Q rs s f _ => h σ G H Q rs s f
theorem aax_aa (h : AA K ts δ M ka) : AAX K ts δ M xs W ka := fun σ G H Q rs s f _ => h σ G H Q rs s f
/-- a method that may raise -/
theorem aex_meth {Wx : WtX} (hW : W = fun d H' => E (.ref Ce) (some d) H') (h : AE K te δ M fun x M1 => ∃ a dx fs, x = .ref a ∧ (∃ N1 N2, M1 = N1 ++ (a, MO.ins C dx fs) :: N2) ∧ fs.lookup m = none ∧
      AA K ts δ M1 fun ds M2 => ∃ Mc R kc kx, M2 = Mc ++ R ∧ Wx (.ref a :: ds) Mc kc kx ∧ (∀ d Mc', kc d Mc' → k d (Mc' ++ R)) ∧ ∀ fs Mc', kx fs Mc' → xs fs (Mc' ++ R)) : AEX K (tMeth C m (SpcX K Ce Wx) [] E te ts) δ M xs W k := fun σ G H Q rs s f' fx =>
  h σ G H _ rs s fun x M1 vx G1 H1 ⟨a, dx, fs, e1, ⟨N1, N2, e2⟩, l, h1⟩ s1 st1 r1 => by
    subst e1 hW
    obtain ⟨g0, o, ho, ps, rfl, rk⟩ := s1.mu (a, .ins C dx fs) (by rw [e2]; simp)
    refine ⟨a, dx, ps, rep_ref r1, ho, repKV_no rk l, h1 σ G1 H1 _ (rs.mono st1.gg) s1 ?_⟩
    rintro ds M2 vs G2 H2 ⟨Mc, R, kc, kx, rfl, hw, hk, hx⟩ s2 st2 r2
    rw [rep_ref r1, List.append_nil]
    refine ⟨G2, _, Mc, kc, kx, Reps.cons rep_of_ref r2, s2.sub, hw, fun d M' v G' H' hd s' st' rv => ?_, fun fs' M' d G' H' hk' s' st' => ?_⟩
    · obtain ⟨s3, st3⟩ := s2.join s' st'
      exact f' d _ v G' H' (hk d M' hd) s3 ((st1.trans st2).trans st3) rv
    · obtain ⟨s3, st3⟩ := s2.join s' st'
      have hp : ((M' ++ [(d, MO.xd fs')]) ++ R).Perm ((M' ++ R) ++ [(d, MO.xd fs')]) := by
        rw [List.append_assoc, List.append_assoc]
        exact List.Perm.append_left M' List.perm_append_comm
      exact fx fs' (M' ++ R) d G' H' (hx fs' M' hk') (s3.perm hp) (((st1.trans st2).trans st3).perm (fun _ => Iff.rfl) (ads_perm hp))
theorem aax_one (h : AEX K te δ M xs W fun d M1 => ka [d] M1) : AAX K (tCons te tNil) δ M xs W ka := fun σ G H Q rs s f fx =>
  h σ G H _ rs s (fun d M1 v G1 H1 h1 s1 st1 r1 => f [d] M1 [v] G1 H1 h1 s1 st1 (Reps.one r1)) fx
theorem aax_cons (h : AE K te δ M fun d M1 => AAX K ts δ M1 xs W fun ds M2 => ka (d :: ds) M2) : AAX K (tCons te ts) δ M xs W ka := fun σ G H Q rs s f fx =>
  h σ G H _ rs s fun d M1 v G1 H1 h1 s1 st1 r1 => h1 σ G1 H1 _ (rs.mono st1.gg) s1 (fun ds M2 vs G2 H2 h2 s2 st2 r2 => f (d :: ds) M2 (v :: vs) G2 H2 h2 s2 (st1.trans st2) (Reps.cons (Rep.mono st2.gg _ _ r1) r2))
    fun fs M' d' G' H' a s' st' => fx fs M' d' G' H' a s' (st1.trans st')
theorem aex_tup (h : AAX K ts δ M xs W fun ds M1 => ds.length ≤ sizeLine ∧ k (.tup ds) M1) : AEX K (tTup ts) δ M xs W k := fun σ G H Q rs s f fx =>
  h σ G H _ rs s (fun ds M1 vs G1 H1 ⟨hl, h1⟩ s1 st1 r1 => ⟨by rw [r1.len]; exact hl, fun p hp => by
    obtain ⟨s2, st2, e2⟩ := s1.frozen (o := .tup vs) hp
    exact f _ M1 _ _ _ h1 s2 (st1.trans st2) (rep_mk_tup (.inl (.inl upd_same)) (Reps.mono e2 _ _ r1))⟩) fx
theorem aex_lstM (h : AAX K ts δ M xs W fun ds M1 => ds.length ≤ sizeLine ∧ ∀ a, k (.ref a) (M1 ++ [(a, .lst ds)])) : AEX K (tLstM ts) δ M xs W k := fun σ G H Q rs s f fx =>
  h σ G H _ rs s (fun ds M1 vs G1 H1 ⟨hl, h1⟩ s1 st1 r1 => ⟨by rw [r1.len]; exact hl, fun p hp => by
    obtain ⟨s2, st2⟩ := s1.fresh (m := .lst ds) (o := .lst vs) hp ⟨vs, rfl, r1⟩
    exact f _ _ _ _ _ (h1 p) s2 (st1.trans st2) rep_of_ref⟩) fx
theorem aex_lm {r : V → List V → Hp → VK → Prop} (h : AE K to δ M fun x M1 => LstM x M1 ∧ AAX K ts δ M1 xs W fun zs M2 => AM K r x zs M2 k) : AEX K (tBM K "list" r to ts) δ M xs W k := fun σ G H Q rs s f fx =>
  h σ G H _ rs s fun x M1 v G1 H1 ⟨ht, h1⟩ s1 st1 r1 => by
    refine ⟨?_, h1 σ G1 H1 _ (rs.mono st1.gg) s1 (fun xs M2 vs G2 H2 h2 s2 st2 r2 => h2 v vs G2 H2 Q (Rep.mono st2.gg _ _ r1) r2 s2 fun d M3 v3 G3 H3 q s3 st3 r3 => f d M3 v3 G3 H3 q s3 ((st1.trans st2).trans st3) r3)
      fun fs M' d' G' H' a s' st' => fx fs M' d' G' H' a s' (st1.trans st')⟩
    rcases ht with ⟨ds, e⟩ | ⟨ds, e⟩ | ⟨a, ds, N1, N2, e, e2⟩
    · subst e
      obtain ⟨a, xs, rfl, ha, _⟩ := rep_lst r1
      exact .inl ⟨rfl, xs, .inl (.inl (s1.same _ _ ha))⟩
    · subst e
      obtain ⟨a, xs, rfl, ha, _⟩ := rep_lsk r1
      exact .inl ⟨rfl, xs, s1.same.seq ha⟩
    · subst e
      rw [rep_ref r1]
      obtain ⟨_, o, ho, r⟩ := s1.mu (a, .lst ds) (by rw [e2]; simp)
      obtain ⟨xs, rfl, rs⟩ := r
      exact .inl ⟨rfl, xs, .inl (.inl ho)⟩
/-! ### statements -/
theorem as_asgX {g : TG} (h : AEX K te δ M A.xs A.W fun d M1 => AG K g d δ M1 A.nx) : AS K (tAsg te g) δ M A := fun σ G H E rs s f =>
  h σ G H _ rs s (fun d M1 v G1 H1 h1 s1 st1 r1 => h1 v σ G1 H1 E.nx r1 (rs.mono st1.gg) s1 fun δ' M' σ' G' H' a rs' s' st => f.nx δ' M' σ' G' H' a rs' s' (st1.trans st)) f.xs
theorem as_setX (h : AEX K te δ M A.xs A.W fun d M1 => A.nx (δ.set i (some d)) M1) : AS K (tAsg te (gName i)) δ M A := as_asgX fun σ G H Q rs s f fx => h σ G H Q rs s (fun d M' v G' H' q => f d M' v G' H' (ag_name q)) fx
theorem as_retX (h : AEX K te δ M A.xs A.W A.rt) : AS K (tRet te) δ M A := fun σ G H E rs s f => h σ G H E.rt rs s (fun d M1 v G1 H1 h1 s1 st1 r1 => f.rt d M1 v G1 H1 h1 s1 st1 r1) f.xs
theorem as_dropX (h : AEX K te δ M A.xs A.W fun _ M1 => A.nx δ M1) : AS K (tDrop te) δ M A := fun σ G H E rs s f => h σ G H _ rs s (fun d M1 v G1 H1 h1 s1 st1 r1 => f.nx δ M1 σ G1 H1 h1 (rs.mono st1.gg) s1 st1) f.xs
theorem as_augX {r : TIp} {x : D} (hx : δ[i]? = some (some x)) (h : AEX K te δ M A.xs A.W fun y M1 => AR K r x y M1 fun z M2 => A.nx (δ.set i (some z)) M2) : AS K (tAug i te r) δ M A := fun σ G H E rs s f => by
  obtain ⟨v, e, rv⟩ := rs.at_ i x hx
  exact ⟨v, e, h σ G H _ rs s (fun y M1 vy G1 H1 h1 s1 st1 r1 => h1 v vy G1 H1 _ (Rep.mono st1.gg _ _ rv) r1 s1 fun z M2 vz G2 H2 h2 s2 st2 r2 =>
    f.nx _ M2 _ G2 H2 h2 ((rs.mono (st1.trans st2).gg).set i r2) s2 (st1.trans st2)) f.xs⟩
end
/-! ### an own error with one field -/
def spIni1 (K : PySem.W.Frag) (C : Addr) (f1 : Str) : Sp := fun vs H Q _ => ∃ a y, vs = [.ref a, y] ∧ H a = some (exo a C none) ∧
  ∀ dx, H dx = none → dx ≠ a → Q .non (upd (upd H dx (exd dx [(f1, y)])) a (exo a C (some dx)))
def tRaise1 (K : PySem.W.Frag) (C : Addr) (f1 : Str) (E : XK) (ta : TA) : TS := fun _ σ H => tMkO C (spIni1 K C f1) [] ta σ H fun cls d H' => E cls d H'
section
variable {K : PySem.W.Frag} {δ : DS} {M : Mu} {A : AEnds} {C : Addr} {f1 : Str} {E : XK} {ta : TA}
theorem as_raise1 (hA : A.W = fun d H' => E (.ref C) (some d) H') (h : AA K ta δ M fun ds M1 => ∃ y, ds = [y] ∧ A.xs [(f1, y)] M1) : AS K (tRaise1 K C f1 E ta) δ M A := fun σ G H E' rs s f =>
  h σ G H _ rs s fun ds M1 vs G1 H1 ⟨y, e, hx⟩ s1 st1 r1 => by
    subst e
    obtain ⟨vy, r, rfl, ry, rr⟩ := r1.uncons
    unfold Reps at rr
    subst rr
    refine ⟨by show 1 ≤ 1000; decide, fun a ha => ⟨a, vy, rfl, upd_same, fun dx hdx hne => ⟨rfl, dx, [(f1, vy)], upd_same, ?_, ?_, ?_⟩⟩⟩
    · rw [upd_ne hne, upd_same]
    · have h0 := hdx
      rw [upd_ne hne] at h0
      exact h0
    · have hd1 : H1 dx = none := by
        have h0 := hdx
        rw [upd_ne hne] at h0
        exact h0
      have e : upd (del (upd (upd (upd H1 a (exo a C none)) dx (exd dx [(f1, vy)])) a (exo a C (some dx))) a) dx (.xd [(f1, vy)]) = upd H1 dx (.xd [(f1, vy)]) := by
        funext b
        by_cases h1 : b = dx
        · subst h1
          rw [upd_same, upd_same]
        · rw [upd_ne h1, upd_ne h1]
          by_cases h2 : b = a
          · subst h2
            rw [del_same, ha]
          · rw [del_ne h2, upd_ne h2, upd_ne h1, upd_ne h2]
      rw [e]
      obtain ⟨s2, st2⟩ := s1.fresh (o := .xd [(f1, vy)]) (m := .xd [(f1, y)]) hd1 ⟨_, rfl, by
        unfold RepKV
        exact ⟨vy, [], rfl, ry, by unfold RepKV; rfl⟩⟩
      have q := f.xs _ M1 dx G1 _ hx s2 (st1.trans st2)
      rw [hA] at q
      exact q
end
section
variable {X : Cx} {K : PySem.W.Frag} {C fI : Addr} {k : Nat} {fd : FuncData} {f1 x : Str} {e : Expr} {es : List Expr} {ta : TA} {p pos pos2 : Pos} {CX : CXT} {E : XK}
theorem ps_raise1 (hc : X.calm = true) (tk : Takes X (fun cls d _ H => E cls d H)) (T : OexC X.K C) (iC : PySem.W.findIn X.K (.ref C) "__init__" = some (some (.ref fI))) (tI : PySem.W.typeIn X.K (.ref fI) = some (.type "function"))
    (F1 : FnOk X.prog X.w X.K X.mg X.base CX k fI fd ["self", f1] (spIni1 X.K C f1)) (hr : Room (k + 1) X.A) (hb : Binds X.K fd ["self", f1] []) (hx : Passes CX X (fun _ _ _ => False)) (hg : Gl X x) (hm : X.mg x = some (.ref C)) (ha : PA X (e :: es) ta)
    (hdb : (x == ("__debug__" : Str)) = false := by decide) (he : starEach (e :: es) X.env = (false, eval e X.env) :: starEach es X.env := by rfl) (hpl : (backTo pos (starEach es X.env)).any (·.1) = false := by rfl) :
    PS X (.Raise (some (.Call (.Name x p) (e :: es) [] pos)) none pos2) (tRaise1 X.K C f1 E ta) := ps_raise hc tk (pmk_oex T iC tI F1 hr hb .nil hx hg hm ha hdb he hpl)
end
structure ErrC1 (K : PySem.W.Frag) (mg : Str → Option Value) (x qual : Str) (st : Stmt) (f1 : Str) (C : Addr) : Prop where
  o : OexC K C
  m : mg x = some (.ref C)
  i : ∃ fI fd, PySem.W.findIn K (.ref C) "__init__" = some (some (.ref fI)) ∧ PySem.W.typeIn K (.ref fI) = some (.type "function") ∧ Fun K "__init__" qual st fI fd ∧ Binds K fd ["self", f1] []
  n1 : PySem.W.findIn K (.ref C) f1 = some none
  xf : XfC K C
  self : PySem.W.exmOne K (.ref C) (.ref C) = some true
  ec : ExcC K C
/-- a method that may raise -/
structure MetX (P : Program) (w : World) (K : PySem.W.Frag) (mg : Str → Option Value) (base : Heap) (k : Nat) (C : Addr) (m : Str) (sp : Sp) : Prop where
  ex : ∃ (f : Addr) (fd : FuncData) (ps : List Str), Cls K C ∧ Meth K C m f ∧ FnOk P w K mg base (L2.CX P w) k f fd ps sp ∧ Binds K fd ps []
section
variable {X : Cx} {K : PySem.W.Frag} {C : Addr} {k j : Nat} {m : Str} {sp : Sp} {o : Expr} {ta : TE} {apos pos : Pos} {E : XK}
theorem pe_mtX0 {pl : Sem Bool} (tk : Takes X (fun cls d _ H => E cls d H)) (c : MetX X.prog X.w X.K X.mg X.base k C m sp) (hr : Room j X.A) (hk : k ≤ j) (he : PE X o ta)
    (ht : eval (.Call (.Attribute o m apos) [] [] pos) X.env = (do
      let ov ← eval o X.env
      standAt apos.atName
      let (f, first) ← holding [ov] (getMethod ov m pl)
      callWith pos f first (backTo pos (starEach [] X.env)) (backToKw pos (keywordEach [] X.env))) := by rfl) :
    PE X (.Call (.Attribute o m apos) [] [] pos) (tMeth C m sp [] E ta tNil) := by
  obtain ⟨f, fd, ps, hc, hm, F, b⟩ := c.ex
  exact pe_meth0 (pl := pl) he hc hm F (hr.mono hk) b .nil (passes_call tk fun _ _ _ _ h => h) ht
theorem metX_of {P : Program} {w : World} {mg : Str → Option Value} {base : Heap} {C : Addr} {m qual : Str} {st : Stmt} {ps : List Str} {k : Nat} {sp : Sp} (c : Cls K C) (D : DefM K C m qual st ps)
    (ok : ∀ f fd, Fun K m qual st f fd → FnOk P w K mg base (L2.CX P w) k f fd ps sp) : MetX P w K mg base k C m sp := by
  obtain ⟨f, fd, F, hm, b⟩ := D.ex
  exact ⟨f, fd, ps, c, hm, ok f fd F, b⟩
end
section
variable {K : PySem.W.Frag} {δ : DS} {M : Mu} {A : AEnds} {C : Addr} {W : WtX} {ta : TA} {i : Nat} {ts : Addr → Value → Option Addr → TS}
/-- try: f(..) except X as n: suite -/
def tTryD (K : PySem.W.Frag) (C : Addr) (W : WtX) (ta : TA) (i : Nat) (ts : Addr → Value → Option Addr → TS) : TS := fun D σ H => tDrop (tCallS (SpcX K C W) (WE (wAs K (.ref C) i ts (fun _ _ _ _ => False) D)) ta) D σ H
theorem as_tryD (te : PySem.W.exmOne K (.ref C) (.ref C) = some true) (h : AA K ta δ M fun ds M1 => ∃ Mc R kc kx, M1 = Mc ++ R ∧ W ds Mc kc kx ∧ (∀ d Mc', kc d Mc' → A.nx δ (Mc' ++ R)) ∧
      ∀ fs Mc' a d, kx fs Mc' → AS K (ts a (.ref C) (some d)) (δ.set i (some (.ref a))) ((Mc' ++ [(d, .xd fs)]) ++ R) { A with nx := fun δ' M' => A.nx (δ'.set i none) M', bk := fun δ' M' => A.bk (δ'.set i none) M', ct := fun δ' M' => A.ct (δ'.set i none) M' }) :
    AS K (tTryD K C W ta i ts) δ M A := fun σ G H E rs s f =>
  h σ G H _ rs s fun ds M1 vs G1 H1 ⟨Mc, R, kc, kx, e, hw, hn, hx⟩ s1 st1 r1 => by
    subst e
    refine ⟨G1, ds, Mc, kc, kx, r1, s1.sub, hw, fun d M' v G' H' hd s' st' rv => ?_, fun fs M' d G' H' hk s' st' => ?_⟩
    · obtain ⟨s2, st2⟩ := s1.join s' st'
      exact f.nx _ _ _ G' H' (hn d M' hd) (rs.mono (st1.trans st2).gg) s2 (st1.trans st2)
    · obtain ⟨s2, st2⟩ := s1.join s' st'
      have st := st1.trans st2
      have fg := f.go st
      refine ⟨true, te, fun _ a ha => ?_, fun q => nomatch q⟩
      refine hx fs M' a d hk (σ.set i (some (.ref a))) G' H' _ ((rs.mono st.gg).set i rep_of_ref) s2 ⟨?_, fg.rt, ?_, ?_, fg.xs⟩
      · intro δ' M2 σ' G2 H2 q r s3 st3
        exact fg.nx _ M2 _ G2 H2 q (r.drop i) s3 st3
      · intro δ' M2 σ' G2 H2 q r s3 st3
        exact fg.bk _ M2 _ G2 H2 q (r.drop i) s3 st3
      · intro δ' M2 σ' G2 H2 q r s3 st3
        exact fg.ct _ M2 _ G2 H2 q (r.drop i) s3 st3
end
end Tg
set_option Elab.async false
set_option linter.all false
set_option maxRecDepth 100000
set_option maxHeartbeats 4000000
namespace Tg
open PySem PySem.W PySem.Calls PySem.NumText PyProof.Rows
/-! Tg: ints of texts of any length, deep equality, stars, written dicts, comprehensions of two clauses. -/
/-- nothing is said of how many digits an int may have -/
def DigFree (h : Heap) : Prop := ∀ (M : Model) (A : Around) (E : Value → Shared → Prop) (s : Shared) (Q : Nat → Shared → Prop), s.heap = h → Q 4300 s → wpAny M A Builtin.intMaxStrDigits Q E s
theorem long_text {M : Model} {A : Around} {E : Value → Shared → Prop} {s : Shared} {Q : Value → Shared → Prop} {v : Value} {text : List Nat} {n : Int} (hd : DigFree s.heap)
    (hs : ¬ (text.takeWhile (· != 0)).length ≤ 640) (hr : (int_private% "readNumeral") 4300 10 (text.takeWhile (· != 0)) = (int_private% "Numeral.value") n)
    (ha : ((text.takeWhile (· != 0)).length == text.length) = true) (h : Q (.int n s.toks) { s with toks := s.toks + 1 }) :
    wpAny M A ((int_private% "intFromText") v text 10) Q E s := by
  have hd' := fun Q' q => hd M A E s Q' rfl q
  obtain ⟨hp, g, d, tk, os⟩ := s
  repeat (any_goals (first
    | assumption
    | (with_reducible refine wpAny_ite_false (decide_eq_false hs) ?_)
    | (with_reducible refine wpAny_ite_true (decide_eq_true ha) ?_)
    | (with_reducible refine hd' _ ?_)
    | wp_step))
  all_goals (try rw [hr])
  all_goals (try dsimp only)
  repeat (any_goals (first
    | assumption
    | (with_reducible refine wpAny_ite_true (decide_eq_true ha) ?_)
    | wp_step))
theorem digFree_of {K : Frag} {h : Heap} (x : K.In h) (e : nsIn K cStatics "sys.int_max_str_digits" = some none) : DigFree h := fun M A E s Q hh q => by
  unfold Builtin.intMaxStrDigits
  refine wpAny_bind (looks_nsIn (M := M) x e A _ E s (fun b o z => by rw [hh]; exact z) ?_)
  exact wpAny_pure q
theorem long_new {x : PySem.Str} {u : Tok} {n : Int} (hl : ¬ (numSeenOf x).length ≤ 640) (hz : x.length ≤ sizeLine) (hn : PySem.intText? x = some n) :
    Meets (Builtin.«int.__new__» ⟨[.type "int", .str x u], []⟩) (fun A R s => DigFree s.heap ∧ R (.ok (.ret (.int n s.toks))) { s with toks := s.toks + 1 }) :=
  .of_wp fun prog w A R s ⟨hd, h⟩ => by
    obtain ⟨hp, g, d, tk, os⟩ := s
    have f1 := F.conv_sub_int
    have f2 := F.madeHere_int
    have f3 := KIN.str_int
    have f4 := KIN.str_idx
    have f5 := KIN.str_trunc
    have f6 : typeOf (.str x u) = pure (.type "str") := rfl
    have hr : (int_private% "readNumeral") 4300 10 (numSeenOf x) = (int_private% "Numeral.value") n ∧ ((numSeenOf x).length == (numTextOf x).length) = true := by
      rcases read4300 x hz with ⟨m, h1, h2, h3⟩ | ⟨h1, _⟩
      · rw [hn] at h1
        injection h1 with h1
        subst h1
        exact ⟨h3, h2⟩
      · rw [hn] at h1
        cases h1
    have hk := KIN.Hid.mk (And.intro hl (And.intro hr hd))
    clear hl hr hn hd hz
    repeat (any_goals (first
      | assumption
      | ((with_reducible show wpAny _ _ ((int_private% "intFromText") _ _ _) _ _ _); refine long_text hk.out.2.2 hk.out.1 hk.out.2.1.1 hk.out.2.1.2 ?_)
      | wp_step))
    all_goals first | exact ⟨_, rfl, h⟩ | skip
open L2
/-- int(text of digits) -/
def rIntT : List V → Hp → VK → Prop := fun xs H Q => ∃ a n, xs = [.str a] ∧ PySem.intText? a = some n ∧ a.length ≤ sizeLine ∧ a.cps.all (· < 128) = true ∧ Q (.int n) H
theorem cr_intT {X : Cx} (e : nsIn X.K cStatics "sys.int_max_str_digits" = some none) : CallR X (.type "int") rIntT := by
  intro pins s σ H xs us Q I rs h
  obtain ⟨a, n, rfl, hn, hl, ha, h⟩ := h
  cases rs with
  | cons r1 rs =>
    cases rs
    obtain ⟨t, rfl⟩ := r1
    by_cases hs : (numSeenOf a).length ≤ 640
    · have hd := digFree_of I.kIn e
      by_cases h6 : a.length ≤ 640
      · exact KIN.call_text hn h6 ⟨.int n, H, I.tok _, ⟨_, rfl⟩, h⟩
      · exact False.elim (h6 (by
          have e2 : (numSeenOf a).length = (numTextOf a).length := by
            rcases read0 a hs with ⟨m, h1, h2, h3⟩ | ⟨h1, _⟩
            · exact eq_of_beq h2
            · rw [hn] at h1
              cases h1
          have e3 : (numTextOf a).length = a.length := by
            show (if a.cps.all (· < 128) then a.cps.toList else _).length = _
            rw [if_pos ha]
            exact Array.length_toList
          omega))
    · exact call_int_1 (long_new hs hl hn) ⟨digFree_of I.kIn e, rfl, ⟨.int n, H, I.tok _, ⟨_, rfl⟩, h⟩⟩
end Tg
set_option Elab.async false
set_option linter.all false
set_option maxRecDepth 100000
set_option maxHeartbeats 1000000
namespace Tg
open PySem L2 PyProof.Rows PySem.NumText
/-! ### deep equality -/
mutual
/-- data that == can go through: plain, signs below 128 -/
def Pln : D → Prop
  | .non => True
  | .bl _ => True
  | .int _ => True
  | .str z => ∀ c ∈ z.cps.toList, c < 128
  | .tup ds => Plns ds
  | .lst ds => Plns ds
  | .lsk ds => Plns ds
  | .ty _ => False
  | .ref _ => False
def Plns : List D → Prop
  | [] => True
  | d :: ds => Pln d ∧ Plns ds
end
theorem plns_all {ds : List D} : Plns ds ↔ ∀ d ∈ ds, Pln d := by
  induction ds with
  | nil => simp [Plns]
  | cons d ds ih => simp [Plns, ih]
mutual
theorem pln_lay : ∀ d : D, Pln d → (toPy d).canLay0 = true
  | .non, _ => rfl
  | .bl _, _ => rfl
  | .int _, _ => rfl
  | .str z, h => by
    unfold toPy PyData.canLay0
    unfold Pln at h
    show z.cps.all (· < 0x110000) = true
    rw [← Array.all_toList, List.all_eq_true]
    intro c hc
    have := h c hc
    exact decide_eq_true (by omega)
  | .tup ds, h => by
    unfold toPy PyData.canLay0
    unfold Pln at h
    exact plns_lay ds h
  | .lst ds, h => by
    unfold toPy PyData.canLay0
    unfold Pln at h
    exact plns_lay ds h
  | .lsk ds, h => by
    unfold toPy PyData.canLay0
    unfold Pln at h
    exact plns_lay ds h
  | .ty _, h => by unfold Pln at h; exact h.elim
  | .ref _, h => by unfold Pln at h; exact h.elim
theorem plns_lay : ∀ ds : List D, Plns ds → PyData.canLayAll0 (toPys ds) = true
  | [], _ => rfl
  | d :: ds, h => by
    unfold toPys PyData.canLayAll0
    unfold Plns at h
    rw [pln_lay d h.1, plns_lay ds h.2]
    rfl
end
section
variable {K : PySem.W.Frag} {G H : Hp}
mutual
theorem dpl_of (e : Same G H) : ∀ (d : D) (v : V), Pln d → Rep K G d v → Dp K H v (toPy d)
  | .non, _, _, r => by rw [rep_non r]; exact .non
  | .bl b, _, _, r => by rw [rep_bl r]; exact .bl b
  | .int i, _, _, r => by rw [rep_int r]; exact .int i
  | .str z, _, _, r => by rw [rep_str r]; exact .str z
  | .tup ds, _, h, r => by
    unfold Pln at h
    obtain ⟨a, xs, rfl, ha, rs⟩ := rep_tup r
    exact .tup (Same.seqT e ha) (dpls_of e ds xs h rs)
  | .lst ds, _, h, r => by
    unfold Pln at h
    obtain ⟨a, xs, rfl, ha, rs⟩ := rep_lst r
    exact .lst (.inl (.inl (e _ _ ha))) (dpls_of e ds xs h rs)
  | .lsk ds, _, h, r => by
    unfold Pln at h
    obtain ⟨a, xs, rfl, ha, rs⟩ := rep_lsk r
    exact .lst (e.seq ha) (dpls_of e ds xs h rs)
  | .ty _, _, h, _ => by unfold Pln at h; exact h.elim
  | .ref _, _, h, _ => by unfold Pln at h; exact h.elim
theorem dpls_of (e : Same G H) : ∀ (ds : List D) (vs : List V), Plns ds → Reps K G ds vs → DpAll K H vs (toPys ds)
  | [], _, _, r => by
    unfold Reps at r
    rw [r]
    exact .nil
  | d :: ds, _, h, r => by
    unfold Plns at h
    obtain ⟨x, xs, rfl, r1, r2⟩ := r.uncons
    exact .cons (dpl_of e d x h.1 r1) (dpls_of e ds xs h.2 r2)
end
end
/-- deep, and flat enough -/
def Eqb (d : D) : Prop := Pln d ∧ (toPy d).depth ≤ 64
theorem Eqb.shaped {d : D} (h : Eqb d) : SeqAt.shaped (toPy d) = true := by
  unfold SeqAt.shaped
  rw [pln_lay d h.1, decide_eq_true h.2]
  rfl
theorem eqv_self {d : D} (h : Pln d) : PyData.eqv (toPy d) (toPy d) = true := by
  have := pln_lay d h
  exact SeqAt.eqv_refl _ this
def eqD (x y : D) : Bool := PyData.eqv (toPy x) (toPy y)
def rEqU (K : PySem.W.Frag) : R2 := fun x y H Q => rEq x y H Q ∨ rEqD K x y H Q
def rNeU (K : PySem.W.Frag) : R2 := fun x y H Q => rNe x y H Q ∨ rNeD K x y H Q
section
variable {X : Cx} {K : PySem.W.Frag} {k' : Nat}
theorem hu64 (hr : Room k' X.A) : X.A.units + 64 < cLine := by have := hr.un; omega
theorem hu65 (hr : Room k' X.A) : X.A.units + 65 < cLine := by have := hr.un; omega
theorem eqU_K (hr : Room k' X.A) (h : X.K = K := by rfl) : OpR X (compareOp .Eq) (rEqU K) := h ▸ op_eq.or (op_eqD (hu64 hr))
theorem neU_K (hr : Room k' X.A) (h : X.K = K := by rfl) : OpR X (compareOp .NotEq) (rNeU K) := h ▸ op_ne.or (op_neD (hu64 hr))
theorem inD_K (hr : Room k' X.A) (h : X.K = K := by rfl) : OpR X (compareOp .In) (rInD K) := h ▸ op_inD (hu65 hr)
end
section
variable {K : PySem.W.Frag} {δ : DS} {M M1 M2 : Mu} {ta tb te to ti tv : TE} {ts : TA} {k : D → Mu → Prop} {i : Nat} {d x y : D} {A : AEnds} {t : TS}
theorem ar_eqD' (hx : Eqb x) (hy : Eqb y) (q : k (.bl (eqD x y)) M) : AR K (rEqD K) x y M k := fun vx vy G H Q rx ry s f =>
  ⟨toPy x, toPy y, dpl_of s.same _ _ hx.1 rx, dpl_of s.same _ _ hy.1 ry, hx.shaped, hy.shaped, f _ M _ G H q s Step.refl rep_of_bl⟩
theorem ar_neD' (hx : Eqb x) (hy : Eqb y) (q : k (.bl (!eqD x y)) M) : AR K (rNeD K) x y M k := fun vx vy G H Q rx ry s f =>
  ⟨toPy x, toPy y, dpl_of s.same _ _ hx.1 rx, dpl_of s.same _ _ hy.1 ry, hx.shaped, hy.shaped, f _ M _ G H q s Step.refl rep_of_bl⟩
theorem ar_eqS {b : Bool} (h : sclD x y = some b) (q : k (.bl b) M) : AR K (rEqU K) x y M k := ar_or1 (ar_eqD h q)
theorem ar_neS {b : Bool} (h : sclD x y = some b) (q : k (.bl (!b)) M) : AR K (rNeU K) x y M k := ar_or1 (ar_neD h q)
theorem ar_eqT (hx : Eqb x) (hy : Eqb y) (q : k (.bl (eqD x y)) M) : AR K (rEqU K) x y M k := ar_or2 (ar_eqD' hx hy q)
theorem ar_neT (hx : Eqb x) (hy : Eqb y) (q : k (.bl (!eqD x y)) M) : AR K (rNeU K) x y M k := ar_or2 (ar_neD' hx hy q)
theorem toPys_map : ∀ ds : List D, toPys ds = ds.map toPy
  | [] => rfl
  | d :: ds => by
    show toPy d :: toPys ds = _
    rw [toPys_map ds]
    rfl
theorem ar_inD {ds : List D} (hx : Eqb x) (hy : Eqb (.lst ds)) (q : k (.bl (ds.any fun z => eqD z x)) M) : AR K (rInD K) x (.lst ds) M k := fun vx vy G H Q rx ry s f => by
  have h2 := dpl_of s.same _ _ hy.1 ry
  have sh := hy.shaped
  unfold toPy at h2 sh
  refine ⟨toPy x, toPys ds, dpl_of s.same _ _ hx.1 rx, h2, hx.shaped, sh, ?_⟩
  rw [toPys_map, List.any_map]
  exact f _ M _ G H q s Step.refl rep_of_bl
/-! ### ints and texts -/
def rAbs : List V → Hp → VK → Prop := fun xs H Q => ∃ i, xs = [.int i] ∧ Q (.int (if i < 0 then -i else i)) H
theorem call_absU {X : Cx} : CallR X (.builtin "abs") rAbs := call_abs
theorem ac_abs {i : Int} (q : k (.int (if i < 0 then -i else i)) M) : AC K rAbs [.int i] M k := fun vs G H Q rx s f => by
  obtain ⟨v, r, rfl, r1, r2⟩ := rx.uncons
  unfold Reps at r2
  subst r2
  exact ⟨i, by rw [rep_int r1], f _ M _ G H q s Step.refl rep_of_int⟩
def rStrI : List V → Hp → VK → Prop := fun xs H Q => ∃ i, xs = [.int i] ∧ i.natAbs.log2 < 1920 ∧ Q (.str (toString i)) H
theorem call_strU {X : Cx} : CallR X (.type "str") rStrI := call_str_int
/-- the signs of a number -/
def shI (i : Int) : List Nat := (Str.ofString (toString i)).cps.toList
theorem ac_strI {i : Int} (h : i.natAbs.log2 < 1920) (q : k (.str (tx (shI i))) M) : AC K rStrI [.int i] M k := fun vs G H Q rx s f => by
  obtain ⟨v, r, rfl, r1, r2⟩ := rx.uncons
  unfold Reps at r2
  subst r2
  unfold shI at q
  rw [tx_codes] at q
  exact ⟨i, by rw [rep_int r1], h, f _ M _ G H q s Step.refl rep_of_str⟩
theorem sum_K {X : Cx} (hc : X.calm = true) (h : X.K = K := by rfl) : CallR X (.builtin "sum") (rSum K) := h ▸ cr_sum hc
theorem ac_sum {ns : List Int} (q : k (.int ns.sum) M) : AC K (rSum K) [.lst (ns.map D.int)] M k := fun vs G H Q rx s f => by
  obtain ⟨v, r, rfl, r1, rr⟩ := rx.uncons
  unfold Reps at rr
  subst rr
  obtain ⟨a, xs, rfl, ha, rs⟩ := rep_lst r1
  rw [rs.ints] at ha
  exact ⟨a, ns, rfl, .inl (.inl (s.same _ _ ha)), f _ M _ G H q s Step.refl rep_of_int⟩
theorem ac_intT {l : List Nat} (h : AllDigits l) (h0 : l ≠ []) (hl : l.length ≤ 4300) (q : k (.int (digitsVal l : Nat)) M) : AC K rIntT [.str (tx l)] M k := fun vs G H Q rx s f => by
  obtain ⟨v, r, rfl, r1, rr⟩ := rx.uncons
  unfold Reps at rr
  subst rr
  have e : (tx l).cps.toList = l := tx_cps l
  have hsz := sizeLine_eq
  refine ⟨tx l, (digitsVal l : Nat), by rw [rep_str r1], ?_, by rw [tx_len]; omega, ?_, f _ M _ G H q s Step.refl rep_of_int⟩
  · have := intText_digits (x := tx l) (by rw [e]; exact h) (by rw [e]; exact h0) (by rw [tx_len]; exact hl)
    rw [e] at this
    exact this
  · rw [← Array.all_toList, e, List.all_eq_true]
    intro c hc
    have := h c hc
    exact decide_eq_true (by omega)
theorem asl_tup {ds : List D} {lo hi : Option Int} (q : k (.tup (cutD ds lo hi)) M) : ASl K (rSlU K) (.tup ds) lo hi M k := fun vx G H Q rx s f => by
  obtain ⟨a, xs, rfl, ha, rs⟩ := rep_tup rx
  refine .inr (.inr ⟨a, xs, rfl, Same.seqT s.same ha, ?_⟩)
  have e1 : cutD ds lo hi = (ds.drop (HT.sIx xs.length 0 lo)).take (HT.sIx xs.length xs.length hi - HT.sIx xs.length 0 lo) := by
    unfold cutD
    rw [rs.len]
  refine ⟨fun ⟨h1, h2⟩ => ?_, fun _ p hp => ?_⟩
  · have e2 : cutD ds lo hi = ds := by
      rw [e1, h1, h2, rs.len]
      simp
    rw [e2] at q
    exact f _ M _ G H q s Step.refl (rep_mk_tup ha rs)
  · obtain ⟨s2, st2, e2⟩ := s.frozen (o := .tup (cutV xs lo hi)) hp
    exact f _ M _ _ _ q s2 st2 (rep_mk_tup (.inl (.inl upd_same)) (Reps.mono e2 _ _ (reps_cut rs lo hi)))
/-- a text, many times -/
theorem ar_mulW {l : List Nat} {n : Nat} (hl : l.length ≤ 1000) (hn : n ≤ 4000) (q : k (.str (tx (repL n l))) M) : AR K rMulS (.str (tx l)) (.int n) M k := fun vx vy G H Q rx ry s f => by
  refine ⟨tx l, (n : Nat), rep_str rx, rep_int ry, ⟨?_, ?_, ?_⟩, ?_⟩
  · rw [Bool.or_eq_false_iff]
    exact ⟨decide_eq_false (by omega), decide_eq_false (by omega)⟩
  · intro h1 _
    rw [tx_len]
    have h2 : (1000 : Int) ≤ (2 ^ 63 - 1) / (n : Int) := by
      rw [Int.le_ediv_iff_mul_le (by omega)]
      omega
    omega
  · intro h1 _
    rw [tx_len, Int.toNat_natCast]
    have h3 : l.length * n ≤ 1000 * 4000 := Nat.mul_le_mul hl hn
    have hsz := sizeLine_eq
    exact decide_eq_false (by omega)
  · rw [mul_tx]
    exact f _ M _ G H q s Step.refl rep_of_str
end
/-! ### a def in a slot, called with a starred list -/
def tCallV (P : Program) (w : World) (K : PySem.W.Frag) (mg : Str → Option Value) (base : Heap) (j i : Nat) (t : TA) : TE := fun σ H Q => ∃ f sp, σ[i]? = some (some (.ref f)) ∧ Held P w K mg base j f sp ∧ t σ H fun vs H1 => sp vs H1 Q (fun _ _ _ => False)
section
variable {X : Cx} {k j i : Nat} {x : Str} {p sp_ pos : Pos} {e : Expr} {te : TE}
theorem pe_callV (hr : Room k X.A) (hk : j ≤ k) (hN : X.N[i]? = some x) (hv : Vis X.env.scope x) (he : PE X e te)
    (hdb : (x == ("__debug__" : Str)) = false := by decide) (hcd : (x == ("__classdict__" : Str)) = false := by decide) (hst : starEach [.Starred e sp_] X.env = [(true, eval e X.env)] := by rfl) :
    PE X (.Call (.Name x p) [.Starred e sp_] [] pos) (tCallV X.prog X.w X.K X.mg X.base j i fun σ H Q => te σ H fun y H1 => ∃ a xs, y = V.ref a ∧ (SqT X.K H1 a xs ∨ SqL X.K H1 a xs) ∧ Q xs H1) := by
  refine ⟨fun pins s σ H Q I h => ?_⟩
  obtain ⟨f, sp, hs, A, ht⟩ := h
  obtain ⟨fd, ps, F, kp, hb⟩ := A.ex
  refine wpAny_Call_Name_kw (thn ((pe_var (pos := p) hN hv hdb hcd).run pins s σ H (fun v H1 => v = .ref f ∧ H1 = H) I ⟨.ref f, hs, rfl, rfl⟩) fun u s1 ⟨v, H1, I1, r1, q1⟩ => ?_)
  obtain ⟨rfl, rfl⟩ := q1
  cases r1
  refine PySem.W.callWith_S (h₀ := X.base) I.ok.mod.kin kp (thn (he.run pins s1 σ _ _ I1 ht) fun v s2 ⟨y, H2, I2, ry, a, xs, ey, hxs, q⟩ => ?_) hst
  subst ey
  obtain rfl : v = Value.ref a := ry
  refine StX.star_any I2 hxs fun us s3 I3 rv => ⟨I3.kIn, ?_⟩
  exact run_fn (E := fun _ _ _ => False) (dvs := []) (ds := []) F (hr.mono hk) hb .nil (fun _ _ _ _ _ _ _ z => z.elim) I3 rv (by rw [List.append_nil]; exact q)
end
section
variable {K : PySem.W.Frag} {P : Program} {w : World} {mg : Str → Option Value} {base : Heap} {j i : Nat} {δ : DS} {M : Mu} {te : TE} {k : D → Mu → Prop}
theorem ae_callV {f : Addr} {W : Wt} (hi : δ[i]? = some (some (.ref f))) (A : Held P w K mg base j f (Spc K W)) (h : AE K te δ M fun d M1 => ∃ ds, (d = .lst ds ∨ d = .tup ds) ∧ ∃ Mc R kc, M1 = Mc ++ R ∧ W ds Mc kc ∧ ∀ d Mc', kc d Mc' → k d (Mc' ++ R)) :
    AE K (tCallV P w K mg base j i fun σ H Q => te σ H fun y H1 => ∃ a xs, y = V.ref a ∧ (SqT K H1 a xs ∨ SqL K H1 a xs) ∧ Q xs H1) δ M k := fun σ G H Q rs s f' => by
  obtain ⟨v, hv, rv⟩ := rs.at_ i _ hi
  rw [rep_ref rv] at hv
  refine ⟨f, _, hv, A, h σ G H _ rs s ?_⟩
  rintro d M1 vx G1 H1 ⟨ds, hd, Mc, R, kc, rfl, hw, hk⟩ s1 st1 r1
  have fin : ∀ (a : Addr) (xs : List V), Reps K G1 ds xs → Spc K W xs H1 Q (fun _ _ _ => False) := fun a xs rx => by
    refine ⟨G1, ds, Mc, kc, rx, s1.sub, hw, fun d' M' v' G' H' hd s' st' rv => ?_⟩
    obtain ⟨s3, st3⟩ := s1.join s' st'
    exact f' d' _ v' G' H' (hk d' M' hd) s3 (st1.trans st3) rv
  rcases hd with rfl | rfl
  · obtain ⟨a, xs, rfl, ha, rx⟩ := rep_lst r1
    exact ⟨a, xs, rfl, .inr (.inl (.inl (s1.same _ _ ha))), fin a xs rx⟩
  · obtain ⟨a, xs, rfl, ha, rx⟩ := rep_tup r1
    exact ⟨a, xs, rfl, .inl (Same.seqT s1.same ha), fin a xs rx⟩
end
end Tg
set_option Elab.async false
set_option linter.all false
set_option maxRecDepth 100000
set_option maxHeartbeats 1000000
namespace Tg
open PySem L2 PyProof.Rows
/-! ### written dicts: texts by anything -/
def EntsV : List DictEntry → List (Str × V) → Prop
  | [], kvs => kvs = []
  | e :: r, kvs => ∃ k v s t, kvs = (k, v) :: s ∧ e.key = .str k t ∧ RelV v e.val ∧ EntsV r s
structure KTabV (K : PySem.W.Frag) (w : World) (a : Addr) (kvs : List (Str × V)) : Prop where
  ex : ∃ es n, K.lookup a = some ⟨.type "dict", none, .dict es n, #[]⟩ ∧ PySem.W.KeysLit w.params es.toList ∧ EntsV es.toList kvs
  low : (a == sysModules) = false
theorem EntsV.look : ∀ {es : List DictEntry} {kvs : List (Str × V)}, EntsV es kvs → ∀ z : Str, es.any (·.refKey) = false ∧ ((kvs.lookup z = none ∧ es.find? (·.key.isStr z) = none) ∨ ∃ e v, kvs.lookup z = some v ∧ es.find? (·.key.isStr z) = some e ∧ RelV v e.val)
  | [], _, h, z => by
    unfold EntsV at h
    subst h
    exact ⟨rfl, .inl ⟨rfl, rfl⟩⟩
  | e :: r, _, h, z => by
    unfold EntsV at h
    obtain ⟨k, v, s, t, rfl, e1, e2, h⟩ := h
    obtain ⟨i1, i2⟩ := EntsV.look h z
    have r1 : e.refKey = false := by
      unfold DictEntry.refKey
      rw [e1]
    refine ⟨by rw [List.any_cons, r1, i1]; rfl, ?_⟩
    have r2 : e.key.isStr z = (k == z) := by rw [e1]; rfl
    by_cases c : k = z
    · subst c
      have hb : (k == k) = true := beq_self_eq_true k
      exact .inr ⟨e, v, by simp [List.lookup, hb], by rw [List.find?_cons, r2, hb], e2⟩
    · have hb : (k == z) = false := beq_eq_false_iff_ne.mpr c
      have hb' : (z == k) = false := beq_eq_false_iff_ne.mpr (Ne.symm c)
      rcases i2 with ⟨i3, i4⟩ | ⟨e', v', i3, i4, i5⟩
      · exact .inl ⟨by simp [List.lookup, hb', i3], by rw [List.find?_cons, r2, hb]; exact i4⟩
      · exact .inr ⟨e', v', by simp [List.lookup, hb', i3], by rw [List.find?_cons, r2, hb]; exact i4, i5⟩
section
variable {K : PySem.W.Frag} {w : World} {δ : DS} {M M1 M2 : Mu} {ta tb te to ti tv : TE} {ts : TA} {k : D → Mu → Prop} {i : Nat} {d x y : D} {A : AEnds} {t : TS}
theorem ar_kixV {a : Addr} {kvs : List (Str × V)} {z : Str} {v : V} (tab : KTabV K w a kvs) (h : kvs.lookup z = some v) (r : ∀ G, Rep K G d v) (q : k d M) : AR K (rIxD K w) (.ref a) (.str z) M k := fun vx vy G H Q rx ry s f => by
  obtain ⟨es, n, h1, h2, h3⟩ := tab.ex
  obtain ⟨g1, g2⟩ := h3.look z
  rcases g2 with ⟨g2, _⟩ | ⟨e, v', g2, g3, g4⟩
  · rw [h] at g2; cases g2
  · rw [h] at g2
    cases g2
    refine ⟨a, z, v, rep_ref rx, rep_str ry, ⟨es, n, e.val, h1, h2, ?_, g4⟩, f _ M _ G H q s Step.refl (r G)⟩
    unfold PySem.W.nsIn
    rw [h1]
    dsimp only
    rw [g3]
/-! ### comprehensions: the list that is made stands beside -/
structure Bes (K : PySem.W.Frag) (Dl : Addr) (G1 H1 : Hp) (M1 : Mu) (acc : List D) (M' : Mu) (G' H' : Hp) : Prop where
  xs : ∃ xs, H' Dl = some (.lst xs) ∧ Reps K G' acc xs
  gn : G' Dl = none
  nm : Dl ∉ ads M'
  s : S K G' H' M'
  st : Step (ads M1) G1 H1 (ads M') G' H'
variable {Dl : Addr} {G1 H1 G' H' G2 H2 : Hp} {M' : Mu} {acc : List D}
theorem Bes.start (s1 : S K G1 H1 M1) (nD : H1 Dl = none) : Bes K Dl G1 H1 M1 [] M1 G1 (upd H1 Dl (.lst [])) := by
  have gD : G1 Dl = none := s1.same.free nD
  have nM : ∀ p ∈ M1, p.1 ≠ Dl := fun p hp => by
    obtain ⟨_, o, ho, _⟩ := s1.mu p hp
    exact ne_of_none ho nD
  refine ⟨⟨[], upd_same, Reps.nil⟩, gD, fun z => ?_, ⟨fun b u e => ?_, fun p hp => ?_, s1.nd⟩, ⟨Same.refl _, fun _ _ _ => rfl, fun b o _ e => ?_, fun b e => ?_, fun b hb => .inl hb⟩⟩
  · obtain ⟨p, hp, e⟩ := List.mem_map.mp z
    exact nM p hp e
  · rw [upd_ne (ne_of_none e gD)]
    exact s1.same b u e
  · obtain ⟨g1, o, ho, r⟩ := s1.mu p hp
    exact ⟨g1, o, by rw [upd_ne (nM p hp)]; exact ho, r⟩
  · rw [upd_ne (ne_of_none e nD)]
    exact e
  · by_cases hb : b = Dl
    · subst hb
      rw [upd_same]
      exact fun z => nomatch z
    · rw [upd_ne hb]
      exact e
theorem Bes.go (b : Bes K Dl G1 H1 M1 acc M' G' H') (s2 : S K G2 H2 M2) (st : Step (ads M') G' H' (ads M2) G2 H2) : Bes K Dl G1 H1 M1 acc M2 G2 H2 := by
  obtain ⟨xs, h1, h2⟩ := b.xs
  refine ⟨⟨xs, st.keep _ _ b.nm h1, Reps.mono st.gg _ _ h2⟩, ?_, fun z => ?_, s2, b.st.trans st⟩
  · rw [st.fr Dl (by rw [h1]; exact fun z => nomatch z) b.nm]
    exact b.gn
  · rcases st.own _ z with q | q
    · exact b.nm q
    · rw [h1] at q
      cases q
theorem Bes.app {vy : V} (b : Bes K Dl G1 H1 M1 acc M' G' H') (nD : H1 Dl = none) (r : Rep K G' y vy) : ∃ xs, H' Dl = some (.lst xs) ∧ xs.length = acc.length ∧ Bes K Dl G1 H1 M1 (acc ++ [y]) M' G' (upd H' Dl (.lst (xs ++ [vy]))) := by
  obtain ⟨xs, h1, h2⟩ := b.xs
  refine ⟨xs, h1, h2.len, ⟨xs ++ [vy], upd_same, h2.append (Reps.one r)⟩, b.gn, b.nm, ⟨fun c u e => ?_, fun p hp => ?_, b.s.nd⟩, ⟨b.st.gg, b.st.fr, fun c o hc e => ?_, fun c e => ?_, b.st.own⟩⟩
  · rw [upd_ne (ne_of_none e b.gn)]
    exact b.s.same c u e
  · obtain ⟨g1, o, ho, r⟩ := b.s.mu p hp
    exact ⟨g1, o, by rw [upd_ne (fun z => b.nm (List.mem_map.mpr ⟨p, hp, z⟩))]; exact ho, r⟩
  · rw [upd_ne (ne_of_none e nD)]
    exact b.st.keep c o hc e
  · by_cases hc : c = Dl
    · subst hc
      rw [upd_same]
      exact fun z => nomatch z
    · rw [upd_ne hc]
      exact b.st.alive c e
theorem Bes.mut (b : Bes K Dl G1 H1 M1 acc M' G' H') (nD : H1 Dl = none) : S K G' H' (M' ++ [(Dl, .lst acc)]) ∧ Step (ads M1) G1 H1 (ads (M' ++ [(Dl, .lst acc)])) G' H' := by
  obtain ⟨xs, h1, h2⟩ := b.xs
  refine ⟨⟨b.s.same, fun p hp => ?_, ?_⟩, ⟨b.st.gg, b.st.fr, b.st.keep, b.st.alive, fun c hc => ?_⟩⟩
  · rcases List.mem_append.mp hp with hp | hp
    · exact b.s.mu p hp
    · have e : p = (Dl, .lst acc) := by simpa using hp
      subst e
      exact ⟨b.gn, _, h1, xs, rfl, h2⟩
  · rw [List.map_append, List.nodup_append]
    refine ⟨b.s.nd, by simp, fun c hc e he => ?_⟩
    have e1 : e = Dl := by simpa using he
    subst e1
    exact fun z => b.nm (by rw [← z]; exact hc)
  · simp only [ads, List.map_append, List.mem_append, List.map_cons, List.map_nil, List.mem_singleton] at hc
    rcases hc with hc | hc
    · exact b.st.own c hc
    · rw [hc]
      exact .inr nD
theorem Bes.fin (b : Bes K Dl G1 H1 M1 acc M' G' H') (nD : H1 Dl = none) : ∃ G'', S K G'' H' M' ∧ Step (ads M1) G1 H1 (ads M') G'' H' ∧ Rep K G'' (.lst acc) (.ref Dl) := by
  obtain ⟨xs, h1, h2⟩ := b.xs
  have sD : S K G' H' ([] ++ (Dl, .lst acc) :: M') := ⟨b.s.same, fun p hp => by
    rcases List.mem_cons.mp hp with e | hp
    · subst e
      exact ⟨b.gn, _, h1, xs, rfl, h2⟩
    · exact b.s.mu p hp, by
    show ((Dl, MO.lst acc) :: M' |>.map (·.1)).Nodup
    rw [List.map_cons, List.nodup_cons]
    exact ⟨b.nm, b.s.nd⟩⟩
  obtain ⟨ys, s5, st5, e5, r5⟩ := sD.freeze
  refine ⟨_, s5, ⟨b.st.gg.trans e5, fun c hb hn => ?_, b.st.keep, b.st.alive, b.st.own⟩, r5⟩
  rw [upd_ne (fun z => by rw [z] at hb; exact hb nD)]
  exact b.st.fr c hb hn
/-- one clause, with what is done at the end left open -/
theorem lc_gen {wi : TI} {g : TG} {tt : TT} {vs : List Nat} (og : OwnG vs g) {kk : List D → Mu → Prop}
    (h : AI K wi δ M fun ds M1 => ds.length < sizeLine ∧ ∃ I : Nat → List D → Mu → Prop, I 0 [] M1 ∧
      (∀ i d acc M', ds[i]? = some d → I i acc M' → AG K g d (wipeD δ vs) M' fun δ2 M2 => AT K tt δ2 M2 fun b M3 => (b = true → AE K te δ2 M3 fun y M4 => I (i + 1) (acc ++ [y]) M4) ∧ (b = false → I (i + 1) acc M3)) ∧
      (∀ acc M', I ds.length acc M' → kk acc M')) {σ : L2.St} {G H : Hp} {Q : VK} (rs : RelS K G δ σ) (s : S K G H M)
    (f : ∀ acc M' M1 G1 H1 Dl G' H', kk acc M' → H1 Dl = none → Step (ads M) G H (ads M1) G1 H1 → Bes K Dl G1 H1 M1 acc M' G' H' → Q (.ref Dl) H') : tLc wi g tt te vs σ H Q :=
  h σ G H _ rs s fun ds M1 G1 H1 J ⟨hz, I, h0, hs, he⟩ s1 st1 ok Dl nD => by
    refine ⟨fun i m H' => m = ds.length - i ∧ i ≤ ds.length ∧ ∃ acc M' G', acc.length ≤ i ∧ I i acc M' ∧ Bes K Dl G1 H1 M1 acc M' G' H',
      ⟨ds.length, by simp, Nat.zero_le _, [], M1, G1, Nat.le_refl _, h0, Bes.start s1 nD⟩, ?_⟩
    rintro i m H' ⟨rfl, hi, acc, M', G', hal, hI, b⟩
    obtain ⟨o1, o2⟩ := ok i G' H' M' b.st.gg b.s
    by_cases hl : i < ds.length
    · obtain ⟨hgo, hy⟩ := o1 ds[i] (List.getElem?_eq_getElem hl)
      refine .inr ⟨hgo, fun H2 => ∃ acc M' G', acc.length ≤ i + 1 ∧ I (i + 1) acc M' ∧ Bes K Dl G1 H1 M1 acc M' G' H2, fun H2 q => ⟨ds.length - (i + 1), by omega, rfl, hl, q⟩, fun x H2 y => ?_⟩
      obtain ⟨G2, s2, st2, r2⟩ := hy x H2 y
      have rsw : RelS K G2 (wipeD δ vs) (wipe σ vs) := relS_wipe (rs.mono (st1.gg.trans (b.st.gg.trans st2.gg))) vs
      have body := hs i ds[i] acc M' (List.getElem?_eq_getElem hl) hI x (wipe σ vs) G2 H2 (fun σ2 H3 => tt σ2 H3 fun b' H4 =>
        if b' = true then te σ2 H4 fun y H5 => ∃ acc, H5 Dl = some (.lst acc) ∧ acc.length < sizeLine ∧ (fun H2 => ∃ acc M' G', acc.length ≤ i + 1 ∧ I (i + 1) acc M' ∧ Bes K Dl G1 H1 M1 acc M' G' H2) (upd H5 Dl (.lst (acc ++ [y])))
        else (fun H2 => ∃ acc M' G', acc.length ≤ i + 1 ∧ I (i + 1) acc M' ∧ Bes K Dl G1 H1 M1 acc M' G' H2) H4) r2 rsw s2 ?_
      · have fin := og.run x (wipe σ vs) H2 _ body
        rw [wipe_wipe] at fin
        exact fin
      · intro δ3 M3 σ3 G3 H3 h3 rs3 s3 st3
        refine h3 σ3 G3 H3 _ rs3 s3 fun b' M4 G4 H4 ⟨h4, h5⟩ s4 st4 => ?_
        have b4 := ((b.go s2 st2).go s3 st3).go s4 st4
        cases b' with
        | true =>
          rw [if_pos rfl]
          refine h4 rfl σ3 G4 H4 _ (rs3.mono st4.gg) s4 fun y M5 vy G5 H5 q5 s5 st5 r5 => ?_
          obtain ⟨xs, e1, e2, b5⟩ := (b4.go s5 st5).app nD r5
          exact ⟨xs, e1, by rw [e2]; omega, acc ++ [y], M5, G5, by rw [List.length_append]; exact Nat.succ_le_succ hal, q5, b5⟩
        | false =>
          rw [if_neg Bool.false_ne_true]
          exact ⟨acc, M4, G4, Nat.le_succ_of_le hal, h5 rfl, b4⟩
    · have e : i = ds.length := by omega
      subst e
      exact .inl ⟨o2 rfl, f acc M' M1 G1 H1 Dl G' H' (he acc M' hI) nD st1 b⟩
/-- a comprehension whose list will be changed -/
theorem ae_lcM {wi : TI} {g : TG} {tt : TT} {vs : List Nat} (og : OwnG vs g) (h : AI K wi δ M fun ds M1 => ds.length < sizeLine ∧ ∃ I : Nat → List D → Mu → Prop, I 0 [] M1 ∧
      (∀ i d acc M', ds[i]? = some d → I i acc M' → AG K g d (wipeD δ vs) M' fun δ2 M2 => AT K tt δ2 M2 fun b M3 => (b = true → AE K te δ2 M3 fun y M4 => I (i + 1) (acc ++ [y]) M4) ∧ (b = false → I (i + 1) acc M3)) ∧
      (∀ acc M', I ds.length acc M' → ∀ a, k (.ref a) (M' ++ [(a, .lst acc)]))) : AE K (tLc wi g tt te vs) δ M k := fun σ G H Q rs s f =>
  lc_gen og h rs s fun acc M' M1 G1 H1 Dl G' H' hk nD st1 b => by
    obtain ⟨s2, st2⟩ := b.mut nD
    exact f _ _ _ G' H' (hk Dl) s2 (st1.trans st2) rep_of_ref
/-- two clauses -/
theorem ae_lc2 {wi wi1 : TI} {g g1 : TG} {tt tt1 : TT} {vs vs1 : List Nat} (og : OwnG vs g) (og1 : OwnG vs1 g1)
    (h : AI K wi δ M fun ds M1 => ∃ I : Nat → List D → Mu → Prop, I 0 [] M1 ∧
      (∀ i d acc M', ds[i]? = some d → I i acc M' → AG K g d (wipeD δ vs) M' fun δ2 M2 => AT K tt δ2 M2 fun b M3 => (b = true → AI K wi1 δ2 M3 fun es M4 => ∃ I1 : Nat → List D → Mu → Prop, I1 0 acc M4 ∧
          (∀ j e acc1 M5, es[j]? = some e → I1 j acc1 M5 → acc1.length < sizeLine ∧ AG K g1 e (wipeD δ2 vs1) M5 fun δ3 M6 => AT K tt1 δ3 M6 fun b1 M7 => (b1 = true → AE K te δ3 M7 fun y M8 => I1 (j + 1) (acc1 ++ [y]) M8) ∧ (b1 = false → I1 (j + 1) acc1 M7)) ∧
          (∀ acc1 M5, I1 es.length acc1 M5 → I (i + 1) acc1 M5)) ∧ (b = false → I (i + 1) acc M3)) ∧
      (∀ acc M', I ds.length acc M' → k (.lst acc) M')) : AE K (tLc2 wi g tt wi1 g1 tt1 te vs vs1) δ M k := fun σ G H Q rs s f =>
  h σ G H _ rs s fun ds M1 G1 H1 J ⟨I, h0, hs, he⟩ s1 st1 ok Dl nD => by
    refine ⟨fun i m H' => m = ds.length - i ∧ i ≤ ds.length ∧ ∃ acc M' G', I i acc M' ∧ Bes K Dl G1 H1 M1 acc M' G' H',
      ⟨ds.length, by simp, Nat.zero_le _, [], M1, G1, h0, Bes.start s1 nD⟩, ?_⟩
    rintro i m H' ⟨rfl, hi, acc, M', G', hI, b⟩
    obtain ⟨o1, o2⟩ := ok i G' H' M' b.st.gg b.s
    by_cases hl : i < ds.length
    · obtain ⟨hgo, hy⟩ := o1 ds[i] (List.getElem?_eq_getElem hl)
      generalize hN : (fun H2 => ∃ acc M' G', I (i + 1) acc M' ∧ Bes K Dl G1 H1 M1 acc M' G' H2 : Hp → Prop) = Nx
      refine .inr ⟨hgo, Nx, fun H2 q => ⟨ds.length - (i + 1), by omega, rfl, hl, by rw [← hN] at q; exact q⟩, fun x H2 y => ?_⟩
      obtain ⟨G2, s2, st2, r2⟩ := hy x H2 y
      have rsw : RelS K G2 (wipeD δ vs) (wipe σ vs) := relS_wipe (rs.mono (st1.gg.trans (b.st.gg.trans st2.gg))) vs
      have body := hs i ds[i] acc M' (List.getElem?_eq_getElem hl) hI x (wipe σ vs) G2 H2 (fun σ2 H3 => tt σ2 H3 fun b' H4 =>
        if b' = true then wi1 σ2 H4 fun J1 H4 => ∃ W1 : Nat → Nat → Hp → Prop, (∃ m, W1 0 m H4) ∧ ∀ j k H, W1 j k H →
          (J1.stop j H ∧ Nx H) ∨ (J1.go j H ∧ ∃ Nx1 : Hp → Prop, (∀ H', Nx1 H' → ∃ k', k' < k ∧ W1 (j + 1) k' H') ∧ ∀ x H', J1.yld j H x H' → g1 x (wipe σ2 vs1) H' fun σ3 H5 => wipe σ3 vs1 = wipe σ2 vs1 ∧ tt1 σ3 H5 fun b H6 =>
            if b = true then te σ3 H6 fun y H7 => ∃ acc, H7 Dl = some (.lst acc) ∧ acc.length < sizeLine ∧ Nx1 (upd H7 Dl (.lst (acc ++ [y]))) else Nx1 H6)
        else Nx H4) r2 rsw s2 ?_
      · have fin := og.run x (wipe σ vs) H2 _ body
        rw [wipe_wipe] at fin
        exact fin
      · intro δ3 M3 σ3 G3 H3 h3 rs3 s3 st3
        refine h3 σ3 G3 H3 _ rs3 s3 fun b' M4 G4 H4 ⟨h4, h5⟩ s4 st4 => ?_
        have b4 := ((b.go s2 st2).go s3 st3).go s4 st4
        cases b' with
        | false =>
          rw [if_neg Bool.false_ne_true, ← hN]
          exact ⟨acc, M4, G4, h5 rfl, b4⟩
        | true =>
          rw [if_pos rfl]
          refine h4 rfl σ3 G4 H4 _ (rs3.mono st4.gg) s4 fun es M5 G5 H5 J1 ⟨I1, h10, h1s, h1e⟩ s5 st5 ok1 => ?_
          have b5 := b4.go s5 st5
          refine ⟨fun j m H' => m = es.length - j ∧ j ≤ es.length ∧ ∃ acc M' G', I1 j acc M' ∧ Same G5 G' ∧ Bes K Dl G1 H1 M1 acc M' G' H', ⟨es.length, by simp, Nat.zero_le _, acc, M5, G5, h10, Same.refl _, b5⟩, ?_⟩
          rintro j m H6 ⟨rfl, hj, acc1, M6, G6, hI1, e6, b6⟩
          obtain ⟨p1, p2⟩ := ok1 j G6 H6 M6 e6 b6.s
          by_cases hl1 : j < es.length
          · obtain ⟨hgo1, hy1⟩ := p1 es[j] (List.getElem?_eq_getElem hl1)
            generalize hN1 : (fun H2 => ∃ acc M' G', I1 (j + 1) acc M' ∧ Same G5 G' ∧ Bes K Dl G1 H1 M1 acc M' G' H2 : Hp → Prop) = Nx1
            refine .inr ⟨hgo1, Nx1, fun H2 q => ⟨es.length - (j + 1), by omega, rfl, hl1, by rw [← hN1] at q; exact q⟩, fun x H7 y => ?_⟩
            obtain ⟨G7, s7, st7, r7⟩ := hy1 x H7 y
            have e7 := e6.trans st7.gg
            have rsw1 : RelS K G7 (wipeD δ3 vs1) (wipe σ3 vs1) := relS_wipe (rs3.mono ((st4.gg.trans st5.gg).trans e7)) vs1
            obtain ⟨hsz, hb⟩ := h1s j es[j] acc1 M6 (List.getElem?_eq_getElem hl1) hI1
            have body1 := hb x (wipe σ3 vs1) G7 H7 (fun σ3 H5 => tt1 σ3 H5 fun b H6 =>
              if b = true then te σ3 H6 fun y H7 => ∃ acc, H7 Dl = some (.lst acc) ∧ acc.length < sizeLine ∧ Nx1 (upd H7 Dl (.lst (acc ++ [y]))) else Nx1 H6) r7 rsw1 s7 ?_
            · have fin := og1.run x (wipe σ3 vs1) H7 _ body1
              rw [wipe_wipe] at fin
              exact fin
            · intro δ8 M8 σ8 G8 H8 h8 rs8 s8 st8
              refine h8 σ8 G8 H8 _ rs8 s8 fun b9 M9 G9 H9 ⟨h9, h10'⟩ s9 st9 => ?_
              have bb := ((b6.go s7 st7).go s8 st8).go s9 st9
              have e9 := e7.trans (st8.gg.trans st9.gg)
              cases b9 with
              | true =>
                rw [if_pos rfl]
                refine h9 rfl σ8 G9 H9 _ (rs8.mono st9.gg) s9 fun y M10 vy G10 H10 q10 s10 st10 r10 => ?_
                obtain ⟨xs, x1, x2, b11⟩ := (bb.go s10 st10).app nD r10
                rw [← hN1]
                exact ⟨xs, x1, by rw [x2]; exact hsz, acc1 ++ [y], M10, G10, q10, e9.trans st10.gg, b11⟩
              | false =>
                rw [if_neg Bool.false_ne_true, ← hN1]
                exact ⟨acc1, M9, G9, h10' rfl, e9, bb⟩
          · have e : j = es.length := by omega
            subst e
            refine .inl ⟨p2 rfl, ?_⟩
            rw [← hN]
            exact ⟨acc1, M6, G6, h1e acc1 M6 hI1, b6⟩
    · have e : i = ds.length := by omega
      subst e
      obtain ⟨G'', s2, st2, r2⟩ := b.fin nD
      exact .inl ⟨o2 rfl, f _ M' _ G'' H' (he acc M' hI) s2 (st1.trans st2) r2⟩
end
end Tg
set_option Elab.async false
set_option linter.all false
set_option maxRecDepth 100000
set_option maxHeartbeats 1000000
namespace Tg
open PySem L2 PyProof.Rows
section
variable {K : PySem.W.Frag} {w : World} {δ : DS} {M M1 M2 : Mu} {ta tb te td ty to ti tv : TE} {ts : TA} {k : D → Mu → Prop} {i : Nat} {d x y : D} {A : AEnds} {t : TS}
/-- the pairs of a display -/
def APs (K : PySem.W.Frag) (δ : DS) : List (TE × TE) → Mu → (List (D × D) → Mu → Prop) → Prop
  | [], M, k => k [] M
  | (tk, tv) :: r, M, k => AE K tk δ M fun x M1 => AE K tv δ M1 fun y M2 => APs K δ r M2 fun ps M3 => k ((x, y) :: ps) M3
def RepPs (K : PySem.W.Frag) (G : Hp) : List (D × D) → List (V × V) → Prop
  | [], xs => xs = []
  | (a, b) :: ds, xs => ∃ x y r, xs = (x, y) :: r ∧ Rep K G a x ∧ Rep K G b y ∧ RepPs K G ds r
theorem aps_run : ∀ {trs : List (TE × TE)} {M : Mu} {k : List (D × D) → Mu → Prop} {σ : L2.St} {G H : Hp} {Q : List (V × V) → Hp → Prop}, APs K δ trs M k → RelS K G δ σ → S K G H M →
    (∀ ps M' vs G' H', k ps M' → S K G' H' M' → Step (ads M) G H (ads M') G' H' → RepPs K G' ps vs → Q vs H') → tPairs trs σ H Q
  | [], M, k, σ, G, H, Q, h, rs, s, f => f [] M [] G H h s Step.refl rfl
  | (tk, tv) :: r, M, k, σ, G, H, Q, h, rs, s, f => by
    unfold APs at h
    unfold tPairs
    refine h σ G H _ rs s fun x M1 vx G1 H1 h1 s1 st1 r1 => h1 σ G1 H1 _ (rs.mono st1.gg) s1 fun y M2 vy G2 H2 h2 s2 st2 r2 => ?_
    refine aps_run h2 (rs.mono (st1.trans st2).gg) s2 fun ps M3 vs G3 H3 h3 s3 st3 r3 => ?_
    refine f _ M3 _ G3 H3 h3 s3 ((st1.trans st2).trans st3) ?_
    unfold RepPs
    exact ⟨vx, vy, vs, rfl, Rep.mono (st2.trans st3).gg _ _ r1, Rep.mono st3.gg _ _ r2, r3⟩
def mergeD (kvs more : List (Key × D)) : List (Key × D) := more.foldl (fun acc kv => putD acc kv.1 kv.2) kvs
theorem repPs_key {G : Hp} : ∀ {kvs : List (Key × D)} {vs : List (V × V)}, RepPs K G (kvs.map fun p => (keyD p.1, p.2)) vs → ∃ xs : List (Key × V), vs = xs.map (fun kv => (kV kv.1, kv.2)) ∧ RepKV K G kvs xs
  | [], vs, h => by
    unfold RepPs at h
    rw [List.map_nil] at h
    exact ⟨[], h, by unfold RepKV; rfl⟩
  | (q, d) :: r, vs, h => by
    rw [List.map_cons] at h
    unfold RepPs at h
    obtain ⟨x, y, r', rfl, h1, h2, h3⟩ := h
    obtain ⟨xs, rfl, h4⟩ := repPs_key h3
    exact ⟨(q, y) :: xs, by rw [rep_key h1]; rfl, by unfold RepKV; exact ⟨y, xs, rfl, h2, h4⟩⟩
theorem repKV_merge {G : Hp} : ∀ {more : List (Key × D)} {ms : List (Key × V)} {kvs : List (Key × D)} {xs : List (Key × V)}, RepKV K G more ms → RepKV K G kvs xs → RepKV K G (mergeD kvs more) (mergeK xs ms)
  | [], _, kvs, xs, h, g => by
    unfold RepKV at h
    rw [h]
    exact g
  | (q, d) :: r, _, kvs, xs, h, g => by
    unfold RepKV at h
    obtain ⟨x, r', rfl, h1, h2⟩ := h
    show RepKV K G (mergeD (putD kvs q d) r) (mergeK (putK xs q x) r')
    exact repKV_merge h2 (repKV_put h1 g)
theorem mergeD_len : ∀ (more kvs : List (Key × D)), (mergeD kvs more).length ≤ kvs.length + more.length
  | [], kvs => by show kvs.length ≤ kvs.length + 0; omega
  | p :: r, kvs => by
    have h1 := mergeD_len r (putD kvs p.1 p.2)
    have h2 := put_len (kvs := kvs) (q := p.1) (v := p.2)
    show (mergeD (putD kvs p.1 p.2) r).length ≤ _
    rw [List.length_cons]; omega
/-- a display that may be changed later -/
theorem ae_disp {trs : List (TE × TE)} (h : APs K δ trs M fun ps M' => ∃ kvs : List (Key × D), ps = kvs.map (fun p => (keyD p.1, p.2)) ∧ kvs.length ≤ 15 ∧ ∀ a, k (.ref a) (M' ++ [(a, .dK (mergeD [] kvs))])) : AE K (tDisp trs) δ M k := fun σ G H Q rs s f p hp => by
  have hpM : p ∉ ads M := fun z => by
    obtain ⟨q, hq, e⟩ := List.mem_map.mp z
    obtain ⟨_, o, ho, _⟩ := s.mu q hq
    rw [e, hp] at ho
    cases ho
  obtain ⟨s2, st2⟩ := s.junk (o := .dK []) hp
  refine aps_run h rs s2 ?_
  rintro ps M' vs G' H' ⟨kvs, rfl, hl, q⟩ s3 st3 r3
  have hd := st3.keep p _ hpM upd_same
  have st := st2.trans st3
  obtain ⟨xs, rfl, rk⟩ := repPs_key r3
  have gp : G' p = none := by
    rw [st3.fr p (by rw [upd_same]; exact fun z => nomatch z) hpM]
    exact s.same.free hp
  have nM : ∀ q ∈ M', q.1 ≠ p := fun q hq e => by
    rcases st3.own p (List.mem_map.mpr ⟨q, hq, e⟩) with z | z
    · exact hpM z
    · rw [upd_same] at z
      cases z
  have rm : RepKV K G' (mergeD [] kvs) (mergeK [] xs) := repKV_merge rk (by unfold RepKV; rfl)
  refine ⟨hd, xs, rfl, by rw [repKV_len rk]; exact hl, f _ _ _ _ _ (q p) ⟨fun b u e => ?_, fun q hq => ?_, ?_⟩ ⟨st.gg, st.fr, fun b o hb e => ?_, fun b e => ?_, fun b hb => ?_⟩ rep_of_ref⟩
  · rw [upd_ne (ne_of_none e gp)]
    exact s3.same b u e
  · rcases List.mem_append.mp hq with hq | hq
    · obtain ⟨g1, o1, h1, r1⟩ := s3.mu q hq
      exact ⟨g1, o1, by rw [upd_ne (nM q hq)]; exact h1, r1⟩
    · have e : q = (p, .dK (mergeD [] kvs)) := by simpa using hq
      subst e
      exact ⟨gp, _, upd_same, _, rfl, rm⟩
  · rw [List.map_append, List.nodup_append]
    refine ⟨s3.nd, by simp, fun c hc e he => ?_⟩
    have e1 : e = p := by simpa using he
    subst e1
    obtain ⟨q, hq, rfl⟩ := List.mem_map.mp hc
    exact nM q hq
  · rw [upd_ne (ne_of_none e hp)]
    exact st.keep b o hb e
  · by_cases hb : b = p
    · subst hb
      rw [upd_same]
      exact fun z => nomatch z
    · rw [upd_ne hb]
      exact st.alive b e
  · simp only [ads, List.map_append, List.mem_append, List.map_cons, List.map_nil, List.mem_singleton] at hb
    rcases hb with hb | hb
    · exact st.own b hb
    · rw [hb]
      exact .inr hp
/-- a dict that may change, read -/
theorem ae_dgetM (h : AE K td δ M fun o M1 => AE K ty δ M1 fun j M2 => ∃ a kvs N1 N2 key v, o = .ref a ∧ j = keyD key ∧ M2 = N1 ++ (a, MO.dK kvs) :: N2 ∧ valD kvs key = some v ∧ k v M2) : AE K (tDGet td ty) δ M k := fun σ G H Q rs s f =>
  h σ G H _ rs s fun o M1 vo G1 H1 h1 s1 st1 r1 => h1 σ G1 H1 _ (rs.mono st1.gg) s1 fun j M2 vj G2 H2 ⟨a, kvs, N1, N2, key, v, e1, e2, e3, e4, q⟩ s2 st2 r2 => by
    subst e1 e2
    obtain ⟨g0, o, ho, r⟩ := s2.mu (a, .dK kvs) (by rw [e3]; simp)
    obtain ⟨xs, rfl, rx⟩ := r
    obtain ⟨v', hv, rv⟩ := (repKV_get (q := key) rx).1 v e4
    refine ⟨a, v', rep_ref r1, ?_, f v M2 v' G2 H2 q s2 (st1.trans st2) rv⟩
    rw [rep_key r2, ← hv]
    exact DGet.k ho
/-- what may change, sorted otherwise -/
theorem ae_perm {M' : Mu} (hp : M.Perm M') (h : AE K te δ M' k) : AE K te δ M k := fun σ G H Q rs s f =>
  h σ G H Q rs (s.perm hp) fun d M2 v G2 H2 q s2 st2 r2 => f d M2 v G2 H2 q s2 (st2.perm (fun b => (ads_perm hp b).symm) fun _ => Iff.rfl) r2
theorem as_perm {M' : Mu} (hp : M.Perm M') (h : AS K t δ M' A) : AS K t δ M A := fun σ G H E rs s f =>
  h σ G H E rs (s.perm hp) ⟨fun δ2 M2 σ2 G2 H2 q r s2 st2 => f.nx δ2 M2 σ2 G2 H2 q r s2 (st2.perm (fun b => (ads_perm hp b).symm) fun _ => Iff.rfl),
    fun d M2 v G2 H2 q s2 st2 r2 => f.rt d M2 v G2 H2 q s2 (st2.perm (fun b => (ads_perm hp b).symm) fun _ => Iff.rfl) r2,
    fun δ2 M2 σ2 G2 H2 q r s2 st2 => f.bk δ2 M2 σ2 G2 H2 q r s2 (st2.perm (fun b => (ads_perm hp b).symm) fun _ => Iff.rfl),
    fun δ2 M2 σ2 G2 H2 q r s2 st2 => f.ct δ2 M2 σ2 G2 H2 q r s2 (st2.perm (fun b => (ads_perm hp b).symm) fun _ => Iff.rfl),
    fun fs M2 d G2 H2 q s2 st2 => f.xs fs M2 d G2 H2 q s2 (st2.perm (fun b => (ads_perm hp b).symm) fun _ => Iff.rfl)⟩
end
end Tg
namespace Tg
open PySem L2 PyProof.Rows
/-! ### constants of the top -/
inductive CAll (K : PySem.W.Frag) (G : Hp) : List Value → List D → Prop
  | nil : CAll K G [] []
  | cons {u : Value} {us : List Value} {d : D} {ds : List D} : (∃ v, RelV v u ∧ Rep K G d v) → CAll K G us ds → CAll K G (u :: us) (d :: ds)
theorem CAll.vals {K : PySem.W.Frag} {G : Hp} : ∀ {us : List Value} {ds : List D}, CAll K G us ds → ∃ vs, Vals vs us ∧ Reps K G ds vs
  | _, _, .nil => ⟨[], .nil, Reps.nil⟩
  | _, _, .cons ⟨v, h1, h2⟩ t => by
    obtain ⟨vs, h3, h4⟩ := CAll.vals t
    exact ⟨v :: vs, .cons h1 h3, Reps.cons h2 h4⟩
theorem rep_ctup {K : PySem.W.Frag} {G : Hp} {a : Addr} {dd : Option Addr} {its : List Value} {ds : List D} {n : Nat} {sl : Array (Option Value)} (hl : K.lookup a = some ⟨.type "tuple", dd, .seq its.toArray n, sl⟩) (hz : its.length ≤ sizeLine) (h : CAll K G its ds) : Rep K G (.tup ds) (.ref a) := by
  obtain ⟨vs, h1, h2⟩ := h.vals
  exact rep_mk_tup (xs := vs) (.inr ⟨_, its.toArray, n, hl, rfl, rfl, by simpa using hz, by simpa using h1⟩) h2
/-- a def's promise, by its address -/
theorem held_of {P : Program} {w : World} {K : PySem.W.Frag} {mg : Str → Option Value} {base : Heap} {k : Nat} {x : Str} {sp : Sp} {f : Addr} (c : C8.Cal P w K mg base k x sp []) (hm : mg x = some (.ref f)) : Held P w K mg base k f sp := by
  obtain ⟨f', fd, ps, ds, F, hm', kp, b, v⟩ := c.ex
  have e : f' = f := by
    have := hm'.symm.trans hm
    injection this with this
    injection this
  subst e
  cases v
  exact ⟨fd, ps, F, kp, b⟩
end Tg
set_option Elab.async false
set_option linter.all false
set_option maxRecDepth 100000
set_option maxHeartbeats 2000000
/-! TgT: all(test for x in text), the test reads a module's name. -/
namespace Tg
open PySem PySem.Spec PyProof.Rows L2 GxR
/-- an element that may read the module's names -/
def EltG (prog : Program) (w : World) (mg : Str → Option Value) (sc : Scope) (x : Str) (elt : Expr) (pb : Nat → Bool) : Prop :=
  ∀ (env : Env) (B : Around) (EE : Value → Shared → Prop) (c : Nat) (t : Tok) (z : Shared) (m : Str → Option Value),
    env.scope = sc → env.globals = mainGlobals → z.heap.Ns mainGlobals mg → z.heap.Ns env.locals m → m x = some (.str ⟨#[c]⟩ t) →
    wpAny (model prog w) B (eval elt env) (fun y z' => y = .bool (pb c) ∧ Keeps z z') EE z
/-- x in NAME, NAME a module's text -/
theorem elt_in {prog : Program} {w : World} {mg : Str → Option Value} {sc : Scope} {x g zs : Str} {tk : Tok} {p1 p2 p3 : Pos} (hk : sc.kind = .function) (hl : sc.names.lookup x = some .local) (hg : sc.names.lookup g = some .globalImplicit)
    (hm : mg g = some (.str zs tk)) (hd : (x == ("__debug__" : Str)) = false := by decide) (hd2 : (g == ("__debug__" : Str)) = false := by decide) :
    EltG prog w mg sc x (.Compare (.Name x p1) [.In] [.Name g p2] p3) (fun c => Txt.contains zs ⟨#[c]⟩) := fun env B EE c t z m e1 e2 gN lN mx => by
  refine wpAny_Compare1 (wpAny_Name (wpAny_loadName_local (by rw [e1]; exact hk) (show env.scope.names.lookup x = some .local by rw [e1]; exact hl) lN mx ?_) hd)
  refine Calls.Name_function_global (by rw [e1]; exact hk) (show env.scope.names.lookup g = some .globalImplicit by rw [e1]; exact hg) (Calls.loadGlobal_global (by rw [e2]; exact gN) hm ?_) hd2
  exact PySem.SB.contains ⟨rfl, keeps_refl _⟩
/-- the code object of the generator: found, or made anew -/
theorem gen_code {M : Model} {A : Around} {env : Env} {c P : Addr} {ps : Array Value} {gp : Pos} {nm : Str} {sc : Scope} {u : Shared} {E : Value → Shared → Prop} {Qc : Value → Shared → Prop}
    (hcode : env.code = .ref c) (CH : PySem.W.CodeHd u.heap c P) (tab : u.heap.get? P = some { cls := .none, data := .fields ps }) (hT : TriplesOk ps.toList)
    (k : ∀ (cv : Value) (h3 : Heap) (n : Nat) (more : Array Value), Heap.ExtBut P u.heap h3 → u.heap.objs.size ≤ h3.objs.size → h3.get? P = some { cls := .none, data := .fields (ps ++ more) } → TriplesOk (ps ++ more).toList →
      Qc cv { u with heap := h3, toks := n }) : wpAny M A (genexprCode env gp nm sc) Qc E u := by
  cases hf : codeAmong gp ps.toList with
  | some cv =>
    have e := k cv u.heap u.toks #[] (Heap.ExtBut.refl _ _) (Nat.le_refl _) (by rw [Array.append_empty]; exact tab) (by rw [Array.append_empty]; exact hT)
    exact wpAny_genexprCode_hit hcode (CH.code tab hT) hf e
  | none =>
    refine wpAny_genexprCodeX hcode (CH.code tab hT) (CH.tab tab) hf fun c' h' n ex ge lt isC _ isT _ => ?_
    obtain ⟨_, _, _, _, _, _, _, _, _, _, _, _, _, _, _, _, _, _, _, tr, _⟩ := isC
    exact k _ h' n _ ex (Nat.le_trans ge (Nat.le_of_lt lt)) isT.2 tr
section
variable {X : Cx} {pins : List (Addr × Obj)} {σ : L2.St} {H : Hp} {s : Shared}
/-- the generator of such tests over the signs of a text -/
theorem gen_txt {c P : Addr} {elt iter : Expr} {x : Str} {px gp : Pos} {sc : Scope} {pb : Nat → Bool} {te : TE} {k : Nat} {QQ : Value → Shared → Prop} {R : Str → Hp → Prop}
    (hr : Room k X.A) (TB : TabB X.base X.mg c P) (hcode : X.env.code = .ref c) (GS : GenS X.env sc x) (hi : PE X iter te) (hel : EltG X.prog X.w X.mg sc x elt pb) (hs : ∀ v, genFold iter X.env v = pure v)
    (I : Inv X pins σ H s) (h : te σ H fun v H1 => ∃ a : Str, v = .str a ∧ TabG H1 P ∧ R a H1) (hQ : ∀ a H1 g z, R a H1 → Ready X pins σ H1 P a pb g z → QQ (.ref g) z) :
    wpAny (model X.prog X.w) X.A (eval (.GeneratorExp elt [⟨.Name x px, iter, [], 0⟩] sc gp) X.env) QQ X.xe s := by
  refine wpAny_GeneratorExp_walksQ hr.hd GS.co (closure_ok GS.free) GS.cell GS.dot GS.loc GS.kind (by have := hr.dp; omega) ?_ hs
  refine thn (hi.run pins s σ H _ I h) ?_
  rintro xv u ⟨v, H1, J, rv, a, rfl, ⟨ps, hP, hT⟩, hR⟩
  obtain ⟨tk, rfl⟩ := _root_.id rv
  refine wpAny_pyIter_str fun o St W w0 => ?_
  -- what stands in the heap, with the iterator on top
  have tabU := J.hok P _ hP
  have ltP := Heap.lt_size tabU
  have tabO := Heap.get?_push_of_some o tabU
  have gU : u.heap.Ns mainGlobals X.mg := J.mod.glob.keeps J.bk
  have lim := J.nolimit.push o
  have CH : PySem.W.CodeHd (u.heap.push o) c P := TB.code.keeps fun b y e => Heap.get?_push_of_some o (J.bk b y e)
  have ltS : cStatics < u.heap.objs.size := let ⟨_, z, _⟩ := J.nolimit; z.lt
  have neS : cStatics ≠ P := fun e => by
    obtain ⟨_, ⟨_, _, _, q, qd, _⟩, _⟩ := J.nolimit
    rw [e, tabU] at q
    cases q
    cases qd
  have szO : (u.heap.push o).objs.size = u.heap.objs.size + 1 := Heap.size_push ..
  refine ⟨lim, gen_code hcode CH tabO hT fun cv h3 n more ex sz3 tab3 tr3 => ?_⟩
  have old3 : ∀ b y, b ≠ P → u.heap.get? b = some y → h3.get? b = some y := fun b y ne e => ex b y ne (Heap.get?_push_of_some o e)
  have g3 : h3.Ns mainGlobals X.mg := (gU.push o).extBut ex TB.gP
  have sz4 : u.heap.objs.size < h3.objs.size := by
    have sz3' : (u.heap.push o).objs.size ≤ h3.objs.size := sz3
    omega
  obtain ⟨bm, ob, b1, b2, b3, b4, b5, b6, b7, b8⟩ := TB.bm
  refine wpAny_builtinsFor (m := X.mg) (by rw [J.ok.glob]; exact g3) b1 b2 (old3 _ _ b4 (J.bk _ _ b5)) b6 b7 b8 ?_
  refine ⟨u.heap.objs.size, [u.heap.objs.size], [u.heap.objs.size], a.cps.size, SignAt a, St, (fun _ => true), (fun i y => ∃ d, a.cps[i]? = some d ∧ y = .bool (pb d)), rfl, W, ?_, ?_, lim.extBut ex neS, ?_, ?_, ?_⟩
  · exact (W X.A hr.hd).frame _ _ _ w0 fun b hb y e => ex b y (by rw [List.mem_singleton.mp hb]; exact Nat.ne_of_gt ltP) e
  · intro b hb
    rw [List.mem_singleton.mp hb]
    exact sz4
  · intro z
    exact Nat.ne_of_lt ltS (List.mem_singleton.mp z)
  · refine fun hr2 ext => ⟨fun B EE i v z m hB hv hn hm hk => ?_, fun B EE i v z m hB hv hp hn hm hk => ?_⟩
    · simp only [List.forIn_nil]
      exact wpAny_pure ⟨rfl, keeps_refl _⟩
    · obtain ⟨d, t, hd, rfl⟩ := hv
      obtain ⟨og, es, ep, eg, rest⟩ := g3
      have gz : z.heap.Ns mainGlobals X.mg := ⟨og, es, ep, hk _ (List.mem_range.mpr (Heap.lt_size eg)) (fun q => Nat.ne_of_lt gU.lt (List.mem_singleton.mp q)) _ (ext _ _ eg), rest⟩
      exact wpAny_mono (hel _ B EE d t z m rfl J.ok.glob gz hn hm) (fun y z' r => ⟨⟨d, hd, r.1⟩, r.2⟩) fun _ _ e => e
  · intro g h5 n5 gs bare lt5 sz5 keep5 W5 at5
    simp only [GxR.passing_true, List.length_range] at W5
    refine hQ a H1 g _ hR ⟨_, _, _, _, _, W5.in4_1, at5, ?_, fun s' mv => ?_⟩
    · rintro j y sj Qj Ej ⟨i, hij, d, hd, rfl⟩ hQj
      obtain ⟨hj, ej⟩ := List.getElem?_eq_some_iff.mp hij
      rw [List.getElem_range] at ej
      subst ej
      have e9 : trF pb a.cps.toList j = pb d := trF_some (by rw [Array.getElem?_toList]; exact hd)
      rw [e9] at hQj
      exact wpAny_truthy_bool hQj
    · have notW : ∀ b y, u.heap.get? b = some y → b ∉ h3.objs.size :: [u.heap.objs.size] := fun b y e hb => by
        have l1 := Heap.lt_size e
        rcases List.mem_cons.mp hb with z | z
        · have l2 : (h3.objs.size : Nat) < u.heap.objs.size := by rw [← z]; exact l1
          omega
        · rw [List.mem_singleton.mp z] at l1
          exact Nat.lt_irrefl _ l1
      have K5 := inv_tab (more := more) (h' := s'.heap) (g' := s'.gens) (d' := s'.drawn) (t' := s'.toks) J hP (fun b y ne e => mv.heap b y (notW b y e) (keep5 b y (old3 b y ne e)))
        (mv.heap P _ (notW P _ tabU) (keep5 P _ tab3)) (AllBare.movedS (J.bare.push bare) mv)
      rw [sh_eta u s' mv.os] at K5
      exact ⟨_, ⟨⟨_, upd_same, tr3⟩, fun b ne => upd_ne ne⟩, K5⟩
/-- all(test for x in text) -/
theorem pe_allG {c P : Addr} {elt iter : Expr} {x : Str} {px p pos gp : Pos} {sc : Scope} {pb : Nat → Bool} {te : TE} {k : Nat}
    (hr : Room k X.A) (hg : Gl X "all") (hm : X.mg "all" = none) (hb : bootBuiltins "all" = some (.builtin "all")) (TB : TabB X.base X.mg c P) (hcode : X.env.code = .ref c) (GS : GenS X.env sc x) (hi : PE X iter te)
    (hel : EltG X.prog X.w X.mg sc x elt pb) (hs : ∀ v, genFold iter X.env v = pure v)
    (he : starEach [.GeneratorExp elt [⟨.Name x px, iter, [], 0⟩] sc gp] X.env = (false, eval (.GeneratorExp elt [⟨.Name x px, iter, [], 0⟩] sc gp) X.env) :: starEach [] X.env := by rfl) :
    PE X (.Call (.Name "all" p) [.GeneratorExp elt [⟨.Name x px, iter, [], 0⟩] sc gp] [] pos) (tAllS P pb te) := ⟨fun pins s σ H Q I h => by
  refine wpAny_Call_Name_kw (ld_blt I hg hm hb (PyProof.Rows.callWith_builtin1 ?_ he (by rfl)))
  rw [he]
  show wpAny _ _ (spliced ((false, eval (.GeneratorExp elt [⟨.Name x px, iter, [], 0⟩] sc gp) X.env) :: backTo pos (starEach [] X.env))) _ _ s
  refine Calls.spliced_cons (gen_txt (R := fun a H1 => ∀ H2, Tabbed P H1 H2 → Q (.bl (a.cps.toList.all pb)) H2) hr TB hcode GS hi hel hs I h ?_)
  rintro a H1 g z R0 ⟨fp, wr, G, F, St, W, w0, tr, back⟩
  refine Calls.spliced_nil (call_all_walkS (W.self 0 _ _ _ w0 ⟨g, fp, wr, G, _, F, St, _, rfl, W, w0, tr, fun s' mv => ?_⟩))
  obtain ⟨H2, tb, J⟩ := back s' mv
  exact ⟨.bl _, H2, J, rfl, by rw [all_signs a pb]; exact R0 H2 tb⟩⟩
end
section
variable {K : PySem.W.Frag} {δ : DS} {M : Mu} {k : D → Mu → Prop} {te : TE} {P : Addr} {pb : Nat → Bool}
/-- .. read: the table stands among what may change -/
theorem ae_allS (h : AE K te δ M fun d M1 => ∃ l N1 N2, d = .str (tx l) ∧ M1 = N1 ++ (P, .tb) :: N2 ∧ k (.bl (l.all pb)) M1) : AE K (tAllS P pb te) δ M k := fun σ G H Q rs s f =>
  h σ G H _ rs s fun d M1 v G1 H1 ⟨l, N1, N2, e1, e2, q⟩ s1 st1 r1 => by
    subst e1 e2
    obtain ⟨g0, o, ho, ps, rfl, tr⟩ := s1.mu (P, .tb) (by simp)
    refine ⟨tx l, rep_str r1, ⟨ps, ho, tr⟩, fun H2 ⟨⟨ps2, h2, tr2⟩, hk⟩ => ?_⟩
    have e : H2 = upd H1 P (.tbl ps2) := by
      funext b
      by_cases hb : b = P
      · rw [hb, h2, upd_same]
      · rw [hk b hb, upd_ne hb]
    subst e
    obtain ⟨s2, st2⟩ := s1.write (o := .tbl ps2) (m' := .tb) ⟨ps2, rfl, tr2⟩
    have e3 : (tx l).cps.toList = l := tx_cps l
    rw [e3]
    exact f _ _ _ _ _ q s2 (st1.trans st2) rep_of_bl
end
/-- a look at a generator's scope -/
def genC (sc : Scope) (x : Str) : Bool := decide (sc.kind = .function) && !sc.isCoroutine && sc.names.all (fun y => !decide (y.2 = .cell) && !decide (y.2 = .free)) && decide (sc.names.lookup (".0" : Str) = some NameKind.local) && decide (sc.names.lookup x = some .local)
theorem genS_by {env : Env} {sc : Scope} {x : Str} (h : genC sc x = true) : GenS env sc x := by
  unfold genC at h
  simp only [Bool.and_eq_true, decide_eq_true_eq, Bool.not_eq_true', List.all_eq_true, decide_eq_false_iff_not] at h
  obtain ⟨⟨⟨⟨h1, h2⟩, h3⟩, h4⟩, h5⟩ := h
  exact ⟨h1, h2, fun y hy => (h3 y hy).1, h4, h5, fun y hy e => absurd e (h3 y hy).2⟩
/-! ### a def whose code object is told -/
structure FunB (K : PySem.W.Frag) (x qual : Str) (st : Stmt) (f : Addr) (fd : FuncData) (c : Addr) : Prop where
  ex : ∃ (oc : Value) (od : Option Addr) (kV doc pm : Value) (an : Option Addr) (ct : Value) (osl : Array (Option Value)),
    fd = PySem.W.fnOf x qual (defArgs st) (defBody st) (defScope st) .none kV doc pm an (.ref c) ct ∧ K.lookup f = some ⟨oc, od, .func fd, osl⟩ ∧ PySem.W.codeIn K (.ref c) qual = true
section
variable {P : Program} {w : World} {K : PySem.W.Frag} {mg : Str → Option Value} {base : Heap}
theorem spc_okB {W : Wt} {x qual : Str} {st : Stmt} {f c : Addr} {fd : FuncData} {N ps : List Str} {k : Nat} (F : FunB K x qual st f fd c) (Sc : FnScope N ps (defScope st)) (len : ∀ ds M kk, W ds M kk → ds.length = ps.length)
    (hbody : ∀ (A : Around) (outer : List Env) (s : Shared) (H : Hp) (E : XK), Room k (A.deeper (envOfC qual (defScope st) s.heap.objs.size f (.ref c))) →
      ∃ t, PSs (cxOf CX0 P w K mg base N qual (defScope st) f (.ref c) A outer s H E).nox (defBody st) t ∧ ∀ ds M kk, W ds M kk → AS K t (startD N.length ds) M { nx := fun _ M' => kk .non M', rt := kk }) : FnOk P w K mg base CX0 (k + 1) f fd ps (Spc K W) := by
  obtain ⟨oc, od, kV, doc, pm, an, ct, osl, rfl, lk, hcd⟩ := F.ex
  refine fn_of lk hcd Sc ?_ ?_
  · rintro vs H Q E ⟨G, ds, M, kk, r, _, hw, _⟩
    rw [r.len]
    exact len ds M kk hw
  · rintro A outer s H vs Q E hr ⟨G, ds, M, kk, r, hs, hw, q⟩
    obtain ⟨t, pt, ht⟩ := hbody A outer s H E hr
    exact ⟨t, pt.nox, ht ds M kk hw (start N vs) G H _ (relS_start r) hs
      ⟨fun _ M' _ G' H' a _ s' st' => q .non M' .non G' H' a s' st' rep_of_non, fun d M' v G' H' a s' st' rv => q d M' v G' H' a s' st' rv, fun _ _ _ _ _ a => a.elim, fun _ _ _ _ _ a => a.elim, fun _ _ _ _ _ a => a.elim⟩⟩
end
/-- a def of the top whose table of code objects is at P -/
structure DefB (K : PySem.W.Frag) (mg : Str → Option Value) (base : Heap) (x : Str) (st : Stmt) (ps : List Str) (P : Addr) : Prop where
  ex : ∃ f fd c, FunB K x x st f fd c ∧ mg x = some (.ref f) ∧ Binds K fd ps [] ∧ PySem.W.keepIn K (.ref f) = true ∧ TabB base mg c P
theorem cal_ofB {Pr : Program} {w : World} {K : PySem.W.Frag} {mg : Str → Option Value} {base : Heap} {x : Str} {st : Stmt} {ps : List Str} {k : Nat} {sp : Sp} {P : Addr} (D : DefB K mg base x st ps P)
    (ok : ∀ f fd c, FunB K x x st f fd c → TabB base mg c P → FnOk Pr w K mg base CX0 k f fd ps sp) : C8.Cal Pr w K mg base k x sp [] := by
  obtain ⟨f, fd, c, F, m, b, kp, tb⟩ := D.ex
  exact ⟨f, fd, ps, [], ok f fd c F tb, m, kp, b, .nil⟩
/-- a law's question where one table may grow -/
theorem asks_tab {K : PySem.W.Frag} {H : Hp} {a P : Addr} {ns : List Int} {W : Wt} (hT : H P = some (.tbl #[])) (hS : SqL K H a (ns.map V.int)) (hw : W [.lsk (ns.map D.int)] [(P, .tb)] fun d _ => d = .bl true) : Spc K W [.ref a] H (fun v _ => v = .bl true) (fun _ _ _ => False) := by
  have other : ∀ b y, H b = some y → (∀ q, y ≠ .tbl q) → (if b = P then none else H b) = some y := fun b y e n => by
    rw [if_neg, e]
    intro z
    rw [z, hT] at e
    exact n _ (Option.some.inj e).symm
  have hS2 : SqL K (fun b => if b = P then none else H b) a (ns.map V.int) := by
    rcases hS with (h | ⟨o, h⟩) | h
    · exact .inl (.inl (other _ _ h fun q z => by cases z))
    · exact .inl (.inr ⟨o, other _ _ h fun q z => by cases z⟩)
    · exact .inr h
  refine ⟨_, [.lsk (ns.map D.int)], [(P, .tb)], fun d _ => d = .bl true, Reps.one (rep_mk_lsk hS2 Reps.ofInts), ⟨fun b y e => ?_, fun q hq => ?_, by simp⟩, hw, ?_⟩
  · by_cases z : b = P
    · rw [if_pos z] at e
      cases e
    · rw [if_neg z] at e
      exact e
  · rw [List.mem_singleton.mp hq]
    exact ⟨if_pos rfl, _, hT, _, rfl, trivial⟩
  · rintro d M' v G' H' rfl _ _ r
    exact rep_bl r
/-- the end of a law with one table: nm, the def that has it -/
theorem walk_tab {l : PySem.W.OpenLaw} {n k : Nat} {q : Program} {loose : List Str} {XP : (Str → Option Value) → Heap → Prop} {YP : World → Heap → Prop} {d : DefRec} {K : Params → PySem.W.Frag} {x nm : Str} {W : Addr → Wt}
    (hn : l.most = some n) (hn2 : n ≤ sizeLine) (hdf : d.params.defaults = []) (hr : Room k callerA) (hY : ∀ (w : World) (h : Heap), YP w h → (K w.params).In h)
    (hrec : ∃ e, (recsOf q).find? (fun e => e.name == nm) = some e)
    (F : ∀ (w : World) (mg : Str → Option Value) (fa : Addr) (h : Heap), (K w.params).In h → h.Ns mainGlobals mg → mg d.name = some (.ref fa) → ∃ (fd : FuncData) (c P : Addr), PySem.W.tabIn (K w.params) nm = some (c, P) ∧ (K w.params).lookup P = none ∧
      (∀ (s : Shared) (u : Value), BindsTo s fd ⟨[u], []⟩ [(x, u)]) ∧ ∀ base : Heap, (K w.params).In base → base.Ns mainGlobals mg → TabB base mg c P → FnOk l.prog w (K w.params) mg base CX0 k fa fd [x] (Spc (K w.params) (W P)))
    (hW : ∀ (P : Addr) (ns : List Int), ns.length ≤ n → W P [.lsk (ns.map D.int)] [(P, .tb)] fun d _ => d = .bl true) :
    PySem.W.WalkO q loose XP YP l.row.toRowW d [] (fun f vs => PySem.call f vs) := by
  refine Att.attach_callB hn hdf fun w s₀ s₁ mg mb fa o pm cd doc a vs ns G Y ho hd hcd hmg hobj hints hlen hbits hg => ?_
  have KX := hY w _ Y
  obtain ⟨e, he⟩ := hrec
  obtain ⟨fd, c, P, ht, nT, hb, hF⟩ := F w mg fa _ KX G.T.g hmg
  obtain ⟨CH, tab⟩ := PySem.W.tab_of G.T KX he ht
  refine LamX.law_callTs (cs := [(c, P)]) (sp := Spc (K w.params) (W P)) (CX := CX0) KX G.T.g G.T.b G.T.builtins G.T.nolimit hg (fun p hp => ?_) (fun p hp => ?_) (fun p hp => ?_) G.T.bmain hobj hints (Nat.le_trans hlen hn2) hr
    (fun base h1 h2 h3 => hF base h1 h2 ⟨(h3 (c, P) (by simp)).code, (h3 (c, P) (by simp)).bm, (h3 (c, P) (by simp)).gP⟩) hb (fun H h1 h2 => asks_tab (h1 (c, P) (by simp)) h2 (hW P ns hlen)) fun H e s' h => h
  · rw [List.mem_singleton.mp hp]
    exact tab
  · rw [List.mem_singleton.mp hp]
    exact nT
  · rw [List.mem_singleton.mp hp]
    exact CH
end Tg
set_option Elab.async false
set_option linter.all false
set_option maxRecDepth 100000
set_option maxHeartbeats 1000000
/-! TgU: methods with arguments that may raise. -/
namespace Tg
open PySem L2 PyProof.Rows
section
variable {X : Cx} {k j : Nat} {C : Addr} {m : Str} {sp : Sp} {E : XK} {pos apos : Pos} {e o : Expr} {es : List Expr} {ta : TE} {t : TA}
theorem pe_mtX {pl : Sem Bool} (tk : Takes X (fun cls d _ H => E cls d H)) (c : MetX X.prog X.w X.K X.mg X.base k C m sp) (hr : Room j X.A) (hk : k ≤ j) (he : PE X o ta) (ha : PA X (e :: es) t)
    (hst : starEach (e :: es) X.env = (false, eval e X.env) :: starEach es X.env := by rfl) (hpl : (backTo pos (starEach es X.env)).any (·.1) = false := by rfl)
    (ht : eval (.Call (.Attribute o m apos) (e :: es) [] pos) X.env = (do
      let ov ← eval o X.env
      standAt apos.atName
      let (f, first) ← holding [ov] (getMethod ov m pl)
      callWith pos f first (backTo pos (starEach (e :: es) X.env)) (backToKw pos (keywordEach [] X.env))) := by rfl) :
    PE X (.Call (.Attribute o m apos) (e :: es) [] pos) (tMeth C m sp [] E ta t) := by
  obtain ⟨f, fd, ps, hc, hm, F, b⟩ := c.ex
  exact pe_meth (pl := pl) he hc hm F (hr.mono hk) b .nil (passes_call tk fun _ _ _ _ h => h) ha hst hpl ht
end
section
variable {K : PySem.W.Frag} {δ : DS} {M : Mu} {ta tb : TE} {k : D → Mu → Prop} {xs : XS} {W : Addr → Hp → Prop}
/-- the left side may raise -/
theorem aex_opL {r : R2} (h : AEX K ta δ M xs W fun x M1 => AE K tb δ M1 fun y M2 => AR K r x y M2 k) : AEX K (tOp r ta tb) δ M xs W k := fun σ G H Q rs s f fx =>
  h σ G H _ rs s (fun x M1 vx G1 H1 h1 s1 st1 r1 => h1 σ G1 H1 _ (rs.mono st1.gg) s1 fun y M2 vy G2 H2 h2 s2 st2 r2 =>
    h2 vx vy G2 H2 Q (Rep.mono st2.gg _ _ r1) r2 s2 fun d M3 v G3 H3 q s3 st3 r3 => f d M3 v G3 H3 q s3 ((st1.trans st2).trans st3) r3) fx
end
/-! ### is a text a key of a written dict -/
def rNotInT (K : PySem.W.Frag) (w : World) : R2 := fun x y H Q => ∃ z a kvs, x = .str z ∧ y = .ref a ∧ KTabV K w a kvs ∧ Q (.bl (!(kvs.lookup z).isSome)) H
theorem KTabV.ns {K : PySem.W.Frag} {w : World} {a : Addr} {kvs : List (Str × V)} (h : KTabV K w a kvs) (z : Str) : ∃ es n r, KDict K w a es n ∧ PySem.W.nsIn K a z = some r ∧ r.isSome = (kvs.lookup z).isSome ∧ ∀ v, kvs.lookup z = some v → ∃ u, r = some u ∧ RelV v u := by
  obtain ⟨es, n, h1, h2, h3⟩ := h.ex
  obtain ⟨g1, g2⟩ := h3.look z
  rcases g2 with ⟨g2, g3⟩ | ⟨e, v, g2, g3, g4⟩
  · refine ⟨es, n, none, ⟨h1, h2, h.low⟩, ?_, by rw [g2]; rfl, fun v hv => by rw [g2] at hv; cases hv⟩
    unfold PySem.W.nsIn
    rw [h1]
    dsimp only
    rw [g3]
    dsimp only
    rw [g1]
    rfl
  · refine ⟨es, n, some e.val, ⟨h1, h2, h.low⟩, ?_, by rw [g2]; rfl, fun v' hv => ⟨e.val, rfl, by rw [g2] at hv; cases hv; exact g4⟩⟩
    unfold PySem.W.nsIn
    rw [h1]
    dsimp only
    rw [g3]
theorem op_notInT {X : Cx} : OpR X (compareOp .NotIn) (rNotInT X.K X.w) := by
  rintro pins s σ H x y v u Q I rx ry ⟨z, a, kvs, rfl, rfl, tab, q⟩
  obtain ⟨es, n, r, D, hr, e, _⟩ := tab.ns z
  exact op_notIn_kd D pins s σ H _ _ v u Q I rx ry ⟨z, r, rfl, rfl, hr, by rw [e]; exact q⟩
theorem notinT_K {X : Cx} {K : PySem.W.Frag} {w : World} (h : X.K = K := by rfl) (h2 : X.w = w := by rfl) : OpR X (compareOp .NotIn) (rNotInT K w) := h ▸ h2 ▸ op_notInT
theorem anin_tab {K : PySem.W.Frag} {w : World} {M : Mu} {k : D → Mu → Prop} {a : Addr} {kvs : List (Str × V)} {z : Str} (tab : KTabV K w a kvs) (q : k (.bl (!(kvs.lookup z).isSome)) M) : AR K (rNotInT K w) (.str z) (.ref a) M k := fun vx vy G H Q rx ry s f =>
  ⟨z, a, kvs, rep_str rx, rep_ref ry, tab, f _ M _ G H q s Step.refl rep_of_bl⟩
/-! ### x.replace('..', '..') -/
def tRepC (y z : Str) (to : TE) : TE := fun σ H Q => to σ H fun v H1 => ∃ a : Str, v = .str a ∧ a.length + (a.length + 1) * z.length ≤ 16777216 ∧ Q (.str (Txt.replace a y z)) H1
section
variable {X : Cx} {o e : Expr} {to te : TE} {y z c : Str} {apos pos p1 p2 : Pos} {j1 j2 : Nat}
theorem pet_rep (ho : PET X o to) (m : M2 X o "replace" apos (.Constant (.str y) j1 p1) (.Constant (.str z) j2 p2) pos) (hyz : (y == z) = false) :
    PET X (.Call (.Attribute o "replace" apos) [.Constant (.str y) j1 p1, .Constant (.str z) j2 p2] [] pos) (tRepC y z to) := by
  intro pins s σ H Q h0 I h
  refine wpAny_Call_method m.base m.few m.line PySem.F.plainAttrs_str PySem.F.slot_str_replace PySem.F.type_str_replace (wpAny_mono (PySem.wpAny_toks (ho pins s σ H _ h0 I h)) (fun u s1 q => ?_) fun _ _ x => x.2)
  obtain ⟨hk, x, H1, I1, rx, a, rfl, hl, q1⟩ := q
  obtain ⟨t, rfl⟩ := (show ∃ t, u = Value.str a t from rx)
  refine ⟨typeIs_str _ _ _, (fun _ e => nomatch e), ?_⟩
  rw [m.trees]
  refine Calls.callWith_builtin rfl (Calls.evalArgs_plain (Calls.spliced_cons (Calls.Constant_str (Calls.spliced_cons (Calls.Constant_str (Calls.spliced_nil ?_))))))
  have hk2 : 1 ≤ s1.toks := Nat.le_trans h0 hk
  refine PySem.SC.replace (Nat.ne_of_gt hk2) (Nat.succ_ne_zero _) (Nat.ne_of_lt (Nat.lt_succ_self _)) hyz hl fun t' k => ?_
  exact ⟨.str _, H1, I1.tok _, ⟨t', rfl⟩, q1⟩
theorem PET.of (h : PE X e te) : PET X e te := fun pins s σ H Q _ I q => h.run pins s σ H Q I q
/-- 'c' + e: what stands on the right runs when a token is out -/
theorem pe_addC {j : Nat} {p : Pos} {K : PySem.W.Frag} (he : PET X e te) (hK : X.K = K := by rfl) : PE X (.BinOp (.Constant (.str c) j p) .Add e pos) (tOp (rAddU K) (tC (.str c)) te) := by
  subst hK
  refine ⟨fun pins s σ H Q I h => ?_⟩
  refine wpAny_BinOp (Calls.Constant_str ?_)
  refine wpAny_mono (he pins { s with toks := s.toks + 1 } σ H _ (Nat.succ_le_succ (Nat.zero_le _)) (I.tok _) h) (fun u s1 q => ?_) fun _ _ x => x
  obtain ⟨y, H2, I2, ry, q2⟩ := q
  have op : OpR X (binaryOp .Add) (rAddU X.K) := add_K
  exact op pins s1 σ H2 (V.str c) y _ u Q I2 ⟨_, rfl⟩ ry q2
end
theorem of_signs {x : Str} {l : List Nat} (h : x.cps.toList = l) : x = tx l := by
  obtain ⟨a⟩ := x
  subst h
  show _ = (⟨a.toList.toArray⟩ : Str)
  rw [Array.toArray_toList]
section
variable {K : PySem.W.Frag} {δ : DS} {M : Mu} {k : D → Mu → Prop} {to : TE} {y z : Str}
theorem ae_rep (hy : 1 ≤ y.length) (h : AE K to δ M fun d M1 => ∃ l : List Nat, d = .str (tx l) ∧ l.length + (l.length + 1) * z.length ≤ 16777216 ∧ k (.str (tx (PySem.StrLaws.replL y.cps.toList z.cps.toList l))) M1) : AE K (tRepC y z to) δ M k := fun σ G H Q rs s f =>
  h σ G H _ rs s fun d M1 v G1 H1 ⟨l, e1, e2, q⟩ s1 st1 r1 => by
    subst e1
    have e3 : (tx l).cps.toList = l := tx_cps l
    refine ⟨tx l, rep_str r1, by rw [tx_len]; exact e2, ?_⟩
    have e4 : Txt.replace (tx l) y z = tx (PySem.StrLaws.replL y.cps.toList z.cps.toList l) := by
      have h9 := PySem.StrLaws.replace_list (x := tx l) (y := y) (z := z) hy
      rw [e3] at h9
      exact of_signs h9
    rw [e4]
    exact f _ _ _ _ _ q s1 st1 rep_of_str
end
end Tg
set_option Elab.async false
set_option linter.all false
set_option maxRecDepth 100000
set_option maxHeartbeats 1000000
/-! TgV: displays of dicts with more than fifteen written pairs. -/
namespace Tg
open PySem L2 PyProof.Rows
section
variable {prog : Program} {w : World} {K : Type} [DecidableEq K] {knd : KeyKind prog w K} {A : Around} {E : Value → Shared → Prop} {s : Shared}

theorem dictPut_pairs {d : Addr} {kvs : List (K × Value)} {k : K} {key v : Value} {Q : Unit → Shared → Prop} (hkey : knd.is k key = true) (hm : s.heap.DictOf knd d kvs)
    (hQ : ∀ h', h'.DictOf knd d (stored kvs k v) → Heap.SameBut d s.heap h' → Q () { s with heap := h' }) (hsz : kvs.length ≤ sizeLine) :
    wpAny (model prog w) A (dictPut d (knd.hash k) key v) Q E s := by
  obtain ⟨o, es, ep, ho, hc, hd, hk, hp, hn⟩ := hm
  have hes : es.size ≤ sizeLine := by
    have e1 := hp.length
    have e2 : es.toList.length = es.size := by simp
    omega
  unfold dictPut
  refine wpAny_bind (wpAny_dictFind_of hkey ho hd hk ?_)
  have hidx : (es.findIdx? fun e => knd.is k e.key) = kvs.findIdx? fun kv => decide (kv.1 = k) := by
    rw [← hp.findIdx k]; obtain ⟨l⟩ := es; simp
  cases hi : es.findIdx? fun e => knd.is k e.key with
  | some i =>
    refine wpAny_updateDict ho hd (hQ _ ⟨_, _, ep, Heap.get?_update_self _ ho (Obj.isFreed_of_dict (Obj.data_mapDict hd _)),
      hc.mapDict _, Obj.data_mapDict hd _, hk.modify _ _, ?_, ?_⟩ (Heap.SameBut.update ..))
    · rw [stored, if_pos (any_of_findIdx_some (hidx ▸ hi))]
      have hl : (es.toList.findIdx? fun e => knd.is k e.key) = some i := by rw [← hi]; obtain ⟨l⟩ := es; simp
      have := hp.modify hn hl v
      obtain ⟨l⟩ := es
      simpa using this
    · rw [stored, if_pos (any_of_findIdx_some (hidx ▸ hi)), keys_map_store]; exact hn
  | none =>
    have hnot : k ∉ kvs.map (·.1) := not_mem_of_findIdx_none (hidx ▸ hi)
    have hany : ¬ (kvs.any fun kv => decide (kv.1 = k)) = true := by
      rw [List.any_eq_true]; rintro ⟨kv, hkv, he⟩
      exact hnot (List.mem_map.mpr ⟨kv, hkv, of_decide_eq_true he⟩)
    refine wpAny_updateDictKeys (hz := hes) ho hd (hQ _ ⟨_, _, ep + 1, Heap.get?_update_self _ ho (Obj.isFreed_of_dict (Obj.data_mapDictKeys hd _)),
      hc.mapDictKeys _, Obj.data_mapDictKeys hd _, hk.push hkey _, ?_, ?_⟩ (Heap.SameBut.update ..))
    · rw [stored, if_neg hany]
      have := hp.append hkey (knd.hash k) v
      obtain ⟨l⟩ := es
      simpa using this
    · rw [stored, if_neg hany, List.map_append, List.nodup_append]
      refine ⟨hn, by simp, ?_⟩
      intro a ha b hb
      simp only [List.map_cons, List.map_nil, List.mem_singleton] at hb
      subst hb
      exact fun e => hnot (e ▸ ha)

theorem mergeMapping_dict {d o : Addr} {kvs more : List (K × Value)} {Q : Unit → Shared → Prop} (hdo : d ≠ o) (hoS : (o == sysModules) = false)
    (hd : s.heap.DictOf knd d kvs) (h0 : kvs ≠ []) (ho : s.heap.DictOf knd o more)
    (hQ : ∀ h', h'.DictOf knd d (merged kvs more) → Heap.SameBut d s.heap h' → Q () { s with heap := h' })
    (hsz : kvs.length + more.length ≤ sizeLine) :
    wpAny (model prog w) A (mergeMapping d (.ref o) false) Q E s := by
  obtain ⟨od, esd, epd, hod, hcd, hdd, hkd, hpd, hnd⟩ := id hd
  obtain ⟨oo, eso, epo, hoo, hco, hdo', hko, hpo, hno⟩ := id ho
  have hlen : more.length = eso.size := by rw [← hpo.length]; simp
  have hne : esd.isEmpty = false := by
    cases he : esd.isEmpty with
    | false => rfl
    | true =>
      have e0 : esd = #[] := Array.isEmpty_iff.mp he
      have := hpd.length
      rw [e0] at this
      exact absurd (List.length_eq_zero_iff.mp (by simpa using this.symm)) h0
  unfold mergeMapping
  refine wpAny_bind (wpAny_isInstance ho.typeIs isSubtype_dict_dict ?_)
  rw [if_pos rfl]
  refine wpAny_bind (wpAny_specialOf ho.typeIs F.slot_dict_iter.lookup ?_)
  refine wpAny_bind (wpAny_pure ?_)
  simp only [beq_self_eq_true]
  rw [if_neg (by rw [hoS]; exact Bool.false_ne_true)]
  refine wpAny_bind (wpAny_dictEntries hod hdd ?_)
  rw [if_neg (by rw [hne]; exact Bool.false_ne_true)]
  refine wpAny_bind (wpAny_dictEntries hoo hdo' ?_)
  refine wpAny_bind (wpAny_dictEpoch hoo hdo' ?_)
  refine wpAny_bind ?_
  refine wpAny_forIn_list _
      (fun rest _ s' => ∃ h' i, s' = { s with heap := h' } ∧ rest = List.range' i (eso.size - i) ∧ i ≤ eso.size ∧ h'.DictOf knd d (merged kvs (more.take i)) ∧ h'.get? o = some oo ∧ Heap.SameBut d s.heap h')
      _ ?_ ?_ _ _ ⟨s.heap, 0, rfl, by simp [List.range_eq_range'], Nat.zero_le _, by simpa [merged] using hd, hoo, Heap.SameBut.refl _ _⟩
  · rintro x rest b s' ⟨h', i, rfl, hr, hi, hd', hoo', hs'⟩
    have hlt : i < eso.size := by
      rcases Nat.lt_or_ge i eso.size with h | h
      · exact h
      · rw [Nat.sub_eq_zero_of_le h] at hr; simp at hr
    obtain ⟨rfl, hrest⟩ : x = i ∧ rest = List.range' (i + 1) (eso.size - (i + 1)) := by
      have e : eso.size - i = (eso.size - (i + 1)) + 1 := by omega
      rw [e, List.range'_succ] at hr
      injection hr with h1 h2
      exact ⟨h1, h2⟩
    refine wpAny_bind (wpAny_dictEntries hoo' hdo' ?_)
    rw [Array.getElem?_eq_getElem hlt]
    obtain ⟨kv, hkv⟩ : ∃ kv, more[x]? = some kv := ⟨more[x]'(by rw [hlen]; exact hlt), List.getElem?_eq_getElem _⟩
    obtain ⟨k, v⟩ := kv
    obtain ⟨hkey, hval⟩ := hpo.get? (e := eso[x]) (by simp [hlt]) hkv
    obtain ⟨k', hkey', hhash⟩ := hko eso[x] (Array.getElem_mem hlt)
    obtain rfl : k' = k := knd.inj _ _ _ hkey' hkey
    show wpAny _ _ (holding [eso[x].key, eso[x].val] (dictPut d eso[x].hash eso[x].key eso[x].val) >>= _) _ _ _
    rw [hhash, hval]
    have hmx : (merged kvs (more.take x)).length ≤ sizeLine := by
      have e1 := merged_length_le kvs (more.take x)
      have e2 : (more.take x).length ≤ more.length := by rw [List.length_take]; omega
      omega
    refine wpAny_bind (wpAny_holding (dictPut_pairs (hsz := hmx) hkey hd' fun h'' hd'' hs'' => ?_))
    have hoo'' : h''.get? o = some oo := (hs''.2 o (Ne.symm hdo)).trans hoo'
    refine wpAny_bind (wpAny_dictEpoch hoo'' hdo' ?_)
    rw [if_neg (by simp)]
    exact wpAny_pure ⟨h'', x + 1, rfl, hrest, hlt, by rw [merged_take_succ kvs more x (k', v) hkv]; exact hd'', hoo'', hs'.trans hs''⟩
  · rintro b s' ⟨h', i, rfl, hr, hi, hd', hoo', hs'⟩
    have hin : i = eso.size := by
      rcases Nat.lt_or_ge i eso.size with h | h
      · have e : eso.size - i = (eso.size - (i + 1)) + 1 := by omega
        rw [e, List.range'_succ] at hr; exact nomatch hr
      · exact Nat.le_antisymm hi h
    refine wpAny_pure (hQ h' ?_ hs')
    rw [hin, ← hlen, List.take_length] at hd'; exact hd'
end
/-! ### the display -/
section
variable {X : Cx}
/-- a tree that gives a text and changes nothing -/
def Cst (X : Cx) (m : Sem Value) (y : V) : Prop := ∀ (A : Around) (E : Value → Shared → Prop) (s : Shared) (Q : Value → Shared → Prop), (∀ u tk, RelV y u → Q u { s with toks := tk }) → wpAny (model X.prog X.w) A m Q E s
def CstP (X : Cx) : List (Sem Value × Sem Value) → List (Key × V) → Prop
  | [], [] => True
  | p :: ps, q :: qs => Cst X p.1 (kV q.1) ∧ Cst X p.2 q.2 ∧ CstP X ps qs
  | _, _ => False
theorem cstP_app : ∀ {ps rs : List (Sem Value × Sem Value)} {qs us : List (Key × V)}, CstP X ps qs → CstP X rs us → CstP X (ps ++ rs) (qs ++ us)
  | [], _, [], _, _, h => h
  | _ :: _, _, _ :: _, _, h, h2 => ⟨h.1, h.2.1, cstP_app h.2.2 h2⟩
  | [], _, _ :: _, _, h, _ => h.elim
  | _ :: _, _, [], _, h, _ => h.elim
theorem cstP_len : ∀ {ps : List (Sem Value × Sem Value)} {qs : List (Key × V)}, CstP X ps qs → ps.length = qs.length
  | [], [], _ => rfl
  | _ :: _, _ :: _, h => by rw [List.length_cons, List.length_cons, cstP_len h.2.2]
  | [], _ :: _, h => h.elim
  | _ :: _, [], h => h.elim
theorem kv_app {a b : List (Key × V)} {rs us : List (Key × Value)} (h : KV a rs) (h2 : KV b us) : KV (a ++ b) (rs ++ us) := by
  unfold KV at *
  induction h with
  | nil => exact h2
  | cons p q ih => exact .cons p ih
theorem kv_keys {a : List (Key × V)} {rs : List (Key × Value)} (h : KV a rs) : rs.map (·.1) = a.map (·.1) := by
  unfold KV at h
  induction h with
  | nil => rfl
  | cons p q ih => rw [List.map_cons, List.map_cons, ih, p.1]
theorem stored_new {K : Type} [DecidableEq K] {rs : List (K × Value)} {k : K} {v : Value} (h : k ∉ rs.map (·.1)) : stored rs k v = rs ++ [(k, v)] := by
  unfold stored
  rw [if_neg]
  rw [List.any_eq_true]
  rintro ⟨kv, hkv, he⟩
  exact h (List.mem_map.mpr ⟨kv, hkv, of_decide_eq_true he⟩)
/-- pairs of constants -/
theorem evalPairs_cst {A : Around} {E : Value → Shared → Prop} : ∀ {ps : List (Sem Value × Sem Value)} {qs : List (Key × V)} (s : Shared) (Q : List (Value × Value) → Shared → Prop), CstP X ps qs →
    (∀ vs rs tk, Carries (mixKind X.prog X.w) vs rs → KV qs rs → Q vs { s with toks := tk }) → wpAny (model X.prog X.w) A (evalPairs ps) Q E s
  | [], [], s, Q, _, h => evalPairs_nil (h [] [] s.toks True.intro .nil)
  | p :: ps, q :: qs, s, Q, c, h => by
    obtain ⟨k, v⟩ := p
    refine evalPairs_cons (c.1 A E s _ fun u tk ru => c.2.1 A E _ _ fun u2 tk2 ru2 => evalPairs_cst _ _ c.2.2 fun vs rs tk3 h1 h2 => ?_)
    exact h _ ((q.1, u2) :: rs) tk3 ⟨kV_is ru, rfl, h1⟩ (.cons ⟨rfl, ru2⟩ h2)
  | [], _ :: _, _, _, c, _ => c.elim
  | _ :: _, [], _, _, c, _ => c.elim
/-- a new dict of constants, however many -/
theorem subDict_cst {A : Around} {E : Value → Shared → Prop} {ps : List (Sem Value × Sem Value)} {qs : List (Key × V)} {s : Shared} {Q : Addr → Shared → Prop} (c : CstP X ps qs) (hn : (qs.map (·.1)).Nodup) (hz : qs.length ≤ 100)
    (h : ∀ h' rs tk, KV qs rs → h'.DictOf (mixKind X.prog X.w) s.heap.objs.size rs → (∀ b o, s.heap.get? b = some o → h'.get? b = some o) → s.heap.objs.size < h'.objs.size → Q s.heap.objs.size { s with heap := h', toks := tk }) :
    wpAny (model X.prog X.w) A (subDict ps) Q E s := by
  have hk : ∀ {h' : Heap}, Heap.SameBut s.heap.objs.size (s.heap.push { cls := .type "dict", data := .dict #[] }) h' → ∀ b o, s.heap.get? b = some o → h'.get? b = some o := fun hs b o e => by
    rw [hs.2 b (fun z => absurd (Heap.lt_size e) (by rw [z]; exact Nat.lt_irrefl _))]
    exact Heap.get?_push_of_some _ e
  have hsz := sizeLine_eq
  by_cases h15 : ps.length ≤ 15
  · refine wpAny_subDict (knd := mixKind X.prog X.w) h15 (evalPairs_cst _ _ c fun vs rs tk h1 h2 => ⟨rs, h1, Heap.DictOf.new _, fun h' hd hs => ?_⟩)
    rw [merged_nil_of_nodup rs (by rw [kv_keys h2]; exact hn)] at hd
    refine h h' rs _ h2 hd (hk hs) ?_
    obtain ⟨o, es, ep, ho, _⟩ := hd
    exact Heap.lt_size ho
  · unfold subDict
    refine wpAny_bind (wpAny_alloc ?_)
    refine wpAny_bind (wpAny_holding ?_)
    rw [if_neg h15]
    refine wpAny_bind (wpAny_rule ?_)
    have loop : ∀ (ps : List (Sem Value × Sem Value)) (qs done : List (Key × V)) (rs : List (Key × Value)) (h1 : Heap) (tk : Nat) (Q2 : PUnit → Shared → Prop), CstP X ps qs → KV done rs → ((done ++ qs).map (·.1)).Nodup → (done ++ qs).length ≤ 100 →
        h1.DictOf (mixKind X.prog X.w) s.heap.objs.size rs → Heap.SameBut s.heap.objs.size (s.heap.push { cls := .type "dict", data := .dict #[] }) h1 →
        (∀ h' rs' tk', KV (done ++ qs) rs' → h'.DictOf (mixKind X.prog X.w) s.heap.objs.size rs' → Heap.SameBut s.heap.objs.size (s.heap.push { cls := .type "dict", data := .dict #[] }) h' → Q2 PUnit.unit { s with heap := h', toks := tk' }) →
        wpAny (model X.prog X.w) A (forIn ps PUnit.unit fun (x : Sem Value × Sem Value) (_ : PUnit) => (do
          let kv ← x.1
          let vv ← holding [kv] x.2
          holding [kv, vv] (dictSet s.heap.objs.size kv vv)
          pure (ForInStep.yield PUnit.unit) : Sem (ForInStep PUnit))) Q2 E { s with heap := h1, toks := tk } := by
      intro ps
      induction ps with
      | nil =>
        intro qs done rs h1 tk Q2 c kv hn hz hd hs hQ
        cases qs with
        | nil =>
          rw [List.forIn_nil]
          rw [List.append_nil] at hQ
          exact wpAny_pure (hQ h1 rs tk kv hd hs)
        | cons _ _ => exact c.elim
      | cons p ps ih =>
        intro qs done rs h1 tk Q2 c kv hn hz hd hs hQ
        cases qs with
        | nil => exact c.elim
        | cons q qs =>
          obtain ⟨c1, c2, c3⟩ := c
          rw [List.forIn_cons]
          refine wpAny_bind (wpAny_bind (c1 A E _ _ fun u tk1 ru => wpAny_bind (wpAny_holding (c2 A E _ _ fun u2 tk2 ru2 => wpAny_bind (wpAny_holding ?_)))))
          have hlen : rs.length ≤ sizeLine := by
            have e1 := KV.length kv
            rw [List.length_append] at hz
            omega
          refine wpAny_dictSet_pairs (knd := mixKind X.prog X.w) (s := { s with heap := h1, toks := tk2 }) (hsz := hlen) (kV_is ru) hd fun h' hd' hs' => wpAny_pure ?_
          have hfresh : q.1 ∉ rs.map (·.1) := by
            rw [kv_keys kv]
            intro z
            rw [List.map_append, List.map_cons, List.nodup_append] at hn
            exact hn.2.2 q.1 z q.1 (by simp) rfl
          rw [stored_new hfresh] at hd'
          refine ih qs (done ++ [q]) (rs ++ [(q.1, u2)]) h' _ Q2 c3 (kv_app kv (.cons ⟨rfl, ru2⟩ .nil)) (by simpa using hn) (by simpa using hz) hd' (hs.trans hs') fun h'' rs' tk' k1 k2 k3 => ?_
          exact hQ h'' rs' tk' (by simpa using k1) k2 k3
    refine wpAny_bind ?_
    refine loop ps qs [] [] _ _ _ c .nil (by simpa using hn) (by simpa using hz) (Heap.DictOf.new _) (Heap.SameBut.refl _ _) fun h' rs' tk' k1 k2 k3 => wpAny_pure (wpAny_pure ?_)
    rw [List.nil_append] at k1
    refine h h' rs' tk' k1 k2 (hk k3) ?_
    obtain ⟨o, es, ep, ho, _⟩ := k2
    exact Heap.lt_size ho
/-- what stands behind some flushes -/
def DJ (X : Cx) (h0 : Heap) (main : Option Addr) (done : List (Key × V)) (h : Heap) : Prop := (∀ b o, h0.get? b = some o → h.get? b = some o) ∧ h0.objs.size ≤ h.objs.size ∧
  ((main = none ∧ done = []) ∨ ∃ d rs, main = some d ∧ done ≠ [] ∧ KV done rs ∧ h.DictOf (mixKind X.prog X.w) d rs ∧ h0.objs.size ≤ d)
theorem nodup_right {a b : List (Key × V)} (h : ((a ++ b).map (·.1)).Nodup) : (b.map (·.1)).Nodup := by
  rw [List.map_append, List.nodup_append] at h
  exact h.2.1
theorem flush_cst {A : Around} {E : Value → Shared → Prop} {h0 : Heap} {run : List (Sem Value × Sem Value)} {kr done : List (Key × V)} {d : Addr} {s : Shared} {Q : Unit → Shared → Prop} (hb : sysModules < h0.objs.size) (c : CstP X run kr) (j : DJ X h0 (some d) done s.heap)
    (hn : ((done ++ kr).map (·.1)).Nodup) (hz : (done ++ kr).length ≤ 100) (h : ∀ h' tk, DJ X h0 (some d) (done ++ kr) h' → Q () { s with heap := h', toks := tk }) :
    wpAny (model X.prog X.w) A (subDict run) (fun sub s' => wpAny (model X.prog X.w) A (mergeMapping d (.ref sub) false) Q (fun _ _ => False) s') E s := by
  obtain ⟨j1, j2, j3⟩ := j
  rcases j3 with ⟨z, _⟩ | ⟨d', rs, z, hne, kv, hd, hge⟩
  · cases z
  cases z
  have hz2 : done.length + kr.length ≤ 100 := by rw [← List.length_append]; exact hz
  refine subDict_cst c (nodup_right hn) (by omega) fun h1 rs1 tk k1 k2 k3 k4 => ?_
  obtain ⟨od, es, ep, hod, rest⟩ := hd
  have hlt : d < s.heap.objs.size := Heap.lt_size hod
  have hd1 : h1.DictOf (mixKind X.prog X.w) d rs := ⟨od, es, ep, k3 _ _ hod, rest⟩
  have e1 := KV.length kv
  have e2 := KV.length k1
  have hsz := sizeLine_eq
  have hrs : rs ≠ [] := fun z => by
    rw [z, List.length_nil] at e1
    exact hne (List.length_eq_zero_iff.mp e1)
  refine mergeMapping_dict (knd := mixKind X.prog X.w) (s := { s with heap := h1, toks := tk }) (Nat.ne_of_lt hlt) (beq_eq_false_iff_ne.mpr (Nat.ne_of_gt (Nat.lt_of_lt_of_le hb j2))) hd1 hrs k2 (fun h2 m1 m2 => ?_) (by omega)
  rw [merged_append_of_fresh rs rs1 (by rw [List.map_append, kv_keys kv, kv_keys k1, ← List.map_append]; exact hn)] at m1
  have hg : h2.objs.size = h2.objs.size := rfl
  refine h h2 tk ⟨fun b o e => ?_, ?_, .inr ⟨d, rs ++ rs1, rfl, fun z => hne (List.append_eq_nil_iff.mp z).1, kv_app kv k1, m1, hge⟩⟩
  · rw [m2.2 b fun z => absurd (Heap.lt_size e) (by rw [z]; exact Nat.not_lt.mpr hge)]
    exact k3 b o (j1 b o e)
  · have e9 : h2.objs.size = h1.objs.size := m2.1
    omega
theorem fresh_dj {h0 h1 h' : Heap} {rs : List (Key × Value)} {kr : List (Key × V)} (j : DJ X h0 none [] h1) (hne : kr ≠ []) (k1 : KV kr rs) (k2 : h'.DictOf (mixKind X.prog X.w) h1.objs.size rs) (k3 : ∀ b o, h1.get? b = some o → h'.get? b = some o) (k4 : h1.objs.size < h'.objs.size) : DJ X h0 (some h1.objs.size) kr h' :=
  ⟨fun b o e => k3 b o (j.1 b o e), Nat.le_trans j.2.1 (Nat.le_of_lt k4), .inr ⟨_, rs, rfl, hne, k1, k2, j.2.1⟩⟩
theorem dj_none {h0 h : Heap} {done : List (Key × V)} (j : DJ X h0 none done h) : done = [] := by
  rcases j.2.2 with ⟨_, e⟩ | ⟨_, _, z, _⟩
  · exact e
  · cases z
theorem disp_loop {A : Around} {E : Value → Shared → Prop} {h0 : Heap} {f : (Option (Sem Value) × Sem Value) → (Option Addr × List (Sem Value × Sem Value)) → Sem (ForInStep (Option Addr × List (Sem Value × Sem Value)))}
    (hstep : ∀ (p : Sem Value × Sem Value) (q : Key × V) (run : List (Sem Value × Sem Value)) (kr done : List (Key × V)) (main : Option Addr) (s : Shared) (Q : ForInStep (Option Addr × List (Sem Value × Sem Value)) → Shared → Prop),
      Cst X p.1 (kV q.1) → Cst X p.2 q.2 → CstP X run kr → run.length < 17 → DJ X h0 main done s.heap → ((done ++ (kr ++ [q])).map (·.1)).Nodup → (done ++ (kr ++ [q])).length ≤ 100 →
      (∀ main' run' kr' done' h' tk, CstP X run' kr' → run'.length < 17 → DJ X h0 main' done' h' → done' ++ kr' = done ++ (kr ++ [q]) → Q (.yield (main', run')) { s with heap := h', toks := tk }) →
      wpAny (model X.prog X.w) A (f (some p.1, p.2) (main, run)) Q E s) :
    ∀ (ps : List (Sem Value × Sem Value)) (qs : List (Key × V)) (run : List (Sem Value × Sem Value)) (kr done : List (Key × V)) (main : Option Addr) (s : Shared) (Q : (Option Addr × List (Sem Value × Sem Value)) → Shared → Prop),
      CstP X ps qs → CstP X run kr → run.length < 17 → DJ X h0 main done s.heap → ((done ++ (kr ++ qs)).map (·.1)).Nodup → (done ++ (kr ++ qs)).length ≤ 100 →
      (∀ main' run' kr' done' h' tk, CstP X run' kr' → run'.length < 17 → DJ X h0 main' done' h' → done' ++ kr' = done ++ (kr ++ qs) → Q (main', run') { s with heap := h', toks := tk }) →
      wpAny (model X.prog X.w) A (forIn (ps.map fun p => (some p.1, p.2)) (main, run) f) Q E s
  | [], [], run, kr, done, main, s, Q, _, c, hr, j, _, _, h => by
    rw [List.map_nil, List.forIn_nil]
    exact wpAny_pure (h main run kr done s.heap s.toks c hr j (by rw [List.append_nil]))
  | p :: ps, q :: qs, run, kr, done, main, s, Q, cp, c, hr, j, hn, hz, h => by
    rw [List.map_cons, List.forIn_cons]
    have ea : done ++ (kr ++ q :: qs) = (done ++ (kr ++ [q])) ++ qs := by simp
    rw [ea] at hn hz
    refine wpAny_bind (hstep p q run kr done main s _ cp.1 cp.2.1 c hr j (by rw [List.map_append, List.nodup_append] at hn; exact hn.1) (by rw [List.length_append] at hz; omega) fun main' run' kr' done' h' tk c' hr' j' e => ?_)
    have eb : done' ++ (kr' ++ qs) = (done ++ (kr ++ [q])) ++ qs := by rw [← List.append_assoc, e]
    exact disp_loop hstep ps qs run' kr' done' main' _ Q cp.2.2 c' hr' j' (by rw [eb]; exact hn) (by rw [eb]; exact hz) fun m2 r2 k2 d2 h2 tk2 c2 hr2 j2 e2 => h m2 r2 k2 d2 h2 tk2 c2 hr2 j2 (by rw [e2, eb, ea])
  | [], _ :: _, _, _, _, _, _, _, c, _, _, _, _, _, _ => c.elim
  | _ :: _, [], _, _, _, _, _, _, c, _, _, _, _, _, _ => c.elim
theorem display_cst {A : Around} {E : Value → Shared → Prop} {ps : List (Sem Value × Sem Value)} {qs : List (Key × V)} {s : Shared} {Q : Value → Shared → Prop} (hb : sysModules < s.heap.objs.size) (c : CstP X ps qs) (h0 : ps ≠ []) (hn : (qs.map (·.1)).Nodup) (hz : qs.length ≤ 100)
    (h : ∀ d rs h' tk, KV qs rs → h'.DictOf (mixKind X.prog X.w) d rs → s.heap.objs.size ≤ d → (∀ b o, s.heap.get? b = some o → h'.get? b = some o) → Q (.ref d) { s with heap := h', toks := tk }) :
    wpAny (model X.prog X.w) A (dictDisplay (ps.map fun p => (some p.1, p.2))) Q E s := by
  have hq0 : qs ≠ [] := fun z => h0 (List.length_eq_zero_iff.mp (by rw [cstP_len c, z]; rfl))
  unfold dictDisplay
  dsimp only
  refine wpAny_bind (disp_loop (X := X) (h0 := s.heap) ?_ ps qs [] [] [] none s _ c True.intro (by decide) ⟨fun _ _ e => e, Nat.le_refl _, .inl ⟨rfl, rfl⟩⟩ (by simpa using hn) (by simpa using hz) fun main run kr done h1 tk1 c1 hr1 j1 e1 => ?_)
  · intro p q run kr done main s1 Q1 c1 c2 cr hr j hn1 hz1 h1
    have cr1 : CstP X (run ++ [p]) (kr ++ [q]) := cstP_app cr ⟨c1, c2, True.intro⟩
    have hb1 : sysModules < s1.heap.objs.size := Nat.lt_of_lt_of_le hb j.2.1
    by_cases h17 : ((run ++ [(p.1, p.2)]).length == 17) = true
    · simp only [h17, if_true]
      have hne : (run ++ [(p.1, p.2)]).isEmpty = false := by simp
      simp only [hne, Bool.false_eq_true, if_false]
      cases main with
      | none =>
        obtain rfl := dj_none j
        have hz2 : (kr ++ [q]).length ≤ 100 := hz1
        refine wpAny_bind (wpAny_bind (subDict_cst cr1 hn1 hz2 fun h' rs tk k1 k2 k3 k4 => wpAny_pure (wpAny_pure ?_)))
        exact h1 _ [] [] (kr ++ [q]) h' tk True.intro (by decide) (fresh_dj j (by simp) k1 k2 k3 k4) (by simp)
      | some d =>
        refine wpAny_bind (wpAny_bind (wpAny_holding (wpAny_mono (flush_cst (Q := fun _ s' => Q1 (.yield (some d, [])) s') (E := E) hb cr1 j hn1 hz1 fun h' tk k1 => ?_) (fun sub s2 hq => ?_) fun _ _ e => e)))
        · exact h1 _ [] [] (done ++ (kr ++ [q])) h' tk True.intro (by decide) k1 (by simp)
        · exact wpAny_bind (wpAny_onRaise (wpAny_mono (wpAny_holding hq) (fun _ _ hq2 => wpAny_pure (wpAny_pure hq2)) fun _ _ e => e.elim))
    · simp only [h17, if_false]
      have hl : (run ++ [p]).length < 17 := by
        rw [List.length_append] at h17 ⊢
        simp at h17 ⊢
        omega
      exact wpAny_pure (h1 main (run ++ [p]) (kr ++ [q]) done s1.heap s1.toks cr1 hl j rfl)
  · have e1' : done ++ kr = qs := by simpa using e1
    dsimp only
    cases run with
    | nil =>
      cases kr with
      | nil =>
        rw [List.append_nil] at e1'
        subst e1'
        obtain ⟨j1', j2', j3'⟩ := j1
        rcases j3' with ⟨_, z⟩ | ⟨d, rs, rfl, _, kv, hd, hge⟩
        · exact absurd z hq0
        · rw [List.isEmpty_nil, if_pos rfl]
          refine wpAny_bind (wpAny_pure ?_)
          exact wpAny_pure (h d rs h1 tk1 kv hd hge j1')
      | cons _ _ => exact c1.elim
    | cons p run =>
      have hkr : kr ≠ [] := fun z => by
        rw [z] at c1
        exact c1.elim
      rw [List.isEmpty_cons, if_neg Bool.false_ne_true]
      cases main with
      | none =>
        obtain rfl := dj_none j1
        rw [List.nil_append] at e1'
        subst e1'
        refine wpAny_bind (wpAny_bind (subDict_cst (s := { s with heap := h1, toks := tk1 }) c1 hn hz fun h' rs tk k1 k2 k3 k4 => wpAny_pure ?_))
        exact wpAny_pure (h _ rs h' tk k1 k2 j1.2.1 fun b o e => k3 b o (j1.1 b o e))
      | some d =>
        subst e1'
        refine wpAny_bind (wpAny_bind (wpAny_holding (wpAny_mono (flush_cst (Q := fun _ s' => Q (.ref d) s') (E := E) (s := { s with heap := h1, toks := tk1 }) hb c1 j1 hn hz fun h' tk k1 => ?_) (fun sub s2 hq => ?_) fun _ _ e => e)))
        · obtain ⟨j1', j2', j3'⟩ := k1
          rcases j3' with ⟨z, _⟩ | ⟨d', rs, z, _, kv, hd, hge⟩
          · cases z
          · cases z
            exact h d rs h' tk kv hd hge j1'
        · exact wpAny_bind (wpAny_onRaise (wpAny_mono (wpAny_holding hq) (fun _ _ hq2 => wpAny_pure (wpAny_pure hq2)) fun _ _ e => e.elim))
end
section
variable {X : Cx}
theorem cst_str {x : Str} {j : Nat} {pos : Pos} : Cst X (eval (.Constant (.str x) j pos) X.env) (.str x) := fun _ _ s Q h => Calls.Constant_str (h _ _ ⟨_, rfl⟩)
theorem cst_val {m : Sem Value} {y : V} {pos : Pos} (h : Cst X m y) : Cst X (do let x ← m; standAt pos; pure x) y := fun A E s Q q => wpAny_bind (h A E s _ fun u tk r => wpAny_bind (wpAny_standAt (wpAny_pure (q u tk r))))
/-- the written pairs of texts -/
def cse : List (Option Expr) → List Expr → List (Str × Str)
  | some (.Constant (.str x) _ _) :: ks, .Constant (.str y) _ _ :: vs => (x, y) :: cse ks vs
  | _, _ => []
def cseOk : List (Option Expr) → List Expr → Bool
  | some (.Constant (.str _) _ _) :: ks, .Constant (.str _) _ _ :: vs => cseOk ks vs
  | [], [] => true
  | _, _ => false
def csK (l : List (Str × Str)) : List (Key × V) := l.map fun p => (.inr p.1, .str p.2)
theorem cse_tree {pos : Pos} : ∀ {ks : List (Option Expr)} {vs : List Expr}, cseOk ks vs = true → ks.all (·.isSome) = true ∧ ks.length = vs.length ∧ CstP X (pairTrees ks vs X.env pos) (csK (cse ks vs)) := by
  intro ks vs
  induction ks, vs using cseOk.induct with
  | case1 x j p ks y j' p' vs ih =>
    intro h
    obtain ⟨h1, h2, h3⟩ := ih h
    refine ⟨by rw [List.all_cons, h1]; rfl, by rw [List.length_cons, List.length_cons, h2], cst_str (j := j) (pos := p), cst_val (cst_str (j := j') (pos := p')), h3⟩
  | case2 => exact fun _ => ⟨rfl, rfl, True.intro⟩
  | case3 ks vs h1 h2 =>
    intro h
    unfold cseOk at h
    split at h
    · exact absurd rfl (h1 _ _ _ _ _ _ _ _ rfl)
    · exact absurd rfl (h2 rfl)
    · cases h
/-- a display of written texts, however many -/
def tDispC (l : List (Str × Str)) : TE := fun _ H Q => (l.map (·.1)).Nodup ∧ l.length ≤ 100 ∧ ∀ p, H p = none → Q (.ref p) (upd H p (.dK (csK l)))
theorem pe_dispC {pos : Pos} {ks : List (Option Expr)} {vs : List Expr} (h : cseOk ks vs = true) (h0 : ks ≠ []) : PE X (.Dict ks vs pos) (tDispC (cse ks vs)) := by
  refine ⟨fun pins s σ H Q I q => ?_⟩
  obtain ⟨hn, hz, q⟩ := q
  obtain ⟨hall, hl, c⟩ := cse_tree (X := X) (pos := pos) h
  have hp0 : pairTrees ks vs X.env pos ≠ [] := fun e => by
    have hl2 := pairTrees_length ks vs X.env pos hall hl
    rw [e] at hl2
    exact h0 (List.length_eq_zero_iff.mp hl2.symm)
  rw [arm_eval_Dict, zip_pairTrees ks vs X.env pos hall hl]
  refine wpAny_bind (wpAny_standAt ?_)
  refine display_cst (X := X) I.big c hp0 ?_ (by unfold csK; rw [List.length_map]; exact hz) fun d rs h' tk kv dd hge hk => ?_
  · have e : (csK (cse ks vs)).map (·.1) = ((cse ks vs).map (·.1)).map Sum.inr := by
      unfold csK
      rw [List.map_map, List.map_map]
      rfl
    rw [e]
    exact hn.map _ fun _ _ hne z => hne (Sum.inr.inj z)
  · refine ⟨.ref d, _, I.laid hk hge (dk_new ?_ (beq_eq_false_iff_ne.mpr (Nat.ne_of_gt (Nat.lt_of_lt_of_le I.big hge))) kv dd), rfl, q d (I.hok.fresh hge)⟩
    unfold csK
    rw [List.length_map, sizeLine_eq]
    omega
end
end Tg
set_option Elab.async false
set_option linter.all false
set_option maxRecDepth 100000
set_option maxHeartbeats 1000000
/-! TgW: long displays, zip of tuples, get of a dict of the module, sorted dicts, what may change is forgotten. -/
namespace Tg
open PySem L2 PyProof.Rows
section
variable {K : PySem.W.Frag} {δ : DS} {M M1 M2 : Mu} {k : D → Mu → Prop} {ki : List D → Mu → Prop} {te : TE} {t : TS} {A : AEnds} {x : D} {td ty tx : TE} {ts : TA}
theorem Step.wide {A A' A2 : List Addr} {G H G' H' : Hp} (s : Step A G H A2 G' H') (h : ∀ b ∈ A, b ∈ A') : Step A' G H A2 G' H' :=
  ⟨s.gg, fun b e n => s.fr b e fun z => n (h b z), fun b o n e => s.keep b o (fun z => n (h b z)) e, s.alive, fun b hb => (s.own b hb).imp (h b) id⟩
theorem as_lose {M' J : Mu} (hp : M.Perm (M' ++ J)) (h : AS K t δ M' A) : AS K t δ M A := as_perm hp fun σ G H E rs s f =>
  have w : ∀ b ∈ ads M', b ∈ ads (M' ++ J) := fun b hb => by
    show b ∈ (M' ++ J).map (·.1)
    rw [List.map_append]
    exact List.mem_append_left _ hb
  h σ G H E rs s.sub ⟨fun δ2 M2 σ2 G2 H2 q r s2 st2 => f.nx δ2 M2 σ2 G2 H2 q r s2 (st2.wide w), fun d M2 v G2 H2 q s2 st2 r2 => f.rt d M2 v G2 H2 q s2 (st2.wide w) r2,
    fun δ2 M2 σ2 G2 H2 q r s2 st2 => f.bk δ2 M2 σ2 G2 H2 q r s2 (st2.wide w), fun δ2 M2 σ2 G2 H2 q r s2 st2 => f.ct δ2 M2 σ2 G2 H2 q r s2 (st2.wide w), fun fs M2 d G2 H2 q s2 st2 => f.xs fs M2 d G2 H2 q s2 (st2.wide w)⟩
/-- a long display -/
def csD (l : List (Str × Str)) : List (Key × D) := l.map fun p => (.inr p.1, .str p.2)
theorem repKV_cs {G : Hp} : ∀ {l : List (Str × Str)}, RepKV K G (csD l) (csK l)
  | [] => by unfold csD csK RepKV; rfl
  | p :: l => by
    have ih := repKV_cs (G := G) (l := l)
    show RepKV K G ((.inr p.1, .str p.2) :: csD l) ((.inr p.1, .str p.2) :: csK l)
    unfold RepKV
    exact ⟨_, _, rfl, rep_of_str, ih⟩
theorem ae_dispC {l : List (Str × Str)} (hn : (l.map (·.1)).Nodup) (hz : l.length ≤ 100) (q : ∀ a, k (.ref a) (M ++ [(a, .dK (csD l))])) : AE K (tDispC l) δ M k := fun σ G H Q rs s f => ⟨hn, hz, fun p hp => by
  have gp : G p = none := s.same.free hp
  have nM : ∀ q ∈ M, q.1 ≠ p := fun q hq e => by
    obtain ⟨_, o, ho, _⟩ := s.mu q hq
    rw [e, hp] at ho
    cases ho
  obtain ⟨s2, st2⟩ := s.junk (o := .dK (csK l)) hp
  refine f _ _ _ G _ (q p) ⟨s2.same, fun q hq => ?_, ?_⟩ ⟨st2.gg, st2.fr, st2.keep, st2.alive, fun b hb => ?_⟩ rep_of_ref
  · rcases List.mem_append.mp hq with hq | hq
    · exact s2.mu q hq
    · have e : q = (p, .dK (csD l)) := by simpa using hq
      subst e
      exact ⟨gp, _, upd_same, _, rfl, repKV_cs⟩
  · rw [List.map_append, List.nodup_append]
    refine ⟨s.nd, by simp, fun c hc e he => ?_⟩
    have e1 : e = p := by simpa using he
    subst e1
    obtain ⟨q, hq, rfl⟩ := List.mem_map.mp hc
    exact nM q hq
  · simp only [ads, List.map_append, List.mem_append, List.map_cons, List.map_nil, List.mem_singleton] at hb
    rcases hb with hb | hb
    · exact .inl hb
    · rw [hb]
      exact .inr hp⟩
theorem ae_dispE {l0 l : List (Str × Str)} (e : l0 = l) (hn : (l.map (·.1)).Nodup) (hz : l.length ≤ 100) (q : ∀ a, k (.ref a) (M ++ [(a, .dK (csD l))])) : AE K (tDispC l0) δ M k := by subst e; exact ae_dispC hn hz q
/-- a sum of lists that may change later -/
theorem au_lstN {a : Addr} {xs ys : List D} (e : M = M1 ++ (a, .lst xs) :: M2) (h : xs.length + ys.length ≤ sizeLine) (q : ∀ p, k (.ref p) (M ++ [(p, .lst (xs ++ ys))])) : AR K (rAddU K) (.ref a) (.lst ys) M k := ar_or2 (ar_or2 (ar_or1 fun vx vy G H Q rx ry s f => by
  obtain ⟨g0, o, ho, rs⟩ := s.mu (a, .lst xs) (by rw [e]; simp)
  obtain ⟨vs, rfl, r1⟩ := rs
  obtain ⟨q', us, rfl, hq, r2⟩ := rep_lst ry
  refine ⟨a, q', vs, us, rep_ref rx, rfl, ho, s.same _ _ hq, by rw [r1.len, r2.len]; exact h, fun l hl => ?_⟩
  obtain ⟨s2, st2⟩ := s.fresh (m := .lst (xs ++ ys)) (o := .lst (vs ++ us)) hl ⟨_, rfl, r1.append r2⟩
  exact f _ _ _ _ _ (q l) s2 st2 rep_of_ref))
/-! ### zip -/
def zipD (xs ys : List D) : List D := (xs.zip ys).map fun p => .tup [p.1, p.2]
theorem zipD_get {xs ys : List D} {i : Nat} {d : D} (h : (zipD xs ys)[i]? = some d) : ∃ x y, xs[i]? = some x ∧ ys[i]? = some y ∧ d = .tup [x, y] := by
  unfold zipD at h
  rw [List.getElem?_map] at h
  obtain ⟨p, hp, rfl⟩ := Option.map_eq_some_iff.mp h
  obtain ⟨h1, h2⟩ := List.getElem?_zip_eq_some.mp hp
  exact ⟨p.1, p.2, h1, h2, rfl⟩
theorem zipD_len (xs ys : List D) : (zipD xs ys).length = min xs.length ys.length := by
  unfold zipD
  rw [List.length_map, List.length_zip]
theorem itOk_zipT {G : Hp} {a b : Addr} {xs ys : List V} {ds es : List D} (ha : SqT K G a xs) (hb : SqT K G b ys) (r1 : Reps K G ds xs) (r2 : Reps K G es ys) : ItOk K (RZ.ItzT K a b) G (zipD ds es) := fun i G1 H1 M e s => by
  have hqa : SqT K H1 a xs := Same.seqT s.same (Same.seqT e ha)
  have hqb : SqT K H1 b ys := Same.seqT s.same (Same.seqT e hb)
  refine ⟨fun d hd => ?_, fun hi => ⟨xs, ys, hqa, hqb, by
    have l1 := r1.len
    have l2 := r2.len
    rw [zipD_len] at hi
    omega⟩⟩
  obtain ⟨c1, c2, h1, h2, rfl⟩ := zipD_get hd
  obtain ⟨x, hx, rx⟩ := r1.get h1
  obtain ⟨y, hy, ry⟩ := r2.get h2
  refine ⟨⟨xs, ys, x, y, hqa, hqb, hx, hy⟩, fun v H' hv => ?_⟩
  obtain ⟨T, x', y', rfl, nT, rfl, hx', hy'⟩ := hv
  have e1 : x = x' := Option.some.inj (hx.symm.trans (hx' xs hqa))
  have e2 : y = y' := Option.some.inj (hy.symm.trans (hy' ys hqb))
  subst e1 e2
  obtain ⟨s2, st2, e3⟩ := s.frozen (o := .tup [x, y]) nT
  exact ⟨_, s2, st2, rep_mk_tup (.inl (.inl upd_same)) (Reps.cons (Rep.mono (e.trans e3) _ _ rx) (Reps.one (Rep.mono (e.trans e3) _ _ ry)))⟩
theorem ai_zipT (h : AA K ts δ M fun ds M1 => ∃ xs ys, ds = [.tup xs, .tup ys] ∧ ki (zipD xs ys) M1) : AI K (RZ.iZipA K ts) δ M ki := fun σ G H R rs s f =>
  h σ G H _ rs s fun ds M1 vs G1 H1 ⟨es, fs, e, h1⟩ s1 st1 r1 => by
    subst e
    obtain ⟨x, r, rfl, rx, rr⟩ := r1.uncons
    obtain ⟨y, r', rfl, ry, rr'⟩ := rr.uncons
    unfold Reps at rr'
    subst rr'
    obtain ⟨a, xs, rfl, ha, rs2⟩ := rep_tup rx
    obtain ⟨b, ys, rfl, hb, rs3⟩ := rep_tup ry
    exact ⟨a, b, xs, ys, rfl, .inr ⟨Same.seqT s1.same ha, Same.seqT s1.same hb, f _ M1 G1 H1 _ h1 s1 st1 (itOk_zipT ha hb rs2 rs3)⟩⟩
/-! ### sorted dicts of texts, len of dicts -/
def rSortedD : List V → Hp → VK → Prop := fun xs H Q => ∃ (a : Addr) (kvs : List (Key × V)) (ks : List Str), xs = [.ref a] ∧ Rd H a (.dK kvs) ∧ kvs.map (·.1) = ks.map Sum.inr ∧ ks.length < 64 ∧
    ∀ ys p, ys.Perm ks → sortedS ys = true → H p = none → Q (.ref p) (upd H p (.lst (ys.map V.str)))
def rLenDk : List V → Hp → VK → Prop := fun xs H Q => ∃ a kvs, xs = [V.ref a] ∧ H a = some (.dK kvs) ∧ Q (.int kvs.length) H
theorem repKV_keys {κ : Type} {G : Hp} : ∀ {ds : List (κ × D)} {xs : List (κ × V)}, RepKV K G ds xs → xs.map (·.1) = ds.map (·.1)
  | [], _, h => by
    unfold RepKV at h
    subst h
    rfl
  | (q, d) :: ds, _, h => by
    unfold RepKV at h
    obtain ⟨x, r, rfl, _, t⟩ := h
    rw [List.map_cons, List.map_cons, repKV_keys t]
theorem ac_sortedD {a : Addr} {kvs : List (Key × D)} {ks : List Str} (e : M = M1 ++ (a, .dK kvs) :: M2) (hk : kvs.map (·.1) = ks.map Sum.inr) (hl : ks.length < 64) (q : ∀ ys : List Str, ys.Perm ks → sortedS ys = true → k (.lst (ys.map D.str)) M) : AC K rSortedD [.ref a] M k := fun vs G H Q rx s f => by
  obtain ⟨v, r, rfl, r1, rr⟩ := rx.uncons
  unfold Reps at rr
  subst rr
  obtain ⟨g0, o, ho, rs⟩ := s.mu (a, .dK kvs) (by rw [e]; simp)
  obtain ⟨xs, rfl, rs⟩ := rs
  refine ⟨a, xs, ks, by rw [rep_ref r1], .inl ho, by rw [repKV_keys rs]; exact hk, hl, fun ys p hp hs hn => ?_⟩
  obtain ⟨s2, st2, e2⟩ := s.frozen (o := .lst (ys.map V.str)) hn
  exact f _ M _ _ _ (q ys hp hs) s2 st2 (rep_mk_lst upd_same (reps_strs ys))
theorem ac_lenDk {a : Addr} {kvs : List (Key × D)} (e : M = M1 ++ (a, .dK kvs) :: M2) (q : k (.int (kvs.length : Nat)) M) : AC K rLenDk [.ref a] M k := fun vs G H Q rx s f => by
  obtain ⟨v, r, rfl, r1, rr⟩ := rx.uncons
  unfold Reps at rr
  subst rr
  obtain ⟨g0, o, ho, rs⟩ := s.mu (a, .dK kvs) (by rw [e]; simp)
  obtain ⟨xs, rfl, rs⟩ := rs
  refine ⟨a, xs, by rw [rep_ref r1], ho, ?_⟩
  rw [repKV_len rs]
  exact f _ M _ G H q s Step.refl rep_of_int
end
section
variable {X : Cx}
theorem sortedD_K (hc : X.calm = true) : CallR X (.builtin "sorted") rSortedD := call_sortedD hc
theorem lenDk_K : CallR X (.builtin "len") rLenDk := call_lenD
theorem zip_K {K : PySem.W.Frag} {es : List Expr} {n : Nat} {tp : Pos} {e : Expr} {ta : TA} (h0 : PI X (.Tuple es n tp) e (RZ.iZipA X.K ta)) (h : X.K = K := by rfl) : PI X (.Tuple es n tp) e (RZ.iZipA K ta) := h ▸ h0
end
section
variable {X : Cx} {k j : Nat} {x : Str} {sp : Sp} {dvs : List V} {p pos : Pos}
/-- a def without arguments -/
theorem pe_c0 (c : C8.Cal X.prog X.w X.K X.mg X.base k x sp dvs) (hr : Room j X.A) (hk : k ≤ j) (hg : Gl X x) (hdb : (x == ("__debug__" : Str)) = false := by decide) : PE X (.Call (.Name x p) [] [] pos) (tCall sp dvs C8.E0 tNil) := by
  obtain ⟨f, fd, ps, ds, F, hm, kp, b, d⟩ := c.ex
  exact pe_call0 F (hr.mono hk) hg hm kp b d C8.pass0 hdb
end
/-! ### get of a dict of the module -/
def tKGet2 (K : PySem.W.Frag) (w : World) (td ty tx : TE) : TE := fun σ H Q => td σ H fun x H1 => ∃ p es n, x = .ref p ∧ K.lookup p = some ⟨.type "dict", none, .dict es n, #[]⟩ ∧ PySem.W.KeysLit w.params es.toList ∧ (p == sysModules) = false ∧
  ty σ H1 fun y H2 => ∃ z, y = .str z ∧ tx σ H2 fun d H3 => (∃ v u, PySem.W.nsIn K p z = some (some u) ∧ RelV v u ∧ Q v H3) ∨ (PySem.W.nsIn K p z = some none ∧ Q d H3)
section
variable {X : Cx} {o e f : Expr} {apos cpos : Pos} {td ty tx : TE}
theorem pe_kget2 (ho : PE X o td) (he : PE X e ty) (hf : PE X f tx) (m : M2 X o "get" apos e f cpos) : PE X (.Call (.Attribute o "get" apos) [e, f] [] cpos) (tKGet2 X.K X.w td ty tx) := by
  refine ⟨fun pins s σ H Q I h => ?_⟩
  refine wpAny_Call_method m.base m.few m.line PySem.F.plainAttrs_dict PySem.F.slot_dict_get PySem.F.type_dict_get (thn (ho.run pins s σ H _ I h) fun u s1 ⟨x, H1, I1, rx, p, es, n, ex, hl, hk, low, q1⟩ => ?_)
  subst ex
  obtain rfl : u = Value.ref p := rx
  have hm1 := PySem.W.mapOf_K (prog := X.prog) (w := X.w) I1.kIn hl hk
  refine ⟨hm1.typeIs, fun b q => ?_, ?_⟩
  · cases q
    exact ⟨_, I1.kIn _ _ hl, rfl⟩
  rw [m.trees]
  refine Calls.callWith_builtin rfl (Calls.evalArgs_plain (Calls.spliced_cons (thn (he.run pins s1 σ H1 _ I1 q1) fun iv s2 ⟨y, H2, I2, ry, z, ey, q2⟩ =>
    Calls.spliced_cons (thn (hf.run pins s2 σ H2 _ I2 q2) fun fv s3 ⟨d, H3, I3, rd, q3⟩ => Calls.spliced_nil ?_))))
  subst ey
  obtain ⟨t, rfl⟩ := (show ∃ t, iv = Value.str z t from ry)
  have hm := PySem.W.mapOf_K (prog := X.prog) (w := X.w) I3.kIn hl hk
  refine call_meetsIn PySem.F.slot_dict_get hm.typeIs PySem.F.entry_dict_get (PySem.F.args_dict_get_3 _ _ _) (meets_dict_get_default (strKind X.prog X.w) p (strKind_is X.prog X.w z t) low fv) ⟨_, hm, ?_⟩
  rcases q3 with ⟨v, u, hn, ru, q3⟩ | ⟨hn, q3⟩
  · rw [PySem.W.find_K hl hn]
    exact ⟨v, H3, I3.tok _, ru, q3⟩
  · rw [PySem.W.find_K hl hn]
    exact ⟨d, H3, I3.tok _, rd, q3⟩
theorem kget2_K {K : PySem.W.Frag} {w : World} {e : Expr} (h0 : PE X e (tKGet2 X.K X.w td ty tx)) (h : X.K = K := by rfl) (hw : X.w = w := by rfl) : PE X e (tKGet2 K w td ty tx) := by subst h hw; exact h0
end
section
variable {K : PySem.W.Frag} {w : World} {δ : DS} {M : Mu} {k : D → Mu → Prop} {td ty tx : TE}
theorem ae_kget2 (h : AE K td δ M fun o M1 => ∃ a kvs, o = .ref a ∧ KTabV K w a kvs ∧ AE K ty δ M1 fun j M2 => ∃ z, j = .str z ∧ AE K tx δ M2 fun d M3 =>
      (∃ v dv, kvs.lookup z = some v ∧ (∀ G, Rep K G dv v) ∧ k dv M3) ∨ (kvs.lookup z = none ∧ k d M3)) : AE K (tKGet2 K w td ty tx) δ M k := fun σ G H Q rs s f =>
  h σ G H _ rs s fun o M1 vo G1 H1 ⟨a, kvs, e1, tab, h1⟩ s1 st1 r1 => by
    subst e1
    obtain ⟨es, n, g1, g2, g3⟩ := tab.ex
    refine ⟨a, es, n, rep_ref r1, g1, g2, tab.low, h1 σ G1 H1 _ (rs.mono st1.gg) s1 ?_⟩
    rintro j M2 vj G2 H2 ⟨z, rfl, h2⟩ s2 st2 r2
    refine ⟨z, rep_str r2, h2 σ G2 H2 _ (rs.mono (st1.gg.trans st2.gg)) s2 ?_⟩
    rintro d M3 vd G3 H3 h3 s3 st3 r3
    obtain ⟨g4, g5⟩ := g3.look z
    rcases h3 with ⟨v, dv, h3, h4, q⟩ | ⟨h3, q⟩
    · rcases g5 with ⟨g5, _⟩ | ⟨e, v', g5, g6, g7⟩
      · rw [h3] at g5; cases g5
      · rw [h3] at g5
        cases g5
        refine .inl ⟨v, e.val, ?_, g7, f _ _ _ _ _ q s3 ((st1.trans st2).trans st3) (h4 _)⟩
        unfold PySem.W.nsIn
        rw [g1]
        dsimp only
        rw [g6]
    · rcases g5 with ⟨_, g6⟩ | ⟨e, v', g5, _⟩
      · refine .inr ⟨?_, f _ _ _ _ _ q s3 ((st1.trans st2).trans st3) r3⟩
        unfold PySem.W.nsIn
        rw [g1]
        dsimp only
        rw [g6, g4]
        rfl
      · rw [h3] at g5; cases g5
end
end Tg
set_option Elab.async false
set_option linter.all false
set_option maxRecDepth 100000
set_option maxHeartbeats 1000000
/-! TgX: calls of what may raise, where it does not. -/
namespace Tg
open PySem L2 PyProof.Rows
theorem takes_none {X : Cx} : Takes X (fun _ _ _ _ => False) := fun u s' h => by
  obtain ⟨a, B, sI, pins, σ, H, cls, d, e, I, nb, up, sky, na, os, ag, w⟩ := h
  exact w.elim
section
variable {K : PySem.W.Frag} {δ : DS} {M : Mu} {k : D → Mu → Prop} {ts : TA} {C : Addr} {W : WtX}
theorem ae_callN (h : AA K ts δ M fun ds M1 => ∃ Mc R kc, M1 = Mc ++ R ∧ W ds Mc kc (fun _ _ => False) ∧ ∀ d Mc', kc d Mc' → k d (Mc' ++ R)) : AE K (tCallS (SpcX K C W) (WE fun _ _ _ _ => False) ts) δ M k := fun σ G H Q rs s f =>
  h σ G H _ rs s fun ds M1 vs G1 H1 ⟨Mc, R, kc, e, hw, hk⟩ s1 st1 r1 => by
    subst e
    refine ⟨G1, ds, Mc, kc, fun _ _ => False, r1, s1.sub, hw, fun d M' v G' H' hd s' st' rv => ?_, fun _ _ _ _ _ h => h.elim⟩
    obtain ⟨s2, st2⟩ := s1.join s' st'
    exact f d _ v G' H' (hk d M' hd) s2 (st1.trans st2) rv
theorem ae_lose {te : TE} {M' J : Mu} (hp : M.Perm (M' ++ J)) (h : AE K te δ M' k) : AE K te δ M k := ae_perm hp fun σ G H Q rs s f =>
  have w : ∀ b ∈ ads M', b ∈ ads (M' ++ J) := fun b hb => by
    show b ∈ (M' ++ J).map (·.1)
    rw [List.map_append]
    exact List.mem_append_left _ hb
  h σ G H Q rs s.sub fun d M2 v G2 H2 q s2 st2 r2 => f d M2 v G2 H2 q s2 (st2.wide w) r2
/-- the table ahead, what is beside it forgotten -/
theorem tb_perm {PT : Addr} {M' R : Mu} (h : (PT, MO.tb) ∈ M') : ∃ J, (M' ++ R).Perm (((PT, .tb) :: R) ++ J) := by
  obtain ⟨s, t, rfl⟩ := List.append_of_mem h
  refine ⟨s ++ t, ?_⟩
  refine (List.Perm.append_right R List.perm_middle).trans ?_
  show ((PT, MO.tb) :: ((s ++ t) ++ R)).Perm ((PT, MO.tb) :: (R ++ (s ++ t)))
  exact List.Perm.cons _ List.perm_append_comm
theorem ae_tb {te : TE} {PT : Addr} {M' R : Mu} (h : (PT, MO.tb) ∈ M') (q : AE K te δ ((PT, .tb) :: R) k) : AE K te δ (M' ++ R) k := by
  obtain ⟨J, hp⟩ := tb_perm (R := R) h
  exact ae_lose hp q
theorem as_tb {t : TS} {A : AEnds} {PT : Addr} {M' R : Mu} (h : (PT, MO.tb) ∈ M') (q : AS K t δ ((PT, .tb) :: R) A) : AS K t δ (M' ++ R) A := by
  obtain ⟨J, hp⟩ := tb_perm (R := R) h
  exact as_lose hp q
end
end Tg

set_option Elab.async false
set_option linter.all false
set_option maxRecDepth 100000
set_option maxHeartbeats 4000000
namespace PK
open PySem L2 PyProof.Rows Tg
open C8 (Cal pe_c pe_mk)
def topS (i : Nat) : Stmt := PySem.Challenge.pw_tongues_k44_expressions.main.body.getD i (.Pass ⟨0, 0, 0, 0⟩)
/-- a def of the top -/
structure DefT (K : PySem.W.Frag) (mg : Str → Option Value) (x : Str) (st : Stmt) (ps : List Str) : Prop where
  ex : ∃ f fd, Fun K x x st f fd ∧ mg x = some (.ref f) ∧ Binds K fd ps []
theorem cal_of {P : Program} {w : World} {K : PySem.W.Frag} {mg : Str → Option Value} {base : Heap} {x : Str} {st : Stmt} {ps : List Str} {k : Nat} {sp : Sp} (D : DefT K mg x st ps)
    (ok : ∀ f fd, Fun K x x st f fd → FnOk P w K mg base CX0 k f fd ps sp) : Cal P w K mg base k x sp [] := by
  obtain ⟨f, fd, F, m, b⟩ := D.ex
  exact ⟨f, fd, ps, [], ok f fd F, m, F.kp, b, .nil⟩

def cst_LETTERS : List Nat := [97, 98, 99, 100, 101, 102, 103, 104, 105, 106, 107, 108, 109, 110, 111, 112, 113, 114, 115, 116, 117, 118, 119, 120, 121, 122]
def cst_DIGITS : List Nat := [48, 49, 50, 51, 52, 53, 54, 55, 56, 57]
abbrev s_ExpressionReader___init__ : Stmt := inClass (topS 15) 0
theorem sc_ExpressionReader___init__ : FnScope ["self", "text"] ["self", "text"] (defScope s_ExpressionReader___init__) := ⟨rfl, rfl, rfl, by decide +kernel, rfl, by decide +kernel, by decide +kernel⟩
abbrev s_ExpressionReader_whole : Stmt := inClass (topS 15) 1
theorem sc_ExpressionReader_whole : FnScope ["self", "expression"] ["self"] (defScope s_ExpressionReader_whole) := ⟨rfl, rfl, rfl, by decide +kernel, rfl, by decide +kernel, by decide +kernel⟩
abbrev s_ExpressionReader__take : Stmt := inClass (topS 15) 2
theorem sc_ExpressionReader__take : FnScope ["self", "sort", "found", "start", "stop", "value"] ["self", "sort"] (defScope s_ExpressionReader__take) := ⟨rfl, rfl, rfl, by decide +kernel, rfl, by decide +kernel, by decide +kernel⟩
abbrev s_ExpressionReader__expression : Stmt := inClass (topS 15) 3
theorem sc_ExpressionReader__expression : FnScope ["self", "level", "sort", "start", "_", "value"] ["self", "level"] (defScope s_ExpressionReader__expression) := ⟨rfl, rfl, rfl, by decide +kernel, rfl, by decide +kernel, by decide +kernel⟩
abbrev s_ExpressionReader__form : Stmt := inClass (topS 15) 4
theorem sc_ExpressionReader__form : FnScope ["self", "level", "start", "word", "read", "need"] ["self", "level"] (defScope s_ExpressionReader__form) := ⟨rfl, rfl, rfl, by decide +kernel, rfl, by decide +kernel, by decide +kernel⟩
abbrev s_ExpressionReader__needed : Stmt := inClass (topS 15) 5
theorem sc_ExpressionReader__needed : FnScope ["self", "need", "level", "start", "name"] ["self", "need", "level"] (defScope s_ExpressionReader__needed) := ⟨rfl, rfl, rfl, by decide +kernel, rfl, by decide +kernel, by decide +kernel⟩
abbrev s_ExpressionReader__several : Stmt := inClass (topS 15) 6
theorem sc_ExpressionReader__several : FnScope ["self", "level", "read"] ["self", "level"] (defScope s_ExpressionReader__several) := ⟨rfl, rfl, rfl, by decide +kernel, rfl, by decide +kernel, by decide +kernel⟩
structure Cl_ExpressionReader (K : PySem.W.Frag) (mg : Str → Option Value) (C : Addr) : Prop where
  cl : Cls K C
  m : mg "ExpressionReader" = some (.ref C)
  n__text : NoAttr K C "_text"
  n__token : NoAttr K C "_token"
  n__many : NoAttr K C "_many"
  d___init__ : DefM K C "__init__" "ExpressionReader.__init__" s_ExpressionReader___init__ ["self", "text"]
  d_whole : DefM K C "whole" "ExpressionReader.whole" s_ExpressionReader_whole ["self"]
  d__take : DefM K C "_take" "ExpressionReader._take" s_ExpressionReader__take ["self", "sort"]
  d__expression : DefM K C "_expression" "ExpressionReader._expression" s_ExpressionReader__expression ["self", "level"]
  d__form : DefM K C "_form" "ExpressionReader._form" s_ExpressionReader__form ["self", "level"]
  d__needed : DefM K C "_needed" "ExpressionReader._needed" s_ExpressionReader__needed ["self", "need", "level"]
  d__several : DefM K C "_several" "ExpressionReader._several" s_ExpressionReader__several ["self", "level"]
  mk1 : PySem.W.makesIn K C = true
  mk2 : PySem.W.keepIn K (.ref C) = true

abbrev s_is_name : Stmt := topS 5
theorem sc_is_name : FnScope ["text", "character"] ["text"] (defScope s_is_name) := ⟨rfl, rfl, rfl, by decide +kernel, rfl, by decide +kernel, by decide +kernel⟩
abbrev s_expression_token : Stmt := topS 16
theorem sc_expression_token : FnScope ["text", "at", "first", "stop"] ["text", "at"] (defScope s_expression_token) := ⟨rfl, rfl, rfl, by decide +kernel, rfl, by decide +kernel, by decide +kernel⟩
abbrev s_row_stop : Stmt := topS 17
theorem sc_row_stop : FnScope ["text", "at", "characters"] ["text", "at", "characters"] (defScope s_row_stop) := ⟨rfl, rfl, rfl, by decide +kernel, rfl, by decide +kernel, by decide +kernel⟩
abbrev s_integer_token : Stmt := topS 18
theorem sc_integer_token : FnScope ["text", "at", "start", "stop", "number"] ["text", "at"] (defScope s_integer_token) := ⟨rfl, rfl, rfl, by decide +kernel, rfl, by decide +kernel, by decide +kernel⟩
abbrev s_text_token : Stmt := topS 19
theorem sc_text_token : FnScope ["text", "at", "value", "place"] ["text", "at"] (defScope s_text_token) := ⟨rfl, rfl, rfl, by decide +kernel, rfl, by decide +kernel, by decide +kernel⟩
abbrev s_read_expression : Stmt := topS 20
theorem sc_read_expression : FnScope ["text"] ["text"] (defScope s_read_expression) := ⟨rfl, rfl, rfl, by decide +kernel, rfl, by decide +kernel, by decide +kernel⟩
abbrev s_write_expression : Stmt := topS 21
theorem sc_write_expression : FnScope ["expression", "word", "written", "need", "part", "below"] ["expression"] (defScope s_write_expression) := ⟨rfl, rfl, rfl, by decide +kernel, rfl, by decide +kernel, by decide +kernel⟩
abbrev s_quoted : Stmt := topS 22
theorem sc_quoted : FnScope ["text"] ["text"] (defScope s_quoted) := ⟨rfl, rfl, rfl, by decide +kernel, rfl, by decide +kernel, by decide +kernel⟩
abbrev s_operands : Stmt := topS 23
theorem sc_operands : FnScope ["expression", "found", "need", "part"] ["expression"] (defScope s_operands) := ⟨rfl, rfl, rfl, by decide +kernel, rfl, by decide +kernel, by decide +kernel⟩
abbrev s_parts : Stmt := topS 24
theorem sc_parts : FnScope ["expression", "found", "operand"] ["expression"] (defScope s_parts) := ⟨rfl, rfl, rfl, by decide +kernel, rfl, by decide +kernel, by decide +kernel⟩
abbrev s__law_pool : Stmt := topS 26
theorem sc__law_pool : FnScope ["script", "cell"] ["script"] (defScope s__law_pool) := ⟨rfl, rfl, rfl, by decide +kernel, rfl, by decide +kernel, by decide +kernel⟩
abbrev s__law_take : Stmt := topS 27
theorem sc__law_take : FnScope ["pool", "many", "digit", "cell", "mixed"] ["pool", "many"] (defScope s__law_take) := ⟨rfl, rfl, rfl, by decide +kernel, rfl, by decide +kernel, by decide +kernel⟩
abbrev s__law_forms : Stmt := topS 28
theorem sc__law_forms : FnScope [] [] (defScope s__law_forms) := ⟨rfl, rfl, rfl, by decide +kernel, rfl, by decide +kernel, by decide +kernel⟩
abbrev s__law_name : Stmt := topS 29
theorem sc__law_name : FnScope ["pool", "letters", "k"] ["pool"] (defScope s__law_name) := ⟨rfl, rfl, rfl, by decide +kernel, rfl, by decide +kernel, by decide +kernel⟩
abbrev s__law_text : Stmt := topS 30
theorem sc__law_text : FnScope ["pool", "signs", "size", "k"] ["pool"] (defScope s__law_text) := ⟨rfl, rfl, rfl, by decide +kernel, rfl, by decide +kernel, by decide +kernel⟩
abbrev s__law_integer : Stmt := topS 31
theorem sc__law_integer : FnScope ["pool", "kind"] ["pool"] (defScope s__law_integer) := ⟨rfl, rfl, rfl, by decide +kernel, rfl, by decide +kernel, by decide +kernel⟩
abbrev s__law_plain : Stmt := topS 32
theorem sc__law_plain : FnScope ["pool", "kind"] ["pool"] (defScope s__law_plain) := ⟨rfl, rfl, rfl, by decide +kernel, rfl, by decide +kernel, by decide +kernel⟩
abbrev s__law_expression : Stmt := topS 33
theorem sc__law_expression : FnScope ["pool", "depth", "kind", "many", "k", "forms", "head", "found"] ["pool", "depth"] (defScope s__law_expression) := ⟨rfl, rfl, rfl, by decide +kernel, rfl, by decide +kernel, by decide +kernel⟩
abbrev s__law_below : Stmt := topS 34
theorem sc__law_below : FnScope ["expression", "part"] ["expression"] (defScope s__law_below) := ⟨rfl, rfl, rfl, by decide +kernel, rfl, by decide +kernel, by decide +kernel⟩
abbrev s__law_parts : Stmt := topS 35
theorem sc__law_parts : FnScope ["expression", "found", "part"] ["expression"] (defScope s__law_parts) := ⟨rfl, rfl, rfl, by decide +kernel, rfl, by decide +kernel, by decide +kernel⟩
abbrev s__law_quoted : Stmt := topS 36
theorem sc__law_quoted : FnScope ["text"] ["text"] (defScope s__law_quoted) := ⟨rfl, rfl, rfl, by decide +kernel, rfl, by decide +kernel, by decide +kernel⟩
abbrev s__law_tokens : Stmt := topS 37
theorem sc__law_tokens : FnScope ["expression", "found", "part", "form", "k"] ["expression"] (defScope s__law_tokens) := ⟨rfl, rfl, rfl, by decide +kernel, rfl, by decide +kernel, by decide +kernel⟩
abbrev s__law_written : Stmt := topS 38
theorem sc__law_written : FnScope ["tokens", "text", "k"] ["tokens"] (defScope s__law_written) := ⟨rfl, rfl, rfl, by decide +kernel, rfl, by decide +kernel, by decide +kernel⟩
abbrev s__law_gap : Stmt := topS 39
theorem sc__law_gap : FnScope ["pool", "left", "right", "gap", "k"] ["pool", "left", "right"] (defScope s__law_gap) := ⟨rfl, rfl, rfl, by decide +kernel, rfl, by decide +kernel, by decide +kernel⟩
abbrev s__law_layout : Stmt := topS 40
theorem sc__law_layout : FnScope ["pool", "tokens", "text", "places", "k"] ["pool", "tokens"] (defScope s__law_layout) := ⟨rfl, rfl, rfl, by decide +kernel, rfl, by decide +kernel, by decide +kernel⟩
abbrev s__law_refused : Stmt := topS 41
theorem sc__law_refused : FnScope ["text", "error"] ["text"] (defScope s__law_refused) := ⟨rfl, rfl, rfl, by decide +kernel, rfl, by decide +kernel, by decide +kernel⟩
abbrev s_law : Stmt := topS 42
theorem sc_law : FnScope ["script", "pool", "expression", "tokens", "layout", "text", "strange", "at", "cut"] ["script"] (defScope s_law) := ⟨rfl, rfl, rfl, by decide +kernel, rfl, by decide +kernel, by decide +kernel⟩
abbrev s_BadExpression_init : Stmt := match topS 14 with
 | .ClassDef (body := b) .. => b.getD 0 (.Pass ⟨0, 0, 0, 0⟩)
 | s => s
theorem sc_BadExpression_init : FnScope ["self", "position"] ["self", "position"] (defScope s_BadExpression_init) := ⟨rfl, rfl, rfl, by decide +kernel, rfl, by decide +kernel, by decide +kernel⟩
abbrev ErrT_BadExpression (K : PySem.W.Frag) (mg : Str → Option Value) (C : Addr) : Prop := ErrC1 K mg "BadExpression" "BadExpression.__init__" s_BadExpression_init "position" C

structure Top (K : PySem.W.Frag) (mg : Str → Option Value) (w : World) : Prop where
  d_is_name : DefT K mg "is_name" s_is_name ["text"]
  d_expression_token : DefT K mg "expression_token" s_expression_token ["text", "at"]
  d_row_stop : DefT K mg "row_stop" s_row_stop ["text", "at", "characters"]
  d_integer_token : DefT K mg "integer_token" s_integer_token ["text", "at"]
  d_text_token : DefT K mg "text_token" s_text_token ["text", "at"]
  d_read_expression : DefT K mg "read_expression" s_read_expression ["text"]
  d_write_expression : DefT K mg "write_expression" s_write_expression ["expression"]
  d_quoted : DefT K mg "quoted" s_quoted ["text"]
  d_operands : DefT K mg "operands" s_operands ["expression"]
  d_parts : DefT K mg "parts" s_parts ["expression"]
  d__law_pool : DefT K mg "_law_pool" s__law_pool ["script"]
  d__law_take : DefT K mg "_law_take" s__law_take ["pool", "many"]
  d__law_forms : DefT K mg "_law_forms" s__law_forms []
  d__law_name : DefT K mg "_law_name" s__law_name ["pool"]
  d__law_text : DefT K mg "_law_text" s__law_text ["pool"]
  d__law_integer : DefT K mg "_law_integer" s__law_integer ["pool"]
  d__law_plain : DefT K mg "_law_plain" s__law_plain ["pool"]
  d__law_expression : DefT K mg "_law_expression" s__law_expression ["pool", "depth"]
  d__law_below : DefT K mg "_law_below" s__law_below ["expression"]
  d__law_parts : DefT K mg "_law_parts" s__law_parts ["expression"]
  d__law_quoted : DefT K mg "_law_quoted" s__law_quoted ["text"]
  d__law_tokens : DefT K mg "_law_tokens" s__law_tokens ["expression"]
  d__law_written : DefT K mg "_law_written" s__law_written ["tokens"]
  d__law_gap : DefT K mg "_law_gap" s__law_gap ["pool", "left", "right"]
  d__law_layout : DefT K mg "_law_layout" s__law_layout ["pool", "tokens"]
  d__law_refused : DefT K mg "_law_refused" s__law_refused ["text"]
  m_ValueError : mg "ValueError" = none
  m_all : mg "all" = none
  m_int : mg "int" = none
  m_isinstance : mg "isinstance" = none
  m_len : mg "len" = none
  m_list : mg "list" = none
  m_range : mg "range" = none
  m_sorted : mg "sorted" = none
  m_str : mg "str" = none
  m_tuple : mg "tuple" = none
  m_zip : mg "zip" = none
  dig : PySem.W.nsIn K cStatics "sys.int_max_str_digits" = some none
  g_LETTERS : ∃ t, mg "LETTERS" = some (.str (tx cst_LETTERS) t)
  g_LONGEST_NAME : ∃ t, mg "LONGEST_NAME" = some (.int 12 t)
  g_LARGEST : ∃ t, mg "LARGEST" = some (.int 1000000 t)
  g_DIGITS : ∃ t, mg "DIGITS" = some (.str (tx cst_DIGITS) t)
  g_LONGEST_TEXT : ∃ t, mg "LONGEST_TEXT" = some (.int 60 t)
  g_MOST_PARTS : ∃ t, mg "MOST_PARTS" = some (.int 60 t)
  g_MOST_LEVELS : ∃ t, mg "MOST_LEVELS" = some (.int 12 t)
  g_MOST_BELOW : ∃ t, mg "MOST_BELOW" = some (.int 6 t)
  g_FORMS : ∃ (a : Addr) (c : Addr), mg "FORMS" = some (.ref a) ∧ ∃ b0 b1 b2 b3 b4 b5 b6 b7 b8 b9 b10 b11 b12 b13 b14 b15 b16 b17 b18 b19 b20 b21 b22 b23 b24 b25 b26 b27 b28 b29 b30 b31 b32 b33 b34 b35 : Addr, KTabV K w a [(tx [116, 101, 114, 109], .ref b0), (tx [111, 119, 110], .ref b1), (tx [99, 104, 105, 108, 100], .ref b2), (tx [98, 101, 102, 111, 114, 101], .ref b3), (tx [104, 97, 115], .ref b4), (tx [99, 111, 117, 110, 116], .ref b5), (tx [115, 112, 101, 108, 108, 105, 110, 103], .ref b6), (tx [109, 101, 97, 110, 116], .ref b7), (tx [108, 97, 115, 116], .ref b8), (tx [115, 117, 109], .ref b9), (tx [97, 108, 108], .ref b10), (tx [97, 110, 121], .ref b11), (tx [99, 111, 108, 108, 101, 99, 116], .ref b12), (tx [106, 111, 105, 110], .ref b13), (tx [110, 111, 116], .ref b14), (tx [110, 101, 103, 97, 116, 105, 118, 101], .ref b15), (tx [108, 101, 110, 103, 116, 104], .ref b16), (tx [115, 104, 111, 119, 110], .ref b17), (tx [112, 97, 114, 115, 101, 100], .ref b18), (tx [108, 97, 98, 101, 108], .ref b19), (tx [115, 105, 122, 101], .ref b20), (tx [110, 97, 109, 101, 100], .ref b21), (tx [97, 100, 100], .ref b22), (tx [115, 117, 98, 116, 114, 97, 99, 116], .ref b23), (tx [109, 117, 108, 116, 105, 112, 108, 121], .ref b24), (tx [113, 117, 111, 116, 105, 101, 110, 116], .ref b25), (tx [114, 101, 109, 97, 105, 110, 100, 101, 114], .ref b26), (tx [108, 101, 115, 115], .ref b27), (tx [115, 97, 109, 101], .ref b28), (tx [97, 110, 100], .ref b29), (tx [111, 114], .ref b30), (tx [97, 112, 112, 101, 110, 100], .ref b31), (tx [119, 105, 116, 104], .ref b32), (tx [97, 114, 103, 117, 109, 101, 110, 116], .ref b33), (tx [101, 108, 115, 101], .ref b34), (tx [105, 102], .ref b35)] ∧ (∀ G, Rep K G (.tup [.str (tx [116, 101, 120, 116]), .str (tx [115, 101, 118, 101, 114, 97, 108])]) (.ref b0)) ∧ (∀ G, Rep K G (.tup [.str (tx [110, 97, 109, 101])]) (.ref b1)) ∧ (∀ G, Rep K G (.tup [.str (tx [110, 97, 109, 101]), .str (tx [110, 97, 109, 101])]) (.ref b2)) ∧ (∀ G, Rep K G (.tup [.str (tx [110, 97, 109, 101]), .str (tx [111, 110, 101])]) (.ref b3)) ∧ (∀ G, Rep K G (.tup [.str (tx [110, 97, 109, 101])]) (.ref b4)) ∧ (∀ G, Rep K G (.tup [.str (tx [110, 97, 109, 101])]) (.ref b5)) ∧ (∀ G, Rep K G (.tup [.str (tx [110, 97, 109, 101])]) (.ref b6)) ∧ (∀ G, Rep K G (.tup [.str (tx [110, 97, 109, 101]), .str (tx [110, 97, 109, 101])]) (.ref b7)) ∧ (∀ G, Rep K G (.tup [.str (tx [110, 97, 109, 101]), .str (tx [110, 97, 109, 101]), .str (tx [111, 110, 101])]) (.ref b8)) ∧ (∀ G, Rep K G (.tup [.str (tx [110, 97, 109, 101]), .str (tx [110, 97, 109, 101])]) (.ref b9)) ∧ (∀ G, Rep K G (.tup [.str (tx [110, 97, 109, 101]), .str (tx [110, 97, 109, 101])]) (.ref b10)) ∧ (∀ G, Rep K G (.tup [.str (tx [110, 97, 109, 101]), .str (tx [110, 97, 109, 101])]) (.ref b11)) ∧ (∀ G, Rep K G (.tup [.str (tx [110, 97, 109, 101]), .str (tx [110, 97, 109, 101])]) (.ref b12)) ∧ (∀ G, Rep K G (.tup [.str (tx [110, 97, 109, 101]), .str (tx [110, 97, 109, 101]), .str (tx [116, 101, 120, 116])]) (.ref b13)) ∧ (∀ G, Rep K G (.tup [.str (tx [111, 110, 101])]) (.ref b14)) ∧ (∀ G, Rep K G (.tup [.str (tx [111, 110, 101])]) (.ref b15)) ∧ (∀ G, Rep K G (.tup [.str (tx [111, 110, 101])]) (.ref b16)) ∧ (∀ G, Rep K G (.tup [.str (tx [111, 110, 101])]) (.ref b17)) ∧ (∀ G, Rep K G (.tup [.str (tx [111, 110, 101])]) (.ref b18)) ∧ (∀ G, Rep K G (.tup [.str (tx [111, 110, 101])]) (.ref b19)) ∧ (∀ G, Rep K G (.tup [.str (tx [111, 110, 101])]) (.ref b20)) ∧ (∀ G, Rep K G (.tup [.str (tx [111, 110, 101])]) (.ref b21)) ∧ (∀ G, Rep K G (.tup [.str (tx [111, 110, 101]), .str (tx [111, 110, 101])]) (.ref b22)) ∧ (∀ G, Rep K G (.tup [.str (tx [111, 110, 101]), .str (tx [111, 110, 101])]) (.ref b23)) ∧ (∀ G, Rep K G (.tup [.str (tx [111, 110, 101]), .str (tx [111, 110, 101])]) (.ref b24)) ∧ (∀ G, Rep K G (.tup [.str (tx [111, 110, 101]), .str (tx [111, 110, 101])]) (.ref b25)) ∧ (∀ G, Rep K G (.tup [.str (tx [111, 110, 101]), .str (tx [111, 110, 101])]) (.ref b26)) ∧ (∀ G, Rep K G (.tup [.str (tx [111, 110, 101]), .str (tx [111, 110, 101])]) (.ref b27)) ∧ (∀ G, Rep K G (.tup [.str (tx [111, 110, 101]), .str (tx [111, 110, 101])]) (.ref b28)) ∧ (∀ G, Rep K G (.tup [.str (tx [111, 110, 101]), .str (tx [111, 110, 101])]) (.ref b29)) ∧ (∀ G, Rep K G (.tup [.str (tx [111, 110, 101]), .str (tx [111, 110, 101])]) (.ref b30)) ∧ (∀ G, Rep K G (.tup [.str (tx [111, 110, 101]), .str (tx [111, 110, 101])]) (.ref b31)) ∧ (∀ G, Rep K G (.tup [.str (tx [111, 110, 101]), .str (tx [111, 110, 101])]) (.ref b32)) ∧ (∀ G, Rep K G (.tup [.str (tx [111, 110, 101]), .str (tx [111, 110, 101])]) (.ref b33)) ∧ (∀ G, Rep K G (.tup [.str (tx [111, 110, 101]), .str (tx [111, 110, 101])]) (.ref b34)) ∧ (∀ G, Rep K G (.tup [.str (tx [111, 110, 101]), .str (tx [111, 110, 101]), .str (tx [111, 110, 101])]) (.ref b35))
  k_ExpressionReader : ∃ C, Cl_ExpressionReader K mg C
  x_BadExpression : ∃ C CT, ErrT_BadExpression K mg C ∧ mg "TongueError" = some (.ref CT) ∧ PySem.W.kitOne K (.ref C) (.ref CT) = some true ∧ PySem.W.kitOne K (.ref C) (.type "ValueError") = some true


/-! ### the pool of drawn numbers -/
structure Pool where
  cells : List Int
  pos : Int
  big : Int
  seed : Int
def Pool.d (p : Pool) : List D := [.lst (p.cells.map D.int), .int p.pos, .int p.big, .int p.seed]
structure Pool.Ok (p : Pool) : Prop where
  cells : ∀ c ∈ p.cells, 0 ≤ c
  pos : 0 ≤ p.pos
  big : 0 ≤ p.big
  seed0 : 0 ≤ p.seed
  seed1 : p.seed < 2147483647
def W_pool : Wt := fun ds M k => ∃ ns : List Int, ds = [.lsk (ns.map D.int)] ∧ M = [] ∧ ns.length ≤ 63 ∧ ∀ (a : Addr) (p : Pool), p.Ok → k (.ref a) [(a, .lst p.d)]
/-- n calls, one in the other, are allowed -/
def W_take (n : Nat) : Wt := fun ds M k => ∃ (a : Addr) (p : Pool) (many : Int), ds = [.ref a, .int many] ∧ M = [(a, .lst p.d)] ∧ p.Ok ∧ 0 < many ∧ many < 1073741824 ∧ 1 ≤ n ∧ (0 < p.big ∨ 2 ≤ n) ∧
  ∀ (r : Int) (p' : Pool), p'.Ok → 0 ≤ r → r < many → k (.int r) [(a, .lst p'.d)]
/-- behind a draw below many -/
def takeK (a : Addr) (many : Int) : D → Mu → Prop := fun d M => ∃ (r : Int) (p' : Pool), p'.Ok ∧ 0 ≤ r ∧ r < many ∧ d = .int r ∧ M = [(a, .lst p'.d)]
theorem take_ok {n : Nat} {a : Addr} {p : Pool} {many : Int} (ok : p.Ok) (h0 : 0 < many) (h1 : many < 1073741824) (hn : 2 ≤ n) : W_take n [.ref a, .int many] [(a, .lst p.d)] (takeK a many) :=
  ⟨a, p, many, rfl, rfl, ok, h0, h1, by omega, .inr hn, fun r p' ok' r0 r1 => ⟨r, p', ok', r0, r1, rfl, rfl⟩⟩
/-- nothing is asked of it -/
theorem cal_none {P : Program} {w : World} {K : PySem.W.Frag} {mg : Str → Option Value} {base : Heap} {x : Str} {st : Stmt} {ps : List Str} {W : Wt} {n : Nat} (T : DefT K mg x st ps) (no : ∀ ds M k, ¬ W ds M k) : Cal P w K mg base n x (Spc K W) [] :=
  cal_of T fun f fd F => ⟨fun vs H Q E h => by
    obtain ⟨_, ds, M, k, _, _, hw, _⟩ := h
    exact absurd hw (no ds M k), fun A outer s H args us vs Q E _ _ _ _ h => by
    obtain ⟨_, ds, M, k, _, _, hw, _⟩ := h
    exact absurd hw (no ds M k)⟩

local macro_rules | `(tactic| walk_at "tg1") => `(tactic| first
  | with_reducible refine as_seq (t := tAsg _ _) ?_
  | with_reducible refine as_seq (t := tDrop _) ?_
  | with_reducible refine as_seq (t := tAug _ _ _) ?_
  | with_reducible refine as_seq (t := tFor _ _ _) ?_
  | with_reducible refine as_seq (t := tNext) ?_
  | with_reducible refine as_set ?_
  | with_reducible refine as_asg ?_
  | with_reducible refine as_if ?_
  | with_reducible refine as_ret ?_
  | with_reducible refine as_retN ?_
  | with_reducible refine as_drop ?_
  | with_reducible refine as_next ?_
  | with_reducible refine as_brk ?_
  | with_reducible refine as_cont ?_
  | with_reducible refine ae_int ?_
  | with_reducible refine ae_bl ?_
  | with_reducible refine ae_non ?_
  | with_reducible refine ae_str ?_
  | with_reducible refine ae_ty ?_
  | with_reducible refine ae_op ?_
  | with_reducible refine ae_un ?_
  | with_reducible refine ae_if ?_
  | with_reducible refine ae_andV ?_
  | with_reducible refine ae_orV ?_
  | with_reducible refine ae_notV ?_
  | with_reducible refine at_test ?_
  | with_reducible refine at_B ?_
  | with_reducible refine at_and ?_
  | with_reducible refine at_or ?_
  | with_reducible refine at_not ?_
  | with_reducible refine at_tru ?_
  | with_reducible refine aa_nil ?_
  | with_reducible refine aa_cons ?_
  | with_reducible refine ae_tup ?_
  | with_reducible refine ae_lst ?_
  | with_reducible refine ae_lstM ?_
  | with_reducible refine ae_cb ?_
  | with_reducible refine ae_call ?_
  | with_reducible refine ae_lm ?_
  | with_reducible refine ae_sm ?_
  | with_reducible refine ae_m1 ?_
  | with_reducible refine Tg.ae_sl ?_
  | with_reducible refine ao_none ?_
  | with_reducible refine ao_some ?_
  | with_reducible refine as_for ?_
  | with_reducible refine ai_seq ?_
  | with_reducible refine ai_enum ?_
  | with_reducible refine ai_range1 ?_
  | with_reducible refine ai_range2 ?_
  | with_reducible refine ag_name ?_
  | with_reducible refine ag_setL ?_
  | with_reducible refine ag_setU ?_
  | with_reducible refine ae_chain ?_
  | with_reducible refine ae_chain3 ?_
  | with_reducible refine ae_dnew ?_
  | with_reducible refine ae_dget2 ?_
  | with_reducible refine ae_listRg1 ?_
  | with_reducible refine ags_nil ?_
  | with_reducible refine ags_cons ?_
  | with_reducible refine ag_tup rfl ?_
  | with_reducible refine au_int ?_
  | with_reducible refine Tg.ai_int ?_
  | with_reducible refine ar_sub ?_
  | with_reducible refine ar_cmp ?_
  | with_reducible refine au_neg ?_
  | with_reducible refine ac_int ?_
  | with_reducible refine ac_min ?_
  | with_reducible refine at_yes ?_
  | with_reducible refine bcaseT ?_
  | with_reducible refine bcaseF ?_
  | with_reducible refine bcaseTR ?_
  | with_reducible refine bcaseFR ?_
  | ((with_reducible refine ar_intC ?c1 ?c2); (case c1 => first | omega | exact ⟨by omega, by omega⟩ | exact cmul_l (by omega) (by omega) | exact cmul_r (by omega) (by omega) | exact ⟨by omega, by omega, by decide⟩))
  | refine ae_var rfl ?_
  | refine aix0 rfl ?_
  | refine aix1 rfl ?_
  | refine put_l0 rfl ?_
  | refine put_l1 rfl ?_
  | refine ⟨lst0, ?_⟩
  | refine ⟨lst1, ?_⟩
  | refine ⟨lst2, ?_⟩
  | refine lenM0 ?_
  | refine lenM1 ?_
  | refine aix_T rfl ?_
  | refine as_aug rfl ?_
  | refine ar_eqD rfl ?_
  | refine ar_neD rfl ?_
  | refine ar_isN ?_
  | refine ar_notN ?_
  | refine ac_lenD rfl ?_
  | refine ac_lenS (by omega) ?_
  | refine ac_isiT rfl rfl ?_
  | refine ac_isiF rfl rfl ?_
  | refine ac_tupL ?_
  | refine ⟨tru_ok_bl, ?_⟩
  | refine caseT rfl ?_
  | refine caseF rfl ?_
  | refine caseTR rfl ?_
  | refine caseFR rfl ?_
  | refine ⟨⟨_, rfl⟩, ?_⟩
  | refine ⟨len_ok 0 rfl, ?_⟩
  | refine ⟨len_ok 1 rfl, ?_⟩
  | refine ⟨len_ok 2 rfl, ?_⟩
  | refine ⟨len_ok 3 rfl, ?_⟩
  | refine ⟨len_ok 4 rfl, ?_⟩
  | refine ⟨len_ok 5 rfl, ?_⟩
  | refine ⟨_, rfl, ?_⟩)
local macro_rules | `(tactic| walk_at "tg") => `(tactic| repeat walk_at "tg1")
local macro_rules | `(tactic| walk_at "take") => `(tactic| refine ⟨[_], _, takeK _ _, rfl, take_ok (by assumption) (by first | decide | omega) (by first | decide | omega) (by decide), ?_⟩)

/-! ### names -/
def nameB (l : List Nat) : Bool := decide (1 ≤ l.length) && decide (l.length ≤ 12) && l.all fun c => Txt.contains (tx cst_LETTERS) ⟨#[c]⟩
def W_isn (PT : Addr) : Wt := fun ds M k => ∃ l : List Nat, ds = [.str (tx l)] ∧ M = [(PT, .tb)] ∧ l.length ≤ 1000000 ∧ k (.bl (nameB l)) [(PT, .tb)]
section
variable {P : Program} {w : World} {K : PySem.W.Frag} {mg : Str → Option Value} {base : Heap}
theorem c_is_name {PT : Addr} (T : Top K mg w) (B : DefB K mg base "is_name" s_is_name ["text"] PT) : Cal P w K mg base 1 "is_name" (Spc K (W_isn PT)) [] := cal_ofB B fun f fd c F tb => by
  obtain ⟨t_LONGEST_NAME, g_LONGEST_NAME⟩ := T.g_LONGEST_NAME; obtain ⟨t_LETTERS, g_LETTERS⟩ := T.g_LETTERS
  exact spc_okB F sc_is_name (fun ds M k h => by obtain ⟨l, rfl, _⟩ := h; rfl) fun A outer s H E hr => ⟨_, (pss_one (ps_ret (pe_and (pe_chain op_le op_le pe_int (pe_callB (len_K (K := K)) (by rfl) T.m_len (by decide +kernel) (pa_cons (pv 0) pa_nil)) (pe_glob (v := V.int 12) (by rfl) g_LONGEST_NAME ⟨_, rfl⟩)) (pe_one (pe_allG hr (by rfl) T.m_all (by rfl) tb (by rfl) (genS_by (by decide +kernel)) (pv 0) (elt_in rfl rfl rfl g_LETTERS) (fun _ => rfl)))))), fun ds M kk hw => by
    obtain ⟨l, rfl, rfl, hl, q⟩ := hw
    have hsz := sizeLine_eq
    refine as_start (δ' := [some (.str (tx l)), none]) rfl ?_
    walk_at "tg"
    refine dcase (fun c1 => ?_) (fun c1 => ?_)
    · walk_at "tg"
      refine dcase (fun c2 => ?_) (fun c2 => ?_)
      · refine ae_allS ?_
        walk_at "tg"
        refine ⟨l, [], [], rfl, rfl, ?_⟩
        have e : nameB l = l.all fun c => Txt.contains (tx cst_LETTERS) ⟨#[c]⟩ := by
          unfold nameB
          rw [decide_eq_true (by omega : 1 ≤ l.length), decide_eq_true (by omega : l.length ≤ 12)]
          rfl
        rw [← e]
        exact q
      · have e : nameB l = false := by
          unfold nameB
          rw [decide_eq_false (by omega : ¬ l.length ≤ 12), Bool.and_false]
          rfl
        rw [e] at q
        exact q
    · have e : nameB l = false := by
        unfold nameB
        rw [decide_eq_false (by omega : ¬ 1 ≤ l.length)]
        rfl
      rw [e] at q
      walk_at "tg"
      exact q⟩
end

/-! ### signs and tokens of an expression's text -/
def AtR (l : List Nat) (p : Nat) (r : List Nat) : Prop := l.drop p = r ∧ p ≤ l.length
theorem AtR.adv {l s r : List Nat} {p : Nat} (h : AtR l p (s ++ r)) : AtR l (p + s.length) r := by
  obtain ⟨h1, h2⟩ := h
  have e : l.drop (p + s.length) = r := by rw [← List.drop_drop, h1, List.drop_left]
  have e2 : (l.drop p).length = l.length - p := List.length_drop ..
  rw [h1, List.length_append] at e2
  exact ⟨e, by omega⟩
theorem AtR.len {l r : List Nat} {p : Nat} (h : AtR l p r) : l.length = p + r.length := by
  obtain ⟨h1, h2⟩ := h
  have e2 : (l.drop p).length = l.length - p := List.length_drop ..
  rw [h1] at e2
  omega
theorem AtR.get {l r : List Nat} {p : Nat} (h : AtR l p r) (i : Nat) : l[p + i]? = r[i]? := by
  rw [← h.1, List.getElem?_drop]
/-- the sign at a place, as a text of at most one sign -/
theorem cut1 {l r : List Nat} {p : Nat} (h : AtR l p r) : Tg.cutD l (some (p : Int)) (some ((p : Int) + 1)) = r.take 1 := by
  unfold Tg.cutD
  obtain ⟨h1, h2⟩ := h
  have e1 : ((p : Int) + 1) = ((p + 1 : Nat) : Int) := by omega
  rw [e1, HT.sIx_nat, HT.sIx_nat, Nat.min_eq_left h2, h1]
  by_cases c : p + 1 ≤ l.length
  · rw [Nat.min_eq_left c]
    have e2 : p + 1 - p = 1 := by omega
    rw [e2]
  · have e3 : p = l.length := by omega
    have e4 : r = [] := by rw [← h1, e3, List.drop_length]
    rw [e4]
    simp
theorem cutW {l s r : List Nat} {p : Nat} (h : AtR l p (s ++ r)) : Tg.cutD l (some (p : Int)) (some ((p + s.length : Nat) : Int)) = s := by
  have hl := h.len
  rw [List.length_append] at hl
  unfold Tg.cutD
  rw [HT.sIx_nat, HT.sIx_nat, Nat.min_eq_left (by omega), Nat.min_eq_left (by omega), h.1]
  have e : p + s.length - p = s.length := by omega
  rw [e, List.take_left]
def LetS : List Nat := cst_LETTERS
def DigS : List Nat := cst_DIGITS
def escC (c : Nat) : List Nat := if c = 92 ∨ c = 34 then [92, c] else [c]
def escL (l : List Nat) : List Nat := l.flatMap escC
inductive Tk where
  | op | cl | lt (w : List Nat) | num (i : Int) | txt (l : List Nat) | bad | fin
def Tk.sort : Tk → Str
  | .op => Str.ofString "("
  | .cl => Str.ofString ")"
  | .lt _ => Str.ofString "letters"
  | .num _ => Str.ofString "integer"
  | .txt _ => Str.ofString "text"
  | .bad => Str.ofString "wrong"
  | .fin => Str.ofString "end"
def Tk.val : Tk → D
  | .lt w => .str (tx w)
  | .num i => .int i
  | .txt l => .str (tx l)
  | _ => .non
def tokD (t : Tk) (s e : Nat) : D := .tup [.str t.sort, .int (s : Nat), .int (e : Nat), t.val]
/-- what stands at a token's first place -/
def Tk.At : Tk → List Nat → Nat → Prop
  | .op, r, n => n = 1 ∧ ∃ u, r = 40 :: u
  | .cl, r, n => n = 1 ∧ ∃ u, r = 41 :: u
  | .lt w, r, n => n = w.length ∧ w ≠ [] ∧ (∀ c ∈ w, c ∈ LetS) ∧ ∃ u, r = w ++ u ∧ ∀ c, u.head? = some c → c ∉ LetS
  | .num i, r, n => n = (shI i).length ∧ (-1000000 ≤ i ∧ i ≤ 1000000) ∧ ∃ u, r = shI i ++ u ∧ ∀ c, u.head? = some c → c ∉ DigS
  | .txt l, r, n => n = (escL l).length + 2 ∧ l.length ≤ 60 ∧ (∀ c ∈ l, c < 128) ∧ ∃ u, r = 34 :: (escL l ++ 34 :: u)
  | .bad, r, n => n = 0 ∧ ∃ u, r = 36 :: u
  | .fin, r, n => n = 0 ∧ r = []
/-- behind p stands the token t, from s to e -/
def Lx (cs : List Nat) (p : Nat) (t : Tk) (s e : Nat) : Prop := ∃ g r n, AtR cs p (g ++ r) ∧ (∀ c ∈ g, c = 32 ∨ c = 10) ∧ s = p + g.length ∧ t.At r n ∧ e = s + n
def W_row : Wt := fun ds M k => ∃ (cs w u S : List Nat) (p : Nat), ds = [.str (tx cs), .int (p : Nat), .str (tx S)] ∧ M = [] ∧ cs.length ≤ 100000 ∧ AtR cs p (w ++ u) ∧ (∀ c ∈ w, c ∈ S) ∧ (∀ c, u.head? = some c → c ∉ S) ∧ k (.int ((p + w.length : Nat) : Int)) []
section
variable {P : Program} {w : World} {K : PySem.W.Frag} {mg : Str → Option Value} {base : Heap}
theorem c_row_stop (T : Top K mg w) : Cal P w K mg base 1 "row_stop" (Spc K W_row) [] := cal_of T.d_row_stop fun f fd F => by
  exact spc_ok F sc_row_stop (fun ds M k h => by obtain ⟨cs, w, u, S, p, rfl, _⟩ := h; rfl) fun cdv A outer s H E hr => ⟨_, (pss_cons (ps_while PassesOwn.never (pw_and (pt_cmpR op_lt (pv 1) (pe_callB (len_K (K := K)) (by rfl) T.m_len (by decide +kernel) (pa_cons (pv 0) pa_nil)) (nomark _)) (pw_and1 (pt_cmpR (in_K (K := K)) (pe_ix (ix_K (K := K)) (pv 0) (pv 1) (fun _ _ => rfl)) (pv 2) (by rfl)))).pt
      (pss_one (ps_aug (i := 1) sc_row_stop.nd rfl (Or.inl rfl) pe_int ip_addU)))
      (pss_one (ps_ret (pv 1)))), fun ds M kk hw => by
    obtain ⟨cs, w, u, S, p, rfl, rfl, hl, at_, hw, hu, q⟩ := hw
    have hsz := sizeLine_eq
    have hlen := at_.len
    rw [List.length_append] at hlen
    refine as_start (δ' := [some (.str (tx cs)), some (.int (p : Nat)), some (.str (tx S))]) rfl ?_
    refine as_seq ?_
    refine as_while (fun m δ' M' => ∃ i, i ≤ w.length ∧ m = w.length - i ∧ M' = [] ∧ δ' = [some (.str (tx cs)), some (.int ((p + i : Nat) : Int)), some (.str (tx S))]) w.length ⟨0, by omega, by omega, rfl, rfl⟩ ?_
    rintro m δ' M' ⟨i, hi, rfl, rfl, rfl⟩
    have hg : cs[p + i]? = (w ++ u)[i]? := at_.get i
    walk_at "tg"
    refine dcase (fun c1 => ?_) (fun c1 => ?_)
    · have h1 : p + i < cs.length := by omega
      obtain ⟨c0, h0⟩ : ∃ c0, cs[p + i]? = some c0 := ⟨_, List.getElem?_eq_getElem h1⟩
      have h2 : (w ++ u)[i]? = some c0 := by rw [← hg, h0]
      walk_at "tg"
      refine au_ixS (c := c0) (by omega) (atI_nat h0) ?_
      walk_at "tg"
      refine ain_sign ?_
      walk_at "tg"
      by_cases h3 : i < w.length
      · rw [List.getElem?_append_left h3] at h2
        have h4 := hw c0 (List.mem_of_getElem? h2)
        refine caseT (decide_eq_true h4) ?_
        walk_at "tg"
        exact ⟨w.length - (i + 1), by omega, i + 1, by omega, rfl, rfl, by rw [show ((p + (i + 1) : Nat) : Int) = ((p + i : Nat) : Int) + 1 by omega]; rfl⟩
      · have h5 : i = w.length := by omega
        subst h5
        rw [List.getElem?_append_right (by omega), Nat.sub_self] at h2
        have h4 := hu c0 (by rw [← h2]; cases u <;> rfl)
        refine caseF (decide_eq_false h4) ?_
        walk_at "tg"
        exact q
    · have h5 : i = w.length := by omega
      subst h5
      walk_at "tg"
      exact q⟩
end

theorem esc_cons (c : Nat) (l : List Nat) : escL (c :: l) = escC c ++ escL l := rfl
theorem escL_app (a b : List Nat) : escL (a ++ b) = escL a ++ escL b := List.flatMap_append ..
theorem escC_len (c : Nat) : 1 ≤ (escC c).length ∧ (escC c).length ≤ 2 := by
  unfold escC
  split
  · exact ⟨by simp, by simp⟩
  · exact ⟨by simp, by simp⟩
theorem escL_len : ∀ l : List Nat, l.length ≤ (escL l).length ∧ (escL l).length ≤ 2 * l.length
  | [] => ⟨Nat.le_refl _, Nat.le_refl _⟩
  | c :: l => by
    have h1 := escC_len c
    have h2 := escL_len l
    rw [esc_cons, List.length_append, List.length_cons]
    omega
theorem sg_quot : Str.ofString "\"" = tx [34] := by decide +kernel
theorem sg_back : Str.ofString "\\" = tx [92] := by decide +kernel
theorem sg_eq {a b : Nat} : (tx [a] = tx [b]) ↔ a = b := ⟨fun h => by have := tx_inj h; simpa using this, fun h => by rw [h]⟩
def W_txt : Wt := fun ds M k => ∃ (cs l u : List Nat) (p : Nat), ds = [.str (tx cs), .int (p : Nat)] ∧ M = [] ∧ cs.length ≤ 100000 ∧ AtR cs p (34 :: (escL l ++ 34 :: u)) ∧ l.length ≤ 60 ∧ (∀ c ∈ l, c < 128) ∧ k (tokD (.txt l) p (p + ((escL l).length + 2))) []
section
variable {P : Program} {w : World} {K : PySem.W.Frag} {mg : Str → Option Value} {base : Heap}
theorem c_text_token (T : Top K mg w) : Cal P w K mg base 1 "text_token" (Spc K W_txt) [] := cal_of T.d_text_token fun f fd F => by
  obtain ⟨t_LONGEST_TEXT, g_LONGEST_TEXT⟩ := T.g_LONGEST_TEXT
  exact spc_ok F sc_text_token (fun ds M k h => by obtain ⟨cs, l, u, p, rfl, _⟩ := h; rfl) fun cdv A outer s H E hr => ⟨_, (pss_cons (ps_set (i := 2) sc_text_token.nd rfl (Or.inl rfl) pe_str)
      (pss_cons (ps_set (i := 3) sc_text_token.nd rfl (Or.inl rfl) (pe_op (add_K (K := K)) (pv 1) pe_int))
      (pss_cons (ps_while PassesOwn.never (pw_and (pt_cmpR op_lt (pv 3) (pe_callB (len_K (K := K)) (by rfl) T.m_len (by decide +kernel) (pa_cons (pv 0) pa_nil)) (nomark _)) (pw_and1 (pt_cmpR op_ne (pe_ix (ix_K (K := K)) (pv 0) (pv 3) (fun _ _ => rfl)) pe_str (nomark _)))).pt
      (pss_cons (ps_if (pt_cmpR op_eq (pe_ix (ix_K (K := K)) (pv 0) (pv 3) (fun _ _ => rfl)) pe_str (nomark _))
      (pss_cons (ps_aug (i := 3) sc_text_token.nd rfl (Or.inl rfl) pe_int ip_addU)
      (pss_one (ps_if (pt_cmpR (notin_K (K := K)) (pe_slice (sl_K (K := K)) (pv 0) (po_some (pv 3)) (po_some (pe_op (add_K (K := K)) (pv 3) pe_int))) (pe_tup (pa_cons pe_str (pa_cons pe_str pa_nil))) (by rfl))
      (pss_one (ps_ret (pe_tup (pa_cons pe_str (pa_cons (pv 1) (pa_cons (pv 3) (pa_cons pe_non pa_nil)))))))
      pss_nil)))
      pss_nil)
      (pss_cons (ps_aug (i := 2) sc_text_token.nd rfl (Or.inl rfl) (pe_ix (ix_K (K := K)) (pv 0) (pv 3) (fun _ _ => rfl)) ip_addU)
      (pss_one (ps_aug (i := 3) sc_text_token.nd rfl (Or.inl rfl) pe_int ip_addU)))))
      (pss_cons (ps_if (pw_or (pt_cmpR op_eq (pv 3) (pe_callB (len_K (K := K)) (by rfl) T.m_len (by decide +kernel) (pa_cons (pv 0) pa_nil)) (nomark _)) (pw_or1 (pt_cmpR op_gt (pe_callB (len_K (K := K)) (by rfl) T.m_len (by decide +kernel) (pa_cons (pv 2) pa_nil)) (pe_glob (v := V.int 60) (by rfl) g_LONGEST_TEXT ⟨_, rfl⟩) (nomark _)))).pt
      (pss_one (ps_ret (pe_tup (pa_cons pe_str (pa_cons (pv 1) (pa_cons (pv 3) (pa_cons pe_non pa_nil)))))))
      pss_nil)
      (pss_one (ps_ret (pe_tup (pa_cons pe_str (pa_cons (pv 1) (pa_cons (pe_op (add_K (K := K)) (pv 3) pe_int) (pa_cons (pv 2) pa_nil))))))))))), fun ds M kk hw => by
    obtain ⟨cs, l, u, p, rfl, rfl, hl, at_, hll, ha, q⟩ := hw
    have hsz := sizeLine_eq
    refine as_start (δ' := [some (.str (tx cs)), some (.int (p : Nat)), none, none]) rfl ?_
    walk_at "tg"
    have hlen0 := at_.len
    have st := at_.adv (s := [34])
    refine as_seq ?_
    refine as_while (fun m δ' M' => ∃ (a b : List Nat) (pl : Nat), l = a ++ b ∧ m = b.length ∧ pl = p + 1 + (escL a).length ∧ AtR cs pl (escL b ++ 34 :: u) ∧ M' = [] ∧ δ' = [some (.str (tx cs)), some (.int (p : Nat)), some (.str (tx a)), some (.int (pl : Nat))]) l.length ⟨[], l, p + 1, rfl, rfl, rfl, st, rfl, rfl⟩ ?_
    rintro m δ' M' ⟨a, b, pl, hab, rfl, hpl, hat, rfl, rfl⟩
    have hlen := hat.len
    have hla : a.length + b.length = l.length := by rw [hab, List.length_append]
    walk_at "tg"
    cases b with
    | nil =>
      have hg : cs[pl]? = some 34 := by have := hat.get 0; rw [Nat.add_zero] at this; rw [this]; rfl
      have e9 : escL ([] : List Nat) = [] := rfl
      rw [e9] at hlen
      simp only [List.nil_append, List.length_cons] at hlen
      rw [List.append_nil] at hab
      subst hab
      refine caseT (decide_eq_true (by omega)) ?_
      walk_at "tg"
      refine au_ixS (c := 34) (by omega) (atI_nat hg) ?_
      walk_at "tg"
      refine as_seq ?_
      walk_at "tg"
      refine dcaseR (fun c1 => ?_) (fun c1 => absurd c1 (by omega))
      walk_at "tg"
      refine dcase (fun c2 => absurd c2 (by omega)) (fun c2 => ?_)
      walk_at "tg"
      have e1 : ((pl : Nat) : Int) + 1 = ((p + ((escL l).length + 2) : Nat) : Int) := by omega
      rw [e1]
      exact q
    | cons c b =>
      have hc : c < 128 := ha c (by rw [hab]; simp)
      refine caseT (decide_eq_true (by rw [List.length_append, esc_cons, List.length_append] at hlen; simp at hlen; omega)) ?_
      rw [esc_cons, List.append_assoc] at hat
      by_cases hs : c = 92 ∨ c = 34
      · have ec : escC c = [92, c] := if_pos hs
        rw [ec] at hat
        have g0 : cs[pl]? = some 92 := by have := hat.get 0; rw [Nat.add_zero] at this; rw [this]; rfl
        have g1 : cs[pl + 1]? = some c := by rw [hat.get 1]; rfl
        walk_at "tg"
        refine au_ixS (c := 92) (by omega) (atI_nat g0) ?_
        walk_at "tg"
        refine as_seq ?_
        walk_at "tg"
        refine au_ixS (c := 92) (by omega) (atI_nat g0) ?_
        walk_at "tg"
        have e0 : ((pl : Nat) : Int) + 1 = ((pl + 1 : Nat) : Int) := by omega
        have at1 : AtR cs (pl + 1) (c :: (escL b ++ 34 :: u)) := hat.adv (s := [92])
        have at2 : AtR cs (pl + 2) (escL b ++ 34 :: u) := hat.adv
        rw [e0]
        refine asl_str (by omega) ?_
        rw [cut1 at1]
        walk_at "tg"
        refine anin_tup (ss := [Str.ofString "\"", Str.ofString "\\"]) ?_
        have hin : (c :: (escL b ++ 34 :: u)).take 1 = [c] := rfl
        rw [hin, show decide (tx [c] ∈ [Str.ofString "\"", Str.ofString "\\"]) = true by
          rw [sg_quot, sg_back]
          rcases hs with rfl | rfl <;> decide]
        walk_at "tg"
        refine au_ixS (c := c) (by omega) (atI_nat g1) ?_
        refine Tg.ai_str (by simp; omega) ?_
        walk_at "tg"
        exact ⟨b.length, by simp, a ++ [c], b, pl + 2, by rw [hab]; simp, rfl, by rw [escL_app, List.length_append, show escL [c] = escC c ++ [] from rfl, ec]; simp; omega, at2, rfl, by rw [show ((pl + 2 : Nat) : Int) = ((pl + 1 : Nat) : Int) + 1 by omega]; rfl⟩
      · have ec : escC c = [c] := if_neg hs
        rw [ec] at hat
        have g0 : cs[pl]? = some c := by have := hat.get 0; rw [Nat.add_zero] at this; rw [this]; rfl
        have at2 : AtR cs (pl + 1) (escL b ++ 34 :: u) := hat.adv
        walk_at "tg"
        refine au_ixS (c := c) (by omega) (atI_nat g0) ?_
        walk_at "tg"
        rw [sg_quot]
        refine dcaseN (fun c1 => ?_) (fun c1 => absurd (.inr (sg_eq.mp c1)) hs)
        refine as_seq ?_
        walk_at "tg"
        refine au_ixS (c := c) (by omega) (atI_nat g0) ?_
        walk_at "tg"
        rw [sg_back]
        refine dcase (fun c1 => absurd (.inl (sg_eq.mp c1)) hs) (fun c1 => ?_)
        walk_at "tg"
        refine au_ixS (c := c) (by omega) (atI_nat g0) ?_
        refine Tg.ai_str (by simp; omega) ?_
        walk_at "tg"
        exact ⟨b.length, by simp, a ++ [c], b, pl + 1, by rw [hab]; simp, rfl, by rw [escL_app, List.length_append, show escL [c] = escC c ++ [] from rfl, ec]; simp; omega, at2, rfl, by rw [show ((pl + 1 : Nat) : Int) = ((pl : Nat) : Int) + 1 by omega]; rfl⟩⟩
end

theorem numL_head {n : Nat} : 0 < n → ∃ c r, TL.numL n = c :: r ∧ c ≠ 48 ∧ c ∈ DigS := by
  induction n using Nat.strongRecOn with
  | _ n ih =>
    intro h
    by_cases h1 : n < 10
    · rw [TL.numL_lt h1]
      refine ⟨_, _, rfl, by omega, ?_⟩
      have : n = 1 ∨ n = 2 ∨ n = 3 ∨ n = 4 ∨ n = 5 ∨ n = 6 ∨ n = 7 ∨ n = 8 ∨ n = 9 := by omega
      rcases this with rfl | rfl | rfl | rfl | rfl | rfl | rfl | rfl | rfl <;> decide
    · obtain ⟨c, r, e, hc, hd⟩ := ih (n / 10) (by omega) (by omega)
      rw [TL.numL_step (by omega), e]
      exact ⟨c, r ++ [48 + n % 10], rfl, hc, hd⟩
theorem digS_mem {c : Nat} (h : 48 ≤ c ∧ c ≤ 57) : c ∈ DigS := by
  have : c = 48 ∨ c = 49 ∨ c = 50 ∨ c = 51 ∨ c = 52 ∨ c = 53 ∨ c = 54 ∨ c = 55 ∨ c = 56 ∨ c = 57 := by omega
  rcases this with rfl | rfl | rfl | rfl | rfl | rfl | rfl | rfl | rfl | rfl <;> decide
theorem numL_dig (n : Nat) : ∀ c ∈ TL.numL n, c ∈ DigS := fun c hc => digS_mem (TL.numL_digits n c hc)
theorem shI_nat (n : Nat) : shI (n : Int) = TL.numL n := TL.tl_num n
theorem shI_neg (n : Nat) : shI (-((n + 1 : Nat) : Int)) = 45 :: TL.numL (n + 1) := by
  have e : (Str.ofString (toString (-((n + 1 : Nat) : Int)))).cps.toList = 45 :: (Str.ofString (toString (((n + 1 : Nat)) : Int))).cps.toList := by
    rw [signs_ofString, signs_ofString]
    show ("-" ++ Nat.repr (n + 1)).toList.map Char.toNat = _
    rw [String.toList_append]
    rfl
  unfold shI
  rw [e]
  exact congrArg _ (TL.tl_num (n + 1))
theorem shI_cases (i : Int) : ∃ (sg : List Nat) (n : Nat), shI i = sg ++ TL.numL n ∧ ((sg = [] ∧ i = n) ∨ (sg = [45] ∧ i = -(n : Int) ∧ 0 < n)) := by
  by_cases h : 0 ≤ i
  · obtain ⟨n, rfl⟩ := Int.eq_ofNat_of_zero_le h
    exact ⟨[], n, shI_nat n, .inl ⟨rfl, rfl⟩⟩
  · obtain ⟨n, rfl⟩ : ∃ n : Nat, i = -((n + 1 : Nat) : Int) := ⟨(-i - 1).toNat, by omega⟩
    exact ⟨[45], n + 1, shI_neg n, .inr ⟨rfl, rfl, by omega⟩⟩
theorem shI_read {i : Int} (h : -1000000 ≤ i ∧ i ≤ 1000000) : intText? (tx (shI i)) = some i := by
  have h10 : (10 : Nat) ^ 7 = 10000000 := by decide
  obtain ⟨sg, n, e, ⟨rfl, rfl⟩ | ⟨rfl, rfl, hn⟩⟩ := shI_cases i
  · have hl := TL.numL_len (n := n) (k := 7) (by decide) (by omega)
    have := PySem.intText_digits (x := tx (shI (n : Int))) (by rw [tx_cps, e]; exact TL.numL_digits n) (by rw [tx_cps, e]; exact TL.numL_ne n) (by rw [tx_len, e]; simp; omega)
    rw [this, tx_cps, e]
    show some ((PySem.NumText.digitsVal (TL.numL n) : Nat) : Int) = _
    rw [TL.numL_val]
  · have hl := TL.numL_len (n := n) (k := 7) (by decide) (by omega)
    have := PySem.intText_neg (x := tx (shI (-(n : Int)))) (cs := TL.numL n) (by rw [tx_cps, e]; rfl) (TL.numL_digits n) (TL.numL_ne n) (by rw [tx_len, e]; simp; omega)
    rw [this, TL.numL_val]
theorem num_ascii {i : Int} : (tx (shI i)).cps.all (· < 128) = true := by
  rw [← Array.all_toList, tx_cps, List.all_eq_true]
  intro c hc
  obtain ⟨sg, n, e, h⟩ := shI_cases i
  rw [e] at hc
  rcases List.mem_append.mp hc with hc | hc
  · rcases h with ⟨rfl, _⟩ | ⟨rfl, _⟩
    · cases hc
    · rw [List.mem_singleton.mp hc]; rfl
  · have := TL.numL_digits n c hc
    exact decide_eq_true (by omega)
theorem ac_intS {K : PySem.W.Frag} {M : Mu} {k : D → Mu → Prop} {l : List Nat} {n : Int} (h : intText? (tx l) = some n) (hl : l.length ≤ 1000) (ha : (tx l).cps.all (· < 128) = true) (q : k (.int n) M) : AC K rIntT [.str (tx l)] M k := fun vs G H Q rx s f => by
  obtain ⟨v, r, rfl, r1, rr⟩ := rx.uncons
  unfold Reps at rr
  subst rr
  exact ⟨tx l, n, by rw [rep_str r1], h, by rw [tx_len]; have := sizeLine_eq; omega, ha, f _ M _ G H q s Step.refl rep_of_int⟩
theorem million : shI 1000000 = [49, 48, 48, 48, 48, 48, 48] := by decide +kernel
def W_int : Wt := fun ds M k => ∃ (cs r : List Nat) (p n : Nat) (t : Tk), ds = [.str (tx cs), .int (p : Nat)] ∧ M = [] ∧ cs.length ≤ 100000 ∧ AtR cs p r ∧ ((∃ i, t = .num i) ∨ t = .bad) ∧ t.At r n ∧ k (tokD t p (p + n)) []
theorem sg_minus : Str.ofString "-" = tx [45] := by decide +kernel
theorem sg_zero : Str.ofString "0" = tx [48] := by decide +kernel
theorem dig_S : Tg.tx cst_DIGITS = tx DigS := rfl
section
variable {P : Program} {w : World} {K : PySem.W.Frag} {mg : Str → Option Value} {base : Heap}
theorem c_integer_token (T : Top K mg w) : Cal P w K mg base 2 "integer_token" (Spc K W_int) [] := cal_of T.d_integer_token fun f fd F => by
  obtain ⟨t_DIGITS, g_DIGITS⟩ := T.g_DIGITS; obtain ⟨t_LARGEST, g_LARGEST⟩ := T.g_LARGEST
  have c_row_stop := c_row_stop (P := P) (w := w) (base := base) T
  exact spc_ok F sc_integer_token (fun ds M k h => by obtain ⟨cs, r, p, n, t, rfl, _⟩ := h; rfl) fun cdv A outer s H E hr => ⟨_, (pss_cons (ps_set (i := 2) sc_integer_token.nd rfl (Or.inl rfl) (pe_ifExp (pt_cmpR op_eq (pe_ix (ix_K (K := K)) (pv 0) (pv 1) (fun _ _ => rfl)) pe_str (nomark _)) (pe_op (add_K (K := K)) (pv 1) pe_int) (pv 1)))
      (pss_cons (ps_set (i := 3) sc_integer_token.nd rfl (Or.inl rfl) (pe_c c_row_stop hr (by first | decide | omega) (by rfl) (pa_cons (pv 0) (pa_cons (pv 2) (pa_cons (pe_glob (v := V.str (tx cst_DIGITS)) (by rfl) g_DIGITS ⟨_, rfl⟩) pa_nil)))))
      (pss_cons (ps_if (pw_or (pt_cmpR op_eq (pe_slice (sl_K (K := K)) (pv 0) (po_some (pv 1)) (po_some (pv 3))) pe_str (nomark _)) (pw_or1 (pw_and (pt_chain op_lt op_le (pv 2) (pv 3) (pe_op (add_K (K := K)) (pv 2) (pe_callB (len_K (K := K)) (by rfl) T.m_len (by decide +kernel) (pa_cons (pe_callTy call_strU (by rfl) T.m_str (by decide +kernel) (pa_cons (pe_glob (v := V.int 1000000) (by rfl) g_LARGEST ⟨_, rfl⟩) pa_nil)) pa_nil)))) (pw_and1 (pt_cmpR op_ne (pe_ix (ix_K (K := K)) (pv 0) (pv 2) (fun _ _ => rfl)) pe_str (nomark _)))).pt)).pt
      (pss_cons (ps_set (i := 4) sc_integer_token.nd rfl (Or.inl rfl) (pe_callTy (cr_intT T.dig) (by rfl) T.m_int (by decide +kernel) (pa_cons (pe_slice (sl_K (K := K)) (pv 0) (po_some (pv 1)) (po_some (pv 3))) pa_nil)))
      (pss_one (ps_if (pt_chain op_le op_le (pe_un un_neg (pe_glob (v := V.int 1000000) (by rfl) g_LARGEST ⟨_, rfl⟩)) (pv 4) (pe_glob (v := V.int 1000000) (by rfl) g_LARGEST ⟨_, rfl⟩))
      (pss_one (ps_ret (pe_tup (pa_cons pe_str (pa_cons (pv 1) (pa_cons (pv 3) (pa_cons (pv 4) pa_nil)))))))
      pss_nil)))
      pss_nil)
      (pss_one (ps_ret (pe_tup (pa_cons pe_str (pa_cons (pv 1) (pa_cons (pv 3) (pa_cons pe_non pa_nil)))))))))), fun ds M kk hw => by
    obtain ⟨cs, r, p, nn, t, rfl, rfl, hl, at_, ht, hat, q⟩ := hw
    have hsz := sizeLine_eq
    have hlen := at_.len
    refine as_start (δ' := [some (.str (tx cs)), some (.int (p : Nat)), none, none, none]) rfl ?_
    rcases ht with ⟨i, rfl⟩ | rfl
    · obtain ⟨rfl, hi, u, rfl, hu⟩ := hat
      have hrd := shI_read hi
      obtain ⟨sg, n, e, hs⟩ := shI_cases i
      have h10 : (10 : Nat) ^ 7 = 10000000 := by decide
      have hn7 := TL.numL_len (n := n) (k := 7) (by decide) (by rcases hs with ⟨_, h⟩ | ⟨_, h, _⟩ <;> omega)
      have hne : 1 ≤ (TL.numL n).length := by
        cases h : TL.numL n with
        | nil => exact absurd h (TL.numL_ne n)
        | cons a b => simp
      have hrow : AtR cs (p + sg.length) (TL.numL n ++ u) := (show AtR cs p (sg ++ (TL.numL n ++ u)) by rw [← List.append_assoc, ← e]; exact at_).adv
      have hlen2 : (shI i).length = sg.length + (TL.numL n).length := by rw [e, List.length_append]
      have hsg : sg.length ≤ 1 := by rcases hs with ⟨h, _⟩ | ⟨h, _⟩ <;> rw [h] <;> simp
      rw [List.length_append] at hlen
      refine as_cut (fun δ' M' => δ' = [some (.str (tx cs)), some (.int (p : Nat)), some (.int ((p + sg.length : Nat) : Int)), none, none] ∧ M' = []) ?_ ?_
      · rcases hs with ⟨rfl, rfl⟩ | ⟨rfl, rfl, hpos⟩
        · obtain ⟨c, rr, hc, hd⟩ : ∃ c rr, TL.numL n = c :: rr ∧ c ∈ DigS := by
            cases h : TL.numL n with
            | nil => exact absurd h (TL.numL_ne n)
            | cons a b => exact ⟨a, b, rfl, numL_dig n a (by rw [h]; simp)⟩
          have g0 : cs[p]? = some c := by have := at_.get 0; rw [Nat.add_zero] at this; rw [this, e, hc]; rfl
          have h45 : ¬ tx [c] = tx [45] := fun z => by
            have : c = 45 := sg_eq.mp z
            subst this
            exact absurd hd (by decide)
          walk_at "tg"
          refine au_ixS (c := c) (by omega) (atI_nat g0) ?_
          walk_at "tg"
          rw [sg_minus]
          refine dcase (fun z => absurd z h45) (fun z => ?_)
          walk_at "tg"
          exact ⟨rfl, rfl⟩
        · have g0 : cs[p]? = some 45 := by have := at_.get 0; rw [Nat.add_zero] at this; rw [this, e]; rfl
          walk_at "tg"
          refine au_ixS (c := 45) (by omega) (atI_nat g0) ?_
          walk_at "tg"
          exact ⟨rfl, rfl⟩
      · rintro δ' M' ⟨rfl, rfl⟩
        walk_at "tg"
        refine ⟨[], [], fun d M => d = .int ((p + (shI i).length : Nat) : Int) ∧ M = [], rfl, ⟨cs, TL.numL n, u, DigS, p + sg.length, rfl, rfl, hl, hrow, numL_dig n, hu, by rw [hlen2, ← Nat.add_assoc]; exact ⟨rfl, rfl⟩⟩, ?_⟩
        rintro _ _ ⟨rfl, rfl⟩
        refine as_cut (fun δ' M' => False) ?_ (fun _ _ h => h.elim)
        walk_at "tg"
        refine asl_str (by omega) ?_
        rw [cutW at_]
        walk_at "tg"
        rw [sg_zero]
        refine dcaseR (fun c1 => ?_) (fun c1 => ?_)
        have hpos : 0 < n := by
          rcases Nat.eq_zero_or_pos n with z | z
          · subst z
            have e0 : i = 0 := by rcases hs with ⟨_, h⟩ | ⟨_, _, h⟩ <;> omega
            subst e0
            exact absurd (by rw [show shI 0 = [48] from by decide +kernel]) c1
          · exact z
        obtain ⟨c, rr, hc, hc48, _⟩ := numL_head hpos
        have g1 : cs[p + sg.length]? = some c := by have := hrow.get 0; rw [Nat.add_zero] at this; rw [this, hc]; rfl
        walk_at "tg"
        refine dcase (fun c2 => ?_) (fun c2 => absurd (by omega) c2)
        walk_at "tg"
        refine ac_strI (by decide +kernel) ?_
        rw [million]
        walk_at "tg"
        refine ac_lenS (by rw [hsz]; exact (by decide : 7 ≤ 16777216)) ?_
        have h7 : ([49, 48, 48, 48, 48, 48, 48] : List Nat).length = 7 := rfl
        rw [h7]
        walk_at "tg"
        refine dcase (fun c3 => ?_) (fun c3 => absurd (by omega) c3)
        walk_at "tg"
        refine au_ixS (c := c) (by omega) (atI_nat g1) ?_
        walk_at "tg"
        refine dcaseN (fun c4 => ?_) (fun c4 => absurd (sg_eq.mp c4) hc48)
        all_goals
          walk_at "tg"
          refine asl_str (by omega) ?_
          rw [cutW at_]
          walk_at "tg"
          refine ac_intS hrd (by omega) num_ascii ?_
          walk_at "tg"
          refine dcase (fun c5 => ?_) (fun c5 => absurd (by omega) c5)
          walk_at "tg"
          refine dcase (fun c6 => ?_) (fun c6 => absurd (by omega) c6)
          walk_at "tg"
          exact q
    · obtain ⟨rfl, u, rfl⟩ := hat
      have g0 : cs[p]? = some 36 := by have := at_.get 0; rw [Nat.add_zero] at this; rw [this]; rfl
      rw [List.length_cons] at hlen
      walk_at "tg"
      refine au_ixS (c := 36) (by omega) (atI_nat g0) ?_
      walk_at "tg"
      refine ⟨[], [], fun d M => d = .int ((p + ([] : List Nat).length : Nat) : Int) ∧ M = [], rfl, ⟨cs, [], 36 :: u, DigS, p, rfl, rfl, hl, at_, by simp, fun c hc => by
        cases hc
        decide, rfl, rfl⟩, ?_⟩
      rintro _ _ ⟨rfl, rfl⟩
      refine as_seq ?_
      walk_at "tg"
      refine asl_str (by omega) ?_
      rw [cutW (s := []) at_]
      walk_at "tg"
      refine dcase (fun c2 => absurd c2 (by simp)) (fun c2 => ?_)
      walk_at "tg"
      exact q⟩
end

def W_tok : Wt := fun ds M k => ∃ (cs : List Nat) (p s e : Nat) (t : Tk), ds = [.str (tx cs), .int (p : Nat)] ∧ M = [] ∧ cs.length ≤ 100000 ∧ Lx cs p t s e ∧ k (tokD t s e) []
theorem letS_ge {c : Nat} (h : c ∈ LetS) : 97 ≤ c ∧ c ≤ 122 := by
  have : ∀ c ∈ LetS, 97 ≤ c ∧ c ≤ 122 := by decide
  exact this c h
theorem digS_ge {c : Nat} (h : c ∈ DigS) : 48 ≤ c ∧ c ≤ 57 := by
  have : ∀ c ∈ DigS, 48 ≤ c ∧ c ≤ 57 := by decide
  exact this c h
/-- the first sign of a number -/
theorem shI_head (i : Int) (u : List Nat) : ∃ c r, shI i ++ u = c :: r ∧ (c = 45 ∨ (48 ≤ c ∧ c ≤ 57)) := by
  obtain ⟨sg, n, e, h⟩ := shI_cases i
  rcases h with ⟨rfl, _⟩ | ⟨rfl, _⟩
  · cases hn : TL.numL n with
    | nil => exact absurd hn (TL.numL_ne n)
    | cons a b =>
      refine ⟨a, b ++ u, by rw [e, hn]; rfl, .inr ?_⟩
      exact TL.numL_digits n a (by rw [hn]; simp)
  · exact ⟨45, TL.numL n ++ u, by rw [e]; rfl, .inl rfl⟩
/-- a token does not begin with a gap -/
theorem Tk.At.head {t : Tk} {r : List Nat} {n : Nat} (h : t.At r n) : ∀ c, r.head? = some c → c ≠ 32 ∧ c ≠ 10 := by
  intro c hc
  cases t with
  | op => obtain ⟨_, u, rfl⟩ := h; cases hc; decide
  | cl => obtain ⟨_, u, rfl⟩ := h; cases hc; decide
  | lt w =>
    obtain ⟨_, hne, hw, u, rfl, _⟩ := h
    cases w with
    | nil => exact absurd rfl hne
    | cons a b =>
      have := letS_ge (hw a (by simp))
      have e : a = c := by simpa using hc
      omega
  | num i =>
    obtain ⟨_, _, u, rfl, _⟩ := h
    obtain ⟨a, b, e, ha⟩ := shI_head i u
    rw [e] at hc
    cases hc
    omega
  | txt l => obtain ⟨_, _, _, u, rfl⟩ := h; cases hc; decide
  | bad => obtain ⟨_, u, rfl⟩ := h; cases hc; decide
  | fin => obtain ⟨_, rfl⟩ := h; cases hc
theorem sg_paren : Str.ofString "()" = tx [40, 41] := by decide +kernel
theorem sg_op : Str.ofString "(" = tx [40] := by decide +kernel
theorem sg_cl : Str.ofString ")" = tx [41] := by decide +kernel
theorem sg_none : Str.ofString "" = tx [] := by decide +kernel
theorem gap_in {l : List Nat} : decide (tx (l.take 1) ∈ [Str.ofString " ", Str.ofString "\n"]) = decide (l.head? = some 32 ∨ l.head? = some 10) := by
  rw [show Str.ofString " " = tx [32] from by decide +kernel, show Str.ofString "\n" = tx [10] from by decide +kernel]
  cases l with
  | nil => decide
  | cons a l =>
    have e1 : (tx ((a :: l).take 1) ∈ [tx [32], tx [10]]) ↔ (a = 32 ∨ a = 10) := by
      show tx [a] ∈ [tx [32], tx [10]] ↔ _
      rw [List.mem_cons, List.mem_singleton, sg_eq, sg_eq]
    have e2 : ((a :: l).head? = some 32 ∨ (a :: l).head? = some 10) ↔ (a = 32 ∨ a = 10) := by simp
    exact decide_eq_decide.mpr (e1.trans e2.symm)
section
variable {P : Program} {w : World} {K : PySem.W.Frag} {mg : Str → Option Value} {base : Heap}
theorem c_expression_token (T : Top K mg w) : Cal P w K mg base 3 "expression_token" (Spc K W_tok) [] := cal_of T.d_expression_token fun f fd F => by
  obtain ⟨t_LETTERS, g_LETTERS⟩ := T.g_LETTERS
  have c_row_stop := c_row_stop (P := P) (w := w) (base := base) T
  have c_text_token := c_text_token (P := P) (w := w) (base := base) T
  have c_integer_token := c_integer_token (P := P) (w := w) (base := base) T
  exact spc_ok F sc_expression_token (fun ds M k h => by obtain ⟨cs, p, s, e, t, rfl, _⟩ := h; rfl) fun cdv A outer s H E hr => ⟨_, (pss_cons (ps_while PassesOwn.never (pt_cmpR (in_K (K := K)) (pe_slice (sl_K (K := K)) (pv 0) (po_some (pv 1)) (po_some (pe_op (add_K (K := K)) (pv 1) pe_int))) (pe_tup (pa_cons pe_str (pa_cons pe_str pa_nil))) (by rfl))
      (pss_one (ps_aug (i := 1) sc_expression_token.nd rfl (Or.inl rfl) pe_int ip_addU)))
      (pss_cons (ps_set (i := 2) sc_expression_token.nd rfl (Or.inl rfl) (pe_slice (sl_K (K := K)) (pv 0) (po_some (pv 1)) (po_some (pe_op (add_K (K := K)) (pv 1) pe_int))))
      (pss_cons (ps_if (pt_cmpR op_eq (pv 2) pe_str (nomark _))
      (pss_one (ps_ret (pe_tup (pa_cons pe_str (pa_cons (pv 1) (pa_cons (pv 1) (pa_cons pe_non pa_nil)))))))
      pss_nil)
      (pss_cons (ps_if (pt_cmpR (in_K (K := K)) (pv 2) pe_str (by rfl))
      (pss_one (ps_ret (pe_tup (pa_cons (pv 2) (pa_cons (pv 1) (pa_cons (pe_op (add_K (K := K)) (pv 1) pe_int) (pa_cons pe_non pa_nil)))))))
      pss_nil)
      (pss_cons (ps_if (pt_cmpR op_eq (pv 2) pe_str (nomark _))
      (pss_one (ps_ret (pe_c c_text_token hr (by first | decide | omega) (by rfl) (pa_cons (pv 0) (pa_cons (pv 1) pa_nil)))))
      pss_nil)
      (pss_cons (ps_set (i := 3) sc_expression_token.nd rfl (Or.inl rfl) (pe_c c_row_stop hr (by first | decide | omega) (by rfl) (pa_cons (pv 0) (pa_cons (pv 1) (pa_cons (pe_glob (v := V.str (tx cst_LETTERS)) (by rfl) g_LETTERS ⟨_, rfl⟩) pa_nil)))))
      (pss_cons (ps_if (pt_cmpR op_gt (pv 3) (pv 1) (nomark _))
      (pss_one (ps_ret (pe_tup (pa_cons pe_str (pa_cons (pv 1) (pa_cons (pv 3) (pa_cons (pe_slice (sl_K (K := K)) (pv 0) (po_some (pv 1)) (po_some (pv 3))) pa_nil)))))))
      pss_nil)
      (pss_one (ps_ret (pe_c c_integer_token hr (by first | decide | omega) (by rfl) (pa_cons (pv 0) (pa_cons (pv 1) pa_nil)))))))))))), fun ds M kk hw => by
    obtain ⟨cs, p, s, e, t, rfl, rfl, hl, ⟨g, r, n, at_, hg, rfl, hat, rfl⟩, q⟩ := hw
    have hsz := sizeLine_eq
    have hlen := at_.len
    have hhd := hat.head
    rw [List.length_append] at hlen
    refine as_start (δ' := [some (.str (tx cs)), some (.int (p : Nat)), none, none]) rfl ?_
    refine as_seq ?_
    refine as_while (fun m δ' M' => ∃ i, i ≤ g.length ∧ m = g.length - i ∧ M' = [] ∧ δ' = [some (.str (tx cs)), some (.int ((p + i : Nat) : Int)), none, none]) g.length ⟨0, by omega, by omega, rfl, rfl⟩ ?_
    rintro m δ' M' ⟨i, hi, rfl, rfl, rfl⟩
    have at1 : AtR cs (p + i) (g.drop i ++ r) := by
      have := (show AtR cs p (g.take i ++ (g.drop i ++ r)) by rw [← List.append_assoc, List.take_append_drop]; exact at_).adv
      rwa [List.length_take, Nat.min_eq_left hi] at this
    walk_at "tg"
    refine asl_str (by omega) ?_
    rw [cut1 at1]
    walk_at "tg"
    refine ain_tup (ss := [Str.ofString " ", Str.ofString "\n"]) ?_
    rw [gap_in]
    walk_at "tg"
    by_cases hi2 : i < g.length
    · obtain ⟨c, hcc⟩ : ∃ c, c = g[i] := ⟨_, rfl⟩
      have hd : (g.drop i ++ r).head? = some c := by
        rw [List.drop_eq_getElem_cons hi2, hcc]
        rfl
      have := hg c (by rw [hcc]; exact List.getElem_mem hi2)
      refine caseT (decide_eq_true (by rw [hd]; rcases this with rfl | rfl <;> simp)) ?_
      walk_at "tg"
      exact ⟨g.length - (i + 1), by omega, i + 1, by omega, rfl, rfl, by rw [show ((p + (i + 1) : Nat) : Int) = ((p + i : Nat) : Int) + 1 by omega]; rfl⟩
    · have hi3 : i = g.length := by omega
      subst hi3
      rw [List.drop_length, List.nil_append] at at1 ⊢
      have hno : ¬ (r.head? = some 32 ∨ r.head? = some 10) := fun z => by
        rcases z with z | z
        · exact (hhd _ z).1 rfl
        · exact (hhd _ z).2 rfl
      refine caseF (decide_eq_false hno) ?_
      walk_at "tg"
      refine asl_str (by omega) ?_
      rw [cut1 at1]
      have hq : ∀ c, c ∈ LetS ∨ c = 45 ∨ (48 ≤ c ∧ c ≤ 57) ∨ c = 36 → c ≠ 40 ∧ c ≠ 41 ∧ c ≠ 34 := fun c h => by
        rcases h with h | h | h | h
        · have := letS_ge h; omega
        · omega
        · omega
        · omega
      cases t with
      | fin =>
        obtain ⟨rfl, rfl⟩ := hat
        refine as_seq ?_
        walk_at "tg"
        exact q
      | op =>
        obtain ⟨rfl, u, rfl⟩ := hat
        have e1 : (40 :: u).take 1 = [40] := rfl
        rw [e1]
        refine as_seq ?_
        walk_at "tg"
        refine as_seq ?_
        walk_at "tg"
        rw [sg_paren]
        refine ain_sign ?_
        walk_at "tg"
        exact q
      | cl =>
        obtain ⟨rfl, u, rfl⟩ := hat
        have e1 : (41 :: u).take 1 = [41] := rfl
        rw [e1]
        refine as_seq ?_
        walk_at "tg"
        refine as_seq ?_
        walk_at "tg"
        rw [sg_paren]
        refine ain_sign ?_
        walk_at "tg"
        exact q
      | txt l =>
        obtain ⟨rfl, h60, hasc, u, rfl⟩ := hat
        have e1 : (34 :: (escL l ++ 34 :: u)).take 1 = [34] := rfl
        rw [e1]
        refine as_seq ?_
        walk_at "tg"
        refine as_seq ?_
        walk_at "tg"
        rw [sg_paren]
        refine ain_sign ?_
        walk_at "tg"
        refine as_seq ?_
        walk_at "tg"
        refine ⟨[], [], fun d M => d = tokD (.txt l) (p + g.length) (p + g.length + ((escL l).length + 2)) ∧ M = [], rfl, ⟨cs, l, u, p + g.length, rfl, rfl, hl, at1, h60, hasc, rfl, rfl⟩, ?_⟩
        rintro _ _ ⟨rfl, rfl⟩
        exact q
      | lt w =>
        obtain ⟨rfl, hne, hw, u, rfl, hu⟩ := hat
        obtain ⟨c, w', rfl⟩ : ∃ c w', w = c :: w' := by
          cases w with
          | nil => exact absurd rfl hne
          | cons a b => exact ⟨a, b, rfl⟩
        obtain ⟨q1, q2, q3⟩ := hq c (.inl (hw c (by simp)))
        have e1 : (c :: w' ++ u).take 1 = [c] := rfl
        rw [e1]
        refine as_seq ?_
        walk_at "tg"
        refine as_seq ?_
        walk_at "tg"
        rw [sg_paren]
        refine ain_sign ?_
        walk_at "tg"
        refine caseF (decide_eq_false (by simp [q1, q2])) ?_
        walk_at "tg"
        refine as_seq ?_
        walk_at "tg"
        rw [sg_quot]
        refine dcase (fun z => absurd (sg_eq.mp z) q3) (fun _ => ?_)
        walk_at "tg"
        refine ⟨[], [], fun d M => d = .int ((p + g.length + (c :: w').length : Nat) : Int) ∧ M = [], rfl, ⟨cs, c :: w', u, LetS, p + g.length, rfl, rfl, hl, at1, hw, hu, rfl, rfl⟩, ?_⟩
        rintro _ _ ⟨rfl, rfl⟩
        refine as_seq ?_
        walk_at "tg"
        refine dcase (fun z => ?_) (fun z => absurd (by simp; omega) z)
        walk_at "tg"
        refine asl_str (by omega) ?_
        rw [cutW at1]
        walk_at "tg"
        exact q
      | num i =>
        obtain ⟨c, r', e0, hc⟩ : ∃ c r', r = c :: r' ∧ (c = 45 ∨ (48 ≤ c ∧ c ≤ 57)) := by
          obtain ⟨_, _, u, rfl, _⟩ := hat
          exact shI_head i u
        obtain ⟨q1, q2, q3⟩ := hq c (by omega)
        have q4 : c ∉ LetS := fun z => by have := letS_ge z; omega
        have e1 : r.take 1 = [c] := by rw [e0]; rfl
        rw [e1]
        refine as_seq ?_
        walk_at "tg"
        refine as_seq ?_
        walk_at "tg"
        rw [sg_paren]
        refine ain_sign ?_
        walk_at "tg"
        refine caseF (decide_eq_false (by simp [q1, q2])) ?_
        walk_at "tg"
        refine as_seq ?_
        walk_at "tg"
        rw [sg_quot]
        refine dcase (fun z => absurd (sg_eq.mp z) q3) (fun _ => ?_)
        walk_at "tg"
        refine ⟨[], [], fun d M => d = .int ((p + g.length + ([] : List Nat).length : Nat) : Int) ∧ M = [], rfl, ⟨cs, [], r, LetS, p + g.length, rfl, rfl, hl, at1, by simp, fun a ha => by rw [e0] at ha; cases ha; exact q4, rfl, rfl⟩, ?_⟩
        rintro _ _ ⟨rfl, rfl⟩
        refine as_seq ?_
        walk_at "tg"
        refine dcase (fun z => absurd z (by simp)) (fun z => ?_)
        walk_at "tg"
        refine ⟨[], [], fun d M => d = tokD (.num i) (p + g.length) (p + g.length + n) ∧ M = [], rfl, ⟨cs, r, p + g.length, n, .num i, rfl, rfl, hl, at1, .inl ⟨i, rfl⟩, hat, rfl, rfl⟩, ?_⟩
        rintro _ _ ⟨rfl, rfl⟩
        exact q
      | bad =>
        obtain ⟨c, r', e0, hc⟩ : ∃ c r', r = c :: r' ∧ c = 36 := by
          obtain ⟨_, u, rfl⟩ := hat
          exact ⟨36, u, rfl, rfl⟩
        obtain ⟨q1, q2, q3⟩ := hq c (by omega)
        have q4 : c ∉ LetS := fun z => by have := letS_ge z; omega
        have e1 : r.take 1 = [c] := by rw [e0]; rfl
        rw [e1]
        refine as_seq ?_
        walk_at "tg"
        refine as_seq ?_
        walk_at "tg"
        rw [sg_paren]
        refine ain_sign ?_
        walk_at "tg"
        refine caseF (decide_eq_false (by simp [q1, q2])) ?_
        walk_at "tg"
        refine as_seq ?_
        walk_at "tg"
        rw [sg_quot]
        refine dcase (fun z => absurd (sg_eq.mp z) q3) (fun _ => ?_)
        walk_at "tg"
        refine ⟨[], [], fun d M => d = .int ((p + g.length + ([] : List Nat).length : Nat) : Int) ∧ M = [], rfl, ⟨cs, [], r, LetS, p + g.length, rfl, rfl, hl, at1, by simp, fun a ha => by rw [e0] at ha; cases ha; exact q4, rfl, rfl⟩, ?_⟩
        rintro _ _ ⟨rfl, rfl⟩
        refine as_seq ?_
        walk_at "tg"
        refine dcase (fun z => absurd z (by simp)) (fun z => ?_)
        walk_at "tg"
        refine ⟨[], [], fun d M => d = tokD .bad (p + g.length) (p + g.length + n) ∧ M = [], rfl, ⟨cs, r, p + g.length, n, .bad, rfl, rfl, hl, at1, .inr rfl, hat, rfl, rfl⟩, ?_⟩
        rintro _ _ ⟨rfl, rfl⟩
        exact q⟩
end

/-! ### the reader -/
def RdO (C dx : Addr) (cs : List Nat) (t : Tk) (s e m : Nat) : MO := .ins C dx [("_text", .str (tx cs)), ("_token", tokD t s e), ("_many", .int (m : Nat))]
abbrev posF (n : Nat) : List (Str × D) := [("position", .int (n : Nat))]
section
variable {K : PySem.W.Frag} {mg : Str → Option Value} {δ : DS} {M R : Mu} {k : D → Mu → Prop} {A : AEnds} {a C dx : Addr} {cs : List Nat} {t : Tk} {s e m : Nat}
theorem ae_text (kC : Cl_ExpressionReader K mg C) (h : δ[0]? = some (some (.ref a))) (q : k (.str (tx cs)) ((a, RdO C dx cs t s e m) :: R)) : AE K (tFld K (tVar 0) "_text") δ ((a, RdO C dx cs t s e m) :: R) k :=
  ae_fld (ae_var h ⟨a, C, dx, _, .str (tx cs), [], R, rfl, rfl, kC.cl, kC.n__text, rfl, q⟩)
theorem ae_token (kC : Cl_ExpressionReader K mg C) (h : δ[0]? = some (some (.ref a))) (q : k (tokD t s e) ((a, RdO C dx cs t s e m) :: R)) : AE K (tFld K (tVar 0) "_token") δ ((a, RdO C dx cs t s e m) :: R) k :=
  ae_fld (ae_var h ⟨a, C, dx, _, tokD t s e, [], R, rfl, rfl, kC.cl, kC.n__token, rfl, q⟩)
theorem ae_many (kC : Cl_ExpressionReader K mg C) (h : δ[0]? = some (some (.ref a))) (q : k (.int (m : Nat)) ((a, RdO C dx cs t s e m) :: R)) : AE K (tFld K (tVar 0) "_many") δ ((a, RdO C dx cs t s e m) :: R) k :=
  ae_fld (ae_var h ⟨a, C, dx, _, .int (m : Nat), [], R, rfl, rfl, kC.cl, kC.n__many, rfl, q⟩)
theorem as_many (kC : Cl_ExpressionReader K mg C) (h : δ[0]? = some (some (.ref a))) (q : A.nx δ ((a, RdO C dx cs t s e (m + 1)) :: R)) : AS K (sFldAug K (tVar 0) (tC (.int 1)) rAdd "_many") δ ((a, RdO C dx cs t s e m) :: R) A :=
  as_sfldaug (ae_var h ⟨a, C, dx, _, m, rfl, ⟨[], R, rfl⟩, kC.cl, kC.n__many, rfl, ae_int ⟨1, _, [], R, rfl, rfl, by show 3 < 1000; decide, q⟩⟩)
end
def W_takX (C : Addr) : WtX := fun ds M k kx => ∃ (a dx : Addr) (cs : List Nat) (t : Tk) (s e m : Nat) (z : Str), ds = [.ref a, .str z] ∧ M = [(a, RdO C dx cs t s e m)] ∧ cs.length ≤ 100000 ∧
  ((z = t.sort ∧ ∃ t2 s2 e2, Lx cs e t2 s2 e2 ∧ k t.val [(a, RdO C dx cs t2 s2 e2 m)]) ∨ (z ≠ t.sort ∧ ∀ M', kx (posF s) M'))
section
variable {P : Program} {w : World} {K : PySem.W.Frag} {mg : Str → Option Value} {base : Heap} {C Ce : Addr}
theorem ok_init_BadExpression {C fI : Addr} {fd : FuncData} (e : ErrT_BadExpression K mg C) (F : Fun K "__init__" "BadExpression.__init__" s_BadExpression_init fI fd) : FnOk P w K mg base CX0 1 fI fd ["self", "position"] (spIni1 K C "position") := by
  refine F.ok sc_BadExpression_init (fun vs H Q E h => ?_) (fun cdv A outer s H vs Q E hr h => ?_)
  · obtain ⟨a, y, rfl, _⟩ := h
    rfl
  · obtain ⟨a, y, rfl, ha, q⟩ := h
    refine ⟨_, pss_one (ps_ost (pv 0) (pv 1)), ?_⟩
    exact ⟨y, rfl, .ref a, rfl, a, C, rfl, e.o, e.n1, .inl ⟨ha, fun dx hdx hne => q dx hdx hne⟩⟩
theorem x_take (kC : Cl_ExpressionReader K mg C) (T : Top K mg w) (e_BadExpression : ErrT_BadExpression K mg Ce) : MetX P w K mg base 4 C "_take" (SpcX K Ce (W_takX C)) := metX_of kC.cl kC.d__take fun f fd F => by
  obtain ⟨fI, fdI, iA_BadExpression, iT_BadExpression, FI, iB_BadExpression⟩ := e_BadExpression.i
  have iF_BadExpression := ok_init_BadExpression (P := P) (w := w) (base := base) e_BadExpression FI
  have c_expression_token := c_expression_token (P := P) (w := w) (base := base) T
  exact spc_okX F sc_ExpressionReader__take (fun ds M k kx h => by obtain ⟨a, dx, cs, t, s, e, m, z, rfl, _⟩ := h; rfl) fun cdv A outer s H E hr => ⟨_, (pss_cons (ps_asg (fld_K (K := K) (pv 0)) (gtup_K (K := K) (n := 4) rfl (pgs_cons (pg_name (i := 2) sc_ExpressionReader__take.nd rfl (Or.inl rfl)) (pgs_cons (pg_name (i := 3) sc_ExpressionReader__take.nd rfl (Or.inl rfl)) (pgs_cons (pg_name (i := 4) sc_ExpressionReader__take.nd rfl (Or.inl rfl)) (pgs_cons (pg_name (i := 5) sc_ExpressionReader__take.nd rfl (Or.inl rfl)) pgs_nil))))))
      (pss_cons (ps_if (pt_cmpR op_ne (pv 2) (pv 1) (nomark _))
      (pss_one (ps_raise1 rfl (takes_of rfl rfl rfl rfl) e_BadExpression.o iA_BadExpression iT_BadExpression iF_BadExpression (hr.mono (by first | decide | omega)) iB_BadExpression pass0 (by rfl) e_BadExpression.m (pa_cons (pv 3) pa_nil)))
      pss_nil)
      (pss_cons (sfld_K (K := K) (pv 0) (pe_c c_expression_token hr (by first | decide | omega) (by rfl) (pa_cons (fld_K (K := K) (pv 0)) (pa_cons (pv 4) pa_nil))))
      (pss_one (ps_ret (pv 5)))))), fun ds M kk kx hw => by
    obtain ⟨a, dx, cs, t, s, e, m, z, rfl, rfl, hl, hw⟩ := hw
    have hsz := sizeLine_eq
    refine as_start (δ' := [some (.ref a), some (.str z), none, none, none, none]) rfl ?_
    walk_at "tg"
    refine ae_token kC rfl ?_
    unfold tokD
    walk_at "tg"
    refine as_seq ?_
    walk_at "tg"
    rcases hw with ⟨rfl, t2, s2, e2, hx, q⟩ | ⟨hne, qx⟩
    · refine caseF (by simp) ?_
      walk_at "tg"
      refine as_seq ?_
      refine as_sfld ?_
      walk_at "tg"
      refine ae_text kC rfl ?_
      walk_at "tg"
      refine ⟨[], _, fun d M => d = tokD t2 s2 e2 ∧ M = [], rfl, ⟨cs, e, s2, e2, t2, rfl, rfl, hl, hx, rfl, rfl⟩, ?_⟩
      rintro _ _ ⟨rfl, rfl⟩
      refine ae_var rfl ⟨a, C, dx, _, [], [], rfl, rfl, kC.cl, kC.n__token, by show 3 < 1000; decide, ?_⟩
      walk_at "tg"
      exact q
    · refine caseT (by rw [decide_eq_false (fun z => hne z.symm)]; rfl) ?_
      refine as_raise1 rfl ?_
      walk_at "tg"
      exact qx _⟩
end

/-! ### the forms -/
inductive Nd where
  | one | name | text | sev
def Nd.s : Nd → Str
  | .one => tx [111, 110, 101]
  | .name => tx [110, 97, 109, 101]
  | .text => tx [116, 101, 120, 116]
  | .sev => tx [115, 101, 118, 101, 114, 97, 108]
def frm : List (List Nat × List Nd) := [([116, 101, 114, 109], [.text, .sev]),
  ([111, 119, 110], [.name]),
  ([99, 104, 105, 108, 100], [.name, .name]),
  ([98, 101, 102, 111, 114, 101], [.name, .one]),
  ([104, 97, 115], [.name]),
  ([99, 111, 117, 110, 116], [.name]),
  ([115, 112, 101, 108, 108, 105, 110, 103], [.name]),
  ([109, 101, 97, 110, 116], [.name, .name]),
  ([108, 97, 115, 116], [.name, .name, .one]),
  ([115, 117, 109], [.name, .name]),
  ([97, 108, 108], [.name, .name]),
  ([97, 110, 121], [.name, .name]),
  ([99, 111, 108, 108, 101, 99, 116], [.name, .name]),
  ([106, 111, 105, 110], [.name, .name, .text]),
  ([110, 111, 116], [.one]),
  ([110, 101, 103, 97, 116, 105, 118, 101], [.one]),
  ([108, 101, 110, 103, 116, 104], [.one]),
  ([115, 104, 111, 119, 110], [.one]),
  ([112, 97, 114, 115, 101, 100], [.one]),
  ([108, 97, 98, 101, 108], [.one]),
  ([115, 105, 122, 101], [.one]),
  ([110, 97, 109, 101, 100], [.one]),
  ([97, 100, 100], [.one, .one]),
  ([115, 117, 98, 116, 114, 97, 99, 116], [.one, .one]),
  ([109, 117, 108, 116, 105, 112, 108, 121], [.one, .one]),
  ([113, 117, 111, 116, 105, 101, 110, 116], [.one, .one]),
  ([114, 101, 109, 97, 105, 110, 100, 101, 114], [.one, .one]),
  ([108, 101, 115, 115], [.one, .one]),
  ([115, 97, 109, 101], [.one, .one]),
  ([97, 110, 100], [.one, .one]),
  ([111, 114], [.one, .one]),
  ([97, 112, 112, 101, 110, 100], [.one, .one]),
  ([119, 105, 116, 104], [.one, .one]),
  ([97, 114, 103, 117, 109, 101, 110, 116], [.one, .one]),
  ([101, 108, 115, 101], [.one, .one]),
  ([105, 102], [.one, .one, .one])]
def FormTab (K : PySem.W.Frag) (w : World) (a : Addr) : Prop := ∃ kvs, KTabV K w a kvs ∧ ∀ h ns, (h, ns) ∈ frm → ∃ b, kvs.lookup (tx h) = some (.ref b) ∧ ∀ G, Rep K G (.tup (ns.map fun n => .str n.s)) (.ref b)
theorem top_forms {w : World} {K : PySem.W.Frag} {mg : Str → Option Value} (T : Top K mg w) : ∃ a, mg "FORMS" = some (.ref a) ∧ FormTab K w a := by
  obtain ⟨a, _, g, b0, b1, b2, b3, b4, b5, b6, b7, b8, b9, b10, b11, b12, b13, b14, b15, b16, b17, b18, b19, b20, b21, b22, b23, b24, b25, b26, b27, b28, b29, b30, b31, b32, b33, b34, b35, tab, r0, r1, r2, r3, r4, r5, r6, r7, r8, r9, r10, r11, r12, r13, r14, r15, r16, r17, r18, r19, r20, r21, r22, r23, r24, r25, r26, r27, r28, r29, r30, r31, r32, r33, r34, r35⟩ := T.g_FORMS
  refine ⟨a, g, _, tab, ?_⟩
  intro h ns hm
  simp only [frm, List.mem_cons, Prod.mk.injEq, List.not_mem_nil, or_false] at hm
  rcases hm with ⟨rfl, rfl⟩ | ⟨rfl, rfl⟩ | ⟨rfl, rfl⟩ | ⟨rfl, rfl⟩ | ⟨rfl, rfl⟩ | ⟨rfl, rfl⟩ | ⟨rfl, rfl⟩ | ⟨rfl, rfl⟩ | ⟨rfl, rfl⟩ | ⟨rfl, rfl⟩ | ⟨rfl, rfl⟩ | ⟨rfl, rfl⟩ | ⟨rfl, rfl⟩ | ⟨rfl, rfl⟩ | ⟨rfl, rfl⟩ | ⟨rfl, rfl⟩ | ⟨rfl, rfl⟩ | ⟨rfl, rfl⟩ | ⟨rfl, rfl⟩ | ⟨rfl, rfl⟩ | ⟨rfl, rfl⟩ | ⟨rfl, rfl⟩ | ⟨rfl, rfl⟩ | ⟨rfl, rfl⟩ | ⟨rfl, rfl⟩ | ⟨rfl, rfl⟩ | ⟨rfl, rfl⟩ | ⟨rfl, rfl⟩ | ⟨rfl, rfl⟩ | ⟨rfl, rfl⟩ | ⟨rfl, rfl⟩ | ⟨rfl, rfl⟩ | ⟨rfl, rfl⟩ | ⟨rfl, rfl⟩ | ⟨rfl, rfl⟩ | ⟨rfl, rfl⟩
  · exact ⟨b0, rfl, r0⟩
  · exact ⟨b1, rfl, r1⟩
  · exact ⟨b2, rfl, r2⟩
  · exact ⟨b3, rfl, r3⟩
  · exact ⟨b4, rfl, r4⟩
  · exact ⟨b5, rfl, r5⟩
  · exact ⟨b6, rfl, r6⟩
  · exact ⟨b7, rfl, r7⟩
  · exact ⟨b8, rfl, r8⟩
  · exact ⟨b9, rfl, r9⟩
  · exact ⟨b10, rfl, r10⟩
  · exact ⟨b11, rfl, r11⟩
  · exact ⟨b12, rfl, r12⟩
  · exact ⟨b13, rfl, r13⟩
  · exact ⟨b14, rfl, r14⟩
  · exact ⟨b15, rfl, r15⟩
  · exact ⟨b16, rfl, r16⟩
  · exact ⟨b17, rfl, r17⟩
  · exact ⟨b18, rfl, r18⟩
  · exact ⟨b19, rfl, r19⟩
  · exact ⟨b20, rfl, r20⟩
  · exact ⟨b21, rfl, r21⟩
  · exact ⟨b22, rfl, r22⟩
  · exact ⟨b23, rfl, r23⟩
  · exact ⟨b24, rfl, r24⟩
  · exact ⟨b25, rfl, r25⟩
  · exact ⟨b26, rfl, r26⟩
  · exact ⟨b27, rfl, r27⟩
  · exact ⟨b28, rfl, r28⟩
  · exact ⟨b29, rfl, r29⟩
  · exact ⟨b30, rfl, r30⟩
  · exact ⟨b31, rfl, r31⟩
  · exact ⟨b32, rfl, r32⟩
  · exact ⟨b33, rfl, r33⟩
  · exact ⟨b34, rfl, r34⟩
  · exact ⟨b35, rfl, r35⟩

/-! ### expressions, in plain Lean -/
inductive Ex where
  | int (i : Int)
  | tx (l : List Nat)
  | bl (b : Bool)
  | fm (h : List Nat) (ps : List Ex)
  | nm (w : List Nat)
  | qt (l : List Nat)
  | sv (ks : List Ex)
def trueL : List Nat := [116, 114, 117, 101]
def falseL : List Nat := [102, 97, 108, 115, 101]
def boolL (b : Bool) : List Nat := if b then trueL else falseL
mutual
def Ex.d : Ex → D
  | .int i => .tup [.str (Str.ofString "integer"), .int i]
  | .tx l => .tup [.str (Str.ofString "text"), .str (Tg.tx l)]
  | .bl b => .tup [.str (Str.ofString "boolean"), .bl b]
  | .fm h ps => .tup (.str (Tg.tx h) :: Ex.ds ps)
  | .nm w => .str (Tg.tx w)
  | .qt l => .str (Tg.tx l)
  | .sv ks => .tup (Ex.ds ks)
def Ex.ds : List Ex → List D
  | [] => []
  | e :: r => Ex.d e :: Ex.ds r
end
theorem Ex.ds_map : ∀ l : List Ex, Ex.ds l = l.map Ex.d
  | [] => rfl
  | e :: r => by
    show Ex.d e :: Ex.ds r = _
    rw [Ex.ds_map r]
    rfl
mutual
def Ex.toks : Ex → List Tk
  | .int i => [.num i]
  | .tx l => [.txt l]
  | .bl b => [.lt (boolL b)]
  | .fm h ps => .op :: .lt h :: (Ex.tokL ps ++ [.cl])
  | .nm w => [.lt w]
  | .qt l => [.txt l]
  | .sv ks => Ex.tokL ks
def Ex.tokL : List Ex → List Tk
  | [] => []
  | e :: r => Ex.toks e ++ Ex.tokL r
end
mutual
/-- how many expressions -/
def Ex.cnt : Ex → Nat
  | .fm _ ps => 1 + Ex.cntL ps
  | .nm _ => 0
  | .qt _ => 0
  | .sv ks => Ex.cntL ks
  | _ => 1
def Ex.cntL : List Ex → Nat
  | [] => 0
  | e :: r => Ex.cnt e + Ex.cntL r
end
def TxOk (l : List Nat) : Prop := l.length ≤ 60 ∧ ∀ c ∈ l, c < 128
def NmOk (w : List Nat) : Prop := w ≠ [] ∧ w.length ≤ 12 ∧ ∀ c ∈ w, c ∈ LetS
def OkP (O : Ex → Prop) : Nd → Ex → Prop
  | .one, e => O e
  | .name, .nm w => NmOk w
  | .text, .qt l => TxOk l
  | .sev, .sv ks => ks.length ≤ 5 ∧ ∀ k ∈ ks, O k
  | _, _ => False
def OkPs (O : Ex → Prop) : List Nd → List Ex → Prop
  | [], [] => True
  | n :: ns, p :: ps => OkP O n p ∧ OkPs O ns ps
  | _, _ => False
def OkE : Nat → Ex → Prop
  | _, .int i => -1000000 ≤ i ∧ i ≤ 1000000
  | _, .tx l => TxOk l
  | _, .bl _ => True
  | n + 1, .fm h ps => ∃ ns, (h, ns) ∈ frm ∧ OkPs (OkE n) ns ps
  | _, _ => False
/-- the parser's present token -/
abbrev Cu := Tk × Nat × Nat
/-- from one present token to another, over the tokens ts -/
inductive Go (cs : List Nat) : Cu → List Tk → Cu → Prop
  | nil {c : Cu} : Go cs c [] c
  | cons {t : Tk} {s e : Nat} {c c' : Cu} {ts : List Tk} : Lx cs e c.1 c.2.1 c.2.2 → Go cs c ts c' → Go cs (t, s, e) (t :: ts) c'
theorem Go.split {cs : List Nat} : ∀ {ts us : List Tk} {c c' : Cu}, Go cs c (ts ++ us) c' → ∃ c1, Go cs c ts c1 ∧ Go cs c1 us c'
  | [], _, c, _, h => ⟨c, .nil, h⟩
  | t :: ts, us, _, _, h => by
    cases h with
    | cons h1 h2 =>
      obtain ⟨c1, g1, g2⟩ := Go.split h2
      exact ⟨c1, .cons h1 g1, g2⟩
theorem Go.one {cs : List Nat} {c c' : Cu} {t : Tk} (h : Go cs c [t] c') : c.1 = t ∧ Lx cs c.2.2 c'.1 c'.2.1 c'.2.2 := by
  cases h with
  | cons h1 h2 =>
    cases h2
    exact ⟨rfl, h1⟩
theorem Go.first {cs : List Nat} {c c' : Cu} {t : Tk} {ts : List Tk} (h : Go cs c (t :: ts) c') : c.1 = t ∧ ∃ c1, Lx cs c.2.2 c1.1 c1.2.1 c1.2.2 ∧ Go cs c1 ts c' := by
  cases h with
  | cons h1 h2 => exact ⟨rfl, _, h1, h2⟩
/-- cut: the tokens that are there, and what is missing -/
theorem app_cut {α : Type} : ∀ {a b ts us : List α}, a ++ b = ts ++ us → (∃ ts', ts = a ++ ts' ∧ b = ts' ++ us) ∨ ∃ us', us' ≠ [] ∧ a = ts ++ us' ∧ us = us' ++ b
  | [], b, ts, us, h => .inl ⟨ts, rfl, h⟩
  | x :: a, b, [], us, h => .inr ⟨x :: a, by simp, rfl, h.symm⟩
  | x :: a, b, y :: ts, us, h => by
    have h1 : x = y ∧ a ++ b = ts ++ us := by simpa using h
    obtain ⟨rfl, h2⟩ := h1
    rcases app_cut h2 with ⟨ts', rfl, e⟩ | ⟨us', hne, rfl, e⟩
    · exact .inl ⟨ts', rfl, e⟩
    · exact .inr ⟨us', hne, rfl, e⟩
/-- the state of the reader's object, and the table -/
def Rx (C dx a PT : Addr) (cs : List Nat) (c : Cu) (m : Nat) : Mu := [(a, RdO C dx cs c.1 c.2.1 c.2.2 m), (PT, .tb)]
def TbIn (PT : Addr) (M : Mu) : Prop := (PT, MO.tb) ∈ M
/-- what a part's reading is asked: nd, what is needed -/
def Cut (nd : Nd) (p : Ex) (ts : List Tk) : Prop := (∃ us, us ≠ [] ∧ p.toks = ts ++ us) ∨ (nd = .sev ∧ p.toks = ts)
def W_expX (C PT : Addr) (n : Nat) : WtX := fun ds M k kx => ∃ (a dx : Addr) (cs : List Nat) (c : Cu) (m lv : Nat), ds = [.ref a, .int (lv : Nat)] ∧ M = Rx C dx a PT cs c m ∧ cs.length ≤ 100000 ∧
  ((∃ e : Ex, OkE n e ∧ lv + n ≤ 12 ∧ m + e.cnt ≤ 60 ∧ ((∃ c', Go cs c e.toks c' ∧ k e.d (Rx C dx a PT cs c' (m + e.cnt))) ∨ ∃ ts f, Go cs c ts (.fin, f, f) ∧ Cut .one e ts ∧ ∀ M', TbIn PT M' → kx (posF f) M')) ∨ ∃ f, c = (.fin, f, f) ∧ ∀ M', TbIn PT M' → kx (posF f) M')
def W_frmX (C PT : Addr) (n : Nat) : WtX := fun ds M k kx => ∃ (a dx : Addr) (cs : List Nat) (c : Cu) (m lv : Nat) (h : List Nat) (ps : List Ex), ds = [.ref a, .int (lv : Nat)] ∧ M = Rx C dx a PT cs c m ∧ cs.length ≤ 100000 ∧ OkE (n + 1) (.fm h ps) ∧ lv + n ≤ 12 ∧ m + Ex.cntL ps ≤ 60 ∧
  ((∃ c', Go cs c (Ex.fm h ps).toks c' ∧ k (Ex.fm h ps).d (Rx C dx a PT cs c' (m + Ex.cntL ps))) ∨ ∃ t ts f, Go cs c (t :: ts) (.fin, f, f) ∧ Cut .one (.fm h ps) (t :: ts) ∧ ∀ M', TbIn PT M' → kx (posF f) M')
def W_ndX (C PT : Addr) (n : Nat) : WtX := fun ds M k kx => ∃ (a dx : Addr) (cs : List Nat) (c : Cu) (m lv : Nat) (nd : Nd) (e : Ex), ds = [.ref a, .str nd.s, .int (lv : Nat)] ∧ M = Rx C dx a PT cs c m ∧ cs.length ≤ 100000 ∧ OkP (OkE n) nd e ∧ lv + n ≤ 12 ∧ m + e.cnt ≤ 60 ∧
  ((∃ c', Go cs c e.toks c' ∧ (nd = .sev → c'.1 = .cl) ∧ k e.d (Rx C dx a PT cs c' (m + e.cnt))) ∨ ∃ ts f, Go cs c ts (.fin, f, f) ∧ Cut nd e ts ∧ ∀ M', TbIn PT M' → kx (posF f) M')
def W_sevX (C PT : Addr) (n : Nat) : WtX := fun ds M k kx => ∃ (a dx : Addr) (cs : List Nat) (c : Cu) (m lv : Nat) (ks : List Ex), ds = [.ref a, .int (lv : Nat)] ∧ M = Rx C dx a PT cs c m ∧ cs.length ≤ 100000 ∧ ks.length ≤ 5 ∧ (∀ k ∈ ks, OkE n k) ∧ lv + n ≤ 12 ∧ m + Ex.cntL ks ≤ 60 ∧
  ((∃ c', Go cs c (Ex.tokL ks) c' ∧ c'.1 = .cl ∧ k (Ex.sv ks).d (Rx C dx a PT cs c' (m + Ex.cntL ks))) ∨ ∃ ts us f, Go cs c ts (.fin, f, f) ∧ Ex.tokL ks = ts ++ us ∧ ∀ M', TbIn PT M' → kx (posF f) M')
/-- an expression's first token -/
theorem first_tok {n : Nat} {e : Ex} (h : OkE n e) : ∃ t ts, e.toks = t :: ts ∧ t.sort ≠ Str.ofString ")" := by
  cases e with
  | int i => exact ⟨_, _, rfl, (by decide +kernel : Str.ofString "integer" ≠ Str.ofString ")")⟩
  | tx l => exact ⟨_, _, rfl, (by decide +kernel : Str.ofString "text" ≠ Str.ofString ")")⟩
  | bl b => exact ⟨_, _, rfl, (by decide +kernel : Str.ofString "letters" ≠ Str.ofString ")")⟩
  | fm h ps => exact ⟨_, _, rfl, (by decide +kernel : Str.ofString "(" ≠ Str.ofString ")")⟩
  | nm w => cases n <;> exact h.elim
  | qt l => cases n <;> exact h.elim
  | sv ks => cases n <;> exact h.elim
theorem sort_cl : Tk.cl.sort = Str.ofString ")" := rfl
theorem cntL_app : ∀ a b : List Ex, Ex.cntL (a ++ b) = Ex.cntL a + Ex.cntL b
  | [], b => (Nat.zero_add _).symm
  | e :: a, b => by
    show e.cnt + Ex.cntL (a ++ b) = e.cnt + Ex.cntL a + Ex.cntL b
    rw [cntL_app a b]
    omega

theorem nm_name {w : List Nat} (h : NmOk w) : nameB w = true := by
  obtain ⟨h1, h2, h3⟩ := h
  have hl : 1 ≤ w.length := by
    cases w with
    | nil => exact absurd rfl h1
    | cons a b => simp
  unfold nameB
  rw [decide_eq_true hl, decide_eq_true h2, Bool.true_and, Bool.true_and, List.all_eq_true]
  intro c hc
  have := h3 c hc
  have all : ∀ c ∈ LetS, Txt.contains (tx cst_LETTERS) ⟨#[c]⟩ = true := by decide +kernel
  exact all c this
theorem cut_one {α : Type} {t : α} {ts us : List α} (e : [t] = ts ++ us) (h : us ≠ []) : ts = [] := by
  cases ts with
  | nil => rfl
  | cons x y =>
    have h2 : [] = y ++ us := by simpa using (List.cons.inj e).2
    exact absurd (List.append_eq_nil_iff.mp h2.symm).2 h
section
variable {P : Program} {w : World} {K : PySem.W.Frag} {mg : Str → Option Value} {base : Heap} {C Ce PT : Addr}
theorem x_needed (kC : Cl_ExpressionReader K mg C) (T : Top K mg w) (B : DefB K mg base "is_name" s_is_name ["text"] PT) (e_BadExpression : ErrT_BadExpression K mg Ce) (n : Nat)
    (x_ExpressionReader__expression : MetX P w K mg base (5 + 4 * n) C "_expression" (SpcX K Ce (W_expX C PT n))) (x_ExpressionReader__several : MetX P w K mg base (5 + 4 * n + 1) C "_several" (SpcX K Ce (W_sevX C PT n))) :
    MetX P w K mg base (5 + 4 * n + 2) C "_needed" (SpcX K Ce (W_ndX C PT n)) := metX_of kC.cl kC.d__needed fun f fd F => by
  obtain ⟨fI, fdI, iA_BadExpression, iT_BadExpression, FI, iB_BadExpression⟩ := e_BadExpression.i
  have iF_BadExpression := ok_init_BadExpression (P := P) (w := w) (base := base) e_BadExpression FI
  have x_ExpressionReader__take := x_take (P := P) (w := w) (base := base) kC T e_BadExpression
  have c_is_name := c_is_name (P := P) (w := w) T B
  exact spc_okX F sc_ExpressionReader__needed (fun ds M k kx h => by obtain ⟨a, dx, cs, c, m, lv, nd, e, rfl, _⟩ := h; rfl) fun cdv A outer s H E hr => ⟨_, (pss_cons (ps_if (pt_cmpR op_eq (pv 1) pe_str (nomark _))
      (pss_one (ps_ret (pe_mtX (takes_of rfl rfl rfl rfl) x_ExpressionReader__expression hr (by first | decide | omega) (pv 0) (pa_cons (pv 2) pa_nil))))
      pss_nil)
      (pss_cons (ps_if (pt_cmpR op_eq (pv 1) pe_str (nomark _))
      (pss_one (ps_ret (pe_mtX (takes_of rfl rfl rfl rfl) x_ExpressionReader__several hr (by first | decide | omega) (pv 0) (pa_cons (pv 2) pa_nil))))
      pss_nil)
      (pss_cons (ps_if (pt_cmpR op_eq (pv 1) pe_str (nomark _))
      (pss_one (ps_ret (pe_mtX (takes_of rfl rfl rfl rfl) x_ExpressionReader__take hr (by first | decide | omega) (pv 0) (pa_cons pe_str pa_nil))))
      pss_nil)
      (pss_cons (ps_set (i := 3) sc_ExpressionReader__needed.nd rfl (Or.inl rfl) (pe_ix (ix_K (K := K)) (fld_K (K := K) (pv 0)) pe_int (fun _ _ => rfl)))
      (pss_cons (ps_set (i := 4) sc_ExpressionReader__needed.nd rfl (Or.inl rfl) (pe_mtX (takes_of rfl rfl rfl rfl) x_ExpressionReader__take hr (by first | decide | omega) (pv 0) (pa_cons pe_str pa_nil)))
      (pss_cons (ps_if (pt_not (tru_K (K := K) (pe_c c_is_name hr (by first | decide | omega) (by rfl) (pa_cons (pv 4) pa_nil))))
      (pss_one (ps_raise1 rfl (takes_of rfl rfl rfl rfl) e_BadExpression.o iA_BadExpression iT_BadExpression iF_BadExpression (hr.mono (by first | decide | omega)) iB_BadExpression pass0 (by rfl) e_BadExpression.m (pa_cons (pv 3) pa_nil)))
      pss_nil)
      (pss_one (ps_ret (pv 4))))))))), fun ds M kk kx hw => by
    obtain ⟨a, dx, cs, c, m, lv, nd, e, rfl, rfl, hl, ok, hlv, hm, hw⟩ := hw
    have hsz := sizeLine_eq
    refine as_start (δ' := [some (.ref a), some (.str nd.s), some (.int (lv : Nat)), none, none]) rfl ?_
    unfold Rx at hw ⊢
    refine as_seq (as_if (at_test (ae_op (ae_var rfl (ae_str (ar_eqD rfl ⟨_, rfl, ?_⟩))))))
    cases nd with
    | one =>
      refine caseT (by decide +kernel) ?_
      refine as_retX (aex_meth rfl (ae_var rfl ⟨a, dx, _, rfl, ⟨[], _, rfl⟩, rfl, aa_cons (ae_var rfl (aa_nil ?_))⟩))
      refine ⟨_, [], fun d M => (∃ c', d = e.d ∧ M = Rx C dx a PT cs c' (m + e.cnt) ∧ kk e.d (Rx C dx a PT cs c' (m + e.cnt))), fun fs M => ∃ f, fs = posF f ∧ TbIn PT M ∧ ∀ M', TbIn PT M' → kx (posF f) M', (List.append_nil _).symm, ⟨a, dx, cs, c, m, lv, rfl, rfl, hl, .inl ⟨e, ok, hlv, hm, ?_⟩⟩, ?_, ?_⟩
      · rcases hw with ⟨c', g, _, q⟩ | ⟨ts, f, g, cut, qx⟩
        · exact .inl ⟨c', g, c', rfl, rfl, q⟩
        · exact .inr ⟨ts, f, g, cut, fun M' hm => ⟨f, rfl, hm, qx⟩⟩
      · rintro _ _ ⟨c', rfl, rfl, q⟩
        rw [List.append_nil]
        exact q
      · rintro _ M' ⟨f, rfl, hm, qx⟩
        exact qx _ (List.mem_append_left _ hm)
    | sev =>
      refine caseF (by decide +kernel) (as_next ?_)
      refine as_seq (as_if (at_test (ae_op (ae_var rfl (ae_str (ar_eqD rfl ⟨_, rfl, ?_⟩))))))
      refine caseT (by decide +kernel) ?_
      cases e with
      | sv ks =>
        refine as_retX (aex_meth rfl (ae_var rfl ⟨a, dx, _, rfl, ⟨[], _, rfl⟩, rfl, aa_cons (ae_var rfl (aa_nil ?_))⟩))
        refine ⟨_, [], fun d M => (∃ c', d = (Ex.sv ks).d ∧ M = Rx C dx a PT cs c' (m + Ex.cntL ks) ∧ kk (Ex.sv ks).d (Rx C dx a PT cs c' (m + Ex.cntL ks))), fun fs M => ∃ f, fs = posF f ∧ TbIn PT M ∧ ∀ M', TbIn PT M' → kx (posF f) M', (List.append_nil _).symm, ⟨a, dx, cs, c, m, lv, ks, rfl, rfl, hl, ok.1, ok.2, hlv, hm, ?_⟩, ?_, ?_⟩
        · rcases hw with ⟨c', g, hc, q⟩ | ⟨ts, f, g, cut, qx⟩
          · exact .inl ⟨c', g, hc rfl, c', rfl, rfl, q⟩
          · rcases cut with ⟨us, _, e⟩ | ⟨_, e⟩
            · exact .inr ⟨ts, us, f, g, e, fun M' hm => ⟨f, rfl, hm, qx⟩⟩
            · exact .inr ⟨ts, [], f, g, by rw [List.append_nil]; exact e, fun M' hm => ⟨f, rfl, hm, qx⟩⟩
        · rintro _ _ ⟨c', rfl, rfl, q⟩
          rw [List.append_nil]
          exact q
        · rintro _ M' ⟨f, rfl, hm, qx⟩
          exact qx _ (List.mem_append_left _ hm)
      | _ => exact ok.elim
    | text =>
      refine caseF (by decide +kernel) (as_next ?_)
      refine as_seq (as_if (at_test (ae_op (ae_var rfl (ae_str (ar_eqD rfl ⟨_, rfl, ?_⟩))))))
      refine caseF (by decide +kernel) (as_next ?_)
      refine as_seq (as_if (at_test (ae_op (ae_var rfl (ae_str (ar_eqD rfl ⟨_, rfl, ?_⟩))))))
      refine caseT (by decide +kernel) ?_
      cases e with
      | qt l =>
        refine as_retX (aex_meth rfl (ae_var rfl ⟨a, dx, _, rfl, ⟨[], _, rfl⟩, rfl, aa_cons (ae_str (aa_nil ?_))⟩))
        refine ⟨[_], [(PT, .tb)], fun d M => (∃ c', d = (Ex.qt l).d ∧ M = [(a, RdO C dx cs c'.1 c'.2.1 c'.2.2 m)] ∧ kk (Ex.qt l).d (Rx C dx a PT cs c' m)), fun fs M => ∃ f, fs = posF f ∧ ∀ M', TbIn PT M' → kx (posF f) M', rfl, ⟨a, dx, cs, c.1, c.2.1, c.2.2, m, _, rfl, rfl, hl, ?_⟩, ?_, ?_⟩
        · rcases hw with ⟨c', g, hc, q⟩ | ⟨ts, f, g, cut, qx⟩
          · obtain ⟨e1, hx⟩ := Go.one g
            refine .inl ⟨by rw [e1]; rfl, c'.1, c'.2.1, c'.2.2, hx, c', by rw [e1]; rfl, rfl, q⟩
          · obtain rfl : ts = [] := by
              rcases cut with ⟨us, hne, e⟩ | ⟨h, _⟩
              · exact cut_one e hne
              · cases h
            cases g
            exact .inr ⟨(by decide +kernel : Str.ofString "text" ≠ Str.ofString "end"), fun M' => ⟨_, rfl, qx⟩⟩
        · rintro _ _ ⟨c', rfl, rfl, q⟩
          exact q
        · rintro _ M' ⟨f, rfl, qx⟩
          exact qx _ (List.mem_append_right _ (by simp))
      | _ => exact ok.elim
    | name =>
      refine caseF (by decide +kernel) (as_next ?_)
      refine as_seq (as_if (at_test (ae_op (ae_var rfl (ae_str (ar_eqD rfl ⟨_, rfl, ?_⟩))))))
      refine caseF (by decide +kernel) (as_next ?_)
      refine as_seq (as_if (at_test (ae_op (ae_var rfl (ae_str (ar_eqD rfl ⟨_, rfl, ?_⟩))))))
      refine caseF (by decide +kernel) (as_next ?_)
      cases e with
      | nm w =>
        refine as_seq (as_set (ae_op (ae_token kC rfl (ae_int (aix_T rfl ?_)))))
        refine as_seq (as_setX (aex_meth rfl (ae_var rfl ⟨a, dx, _, rfl, ⟨[], _, rfl⟩, rfl, aa_cons (ae_str (aa_nil ?_))⟩)))
        refine ⟨[_], [(PT, .tb)], fun d M => (∃ c', d = .str (tx w) ∧ M = [(a, RdO C dx cs c'.1 c'.2.1 c'.2.2 m)] ∧ kk (Ex.nm w).d (Rx C dx a PT cs c' m)), fun fs M => ∃ f, fs = posF f ∧ ∀ M', TbIn PT M' → kx (posF f) M', rfl, ⟨a, dx, cs, c.1, c.2.1, c.2.2, m, _, rfl, rfl, hl, ?_⟩, ?_, ?_⟩
        · rcases hw with ⟨c', g, hc, q⟩ | ⟨ts, f, g, cut, qx⟩
          · obtain ⟨e1, hx⟩ := Go.one g
            refine .inl ⟨by rw [e1]; rfl, c'.1, c'.2.1, c'.2.2, hx, c', by rw [e1]; rfl, rfl, q⟩
          · obtain rfl : ts = [] := by
              rcases cut with ⟨us, hne, e⟩ | ⟨h, _⟩
              · exact cut_one e hne
              · cases h
            cases g
            exact .inr ⟨(by decide +kernel : Str.ofString "letters" ≠ Str.ofString "end"), fun M' => ⟨_, rfl, qx⟩⟩
        · rintro _ _ ⟨c', rfl, rfl, q⟩
          refine as_perm (M' := [(PT, .tb), (a, RdO C dx cs c'.1 c'.2.1 c'.2.2 m)]) (List.Perm.swap _ _ _) ?_
          refine as_seq ?_
          walk_at "tg"
          refine ⟨[(PT, .tb)], [(a, RdO C dx cs c'.1 c'.2.1 c'.2.2 m)], fun d M => d = .bl true ∧ M = [(PT, .tb)], rfl, ⟨w, rfl, rfl, by have := ok.2.1; omega, by rw [nm_name ok]; exact ⟨rfl, rfl⟩⟩, ?_⟩
          rintro _ _ ⟨rfl, rfl⟩
          refine ⟨tru_ok_bl, ?_⟩
          refine caseF rfl (as_next ?_)
          refine as_perm (M' := Rx C dx a PT cs c' m) (List.Perm.swap _ _ _) ?_
          walk_at "tg"
          exact q
        · rintro _ M' ⟨f, rfl, qx⟩
          exact qx _ (List.mem_append_right _ (by simp))
      | _ => exact ok.elim⟩
end

section
variable {P : Program} {w : World} {K : PySem.W.Frag} {mg : Str → Option Value} {base : Heap} {C Ce PT : Addr}
theorem x_several (kC : Cl_ExpressionReader K mg C) (T : Top K mg w) (n : Nat) (x_ExpressionReader__expression : MetX P w K mg base (5 + 4 * n) C "_expression" (SpcX K Ce (W_expX C PT n))) :
    MetX P w K mg base (5 + 4 * n + 1) C "_several" (SpcX K Ce (W_sevX C PT n)) := metX_of kC.cl kC.d__several fun f fd F => by
  obtain ⟨t_MOST_BELOW, g_MOST_BELOW⟩ := T.g_MOST_BELOW
  exact spc_okX F sc_ExpressionReader__several (fun ds M k kx h => by obtain ⟨a, dx, cs, c, m, lv, ks, rfl, _⟩ := h; rfl) fun cdv A outer s H E hr => ⟨_, (pss_cons (ps_set (i := 2) sc_ExpressionReader__several.nd rfl (Or.inl rfl) (pe_lstM (pe_lst pa_nil)))
      (pss_cons (ps_while (passes_of rfl) (pw_and (pt_cmpR op_ne (pe_ix (ix_K (K := K)) (fld_K (K := K) (pv 0)) pe_int (fun _ _ => rfl)) pe_str (nomark _)) (pw_and1 (pt_cmpR op_lt (pe_callB (len_K (K := K)) (by rfl) T.m_len (by decide +kernel) (pa_cons (pv 2) pa_nil)) (pe_glob (v := V.int 6) (by rfl) g_MOST_BELOW ⟨_, rfl⟩) (nomark _)))).pt
      (pss_one (ps_expr (app_K (K := K) (pe_bm PySem.F.plainAttrs_list PySem.F.slot_list_append PySem.F.type_list_append mt_append (pv 2) (pa_cons (pe_mtX (takes_of rfl rfl rfl rfl) x_ExpressionReader__expression hr (by first | decide | omega) (pv 0) (pa_cons (pv 1) pa_nil)) pa_nil))))))
      (pss_one (ps_ret (pe_callTy (tup_K (K := K)) (by rfl) T.m_tuple (by decide +kernel) (pa_cons (pv 2) pa_nil)))))), fun ds M kk kx hw => by
    obtain ⟨a, dx, cs, c, m, lv, ks, rfl, rfl, hl, h5, ok, hlv, hm, hw⟩ := hw
    have hsz := sizeLine_eq
    refine as_start (δ' := [some (.ref a), some (.int (lv : Nat)), none]) rfl ?_
    unfold Rx at hw ⊢
    walk_at "tg"
    intro rd
    refine as_seq ?_
    refine as_while (fun mm δ' M' => ∃ (don rest : List Ex) (ci : Cu), ks = don ++ rest ∧ mm = rest.length ∧ δ' = [some (.ref a), some (.int (lv : Nat)), some (.ref rd)] ∧ M' = [(a, RdO C dx cs ci.1 ci.2.1 ci.2.2 (m + Ex.cntL don)), (PT, .tb), (rd, .lst (don.map Ex.d))] ∧
      ((∃ c', Go cs ci (Ex.tokL rest) c' ∧ c'.1 = .cl ∧ kk (Ex.sv ks).d (Rx C dx a PT cs c' (m + Ex.cntL ks))) ∨ ∃ ts us f, Go cs ci ts (.fin, f, f) ∧ Ex.tokL rest = ts ++ us ∧ ∀ M', TbIn PT M' → kx (posF f) M')) ks.length ⟨[], ks, c, rfl, rfl, rfl, rfl, hw⟩ ?_
    clear hw
    rintro mm δ' M' ⟨don, rest, ci, hks, rfl, rfl, rfl, hw⟩
    have hdl : don.length + rest.length = ks.length := by rw [hks, List.length_append]
    have nfin : Tk.fin.sort ≠ Str.ofString ")" := (by decide +kernel : Str.ofString "end" ≠ Str.ofString ")")
    have key : (rest = [] ∧ ci.1 = .cl ∧ kk (Ex.sv ks).d (Rx C dx a PT cs ci (m + Ex.cntL ks))) ∨ (ci.1.sort ≠ Str.ofString ")" ∧
        ((∃ k r c1, rest = k :: r ∧ Go cs ci k.toks c1 ∧ ((∃ c', Go cs c1 (Ex.tokL r) c' ∧ c'.1 = .cl ∧ kk (Ex.sv ks).d (Rx C dx a PT cs c' (m + Ex.cntL ks))) ∨ ∃ ts us f, Go cs c1 ts (.fin, f, f) ∧ Ex.tokL r = ts ++ us ∧ ∀ M', TbIn PT M' → kx (posF f) M')) ∨
          ∃ f, ((∃ k r ts, rest = k :: r ∧ Go cs ci ts (.fin, f, f) ∧ Cut .one k ts) ∨ ci = (.fin, f, f)) ∧ ∀ M', TbIn PT M' → kx (posF f) M')) := by
      cases rest with
      | nil =>
        rcases hw with ⟨c', g, hc, q⟩ | ⟨ts, us, f, g, e, qx⟩
        · cases g
          exact .inl ⟨rfl, hc, q⟩
        · obtain ⟨rfl, rfl⟩ := List.append_eq_nil_iff.mp (show ts ++ us = [] from e.symm)
          cases g
          exact .inr ⟨nfin, .inr ⟨f, .inr rfl, qx⟩⟩
      | cons k r =>
        obtain ⟨t, tt, et, hne⟩ := first_tok (ok k (by rw [hks]; simp))
        rcases hw with ⟨c', g, hc, q⟩ | ⟨ts, us, f, g, e, qx⟩
        · obtain ⟨c1, g1, g2⟩ := Go.split (show Go cs ci (k.toks ++ Ex.tokL r) c' from g)
          have h1 : ci.1 = t := by
            rw [et] at g1
            exact (Go.first g1).1
          exact .inr ⟨by rw [h1]; exact hne, .inl ⟨k, r, c1, rfl, g1, .inl ⟨c', g2, hc, q⟩⟩⟩
        · rcases app_cut (show k.toks ++ Ex.tokL r = ts ++ us from e) with ⟨ts', rfl, e2⟩ | ⟨us', hus, e2, _⟩
          · obtain ⟨c1, g1, g2⟩ := Go.split g
            have h1 : ci.1 = t := by
              rw [et] at g1
              exact (Go.first g1).1
            exact .inr ⟨by rw [h1]; exact hne, .inl ⟨k, r, c1, rfl, g1, .inr ⟨ts', us, f, g2, e2, qx⟩⟩⟩
          · refine .inr ⟨?_, .inr ⟨f, .inl ⟨k, r, ts, rfl, g, .inl ⟨us', hus, e2⟩⟩, qx⟩⟩
            cases ts with
            | nil =>
              cases g
              exact nfin
            | cons x y =>
              rw [et] at e2
              have hx : t = x := (List.cons.inj e2).1
              rw [(Go.first g).1, ← hx]
              exact hne
    clear hw
    refine at_and (at_test (ae_op (ae_op (ae_token kC rfl (ae_int (aix_T rfl (ae_str (ar_neD rfl ⟨_, rfl, ?_⟩))))))))
    rcases key with ⟨rfl, hc, q⟩ | ⟨hne, key⟩
    · refine caseF (by rw [hc]; decide +kernel) ?_
      rw [List.append_nil] at hks
      subst hks
      refine caseF rfl ?_
      show AS K _ _ _ _
      refine frz2 (s := 2) rfl ?_
      walk_at "tg"
      have e : (Ex.sv ks).d = .tup (ks.map Ex.d) := by
        show D.tup (Ex.ds ks) = _
        rw [Ex.ds_map]
      rw [e] at q
      exact q
    · refine caseT (by rw [decide_eq_false hne]; rfl) ?_
      walk_at "tg"
      refine ac_lenM (M1 := [_, _]) rfl ?_
      rw [List.length_map]
      walk_at "tg"
      refine dcase (fun _ => ?_) (fun z => absurd (by omega) z)
      refine as_dropX (aex_lm (ae_var rfl ⟨lst2, aax_one (aex_meth rfl (ae_var rfl ⟨a, dx, _, rfl, ⟨[], _, rfl⟩, rfl, aa_cons (ae_var rfl (aa_nil ?_))⟩))⟩))
      have hcnt : ∀ {k : Ex} {r : List Ex}, rest = k :: r → m + Ex.cntL don + k.cnt ≤ 60 ∧ OkE n k := fun {k r} e => by
        subst e
        have e2 : Ex.cntL ks = Ex.cntL don + (k.cnt + Ex.cntL r) := by rw [hks, cntL_app]; rfl
        exact ⟨by omega, ok k (by rw [hks]; simp)⟩
      rcases key with ⟨k, r, c1, rfl, g1, md⟩ | ⟨f, how, qx⟩
      · obtain ⟨h1, h2⟩ := hcnt rfl
        refine ⟨Rx C dx a PT cs ci (m + Ex.cntL don), [(rd, .lst (don.map Ex.d))], fun d M => d = k.d ∧ M = Rx C dx a PT cs c1 (m + Ex.cntL don + k.cnt), fun _ _ => False, rfl, ⟨a, dx, cs, ci, m + Ex.cntL don, lv, rfl, rfl, hl, .inl ⟨k, h2, hlv, h1, .inl ⟨c1, g1, rfl, rfl⟩⟩⟩, ?_, fun _ _ h => h.elim⟩
        rintro _ _ ⟨rfl, rfl⟩
        refine app2 (by rw [List.length_map]; omega) ?_
        refine ⟨r.length, by simp, don ++ [k], r, c1, by rw [hks]; simp, rfl, rfl, ?_, md⟩
        rw [cntL_app, List.map_append]
        show _ = [(a, RdO C dx cs c1.1 c1.2.1 c1.2.2 (m + (Ex.cntL don + (k.cnt + 0)))), _, _]
        rw [Nat.add_zero, ← Nat.add_assoc]
        rfl
      · refine ⟨Rx C dx a PT cs ci (m + Ex.cntL don), [(rd, .lst (don.map Ex.d))], fun _ _ => False, fun fs M => fs = posF f ∧ TbIn PT M, rfl, ⟨a, dx, cs, ci, m + Ex.cntL don, lv, rfl, rfl, hl, ?_⟩, fun _ _ h => h.elim, fun fs M' h => by obtain ⟨rfl, htb⟩ := h; exact qx _ (List.mem_append_left _ htb)⟩
        rcases how with ⟨k, r, ts, e, g, cut⟩ | rfl
        · obtain ⟨h1, h2⟩ := hcnt e
          exact .inl ⟨k, h2, hlv, h1, .inr ⟨ts, f, g, cut, fun _ hm => ⟨rfl, hm⟩⟩⟩
        · exact .inr ⟨f, rfl, fun _ hm => ⟨rfl, hm⟩⟩⟩
end

def isSev : Nd → Bool
  | .sev => true
  | _ => false
def sevLast : List Nd → Bool
  | [] => true
  | [_] => true
  | n :: r => !isSev n && sevLast r
theorem frm_sev : ∀ p ∈ frm, sevLast p.2 = true := by decide
theorem frm_len : ∀ p ∈ frm, p.2.length ≤ 3 := by decide
theorem sevLast_tail {n : Nd} {r : List Nd} (h : sevLast (n :: r) = true) : sevLast r = true ∧ (n = .sev → r = []) := by
  cases r with
  | nil => exact ⟨rfl, fun _ => rfl⟩
  | cons a b =>
    have h2 : (!isSev n && sevLast (a :: b)) = true := h
    rw [Bool.and_eq_true] at h2
    refine ⟨h2.2, fun e => ?_⟩
    subst e
    cases h2.1
theorem okPs_len {O : Ex → Prop} : ∀ {ns : List Nd} {ps : List Ex}, OkPs O ns ps → ps.length = ns.length
  | [], [], _ => rfl
  | _ :: _, _ :: _, h => by rw [List.length_cons, List.length_cons, okPs_len h.2]
  | [], _ :: _, h => h.elim
  | _ :: _, [], h => h.elim
/-- where the reading of a form's parts stands -/
def Md (cs : List Nat) (ci : Cu) (rest : List Ex) (Qf : Cu → Prop) (Xf : Nat → Prop) : Prop :=
  (∃ c', Go cs ci (Ex.tokL rest ++ [.cl]) c' ∧ Qf c') ∨ ∃ ts us f, us ≠ [] ∧ Go cs ci ts (.fin, f, f) ∧ Ex.tokL rest ++ [.cl] = ts ++ us ∧ Xf f
theorem md_step {cs : List Nat} {ci : Cu} {nd : Nd} {nr : List Nd} {p : Ex} {r : List Ex} {O : Ex → Prop} {Qf : Cu → Prop} {Xf : Nat → Prop} (hs : sevLast (nd :: nr) = true) (ok : OkPs O (nd :: nr) (p :: r)) (h : Md cs ci (p :: r) Qf Xf) :
    (∃ c1, Go cs ci p.toks c1 ∧ (nd = .sev → c1.1 = .cl) ∧ Md cs c1 r Qf Xf) ∨ ∃ ts f, Go cs ci ts (.fin, f, f) ∧ Cut nd p ts ∧ Xf f := by
  have hr : nd = .sev → r = [] := fun e => by
    have e2 := (sevLast_tail hs).2 e
    subst e2
    cases r with
    | nil => rfl
    | cons a b => exact ok.2.elim
  rcases h with ⟨c', g, q⟩ | ⟨ts, us, f, hne, g, e, x⟩
  · rw [show Ex.tokL (p :: r) ++ [.cl] = p.toks ++ (Ex.tokL r ++ [.cl]) from List.append_assoc ..] at g
    obtain ⟨c1, g1, g2⟩ := g.split
    refine .inl ⟨c1, g1, fun e => ?_, .inl ⟨c', g2, q⟩⟩
    rw [hr e] at g2
    exact (Go.one g2).1
  · rw [show Ex.tokL (p :: r) ++ [.cl] = p.toks ++ (Ex.tokL r ++ [.cl]) from List.append_assoc ..] at e
    rcases app_cut e with ⟨ts', rfl, e2⟩ | ⟨us', hus, e2, _⟩
    · obtain ⟨c1, g1, g2⟩ := g.split
      by_cases hd : nd = .sev
      · have hr2 := hr hd
        subst hr2
        have e3 : ts' = [] := cut_one (show [Tk.cl] = ts' ++ us from e2) hne
        subst e3
        cases g2
        exact .inr ⟨p.toks, f, g1, .inr ⟨hd, rfl⟩, x⟩
      · exact .inl ⟨c1, g1, fun z => absurd z hd, .inr ⟨ts', us, f, hne, g2, e2, x⟩⟩
    · exact .inr ⟨ts, f, g, .inl ⟨us', hus, e2⟩, x⟩
section
variable {P : Program} {w : World} {K : PySem.W.Frag} {mg : Str → Option Value} {base : Heap} {C Ce PT : Addr}
theorem x_form (kC : Cl_ExpressionReader K mg C) (T : Top K mg w) (e_BadExpression : ErrT_BadExpression K mg Ce) (n : Nat) (x_ExpressionReader__needed : MetX P w K mg base (5 + 4 * n + 2) C "_needed" (SpcX K Ce (W_ndX C PT n))) :
    MetX P w K mg base (5 + 4 * n + 3) C "_form" (SpcX K Ce (W_frmX C PT n)) := metX_of kC.cl kC.d__form fun f fd F => by
  obtain ⟨fI, fdI, iA_BadExpression, iT_BadExpression, FI, iB_BadExpression⟩ := e_BadExpression.i
  have iF_BadExpression := ok_init_BadExpression (P := P) (w := w) (base := base) e_BadExpression FI
  have x_ExpressionReader__take := x_take (P := P) (w := w) (base := base) kC T e_BadExpression
  obtain ⟨t_FORMS, g_FORMS, kvs, tab, look⟩ := top_forms (w := w) T
  exact spc_okX F sc_ExpressionReader__form (fun ds M k kx h => by obtain ⟨a, dx, cs, c, m, lv, h, ps, rfl, _⟩ := h; rfl) fun cdv A outer s H E hr => ⟨_, (pss_cons (ps_expr (pe_mtX (takes_of rfl rfl rfl rfl) x_ExpressionReader__take hr (by first | decide | omega) (pv 0) (pa_cons pe_str pa_nil)))
      (pss_cons (ps_set (i := 2) sc_ExpressionReader__form.nd rfl (Or.inl rfl) (pe_ix (ix_K (K := K)) (fld_K (K := K) (pv 0)) pe_int (fun _ _ => rfl)))
      (pss_cons (ps_set (i := 3) sc_ExpressionReader__form.nd rfl (Or.inl rfl) (pe_mtX (takes_of rfl rfl rfl rfl) x_ExpressionReader__take hr (by first | decide | omega) (pv 0) (pa_cons pe_str pa_nil)))
      (pss_cons (ps_if (pt_cmpR (notinT_K (K := K) (w := w)) (pv 3) (pe_glob (v := V.ref t_FORMS) (by rfl) g_FORMS rfl) (by rfl))
      (pss_one (ps_raise1 rfl (takes_of rfl rfl rfl rfl) e_BadExpression.o iA_BadExpression iT_BadExpression iF_BadExpression (hr.mono (by first | decide | omega)) iB_BadExpression pass0 (by rfl) e_BadExpression.m (pa_cons (pv 2) pa_nil)))
      pss_nil)
      (pss_cons (ps_set (i := 4) sc_ExpressionReader__form.nd rfl (Or.inl rfl) (pe_lstM (pe_lst (pa_cons (pv 3) pa_nil))))
      (pss_cons (ps_for (passes_of rfl) rfl (seq_K (K := K) (pe_ix (kix_K (K := K) (w := w)) (pe_glob (v := V.ref t_FORMS) (by rfl) g_FORMS rfl) (pv 3) (fun _ _ => rfl))) (pg_name (i := 5) sc_ExpressionReader__form.nd rfl (Or.inl rfl))
      (pss_one (ps_expr (app_K (K := K) (pe_bm PySem.F.plainAttrs_list PySem.F.slot_list_append PySem.F.type_list_append mt_append (pv 4) (pa_cons (pe_mtX (takes_of rfl rfl rfl rfl) x_ExpressionReader__needed hr (by first | decide | omega) (pv 0) (pa_cons (pv 5) (pa_cons (pv 1) pa_nil))) pa_nil))))))
      (pss_cons (ps_expr (pe_mtX (takes_of rfl rfl rfl rfl) x_ExpressionReader__take hr (by first | decide | omega) (pv 0) (pa_cons pe_str pa_nil)))
      (pss_one (ps_ret (pe_callTy (tup_K (K := K)) (by rfl) T.m_tuple (by decide +kernel) (pa_cons (pv 4) pa_nil))))))))))), fun ds M kk kx hw => by
    obtain ⟨a, dx, cs, c, m, lv, h, ps, rfl, rfl, hl, ⟨ns, hfr, ok⟩, hlv, hm, hw⟩ := hw
    have hsz := sizeLine_eq
    obtain ⟨b, hb, hrep⟩ := look h ns hfr
    have hsv := frm_sev _ hfr
    have hlen := okPs_len ok
    have hl3 : ns.length ≤ 3 := frm_len _ hfr
    have e0 : (Ex.fm h ps).toks = .op :: .lt h :: (Ex.tokL ps ++ [.cl]) := rfl
    refine as_start (δ' := [some (.ref a), some (.int (lv : Nat)), none, none, none, none]) rfl ?_
    obtain ⟨c1, hc, hx1, h1⟩ : ∃ c1, c.1 = .op ∧ Lx cs c.2.2 c1.1 c1.2.1 c1.2.2 ∧ ((∃ f, c1 = (.fin, f, f) ∧ ∀ M', TbIn PT M' → kx (posF f) M') ∨ ∃ c2, c1.1 = .lt h ∧ Lx cs c1.2.2 c2.1 c2.2.1 c2.2.2 ∧
        Md cs c2 ps (fun c' => kk (Ex.fm h ps).d (Rx C dx a PT cs c' (m + Ex.cntL ps))) fun f => ∀ M', TbIn PT M' → kx (posF f) M') := by
      rcases hw with ⟨c', g, q⟩ | ⟨t, ts, f, g, cut, qx⟩
      · rw [e0] at g
        obtain ⟨e1, c1, x1, g1⟩ := g.first
        obtain ⟨e2, c2, x2, g2⟩ := g1.first
        exact ⟨c1, e1, x1, .inr ⟨c2, e2, x2, .inl ⟨c', g2, q⟩⟩⟩
      · rcases cut with ⟨us, hus, e9⟩ | ⟨z, _⟩
        · rw [e0] at e9
          obtain ⟨et, e⟩ := List.cons.inj e9
          clear e9
          subst et
          obtain ⟨e1, c1, x1, g1⟩ := g.first
          refine ⟨c1, e1, x1, ?_⟩
          cases ts with
          | nil =>
            cases g1
            exact .inl ⟨f, rfl, qx⟩
          | cons t2 ts =>
            obtain ⟨et2, e7⟩ := List.cons.inj e
            clear e
            subst et2
            obtain ⟨e2, c2, x2, g2⟩ := g1.first
            exact .inr ⟨c2, e2, x2, .inr ⟨ts, us, f, hus, g2, e7, qx⟩⟩
        · cases z
    clear hw
    refine as_seq (as_dropX (aex_meth rfl (ae_var rfl ⟨a, dx, _, rfl, ⟨[], _, rfl⟩, rfl, aa_cons (ae_str (aa_nil ?_))⟩)))
    refine ⟨[_], [(PT, .tb)], fun _ M => M = [(a, RdO C dx cs c1.1 c1.2.1 c1.2.2 m)], fun _ _ => False, rfl, ⟨a, dx, cs, c.1, c.2.1, c.2.2, m, _, rfl, rfl, hl, .inl ⟨by rw [hc]; rfl, _, _, _, hx1, rfl⟩⟩, ?_, fun _ _ h => h.elim⟩
    rintro _ _ rfl
    refine as_seq (as_set (ae_op (ae_token kC rfl (ae_int (aix_T rfl ?_)))))
    refine as_seq (as_setX (aex_meth rfl (ae_var rfl ⟨a, dx, _, rfl, ⟨[], _, rfl⟩, rfl, aa_cons (ae_str (aa_nil ?_))⟩)))
    rcases h1 with ⟨f, rfl, qx⟩ | ⟨c2, hc1, hx2, md⟩
    · refine ⟨[_], [(PT, .tb)], fun _ _ => False, fun fs M' => fs = posF f, rfl, ⟨a, dx, cs, _, _, _, m, _, rfl, rfl, hl, .inr ⟨(by decide +kernel : Str.ofString "letters" ≠ Str.ofString "end"), fun M' => rfl⟩⟩, fun _ _ h => h.elim, fun fs M' h => by subst h; exact qx _ (List.mem_append_right _ (by simp))⟩
    · refine ⟨[_], [(PT, .tb)], fun d M => d = .str (tx h) ∧ M = [(a, RdO C dx cs c2.1 c2.2.1 c2.2.2 m)], fun _ _ => False, rfl, ⟨a, dx, cs, c1.1, c1.2.1, c1.2.2, m, _, rfl, rfl, hl, .inl ⟨by rw [hc1]; rfl, _, _, _, hx2, by rw [hc1]; rfl, rfl⟩⟩, ?_, fun _ _ h => h.elim⟩
      rintro _ _ ⟨rfl, rfl⟩
      refine as_seq ?_
      walk_at "tg"
      refine ae_refC (anin_tab tab ?_)
      rw [hb]
      walk_at "tg"
      intro rd
      refine as_seq (as_for (ai_seq (ae_op (ae_refC (ae_var rfl (ar_kixV tab hb hrep ?_))))))
      refine ⟨_, rfl, fun i δ' M' => ∃ (ci : Cu) (y : Option D), δ' = [some (.ref a), some (.int (lv : Nat)), some (.int (c1.2.1 : Nat)), some (.str (tx h)), some (.ref rd), y] ∧ M' = [(a, RdO C dx cs ci.1 ci.2.1 ci.2.2 (m + Ex.cntL (ps.take i))), (PT, .tb), (rd, .lst (.str (tx h) :: (ps.take i).map Ex.d))] ∧
        OkPs (OkE n) (ns.drop i) (ps.drop i) ∧ sevLast (ns.drop i) = true ∧ Md cs ci (ps.drop i) (fun c' => kk (Ex.fm h ps).d (Rx C dx a PT cs c' (m + Ex.cntL ps))) fun f => ∀ M', TbIn PT M' → kx (posF f) M', ⟨c2, _, rfl, rfl, ok, hsv, md⟩, ?_, ?_⟩
      · clear md
        rintro i d δ' M' hd ⟨ci, y, rfl, rfl, ok2, sv2, md⟩
        rw [List.getElem?_map] at hd
        obtain ⟨nd, hnd, rfl⟩ := Option.map_eq_some_iff.mp hd
        obtain ⟨hi, hnd2⟩ := List.getElem?_eq_some_iff.mp hnd
        have hip : i < ps.length := by omega
        have en : ns.drop i = nd :: ns.drop (i + 1) := by rw [List.drop_eq_getElem_cons hi, hnd2]
        obtain ⟨p, hp⟩ : ∃ p, p = ps[i] := ⟨_, rfl⟩
        have ep : ps.drop i = p :: ps.drop (i + 1) := by rw [List.drop_eq_getElem_cons hip, hp]
        have et : ps.take (i + 1) = ps.take i ++ [p] := by rw [List.take_succ_eq_append_getElem hip, hp]
        have ecnt : Ex.cntL ps = Ex.cntL (ps.take i) + (p.cnt + Ex.cntL (ps.drop (i + 1))) := by
          rw [show p.cnt + Ex.cntL (ps.drop (i + 1)) = Ex.cntL (ps.drop i) by rw [ep]; rfl, ← cntL_app, List.take_append_drop]
        rw [en, ep] at ok2
        rw [ep] at md
        rw [en] at sv2
        refine ag_name ?_
        refine as_dropX (aex_lm (ae_var rfl ⟨lst2, aax_one (aex_meth rfl (ae_var rfl ⟨a, dx, _, rfl, ⟨[], _, rfl⟩, rfl, aa_cons (ae_var rfl (aa_cons (ae_var rfl (aa_nil ?_))))⟩))⟩))
        rcases md_step sv2 ok2 md with ⟨c3, g, hsev, md2⟩ | ⟨ts, f, g, cut, qx⟩
        · refine ⟨Rx C dx a PT cs ci (m + Ex.cntL (ps.take i)), [(rd, .lst (.str (tx h) :: (ps.take i).map Ex.d))], fun d M => d = p.d ∧ M = Rx C dx a PT cs c3 (m + Ex.cntL (ps.take i) + p.cnt), fun _ _ => False, rfl, ⟨a, dx, cs, ci, m + Ex.cntL (ps.take i), lv, nd, p, rfl, rfl, hl, ok2.1, hlv, by omega, .inl ⟨c3, g, hsev, rfl, rfl⟩⟩, ?_, fun _ _ h => h.elim⟩
          rintro _ _ ⟨rfl, rfl⟩
          refine app2 (by rw [List.length_cons, List.length_map, List.length_take]; omega) ?_
          refine ⟨c3, _, rfl, ?_, ok2.2, (sevLast_tail sv2).1, md2⟩
          rw [et, cntL_app, List.map_append]
          show _ = [(a, RdO C dx cs c3.1 c3.2.1 c3.2.2 (m + (Ex.cntL (ps.take i) + (p.cnt + 0)))), _, _]
          rw [Nat.add_zero, ← Nat.add_assoc]
          rfl
        · exact ⟨Rx C dx a PT cs ci (m + Ex.cntL (ps.take i)), [(rd, .lst (.str (tx h) :: (ps.take i).map Ex.d))], fun _ _ => False, fun fs M' => fs = posF f ∧ TbIn PT M', rfl, ⟨a, dx, cs, ci, m + Ex.cntL (ps.take i), lv, nd, p, rfl, rfl, hl, ok2.1, hlv, by omega, .inr ⟨ts, f, g, cut, fun _ hm => ⟨rfl, hm⟩⟩⟩, fun _ _ h => h.elim, fun fs M' h => by obtain ⟨rfl, hm⟩ := h; exact qx _ (List.mem_append_left _ hm)⟩
      · clear md
        rintro δ' M' ⟨ci, y, rfl, rfl, ok2, sv2, md⟩
        have e9 : (ns.map fun n => D.str n.s).length = ps.length := by rw [List.length_map, hlen]
        have ed : ps.drop (ns.map fun n => D.str n.s).length = [] := by rw [e9, List.drop_length]
        have et : ps.take (ns.map fun n => D.str n.s).length = ps := by rw [e9, List.take_length]
        rw [ed] at md
        rw [et]
        refine as_seq (as_dropX (aex_meth rfl (ae_var rfl ⟨a, dx, _, rfl, ⟨[], _, rfl⟩, rfl, aa_cons (ae_str (aa_nil ?_))⟩)))
        rcases md with ⟨c', g, q⟩ | ⟨ts, us, f, hne, g, e, qx⟩
        · obtain ⟨e1, hx⟩ := (show Go cs ci [.cl] c' from g).one
          refine ⟨[_], [(PT, .tb), (rd, .lst (.str (tx h) :: ps.map Ex.d))], fun _ M => M = [(a, RdO C dx cs c'.1 c'.2.1 c'.2.2 (m + Ex.cntL ps))], fun _ _ => False, rfl, ⟨a, dx, cs, ci.1, ci.2.1, ci.2.2, m + Ex.cntL ps, _, rfl, rfl, hl, .inl ⟨by rw [e1]; rfl, _, _, _, hx, rfl⟩⟩, ?_, fun _ _ h => h.elim⟩
          rintro _ _ rfl
          show AS K _ _ _ _
          refine frz2 (s := 4) rfl ?_
          walk_at "tg"
          have e2 : (Ex.fm h ps).d = .tup (.str (tx h) :: ps.map Ex.d) := by
            show D.tup (_ :: Ex.ds ps) = _
            rw [Ex.ds_map]
          rw [e2] at q
          exact q
        · have e3 : ts = [] := cut_one (show [Tk.cl] = ts ++ us from e) hne
          subst e3
          cases g
          exact ⟨[_], [(PT, .tb), (rd, .lst (.str (tx h) :: ps.map Ex.d))], fun _ _ => False, fun fs M' => fs = posF f, rfl, ⟨a, dx, cs, _, _, _, m + Ex.cntL ps, _, rfl, rfl, hl, .inr ⟨(by decide +kernel : Str.ofString ")" ≠ Str.ofString "end"), fun M' => rfl⟩⟩, fun _ _ h => h.elim, fun fs M' h => by subst h; exact qx _ (List.mem_append_right _ (by simp))⟩⟩
end

def W_frmX' (C PT : Addr) : Nat → WtX
  | 0 => fun _ _ _ _ => False
  | n + 1 => W_frmX C PT n
theorem cnt_pos {n : Nat} {e : Ex} (h : OkE n e) : 1 ≤ e.cnt := by
  cases e with
  | int i => exact Nat.le_refl _
  | tx l => exact Nat.le_refl _
  | bl b => exact Nat.le_refl _
  | fm h ps => show 1 ≤ 1 + Ex.cntL ps; omega
  | nm w => cases n <;> exact h.elim
  | qt l => cases n <;> exact h.elim
  | sv ks => cases n <;> exact h.elim
theorem metX_none {P : Program} {w : World} {K : PySem.W.Frag} {mg : Str → Option Value} {base : Heap} {C Ce : Addr} (kC : Cls K C) {m qual : Str} {st : Stmt} {ps : List Str} {n : Nat} {W : WtX} (D : DefM K C m qual st ps) (no : ∀ ds M k kx, ¬ W ds M k kx) : MetX P w K mg base n C m (SpcX K Ce W) :=
  metX_of kC D fun f fd F => ⟨fun vs H Q E h => by
    obtain ⟨_, ds, M, k, kx, _, _, hw, _⟩ := h
    exact absurd hw (no ds M k kx), fun A outer s H args us vs Q E _ _ _ _ h => by
    obtain ⟨_, ds, M, k, kx, _, _, hw, _⟩ := h
    exact absurd hw (no ds M k kx)⟩
section
variable {P : Program} {w : World} {K : PySem.W.Frag} {mg : Str → Option Value} {base : Heap} {C Ce PT : Addr}
theorem x_expression (kC : Cl_ExpressionReader K mg C) (T : Top K mg w) (e_BadExpression : ErrT_BadExpression K mg Ce) (n : Nat) (x_ExpressionReader__form : MetX P w K mg base (4 + 4 * n) C "_form" (SpcX K Ce (W_frmX' C PT n))) :
    MetX P w K mg base (5 + 4 * n) C "_expression" (SpcX K Ce (W_expX C PT n)) := metX_of kC.cl kC.d__expression fun f fd F => by
  obtain ⟨fI, fdI, iA_BadExpression, iT_BadExpression, FI, iB_BadExpression⟩ := e_BadExpression.i
  have iF_BadExpression := ok_init_BadExpression (P := P) (w := w) (base := base) e_BadExpression FI
  have x_ExpressionReader__take := x_take (P := P) (w := w) (base := base) kC T e_BadExpression
  obtain ⟨t_MOST_PARTS, g_MOST_PARTS⟩ := T.g_MOST_PARTS; obtain ⟨t_MOST_LEVELS, g_MOST_LEVELS⟩ := T.g_MOST_LEVELS
  have hlev : 5 + 4 * n = (4 + 4 * n) + 1 := by omega
  rw [hlev]
  exact spc_okX F sc_ExpressionReader__expression (fun ds M k kx h => by obtain ⟨a, dx, cs, c, m, lv, rfl, _⟩ := h; rfl) fun cdv A outer s H E hr => ⟨_, (pss_cons (ps_asg (fld_K (K := K) (pv 0)) (gtup_K (K := K) (n := 4) rfl (pgs_cons (pg_name (i := 2) sc_ExpressionReader__expression.nd rfl (Or.inl rfl)) (pgs_cons (pg_name (i := 3) sc_ExpressionReader__expression.nd rfl (Or.inl rfl)) (pgs_cons (pg_name (i := 4) sc_ExpressionReader__expression.nd rfl (Or.inl rfl)) (pgs_cons (pg_name (i := 5) sc_ExpressionReader__expression.nd rfl (Or.inl rfl)) pgs_nil))))))
      (pss_cons (sfldaug_K (K := K) (pv 0) pe_int)
      (pss_cons (ps_if (pt_cmpR op_gt (fld_K (K := K) (pv 0)) (pe_glob (v := V.int 60) (by rfl) g_MOST_PARTS ⟨_, rfl⟩) (nomark _))
      (pss_one (ps_raise1 rfl (takes_of rfl rfl rfl rfl) e_BadExpression.o iA_BadExpression iT_BadExpression iF_BadExpression (hr.mono (by first | decide | omega)) iB_BadExpression pass0 (by rfl) e_BadExpression.m (pa_cons (pv 3) pa_nil)))
      pss_nil)
      (pss_cons (ps_if (pw_and (pt_cmpR op_eq (pv 2) pe_str (nomark _)) (pw_and1 (pt_cmpR op_lt (pv 1) (pe_glob (v := V.int 12) (by rfl) g_MOST_LEVELS ⟨_, rfl⟩) (nomark _)))).pt
      (pss_one (ps_ret (pe_mtX (takes_of rfl rfl rfl rfl) x_ExpressionReader__form hr (by first | decide | omega) (pv 0) (pa_cons (pe_op (add_K (K := K)) (pv 1) pe_int) pa_nil))))
      pss_nil)
      (pss_cons (ps_if (pt_cmpR (in_K (K := K)) (pv 2) (pe_tup (pa_cons pe_str (pa_cons pe_str pa_nil))) (by rfl))
      (pss_one (ps_ret (pe_tup (pa_cons (pv 2) (pa_cons (pe_mtX (takes_of rfl rfl rfl rfl) x_ExpressionReader__take hr (by first | decide | omega) (pv 0) (pa_cons (pv 2) pa_nil)) pa_nil)))))
      pss_nil)
      (pss_cons (ps_if (pw_and (pt_cmpR op_eq (pv 2) pe_str (nomark _)) (pw_and1 (pt_cmpR (in_K (K := K)) (pv 5) (pe_tup (pa_cons pe_str (pa_cons pe_str pa_nil))) (by rfl)))).pt
      (pss_one (ps_ret (pe_tup (pa_cons pe_str (pa_cons (pe_cmpR op_eq (pe_mtX (takes_of rfl rfl rfl rfl) x_ExpressionReader__take hr (by first | decide | omega) (pv 0) (pa_cons (pv 2) pa_nil)) pe_str (nomark _)) pa_nil)))))
      pss_nil)
      (pss_one (ps_raise1 rfl (takes_of rfl rfl rfl rfl) e_BadExpression.o iA_BadExpression iT_BadExpression iF_BadExpression (hr.mono (by first | decide | omega)) iB_BadExpression pass0 (by rfl) e_BadExpression.m (pa_cons (pv 3) pa_nil))))))))), fun ds M kk kx hw => by
    obtain ⟨a, dx, cs, c, m, lv, rfl, rfl, hl, hw⟩ := hw
    have hsz := sizeLine_eq
    have key : (∃ f, c = (.fin, f, f) ∧ ∀ M', TbIn PT M' → kx (posF f) M') ∨ ∃ e : Ex, OkE n e ∧ lv + n ≤ 12 ∧ m + e.cnt ≤ 60 ∧ ((∃ c', Go cs c e.toks c' ∧ kk e.d (Rx C dx a PT cs c' (m + e.cnt))) ∨ ∃ t ts f, Go cs c (t :: ts) (.fin, f, f) ∧ Cut .one e (t :: ts) ∧ ∀ M', TbIn PT M' → kx (posF f) M') := by
      rcases hw with ⟨e, h1, h2, h3, h4 | ⟨ts, f, g, cut, qx⟩⟩ | h
      · exact .inr ⟨e, h1, h2, h3, .inl h4⟩
      · cases ts with
        | nil =>
          cases g
          exact .inl ⟨f, rfl, qx⟩
        | cons t ts => exact .inr ⟨e, h1, h2, h3, .inr ⟨t, ts, f, g, cut, qx⟩⟩
      · exact .inl h
    clear hw
    refine as_start (δ' := [some (.ref a), some (.int (lv : Nat)), none, none, none, none]) rfl ?_
    unfold Rx
    walk_at "tg"
    refine ae_token kC rfl ?_
    unfold tokD
    walk_at "tg"
    refine as_seq (as_many kC rfl ?_)
    refine as_seq (as_if (at_test (ae_op (ae_many kC rfl ?_))))
    walk_at "tg"
    rcases key with ⟨f, rfl, qx⟩ | ⟨e, ok, hlv, hm, md⟩
    · refine dcase (fun c1 => ?_) (fun c1 => ?_)
      · refine as_raise1 rfl ?_
        walk_at "tg"
        exact qx _ (by simp [TbIn])
      · refine as_next ?_
        refine as_seq ?_
        walk_at "tg"
        refine as_seq ?_
        walk_at "tg"
        refine ain_tup (ss := [Str.ofString "integer", Str.ofString "text"]) ?_
        rw [show decide (Tk.fin.sort ∈ [Str.ofString "integer", Str.ofString "text"]) = false from by decide +kernel]
        walk_at "tg"
        refine as_seq ?_
        walk_at "tg"
        refine as_raise1 rfl ?_
        walk_at "tg"
        exact qx _ (by simp [TbIn])
    · have hp := cnt_pos ok
      refine dcase (fun c1 => absurd c1 (by omega)) (fun c1 => ?_)
      refine as_next ?_
      refine as_seq ?_
      have nocut : ∀ {x t : Tk} {ts : List Tk} {e : Ex}, e.toks = [x] → ¬ Cut .one e (t :: ts) := fun e1 z => by
        rcases z with ⟨us, hne, e2⟩ | ⟨z, _⟩
        · rw [e1] at e2
          exact nomatch cut_one e2 hne
        · cases z
      cases e with
      | int i =>
        rcases md with ⟨c', g, q⟩ | ⟨t, ts, f, _, cut, _⟩
        · obtain ⟨e1, hx⟩ := (show Go cs c [.num i] c' from g).one
          rw [e1]
          walk_at "tg"
          refine as_seq ?_
          walk_at "tg"
          refine ain_tup (ss := [Str.ofString "integer", Str.ofString "text"]) ?_
          rw [show decide ((Tk.num i).sort ∈ [Str.ofString "integer", Str.ofString "text"]) = true from (by decide +kernel : decide (Str.ofString "integer" ∈ [Str.ofString "integer", Str.ofString "text"]) = true)]
          refine ⟨_, rfl, ?_⟩
          refine caseT rfl ?_
          refine as_retX (aex_tup (aax_cons (ae_var rfl (aax_one (aex_meth rfl (ae_var rfl ⟨a, dx, _, rfl, ⟨[], _, rfl⟩, rfl, aa_cons (ae_var rfl (aa_nil ?_))⟩))))))
          refine ⟨[_], [(PT, .tb)], fun d M => d = .int i ∧ M = [(a, RdO C dx cs c'.1 c'.2.1 c'.2.2 (m + 1))], fun _ _ => False, rfl, ⟨a, dx, cs, .num i, c.2.1, c.2.2, m + 1, _, rfl, rfl, hl, .inl ⟨rfl, _, _, _, hx, rfl, rfl⟩⟩, ?_, fun _ _ h => h.elim⟩
          rintro _ _ ⟨rfl, rfl⟩
          refine ⟨by rw [hsz]; exact (by decide : 2 ≤ 16777216), ?_⟩
          exact q
        · exact absurd cut (nocut rfl)
      | tx l =>
        rcases md with ⟨c', g, q⟩ | ⟨t, ts, f, _, cut, _⟩
        · obtain ⟨e1, hx⟩ := (show Go cs c [.txt l] c' from g).one
          rw [e1]
          walk_at "tg"
          refine as_seq ?_
          walk_at "tg"
          refine ain_tup (ss := [Str.ofString "integer", Str.ofString "text"]) ?_
          rw [show decide ((Tk.txt l).sort ∈ [Str.ofString "integer", Str.ofString "text"]) = true from (by decide +kernel : decide (Str.ofString "text" ∈ [Str.ofString "integer", Str.ofString "text"]) = true)]
          refine ⟨_, rfl, ?_⟩
          refine caseT rfl ?_
          refine as_retX (aex_tup (aax_cons (ae_var rfl (aax_one (aex_meth rfl (ae_var rfl ⟨a, dx, _, rfl, ⟨[], _, rfl⟩, rfl, aa_cons (ae_var rfl (aa_nil ?_))⟩))))))
          refine ⟨[_], [(PT, .tb)], fun d M => d = .str (Tg.tx l) ∧ M = [(a, RdO C dx cs c'.1 c'.2.1 c'.2.2 (m + 1))], fun _ _ => False, rfl, ⟨a, dx, cs, .txt l, c.2.1, c.2.2, m + 1, _, rfl, rfl, hl, .inl ⟨rfl, _, _, _, hx, rfl, rfl⟩⟩, ?_, fun _ _ h => h.elim⟩
          rintro _ _ ⟨rfl, rfl⟩
          refine ⟨by rw [hsz]; exact (by decide : 2 ≤ 16777216), ?_⟩
          exact q
        · exact absurd cut (nocut rfl)
      | bl b =>
        rcases md with ⟨c', g, q⟩ | ⟨t, ts, f, _, cut, _⟩
        · obtain ⟨e1, hx⟩ := (show Go cs c [.lt (boolL b)] c' from g).one
          rw [e1]
          walk_at "tg"
          refine as_seq ?_
          walk_at "tg"
          refine ain_tup (ss := [Str.ofString "integer", Str.ofString "text"]) ?_
          rw [show decide ((Tk.lt (boolL b)).sort ∈ [Str.ofString "integer", Str.ofString "text"]) = false from (by decide +kernel : decide (Str.ofString "letters" ∈ [Str.ofString "integer", Str.ofString "text"]) = false)]
          walk_at "tg"
          refine as_seq ?_
          walk_at "tg"
          refine ain_tup (z := Tg.tx (boolL b)) (ss := [Str.ofString "true", Str.ofString "false"]) ?_
          rw [show decide (Tg.tx (boolL b) ∈ [Str.ofString "true", Str.ofString "false"]) = true from by cases b <;> decide +kernel]
          refine ⟨_, rfl, ?_⟩
          refine caseT rfl ?_
          refine as_retX (aex_tup (aax_cons (ae_str (aax_one (aex_opL (aex_meth rfl (ae_var rfl ⟨a, dx, _, rfl, ⟨[], _, rfl⟩, rfl, aa_cons (ae_var rfl (aa_nil ?_))⟩)))))))
          refine ⟨[_], [(PT, .tb)], fun d M => d = .str (Tg.tx (boolL b)) ∧ M = [(a, RdO C dx cs c'.1 c'.2.1 c'.2.2 (m + 1))], fun _ _ => False, rfl, ⟨a, dx, cs, .lt (boolL b), c.2.1, c.2.2, m + 1, _, rfl, rfl, hl, .inl ⟨rfl, _, _, _, hx, rfl, rfl⟩⟩, ?_, fun _ _ h => h.elim⟩
          rintro _ _ ⟨rfl, rfl⟩
          refine ae_str (ar_eqD rfl ?_)
          refine ⟨by rw [hsz]; exact (by decide : 2 ≤ 16777216), ?_⟩
          have eb : decide (Tg.tx (boolL b) = Str.ofString "true") = b := by cases b <;> decide +kernel
          rw [eb]
          exact q
        · exact absurd cut (nocut rfl)
      | fm h ps =>
        cases n with
        | zero => exact ok.elim
        | succ n =>
          have hop : c.1 = .op := by
            rcases md with ⟨c', g, q⟩ | ⟨t, ts, f, g, ⟨us, _, e⟩ | ⟨z, _⟩, _⟩
            · exact (show Go cs c (.op :: .lt h :: (Ex.tokL ps ++ [.cl])) c' from g).first.1
            · have et : Tk.op = t := (List.cons.inj (show Tk.op :: .lt h :: (Ex.tokL ps ++ [.cl]) = t :: (ts ++ us) from e)).1
              rw [et]
              exact g.first.1
            · cases z
          have hcn : (Ex.fm h ps).cnt = 1 + Ex.cntL ps := rfl
          rw [hcn, ← Nat.add_assoc] at md
          rw [hcn] at hm
          rw [hop]
          refine as_if (at_and (at_test (ae_op (ae_var rfl (ae_str (ar_eqD rfl ⟨_, rfl, ?_⟩))))))
          refine caseT (by decide +kernel) ?_
          walk_at "tg"
          refine dcase (fun _ => ?_) (fun z => absurd (by omega) z)
          refine as_retX (aex_meth rfl (ae_var rfl ⟨a, dx, _, rfl, ⟨[], _, rfl⟩, rfl, aa_cons ?_⟩))
          walk_at "tg"
          refine ⟨_, [], fun d M => (∃ c', d = (Ex.fm h ps).d ∧ M = Rx C dx a PT cs c' (m + 1 + Ex.cntL ps) ∧ kk (Ex.fm h ps).d (Rx C dx a PT cs c' (m + 1 + Ex.cntL ps))), fun fs M => ∃ f, fs = posF f ∧ TbIn PT M ∧ ∀ M', TbIn PT M' → kx (posF f) M', (List.append_nil _).symm, ⟨a, dx, cs, c, m + 1, lv + 1, h, ps, rfl, by rw [← hop]; rfl, hl, ok, by omega, by omega, ?_⟩, ?_, ?_⟩
          · rcases md with ⟨c', g, q⟩ | ⟨t, ts, f, g, cut, qx⟩
            · exact .inl ⟨c', g, c', rfl, rfl, q⟩
            · exact .inr ⟨t, ts, f, g, cut, fun M' hm => ⟨f, rfl, hm, qx⟩⟩
          · rintro _ _ ⟨c', rfl, rfl, q⟩
            rw [List.append_nil]
            exact q
          · rintro _ M' ⟨f, rfl, hm, qx⟩
            exact qx _ (List.mem_append_left _ hm)
      | nm w => cases n <;> exact ok.elim
      | qt l => cases n <;> exact ok.elim
      | sv ks => cases n <;> exact ok.elim⟩
/-- the reader of expressions, by depth -/
theorem x_exprs (kC : Cl_ExpressionReader K mg C) (T : Top K mg w) (B : DefB K mg base "is_name" s_is_name ["text"] PT) (e : ErrT_BadExpression K mg Ce) : ∀ n : Nat, MetX P w K mg base (5 + 4 * n) C "_expression" (SpcX K Ce (W_expX C PT n))
  | 0 => x_expression kC T e 0 (metX_none kC.cl kC.d__form fun ds M k kx h => h)
  | n + 1 => by
    have xe := x_exprs kC T B e n
    have xs := x_several (P := P) (w := w) (Ce := Ce) kC T n xe
    have xn := x_needed kC T B e n xe xs
    have xf := x_form kC T e n xn
    have e1 : 4 + 4 * (n + 1) = 5 + 4 * n + 3 := by omega
    have xf2 : MetX P w K mg base (4 + 4 * (n + 1)) C "_form" (SpcX K Ce (W_frmX' C PT (n + 1))) := by
      rw [e1]
      exact xf
    exact x_expression kC T e (n + 1) xf2
end

def isM (d0 : D) (M0 : Mu) : D → Mu → Prop := fun d M => d = d0 ∧ M = M0
def W_init (C : Addr) : Wt := fun ds M k => ∃ (a dx : Addr) (cs : List Nat) (c : Cu), ds = [.ref a, .str (tx cs)] ∧ M = [(a, .ins C dx [])] ∧ cs.length ≤ 100000 ∧ Lx cs 0 c.1 c.2.1 c.2.2 ∧ k .non [(a, RdO C dx cs c.1 c.2.1 c.2.2 0)]
/-- how the reading of a whole text ends -/
def Ends (n : Nat) (cs : List Nat) (c : Cu) (K : D → Prop) (X : Nat → Prop) : Prop :=
  (∃ e f, OkE n e ∧ e.cnt ≤ 60 ∧ Go cs c e.toks (.fin, f, f) ∧ K e.d) ∨
  (∃ e t s z, OkE n e ∧ e.cnt ≤ 60 ∧ Go cs c e.toks (t, s, z) ∧ t.sort ≠ Str.ofString "end" ∧ X s) ∨
  (∃ e ts f, OkE n e ∧ e.cnt ≤ 60 ∧ Go cs c ts (.fin, f, f) ∧ Cut .one e ts ∧ X f) ∨
  ∃ f, c = (.fin, f, f) ∧ X f
def W_whoX (C PT : Addr) (n : Nat) : WtX := fun ds M k kx => ∃ (a dx : Addr) (cs : List Nat) (c : Cu), ds = [.ref a] ∧ M = Rx C dx a PT cs c 0 ∧ cs.length ≤ 100000 ∧ n ≤ 12 ∧ Ends n cs c (fun d => ∀ o, k d [o, (PT, .tb)]) fun f => ∀ M', TbIn PT M' → kx (posF f) M'
def W_readX (PT : Addr) (n : Nat) : WtX := fun ds M k kx => ∃ (cs : List Nat) (c : Cu), ds = [.str (tx cs)] ∧ M = [(PT, .tb)] ∧ cs.length ≤ 100000 ∧ n ≤ 12 ∧ Lx cs 0 c.1 c.2.1 c.2.2 ∧ Ends n cs c (fun d => ∀ o, k d [o, (PT, .tb)]) fun f => ∀ M', TbIn PT M' → kx (posF f) M'
theorem Lx.fin_at {cs : List Nat} {p f g : Nat} (h : Lx cs p .fin f g) : AtR cs f [] := by
  obtain ⟨gp, r, n, at_, _, rfl, ⟨_, rfl⟩, _⟩ := h
  exact at_.adv
theorem Go.fin {cs : List Nat} {ts : List Tk} {c c' : Cu} {f : Nat} (h : Go cs c ts c') : ts ≠ [] → c' = (.fin, f, f) → AtR cs f [] := by
  induction h with
  | nil => exact fun h => absurd rfl h
  | @cons t s e c c' ts h1 h2 ih =>
    intro _ hf
    by_cases ht : ts = []
    · subst ht
      cases h2
      subst hf
      exact h1.fin_at
    · exact ih ht hf
section
variable {P : Program} {w : World} {K : PySem.W.Frag} {mg : Str → Option Value} {base : Heap} {C Ce PT : Addr}
theorem m_init (kC : Cl_ExpressionReader K mg C) (T : Top K mg w) : C8.Mak P w K mg base 4 "ExpressionReader" C (Spc K (W_init C)) [] := mak_of kC.m kC.mk1 kC.mk2 kC.d___init__ fun f fd F => by
  have c_expression_token := c_expression_token (P := P) (w := w) (base := base) T
  exact spc_ok F sc_ExpressionReader___init__ (fun ds M k h => by obtain ⟨a, dx, cs, c, rfl, _⟩ := h; rfl) fun cdv A outer s H E hr => ⟨_, (pss_cons (sfld_K (K := K) (pv 0) (pv 1))
      (pss_cons (sfld_K (K := K) (pv 0) (pe_c c_expression_token hr (by first | decide | omega) (by rfl) (pa_cons (pv 1) (pa_cons pe_int pa_nil))))
      (pss_one (sfld_K (K := K) (pv 0) pe_int)))), fun ds M kk hw => by
    obtain ⟨a, dx, cs, c, rfl, rfl, hl, hx, q⟩ := hw
    refine as_start (δ' := [some (.ref a), some (.str (tx cs))]) rfl ?_
    refine as_seq ?_
    refine as_sfld (ae_var rfl (ae_var rfl ⟨a, C, dx, [], [], [], rfl, rfl, kC.cl, kC.n__text, by decide, ?_⟩))
    refine as_seq ?_
    refine as_sfld ?_
    walk_at "tg"
    refine ⟨[], _, fun d M => d = tokD c.1 c.2.1 c.2.2 ∧ M = [], rfl, ⟨cs, 0, c.2.1, c.2.2, c.1, rfl, rfl, hl, hx, rfl, rfl⟩, ?_⟩
    rintro _ _ ⟨rfl, rfl⟩
    refine ae_var rfl ⟨a, C, dx, _, [], [], rfl, rfl, kC.cl, kC.n__token, by show 1 < 1000; decide, ?_⟩
    refine as_sfld (ae_int (ae_var rfl ⟨a, C, dx, _, [], [], rfl, rfl, kC.cl, kC.n__many, by show 2 < 1000; decide, ?_⟩))
    exact q⟩
theorem x_whole (kC : Cl_ExpressionReader K mg C) (T : Top K mg w) (B : DefB K mg base "is_name" s_is_name ["text"] PT) (e_BadExpression : ErrT_BadExpression K mg Ce) (n : Nat) : MetX P w K mg base (6 + 4 * n) C "whole" (SpcX K Ce (W_whoX C PT n)) := metX_of kC.cl kC.d_whole fun f fd F => by
  have x_ExpressionReader__take := x_take (P := P) (w := w) (base := base) kC T e_BadExpression
  have x_ExpressionReader__expression := x_exprs (P := P) (w := w) kC T B e_BadExpression n
  have hlev : 6 + 4 * n = (5 + 4 * n) + 1 := by omega
  rw [hlev]
  exact spc_okX F sc_ExpressionReader_whole (fun ds M k kx h => by obtain ⟨a, dx, cs, c, rfl, _⟩ := h; rfl) fun cdv A outer s H E hr => ⟨_, (pss_cons (ps_set (i := 1) sc_ExpressionReader_whole.nd rfl (Or.inl rfl) (pe_mtX (takes_of rfl rfl rfl rfl) x_ExpressionReader__expression hr (by first | decide | omega) (pv 0) (pa_cons pe_int pa_nil)))
      (pss_cons (ps_expr (pe_mtX (takes_of rfl rfl rfl rfl) x_ExpressionReader__take hr (by first | decide | omega) (pv 0) (pa_cons pe_str pa_nil)))
      (pss_one (ps_ret (pv 1))))), fun ds M kk kx hw => by
    obtain ⟨a, dx, cs, c, rfl, rfl, hl, hn, hw⟩ := hw
    have hsz := sizeLine_eq
    refine as_start (δ' := [some (.ref a), none]) rfl ?_
    unfold Rx
    refine as_seq (as_setX (aex_meth rfl (ae_var rfl ⟨a, dx, _, rfl, ⟨[], _, rfl⟩, rfl, aa_cons (ae_int (aa_nil ?_))⟩)))
    refine ⟨_, [], fun d M => ∃ (e : Ex) (c' : Cu), d = e.d ∧ M = Rx C dx a PT cs c' (0 + e.cnt) ∧ ((∃ f, c' = (.fin, f, f) ∧ AtR cs f [] ∧ ∀ o, kk e.d [o, (PT, .tb)]) ∨ (c'.1.sort ≠ Str.ofString "end" ∧ ∀ M', TbIn PT M' → kx (posF c'.2.1) M')), fun fs M => ∃ f, fs = posF f ∧ TbIn PT M ∧ ∀ M', TbIn PT M' → kx (posF f) M', (List.append_nil _).symm, ⟨a, dx, cs, c, 0, 0, rfl, rfl, hl, ?_⟩, ?_, ?_⟩
    · rcases hw with ⟨e, f, h1, h2, g, q⟩ | ⟨e, t, s, z, h1, h2, g, hne, qx⟩ | ⟨e, ts, f, h1, h2, g, cut, qx⟩ | ⟨f, rfl, qx⟩
      · obtain ⟨t, ts, et, _⟩ := first_tok h1
        exact .inl ⟨e, h1, by omega, by omega, .inl ⟨_, g, e, _, rfl, rfl, .inl ⟨f, rfl, g.fin (by rw [et]; simp) rfl, q⟩⟩⟩
      · exact .inl ⟨e, h1, by omega, by omega, .inl ⟨_, g, e, _, rfl, rfl, .inr ⟨hne, qx⟩⟩⟩
      · exact .inl ⟨e, h1, by omega, by omega, .inr ⟨ts, f, g, cut, fun M' hm => ⟨f, rfl, hm, qx⟩⟩⟩
      · exact .inr ⟨f, rfl, fun M' hm => ⟨f, rfl, hm, qx⟩⟩
    · rintro _ _ ⟨e, c', rfl, rfl, md⟩
      rw [List.append_nil]
      refine as_seq (as_dropX (aex_meth rfl (ae_var rfl ⟨a, dx, _, rfl, ⟨[], _, rfl⟩, rfl, aa_cons (ae_str (aa_nil ?_))⟩)))
      rcases md with ⟨f, rfl, hat, q⟩ | ⟨hne, qx⟩
      · refine ⟨[_], [(PT, .tb)], fun _ M => M = [(a, RdO C dx cs .fin f f (0 + e.cnt))], fun _ _ => False, rfl, ⟨a, dx, cs, .fin, f, f, 0 + e.cnt, _, rfl, rfl, hl, .inl ⟨rfl, .fin, f, f, ⟨[], [], 0, hat, by simp, rfl, ⟨rfl, rfl⟩, rfl⟩, rfl⟩⟩, ?_, fun _ _ h => h.elim⟩
        rintro _ _ rfl
        walk_at "tg"
        exact q _
      · exact ⟨[_], [(PT, .tb)], fun _ _ => False, fun fs M' => fs = posF c'.2.1, rfl, ⟨a, dx, cs, c'.1, c'.2.1, c'.2.2, 0 + e.cnt, _, rfl, rfl, hl, .inr ⟨hne.symm, fun M' => rfl⟩⟩, fun _ _ h => h.elim, fun fs M' h => by subst h; exact qx _ (List.mem_append_right _ (by simp))⟩
    · rintro _ M' ⟨f, rfl, hm, qx⟩
      exact qx _ (List.mem_append_left _ hm)⟩
theorem c_read_expression (T : Top K mg w) (B : DefB K mg base "is_name" s_is_name ["text"] PT) (e_BadExpression : ErrT_BadExpression K mg Ce) (n : Nat) : CalX P w K mg base (7 + 4 * n) "read_expression" (SpcX K Ce (W_readX PT n)) := by
  obtain ⟨C, kC⟩ := T.k_ExpressionReader
  have x_ExpressionReader_whole := x_whole (P := P) (w := w) kC T B e_BadExpression n
  have c_ExpressionReader := m_init (P := P) (w := w) (base := base) kC T
  obtain ⟨f, fd, F, m, b⟩ := T.d_read_expression.ex
  refine ⟨f, fd, ["text"], ?_, m, F.kp, b⟩
  have hlev : 7 + 4 * n = (6 + 4 * n) + 1 := by omega
  rw [hlev]
  exact spc_okX F sc_read_expression (fun ds M k kx h => by obtain ⟨cs, c, rfl, _⟩ := h; rfl) fun cdv A outer s H E hr => ⟨_, (pss_one (ps_ret (pe_mtX0 (takes_of rfl rfl rfl rfl) x_ExpressionReader_whole hr (by first | decide | omega) (pe_mk c_ExpressionReader hr (by first | decide | omega) (by rfl) (pa_cons (pv 0) pa_nil))))), fun ds M kk kx hw => by
    obtain ⟨cs, c, rfl, rfl, hl, hn, hx, hw⟩ := hw
    refine as_start (δ' := [some (.str (tx cs))]) rfl ?_
    refine as_retX (aex_meth rfl ?_)
    refine ae_make (aa_cons (ae_var rfl (aa_nil fun x dx => ⟨isM .non [(x, RdO C dx cs c.1 c.2.1 c.2.2 0)], ⟨x, dx, cs, c, rfl, rfl, hl, hx, rfl, rfl⟩, fun d Mc' h => ?_⟩)))
    obtain ⟨rfl, rfl⟩ := h
    refine ⟨rfl, x, dx, _, rfl, ⟨[], _, rfl⟩, rfl, aa_nil ?_⟩
    refine ⟨_, [], fun d M => ∃ o, M = [o, (PT, .tb)] ∧ ∀ o, kk d [o, (PT, .tb)], fun fs M => ∃ f, fs = posF f ∧ TbIn PT M ∧ ∀ M', TbIn PT M' → kx (posF f) M', (List.append_nil _).symm, ⟨x, dx, cs, c, rfl, rfl, hl, hn, ?_⟩, ?_, ?_⟩
    · rcases hw with ⟨e, f, h1, h2, g, q⟩ | ⟨e, t, s, z, h1, h2, g, hne, qx⟩ | ⟨e, ts, f, h1, h2, g, cut, qx⟩ | ⟨f, h1, qx⟩
      · exact .inl ⟨e, f, h1, h2, g, fun o => ⟨o, rfl, q⟩⟩
      · exact .inr (.inl ⟨e, t, s, z, h1, h2, g, hne, fun M' hm => ⟨s, rfl, hm, qx⟩⟩)
      · exact .inr (.inr (.inl ⟨e, ts, f, h1, h2, g, cut, fun M' hm => ⟨f, rfl, hm, qx⟩⟩))
      · exact .inr (.inr (.inr ⟨f, h1, fun M' hm => ⟨f, rfl, hm, qx⟩⟩))
    · rintro d _ ⟨o, rfl, q⟩
      exact q o
    · rintro _ M' ⟨f, rfl, hm, qx⟩
      exact qx _ (List.mem_append_left _ hm)⟩
end

theorem repl1 (c : Nat) (z : List Nat) : ∀ l : List Nat, StrLaws.replL [c] z l = l.flatMap fun a => if a = c then z else [a]
  | [] => StrLaws.replL_nil
  | a :: l => by
    have ih := repl1 c z l
    rw [List.flatMap_cons]
    by_cases h : a = c
    · subst h
      rw [StrLaws.replL_hit (by simp) (by simp), if_pos rfl]
      show z ++ StrLaws.replL [a] z l = _
      rw [ih]
    · rw [StrLaws.replL_miss (by simpa using h), if_neg h, ih]
      rfl
theorem esc_two (l : List Nat) : (StrLaws.replL [34] [92, 34] (StrLaws.replL [92] [92, 92] l)) = escL l := by
  rw [repl1, repl1]
  unfold escL
  rw [List.flatMap_assoc]
  congr 1
  funext a
  unfold escC
  by_cases h : a = 92
  · subst h
    rfl
  · rw [if_neg h]
    by_cases h2 : a = 34
    · subst h2
      rfl
    · rw [if_neg (by simp [h, h2])]
      simp [h2]
def W_quo : Wt := fun ds M k => ∃ l : List Nat, ds = [.str (tx l)] ∧ M = [] ∧ l.length ≤ 60 ∧ k (.str (tx (34 :: (escL l ++ [34])))) []
section
variable {P : Program} {w : World} {K : PySem.W.Frag} {mg : Str → Option Value} {base : Heap}
theorem c_quoted (T : Top K mg w) : Cal P w K mg base 1 "quoted" (Spc K W_quo) [] := cal_of T.d_quoted fun f fd F => by
  exact spc_ok F sc_quoted (fun ds M k h => by obtain ⟨l, rfl, _⟩ := h; rfl) fun cdv A outer s H E hr => ⟨_, (pss_one (ps_ret (pe_op (add_K (K := K)) (pe_addC (K := K) (pet_rep (pet_rep (PET.of (pv 0)) ⟨rfl, rfl, rfl, rfl⟩ (by decide +kernel)) ⟨rfl, rfl, rfl, rfl⟩ (by decide +kernel))) pe_str))), fun ds M kk hw => by
    obtain ⟨l, rfl, rfl, hl, q⟩ := hw
    have hsz := sizeLine_eq
    refine as_start (δ' := [some (.str (tx l))]) rfl ?_
    walk_at "tg"
    refine ae_rep (by decide +kernel) ?_
    refine ae_rep (by decide +kernel) ?_
    walk_at "tg"
    have l1 : (Str.ofString "\\").cps.toList = [92] := by decide +kernel
    have l2 : (Str.ofString "\\\\").cps.toList = [92, 92] := by decide +kernel
    have l3 : (Str.ofString "\"").cps.toList = [34] := by decide +kernel
    have l4 : (Str.ofString "\\\"").cps.toList = [92, 34] := by decide +kernel
    have n2 : (Str.ofString "\\\\").length = 2 := by decide +kernel
    have n4 : (Str.ofString "\\\"").length = 2 := by decide +kernel
    have h1 : (StrLaws.replL [92] [92, 92] l).length ≤ 120 := by
      rw [repl1]
      have : ∀ m : List Nat, (m.flatMap fun a => if a = 92 then [92, 92] else [a]).length ≤ 2 * m.length := by
        intro m
        induction m with
        | nil => simp
        | cons a m ih =>
          rw [List.flatMap_cons, List.length_append, List.length_cons]
          split <;> simp only [List.length_cons, List.length_nil] <;> omega
      have := this l
      omega
    rw [l1, l2, l3, l4, n2, n4, sg_quot]
    refine ⟨by omega, _, rfl, by omega, ?_⟩
    rw [esc_two]
    have he := (escL_len l).2
    refine au_str (by simp; omega) ?_
    walk_at "tg"
    refine au_str (by simp; omega) ?_
    exact q⟩
end

section
variable {P : Program} {w : World} {K : PySem.W.Frag} {mg : Str → Option Value} {base : Heap}
theorem cells_at {cs : List Int} {i : Int} (h0 : 0 ≤ i) (h : i < (cs.length : Int)) : ∃ c, c ∈ cs ∧ atI (cs.map D.int) i = some (.int c) := by
  obtain ⟨j, rfl⟩ : ∃ j : Nat, i = (j : Int) := ⟨i.toNat, by omega⟩
  have hj : j < cs.length := by omega
  refine ⟨cs[j], List.getElem_mem hj, ?_⟩
  exact atI_nat (by rw [List.getElem?_map, List.getElem?_eq_getElem hj]; rfl)
theorem c__law_pool (T : Top K mg w) : Cal P w K mg base 1 "_law_pool" (Spc K W_pool) [] := cal_of T.d__law_pool fun f fd F =>
  spc_ok F sc__law_pool (fun ds M k h => by obtain ⟨ns, rfl, _⟩ := h; rfl) fun cdv A outer s H E hr => ⟨_, (pss_one (ps_ret (pe_lstM (pe_lst (pa_cons (pe_lc (own := [("cell", 1)]) (g := gName 1) rfl sc__law_pool.nd (seq_K (K := K) (pv 0)) (blkOk_by (own := [("cell", 1)]) (N := ["script", "cell"]) (sc := defScope s__law_pool) (by decide +kernel)) (fun _ _ _ _ _ => (pg_name (i := 1) sc__law_pool.nd rfl (Or.inl rfl))) (fun _ _ _ _ _ => pts_nil) (fun _ _ _ _ _ => (pe_ifExp (pt_cmpR op_ge (pv 1) pe_int (nomark _)) (pe_op op_mul pe_int (pv 1)) (pe_op op_sub (pe_op op_mul (pe_un un_neg pe_int) (pv 1)) pe_int)))) (pa_cons pe_int (pa_cons pe_int (pa_cons pe_int pa_nil)))))))), fun ds M kk hw => by
    obtain ⟨ns, rfl, rfl, hl, q⟩ := hw
    refine as_start (δ' := [some (.lsk (ns.map D.int)), none]) rfl ?_
    walk_at "tg"
    refine ae_lc (ownG_name (by simp)) ?_
    walk_at "tg"
    refine ⟨by rw [List.length_map]; exact small1000 (by omega), fun i acc M' => M' = [] ∧ ∃ cs : List Int, acc = cs.map D.int ∧ ∀ c ∈ cs, 0 ≤ c, ⟨rfl, [], rfl, by simp⟩, ?_, ?_⟩
    · rintro i d acc M' hd ⟨rfl, cs, rfl, hc⟩
      obtain ⟨j, rfl⟩ : ∃ j, d = .int j := by
        rw [List.getElem?_map] at hd
        cases e : ns[i]? with
        | none => rw [e] at hd; cases hd
        | some j => rw [e] at hd; exact ⟨j, by simpa using hd.symm⟩
      walk_at "tg"
      refine dcase (fun c => ?_) (fun c => ?_)
      · walk_at "tg"
        exact ⟨rfl, cs ++ [2 * j], by simp, fun x hx => by
          rcases List.mem_append.mp hx with hx | hx
          · exact hc x hx
          · have e : x = 2 * j := by simpa using hx
            omega⟩
      · walk_at "tg"
        exact ⟨rfl, cs ++ [-2 * j - 1], by simp, fun x hx => by
          rcases List.mem_append.mp hx with hx | hx
          · exact hc x hx
          · have e : x = -2 * j - 1 := by simpa using hx
            omega⟩
    · rintro acc M' ⟨rfl, cs, rfl, hc⟩
      walk_at "tg"
      intro a
      exact q a ⟨cs, 0, 0, 17⟩ ⟨hc, Int.le_refl 0, Int.le_refl 0, by show (0 : Int) ≤ 17; decide, by show (17 : Int) < 2147483647; decide⟩⟩
theorem take_step (T : Top K mg w) (n : Nat) (c__law_take : Cal P w K mg base n "_law_take" (Spc K (W_take n)) []) : Cal P w K mg base (n + 1) "_law_take" (Spc K (W_take (n + 1))) [] := cal_of T.d__law_take fun f fd F =>
  spc_ok F sc__law_take (fun ds M k h => by obtain ⟨a, p, many, rfl, _⟩ := h; rfl) fun cdv A outer s H E hr => ⟨_, (pss_cons (ps_if (pt_cmpR op_gt (pe_ix (ix_K (K := K)) (pv 0) pe_int (fun _ _ => rfl)) pe_int (nomark _))
      (pss_cons (ps_set (i := 2) sc__law_take.nd rfl (Or.inl rfl) (pe_op op_mod (pe_callTy call_intU (by rfl) T.m_int (by decide +kernel) (pa_cons (pe_ix (ix_K (K := K)) (pv 0) pe_int (fun _ _ => rfl)) pa_nil)) (pv 1)))
      (pss_cons (ps_asg (pe_op op_fdiv (pe_ix (ix_K (K := K)) (pv 0) pe_int (fun _ _ => rfl)) (pv 1)) (pg_sub (pv 0) pe_int (set_any (hu_of hr))))
      (pss_one (ps_ret (pv 2)))))
      pss_nil)
      (pss_cons (ps_set (i := 3) sc__law_take.nd rfl (Or.inl rfl) pe_int)
      (pss_cons (ps_if (pt_cmpR op_lt (pe_ix (ix_K (K := K)) (pv 0) pe_int (fun _ _ => rfl)) (pe_callB (len_K (K := K)) (by rfl) T.m_len (by decide +kernel) (pa_cons (pe_ix (ix_K (K := K)) (pv 0) pe_int (fun _ _ => rfl)) pa_nil)) (nomark _))
      (pss_one (ps_set (i := 3) sc__law_take.nd rfl (Or.inl rfl) (pe_ix (ix_K (K := K)) (pe_ix (ix_K (K := K)) (pv 0) pe_int (fun _ _ => rfl)) (pe_ix (ix_K (K := K)) (pv 0) pe_int (fun _ _ => rfl)) (fun _ _ => rfl))))
      pss_nil)
      (pss_cons (ps_asg (pe_op (add_K (K := K)) (pe_ix (ix_K (K := K)) (pv 0) pe_int (fun _ _ => rfl)) pe_int) (pg_sub (pv 0) pe_int (set_any (hu_of hr))))
      (pss_cons (ps_if (pt_cmpR op_ge (pv 3) (pe_op op_pow pe_int pe_int) (nomark _))
      (pss_cons (ps_asg (pe_op op_fdiv (pv 3) pe_int) (pg_sub (pv 0) pe_int (set_any (hu_of hr))))
      (pss_one (ps_ret (pe_c c__law_take hr (by first | decide | omega) (by rfl) (pa_cons (pv 0) (pa_cons (pv 1) pa_nil))))))
      pss_nil)
      (pss_cons (ps_asg (pe_op op_mod (pe_callTy call_intU (by rfl) T.m_int (by decide +kernel) (pa_cons (pe_op (add_K (K := K)) (pe_op (add_K (K := K)) (pe_op op_mul (pe_ix (ix_K (K := K)) (pv 0) pe_int (fun _ _ => rfl)) pe_int) (pe_op op_mul (pv 3) pe_int)) (pe_op op_mul (pe_ix (ix_K (K := K)) (pv 0) pe_int (fun _ _ => rfl)) pe_int)) pa_nil)) pe_int) (pg_sub (pv 0) pe_int (set_any (hu_of hr))))
      (pss_cons (ps_set (i := 4) sc__law_take.nd rfl (Or.inl rfl) (pe_op op_mod (pe_callTy call_intU (by rfl) T.m_int (by decide +kernel) (pa_cons (pe_op (add_K (K := K)) (pe_op (add_K (K := K)) (pe_op op_mul (pe_ix (ix_K (K := K)) (pv 0) pe_int (fun _ _ => rfl)) (pe_ix (ix_K (K := K)) (pv 0) pe_int (fun _ _ => rfl))) (pe_op op_mul (pe_ix (ix_K (K := K)) (pv 0) pe_int (fun _ _ => rfl)) pe_int)) pe_int) pa_nil)) pe_int))
      (pss_one (ps_ret (pe_op op_mod (pe_callTy call_intU (by rfl) T.m_int (by decide +kernel) (pa_cons (pe_op op_fdiv (pv 4) pe_int) pa_nil)) (pv 1))))))))))), fun ds M kk hw => by
    obtain ⟨a, p, many, rfl, rfl, ok, h0, h1, hn, hb, q⟩ := hw
    have s0 := ok.seed0
    have s1 := ok.seed1
    have b0 := ok.big
    refine as_start (δ' := [some (.ref a), some (.int many), none, none, none]) rfl ?_
    refine as_seq ?_
    walk_at "tg"
    refine dcase (fun c => ?_) (fun c => ?_)
    · walk_at "tg"
      exact q _ { p with big := p.big / many } ⟨ok.cells, ok.pos, Int.ediv_nonneg b0 (by omega), s0, s1⟩ (Int.emod_nonneg _ (by omega)) (Int.emod_lt_of_pos _ h0)
    · have hn2 : 2 ≤ n + 1 := by rcases hb with z | z <;> omega
      walk_at "tg"
      refine as_cut (fun δ' M' => ∃ c : Int, 0 ≤ c ∧ δ' = [some (.ref a), some (.int many), none, some (.int c), none] ∧ M' = [(a, .lst p.d)]) ?_ ?_
      · walk_at "tg"
        refine dcase (fun c => ?_) (fun c => ?_)
        · have c' : p.pos < (p.cells.length : Int) := by rw [List.length_map] at c; exact c
          obtain ⟨x, hx, hat⟩ := cells_at ok.pos c'
          walk_at "tg"
          refine aix_L hat ?_
          walk_at "tg"
          exact ⟨x, ok.cells x hx, rfl, rfl⟩
        · walk_at "tg"
          exact ⟨0, Int.le_refl 0, rfl, rfl⟩
      · rintro δ' M' ⟨c, hc, rfl, rfl⟩
        walk_at "tg"
        refine as_seq ?_
        walk_at "tg"
        have p0 := ok.pos
        refine dcase (fun c1 => ?_) (fun c1 => ?_)
        · walk_at "tg"
          have e18 : (10 : Int) ^ Int.toNat 18 = 1000000000000000000 := by decide
          rw [e18] at c1
          exact ⟨[_], [], kk, rfl, ⟨a, { p with pos := p.pos + 1, big := c / 2 }, many, rfl, rfl, ⟨ok.cells, by show 0 ≤ p.pos + 1; omega, by show 0 ≤ c / 2; omega, s0, s1⟩, h0, h1, by omega, .inl (by show 0 < c / 2; omega), fun r p' ok' r0 r1 => q r p' ok' r0 r1⟩, fun d Mc' h => by rw [List.append_nil]; exact h⟩
        · walk_at "tg"
          exact q _ { p with pos := p.pos + 1, seed := (p.seed * 48271 + c * 69621 + (p.pos + 1) * 613) % 2147483647 } ⟨ok.cells, by show 0 ≤ p.pos + 1; omega, b0, Int.emod_nonneg _ (by decide), Int.emod_lt_of_pos _ (by decide)⟩ (Int.emod_nonneg _ (by omega)) (Int.emod_lt_of_pos _ h0)⟩
theorem c__law_take (T : Top K mg w) : ∀ n : Nat, Cal P w K mg base n "_law_take" (Spc K (W_take n)) []
  | 0 => cal_none T.d__law_take fun ds M k h => by
    obtain ⟨_, _, _, _, _, _, _, _, h, _⟩ := h
    omega
  | n + 1 => take_step T n (c__law_take T n)
end

/-! ### texts sign by sign -/
def ones (l : List Nat) : List (List Nat) := l.map fun c => [c]
theorem ones_flat (l : List Nat) : (ones l).flatten = l := by
  induction l with
  | nil => rfl
  | cons c r ih =>
    show ([c] :: ones r).flatten = c :: r
    rw [List.flatten_cons, ih]
    rfl
theorem ones_sum (l : List Nat) : ((ones l).map (·.length)).sum = l.length := by
  induction l with
  | nil => rfl
  | cons c r ih =>
    show ([c].length :: (ones r).map (·.length)).sum = r.length + 1
    rw [List.sum_cons, ih]
    show 1 + r.length = r.length + 1
    omega
def strsD (ls : List (List Nat)) : List D := ls.map fun z => .str (tx z)
theorem strsD_snoc (l : List Nat) (c : Nat) : strsD (ones l) ++ [.str (tx [c])] = strsD (ones (l ++ [c])) := by simp [strsD, ones]
theorem strsD_len (l : List Nat) : (strsD (ones l)).length = l.length := by simp [strsD, ones]

theorem c__law_quoted' : True := trivial
section
variable {P : Program} {w : World} {K : PySem.W.Frag} {mg : Str → Option Value} {base : Heap}
theorem c__law_quoted (T : Top K mg w) : Cal P w K mg base 1 "_law_quoted" (Spc K W_quo) [] := cal_of T.d__law_quoted fun f fd F => by
  exact spc_ok F sc__law_quoted (fun ds M k h => by obtain ⟨l, rfl, _⟩ := h; rfl) fun cdv A outer s H E hr => ⟨_, (pss_one (ps_ret (pe_op (add_K (K := K)) (pe_addC (K := K) (pet_rep (pet_rep (PET.of (pv 0)) ⟨rfl, rfl, rfl, rfl⟩ (by decide +kernel)) ⟨rfl, rfl, rfl, rfl⟩ (by decide +kernel))) pe_str))), fun ds M kk hw => by
    obtain ⟨l, rfl, rfl, hl, q⟩ := hw
    have hsz := sizeLine_eq
    refine as_start (δ' := [some (.str (tx l))]) rfl ?_
    walk_at "tg"
    refine ae_rep (by decide +kernel) ?_
    refine ae_rep (by decide +kernel) ?_
    walk_at "tg"
    have l1 : (Str.ofString "\\").cps.toList = [92] := by decide +kernel
    have l2 : (Str.ofString "\\\\").cps.toList = [92, 92] := by decide +kernel
    have l3 : (Str.ofString "\"").cps.toList = [34] := by decide +kernel
    have l4 : (Str.ofString "\\\"").cps.toList = [92, 34] := by decide +kernel
    have n2 : (Str.ofString "\\\\").length = 2 := by decide +kernel
    have n4 : (Str.ofString "\\\"").length = 2 := by decide +kernel
    have h1 : (StrLaws.replL [92] [92, 92] l).length ≤ 120 := by
      rw [repl1]
      have : ∀ m : List Nat, (m.flatMap fun a => if a = 92 then [92, 92] else [a]).length ≤ 2 * m.length := by
        intro m
        induction m with
        | nil => simp
        | cons a m ih =>
          rw [List.flatMap_cons, List.length_append, List.length_cons]
          split <;> simp only [List.length_cons, List.length_nil] <;> omega
      have := this l
      omega
    rw [l1, l2, l3, l4, n2, n4, sg_quot]
    refine ⟨by omega, _, rfl, by omega, ?_⟩
    rw [esc_two]
    have he := (escL_len l).2
    refine au_str (by simp; omega) ?_
    walk_at "tg"
    refine au_str (by simp; omega) ?_
    exact q⟩
end
/-! ### what is drawn -/
def W_dnam : Wt := fun ds M k => ∃ (a : Addr) (p : Pool), ds = [.ref a] ∧ M = [(a, .lst p.d)] ∧ p.Ok ∧ ∀ (l : List Nat) (p' : Pool), p'.Ok → NmOk l → k (.str (Tg.tx l)) [(a, .lst p'.d)]
def W_dtxt : Wt := fun ds M k => ∃ (a : Addr) (p : Pool), ds = [.ref a] ∧ M = [(a, .lst p.d)] ∧ p.Ok ∧ ∀ (l : List Nat) (p' : Pool), p'.Ok → TxOk l → k (.str (Tg.tx l)) [(a, .lst p'.d)]
def W_dint : Wt := fun ds M k => ∃ (a : Addr) (p : Pool), ds = [.ref a] ∧ M = [(a, .lst p.d)] ∧ p.Ok ∧ ∀ (i : Int) (p' : Pool), p'.Ok → (-1000000 ≤ i ∧ i ≤ 1000000) → k (.int i) [(a, .lst p'.d)]
def W_dpla : Wt := fun ds M k => ∃ (a : Addr) (p : Pool), ds = [.ref a] ∧ M = [(a, .lst p.d)] ∧ p.Ok ∧ ∀ (e : Ex) (p' : Pool), p'.Ok → OkE 0 e → k e.d [(a, .lst p'.d)]
theorem abc_eq : Str.ofString "abcdefghijklmnopqrstuvwxyz" = Tg.tx LetS := by decide +kernel
theorem abc_get {r : Int} (h0 : 0 ≤ r) (h1 : r < 26) : ∃ c, c ∈ LetS ∧ atI LetS r = some c := by
  obtain ⟨i, rfl⟩ : ∃ i : Nat, r = (i : Int) := ⟨r.toNat, by omega⟩
  have hi : i < LetS.length := by show i < 26; omega
  exact ⟨LetS[i], List.getElem_mem hi, atI_nat (List.getElem?_eq_getElem hi)⟩
section
variable {P : Program} {w : World} {K : PySem.W.Frag} {mg : Str → Option Value} {base : Heap}
theorem c__law_name (T : Top K mg w) : Cal P w K mg base 3 "_law_name" (Spc K W_dnam) [] := cal_of T.d__law_name fun f fd F => by
  have c__law_take := c__law_take (P := P) (w := w) (base := base) T 2
  exact spc_ok F sc__law_name (fun ds M k h => by obtain ⟨a, p, rfl, _⟩ := h; rfl) fun cdv A outer s H E hr => ⟨_, (pss_cons (ps_set (i := 1) sc__law_name.nd rfl (Or.inr rfl) pe_str)
      (pss_one (ps_ret (join_K (K := K) (pe_join pe_str (pe_lc (own := [("k", 2)]) (g := gName 2) rfl sc__law_name.nd (pi_range1 (by rfl) T.m_range (pa_cons (pe_op (add_K (K := K)) pe_int (pe_c c__law_take hr (by first | decide | omega) (by rfl) (pa_cons (pv 0) (pa_cons pe_int pa_nil)))) pa_nil)) (blkOk_by (own := [("k", 2)]) (N := ["pool", "letters", "k"]) (sc := defScope s__law_name) (by decide +kernel)) (fun _ _ _ _ _ => (pg_name (i := 2) sc__law_name.nd rfl (Or.inl rfl))) (fun _ _ _ _ _ => pts_nil) (fun _ _ _ _ _ => (pe_ix (ix_K (K := K)) (pv 1) (pe_c c__law_take hr (by first | decide | omega) (by rfl) (pa_cons (pv 0) (pa_cons pe_int pa_nil))) (fun _ _ => rfl))))))))), fun ds M kk hw => by
    obtain ⟨a, p, rfl, rfl, ok, q⟩ := hw
    have hsz := sizeLine_eq
    refine as_start (δ' := [some (.ref a), none, none]) rfl ?_
    walk_at "tg"
    refine ae_lc (ownG_name (by simp)) ?_
    walk_at "tg"
    walk_at "take"
    rintro _ _ ⟨r, p1, ok1, r0, r1, rfl, rfl⟩
    obtain ⟨m, hm⟩ : ∃ m : Nat, 1 + r = (m : Int) := ⟨(1 + r).toNat, by omega⟩
    walk_at "tg"
    rw [hm]
    refine ⟨by omega, by omega, ?_⟩
    rw [Int.toNat_natCast]
    refine ⟨by rw [rng_len, hsz]; omega, fun i acc M' => ∃ (l : List Nat) (p' : Pool), p'.Ok ∧ (∀ c ∈ l, c ∈ LetS) ∧ l.length = i ∧ acc = strsD (ones l) ∧ M' = [(a, .lst p'.d)], ⟨[], p1, ok1, by simp, rfl, rfl, rfl⟩, ?_, ?_⟩
    · rintro i d acc M' hd ⟨l, p', ok', hl, rfl, rfl, rfl⟩
      walk_at "tg"
      walk_at "take"
      rintro _ _ ⟨r3, p3, ok3, j0, j1, rfl, rfl⟩
      obtain ⟨c, hc, hat3⟩ := abc_get j0 j1
      rw [abc_eq]
      refine au_ixS (by rw [hsz]; exact (by decide : 26 ≤ 16777216)) hat3 ?_
      exact ⟨l ++ [c], p3, ok3, fun x hx => by
        rcases List.mem_append.mp hx with hx | hx
        · exact hl x hx
        · rw [List.mem_singleton.mp hx]; exact hc, by rw [List.length_append]; rfl, strsD_snoc l c, rfl⟩
    · rintro acc M' ⟨l, p', ok', hl, hll, rfl, rfl⟩
      rw [rng_len] at hll
      walk_at "tg"
      refine am_join (ls := ones l) (by rw [ones_sum]; omega) ?_
      rw [ones_flat]
      refine q _ p' ok' ⟨fun z => ?_, by omega, hl⟩
      subst z
      simp at hll
      omega⟩
theorem c__law_integer (T : Top K mg w) : Cal P w K mg base 3 "_law_integer" (Spc K W_dint) [] := cal_of T.d__law_integer fun f fd F => by
  have c__law_take := c__law_take (P := P) (w := w) (base := base) T 2
  exact spc_ok F sc__law_integer (fun ds M k h => by obtain ⟨a, p, rfl, _⟩ := h; rfl) fun cdv A outer s H E hr => ⟨_, (pss_cons (ps_set (i := 1) sc__law_integer.nd rfl (Or.inl rfl) (pe_c c__law_take hr (by first | decide | omega) (by rfl) (pa_cons (pv 0) (pa_cons pe_int pa_nil))))
      (pss_cons (ps_if (pt_cmpR op_eq (pv 1) pe_int (nomark _))
      (pss_one (ps_ret (pe_ix (ix_K (K := K)) (pe_tup (pa_cons pe_int (pa_cons (pe_un un_neg pe_int) (pa_cons pe_int (pa_cons pe_int pa_nil))))) (pe_c c__law_take hr (by first | decide | omega) (by rfl) (pa_cons (pv 0) (pa_cons pe_int pa_nil))) (fun _ _ => rfl))))
      pss_nil)
      (pss_cons (ps_if (pt_cmpR op_eq (pv 1) pe_int (nomark _))
      (pss_one (ps_ret (pe_op op_sub (pe_c c__law_take hr (by first | decide | omega) (by rfl) (pa_cons (pv 0) (pa_cons pe_int pa_nil))) pe_int)))
      pss_nil)
      (pss_one (ps_ret (pe_op op_sub (pe_c c__law_take hr (by first | decide | omega) (by rfl) (pa_cons (pv 0) (pa_cons pe_int pa_nil))) pe_int)))))), fun ds M kk hw => by
    obtain ⟨a, p, rfl, rfl, ok, q⟩ := hw
    have hsz := sizeLine_eq
    refine as_start (δ' := [some (.ref a), none]) rfl ?_
    walk_at "tg"
    walk_at "take"
    rintro _ _ ⟨r, p1, ok1, r0, r1, rfl, rfl⟩
    refine as_seq ?_
    walk_at "tg"
    refine dcase (fun c => ?_) (fun c => ?_)
    · walk_at "tg"
      walk_at "take"
      rintro _ _ ⟨r2, p2, ok2, k0, k1, rfl, rfl⟩
      obtain ⟨i, hi, hat⟩ : ∃ i : Int, (-1000000 ≤ i ∧ i ≤ 1000000) ∧ atI [D.int 1000000, D.int (-1000000), D.int 999999, D.int 0] r2 = some (.int i) := by
        have h : r2 = 0 ∨ r2 = 1 ∨ r2 = 2 ∨ r2 = 3 := by omega
        rcases h with rfl | rfl | rfl | rfl
        · exact ⟨1000000, by omega, rfl⟩
        · exact ⟨-1000000, by omega, rfl⟩
        · exact ⟨999999, by omega, rfl⟩
        · exact ⟨0, by omega, rfl⟩
      refine aix_T hat ?_
      exact q i p2 ok2 hi
    · walk_at "tg"
      refine as_seq ?_
      walk_at "tg"
      refine dcase (fun c2 => ?_) (fun c2 => ?_)
      · walk_at "tg"
        walk_at "take"
        rintro _ _ ⟨r2, p2, ok2, k0, k1, rfl, rfl⟩
        walk_at "tg"
        exact q _ p2 ok2 ⟨by omega, by omega⟩
      · walk_at "tg"
        walk_at "take"
        rintro _ _ ⟨r2, p2, ok2, k0, k1, rfl, rfl⟩
        walk_at "tg"
        exact q _ p2 ok2 ⟨by omega, by omega⟩⟩
end

def sigL : List Nat := [32, 33, 34, 35, 36, 38, 39, 40, 41, 42, 43, 44, 45, 46, 47, 48, 49, 50, 51, 52, 53, 54, 55, 56, 57, 58, 59, 60, 61, 62, 63, 64, 65, 66, 67, 88, 89, 90, 91, 92, 93, 94, 95, 96, 97, 98, 99, 120, 121, 122, 123, 124, 125, 126, 10]
theorem sigL_eq : Str.ofString " !\"#$&'()*+,-./0123456789:;<=>?@ABCXYZ[\\]^_`abcxyz{|}~\n" = Tg.tx sigL := by decide +kernel
theorem sigL_get {r : Int} (h0 : 0 ≤ r) (h1 : r < 55) : ∃ c, c < 128 ∧ atI sigL r = some c := by
  obtain ⟨i, rfl⟩ : ∃ i : Nat, r = (i : Int) := ⟨r.toNat, by omega⟩
  have hi : i < sigL.length := by show i < 55; omega
  have all : ∀ c ∈ sigL, c < 128 := by decide
  exact ⟨sigL[i], all _ (List.getElem_mem hi), atI_nat (List.getElem?_eq_getElem hi)⟩
section
variable {P : Program} {w : World} {K : PySem.W.Frag} {mg : Str → Option Value} {base : Heap}
theorem c__law_text (T : Top K mg w) : Cal P w K mg base 3 "_law_text" (Spc K W_dtxt) [] := cal_of T.d__law_text fun f fd F => by
  have c__law_take := c__law_take (P := P) (w := w) (base := base) T 2
  exact spc_ok F sc__law_text (fun ds M k h => by obtain ⟨a, p, rfl, _⟩ := h; rfl) fun cdv A outer s H E hr => ⟨_, (pss_cons (ps_set (i := 1) sc__law_text.nd rfl (Or.inr rfl) pe_str)
      (pss_cons (ps_set (i := 2) sc__law_text.nd rfl (Or.inl rfl) (pe_ix (ix_K (K := K)) (pe_tup (pa_cons pe_int (pa_cons pe_int (pa_cons pe_int (pa_cons pe_int pa_nil))))) (pe_c c__law_take hr (by first | decide | omega) (by rfl) (pa_cons (pv 0) (pa_cons pe_int pa_nil))) (fun _ _ => rfl)))
      (pss_one (ps_ret (join_K (K := K) (pe_join pe_str (pe_lc (own := [("k", 3)]) (g := gName 3) rfl sc__law_text.nd (pi_range1 (by rfl) T.m_range (pa_cons (pv 2) pa_nil)) (blkOk_by (own := [("k", 3)]) (N := ["pool", "signs", "size", "k"]) (sc := defScope s__law_text) (by decide +kernel)) (fun _ _ _ _ _ => (pg_name (i := 3) sc__law_text.nd rfl (Or.inl rfl))) (fun _ _ _ _ _ => pts_nil) (fun _ _ _ _ _ => (pe_ix (ix_K (K := K)) (pv 1) (pe_c c__law_take hr (by first | decide | omega) (by rfl) (pa_cons (pv 0) (pa_cons (pe_callB (len_K (K := K)) (by rfl) T.m_len (by decide +kernel) (pa_cons (pv 1) pa_nil)) pa_nil))) (fun _ _ => rfl)))))))))), fun ds M kk hw => by
    obtain ⟨a, p, rfl, rfl, ok, q⟩ := hw
    have hsz := sizeLine_eq
    have hsl : sigL.length = 55 := rfl
    refine as_start (δ' := [some (.ref a), none, none, none]) rfl ?_
    walk_at "tg"
    walk_at "take"
    rintro _ _ ⟨r, p1, ok1, r0, r1, rfl, rfl⟩
    obtain ⟨z, hz, hat⟩ : ∃ z : Nat, z ≤ 60 ∧ atI [D.int 0, D.int 1, D.int 3, D.int 60] r = some (.int (z : Nat)) := by
      have h : r = 0 ∨ r = 1 ∨ r = 2 ∨ r = 3 := by omega
      rcases h with rfl | rfl | rfl | rfl
      · exact ⟨0, by omega, rfl⟩
      · exact ⟨1, by omega, rfl⟩
      · exact ⟨3, by omega, rfl⟩
      · exact ⟨60, by omega, rfl⟩
    refine aix_T hat ?_
    walk_at "tg"
    refine ae_lc (ownG_name (by simp)) ?_
    walk_at "tg"
    refine ⟨by omega, by omega, ?_⟩
    rw [Int.toNat_natCast]
    refine ⟨by rw [rng_len, hsz]; omega, fun i acc M' => ∃ (l : List Nat) (p' : Pool), p'.Ok ∧ (∀ c ∈ l, c < 128) ∧ l.length = i ∧ acc = strsD (ones l) ∧ M' = [(a, .lst p'.d)], ⟨[], p1, ok1, by simp, rfl, rfl, rfl⟩, ?_, ?_⟩
    · rintro i d acc M' hd ⟨l, p', ok', hl, rfl, rfl, rfl⟩
      walk_at "tg"
      rw [sigL_eq]
      refine ac_lenS (by rw [hsz]; exact (by decide : 55 ≤ 16777216)) ?_
      rw [hsl]
      walk_at "tg"
      walk_at "take"
      rintro _ _ ⟨r3, p3, ok3, j0, j1, rfl, rfl⟩
      obtain ⟨c, hc, hat3⟩ := sigL_get j0 j1
      refine au_ixS (by rw [hsz]; exact (by decide : 55 ≤ 16777216)) hat3 ?_
      exact ⟨l ++ [c], p3, ok3, fun x hx => by
        rcases List.mem_append.mp hx with hx | hx
        · exact hl x hx
        · rw [List.mem_singleton.mp hx]; exact hc, by rw [List.length_append]; rfl, strsD_snoc l c, rfl⟩
    · rintro acc M' ⟨l, p', ok', hl, hll, rfl, rfl⟩
      rw [rng_len] at hll
      walk_at "tg"
      refine am_join (ls := ones l) (by rw [ones_sum]; omega) ?_
      rw [ones_flat]
      exact q _ p' ok' ⟨by omega, hl⟩⟩
theorem c__law_plain (T : Top K mg w) : Cal P w K mg base 4 "_law_plain" (Spc K W_dpla) [] := cal_of T.d__law_plain fun f fd F => by
  have c__law_take := c__law_take (P := P) (w := w) (base := base) T 2
  have c__law_integer := c__law_integer (P := P) (w := w) (base := base) T
  have c__law_text := c__law_text (P := P) (w := w) (base := base) T
  exact spc_ok F sc__law_plain (fun ds M k h => by obtain ⟨a, p, rfl, _⟩ := h; rfl) fun cdv A outer s H E hr => ⟨_, (pss_cons (ps_set (i := 1) sc__law_plain.nd rfl (Or.inl rfl) (pe_c c__law_take hr (by first | decide | omega) (by rfl) (pa_cons (pv 0) (pa_cons pe_int pa_nil))))
      (pss_cons (ps_if (pt_cmpR op_eq (pv 1) pe_int (nomark _))
      (pss_one (ps_ret (pe_tup (pa_cons pe_str (pa_cons (pe_c c__law_integer hr (by first | decide | omega) (by rfl) (pa_cons (pv 0) pa_nil)) pa_nil)))))
      pss_nil)
      (pss_cons (ps_if (pt_cmpR op_eq (pv 1) pe_int (nomark _))
      (pss_one (ps_ret (pe_tup (pa_cons pe_str (pa_cons (pe_c c__law_text hr (by first | decide | omega) (by rfl) (pa_cons (pv 0) pa_nil)) pa_nil)))))
      pss_nil)
      (pss_one (ps_ret (pe_tup (pa_cons pe_str (pa_cons (pe_cmpR op_eq (pe_c c__law_take hr (by first | decide | omega) (by rfl) (pa_cons (pv 0) (pa_cons pe_int pa_nil))) pe_int (nomark _)) pa_nil)))))))), fun ds M kk hw => by
    obtain ⟨a, p, rfl, rfl, ok, q⟩ := hw
    have hsz := sizeLine_eq
    refine as_start (δ' := [some (.ref a), none]) rfl ?_
    walk_at "tg"
    walk_at "take"
    rintro _ _ ⟨r, p1, ok1, r0, r1, rfl, rfl⟩
    refine as_seq ?_
    walk_at "tg"
    refine dcase (fun c => ?_) (fun c => ?_)
    · walk_at "tg"
      refine ⟨[_], [], fun d M => ∃ (i : Int) (p' : Pool), p'.Ok ∧ (-1000000 ≤ i ∧ i ≤ 1000000) ∧ d = .int i ∧ M = [(a, .lst p'.d)], rfl, ⟨a, p1, rfl, rfl, ok1, fun i p' h1 h2 => ⟨i, p', h1, h2, rfl, rfl⟩⟩, ?_⟩
      rintro _ _ ⟨i, p2, ok2, hi, rfl, rfl⟩
      walk_at "tg"
      exact q (.int i) p2 ok2 hi
    · walk_at "tg"
      refine as_seq ?_
      walk_at "tg"
      refine dcase (fun c2 => ?_) (fun c2 => ?_)
      · walk_at "tg"
        refine ⟨[_], [], fun d M => ∃ (l : List Nat) (p' : Pool), p'.Ok ∧ TxOk l ∧ d = .str (Tg.tx l) ∧ M = [(a, .lst p'.d)], rfl, ⟨a, p1, rfl, rfl, ok1, fun l p' h1 h2 => ⟨l, p', h1, h2, rfl, rfl⟩⟩, ?_⟩
        rintro _ _ ⟨l, p2, ok2, hi, rfl, rfl⟩
        walk_at "tg"
        exact q (.tx l) p2 ok2 hi
      · walk_at "tg"
        walk_at "take"
        rintro _ _ ⟨r2, p2, ok2, k0, k1, rfl, rfl⟩
        walk_at "tg"
        exact q (.bl (decide (r2 = 0))) p2 ok2 trivial⟩
end

/-! ### texts of tokens with gaps -/
def tkS : Tk → List Nat
  | .op => [40]
  | .cl => [41]
  | .lt w => w
  | .num i => shI i
  | .txt l => 34 :: (escL l ++ [34])
  | .bad => [36]
  | .fin => []
def TkOk : Tk → Prop
  | .op => True
  | .cl => True
  | .lt w => w ≠ [] ∧ ∀ c ∈ w, c ∈ LetS
  | .num i => -1000000 ≤ i ∧ i ≤ 1000000
  | .txt l => TxOk l
  | _ => False
/-- no gap is needed beside it -/
def soft : Tk → Bool
  | .op => true
  | .cl => true
  | .txt _ => true
  | _ => false
def Blank (g : List Nat) : Prop := ∀ c ∈ g, c = 32 ∨ c = 10
/-- what ends a word -/
def Brk (r : List Nat) : Prop := ∀ c, r.head? = some c → c ∉ LetS ∧ c ∉ DigS
theorem brk_nil : Brk [] := fun c h => by cases h
theorem brk_c {c : Nat} {r : List Nat} (h : c < 48) : Brk (c :: r) := fun d hd => by
  have e : c = d := by simpa using hd
  subst e
  exact ⟨fun z => by have := letS_ge z; omega, fun z => by have := digS_ge z; omega⟩
theorem brk_blank {g r : List Nat} (h : Blank g) (hne : g ≠ []) : Brk (g ++ r) := by
  cases g with
  | nil => exact absurd rfl hne
  | cons a b =>
    have := h a (by simp)
    exact brk_c (by omega)
theorem tk_at {t : Tk} {r : List Nat} (ok : TkOk t) (h : soft t = true ∨ Brk r) : t.At (tkS t ++ r) (tkS t).length := by
  cases t with
  | op => exact ⟨rfl, r, rfl⟩
  | cl => exact ⟨rfl, r, rfl⟩
  | lt w =>
    refine ⟨rfl, ok.1, ok.2, r, rfl, fun c hc => ?_⟩
    rcases h with h | h
    · cases h
    · exact (h c hc).1
  | num i =>
    refine ⟨rfl, ok, r, rfl, fun c hc => ?_⟩
    rcases h with h | h
    · cases h
    · exact (h c hc).2
  | txt l =>
    refine ⟨?_, ok.1, ok.2, r, ?_⟩
    · show (34 :: (escL l ++ [34])).length = _
      simp
    · show 34 :: (escL l ++ [34]) ++ r = _
      simp
  | bad => exact ok.elim
  | fin => exact ok.elim
abbrev GT := List Nat × Tk
def lay : List GT → List Nat
  | [] => []
  | (g, t) :: r => g ++ (tkS t ++ lay r)
/-- gaps where they are needed; tail: what stands behind -/
def LayOk : List GT → List Nat → Prop
  | [], _ => True
  | [(g, t)], tail => Blank g ∧ TkOk t ∧ (soft t = true ∨ Brk tail)
  | (g, t) :: (g', t') :: r, tail => Blank g ∧ TkOk t ∧ (soft t = true ∨ g' ≠ [] ∨ soft t' = true) ∧ LayOk ((g', t') :: r) tail
theorem brk_soft {t : Tk} {r : List Nat} (h : soft t = true) : Brk (tkS t ++ r) := by
  cases t with
  | op => exact brk_c (by decide)
  | cl => exact brk_c (by decide)
  | txt l => exact brk_c (by decide)
  | _ => cases h
theorem LayOk.head {g : List Nat} {t : Tk} {r : List GT} {tail : List Nat} (h : LayOk ((g, t) :: r) tail) : Blank g ∧ TkOk t ∧ (soft t = true ∨ Brk (lay r ++ tail)) ∧ LayOk r tail := by
  cases r with
  | nil => exact ⟨h.1, h.2.1, h.2.2, trivial⟩
  | cons a r =>
    obtain ⟨g', t'⟩ := a
    obtain ⟨h1, h2, h3, h4⟩ := h
    refine ⟨h1, h2, ?_, h4⟩
    have hb : Blank g' := by
      cases r with
      | nil => exact h4.1
      | cons _ _ => exact h4.1
    rcases h3 with h3 | h3 | h3
    · exact .inl h3
    · refine .inr ?_
      show Brk (g' ++ (tkS t' ++ lay r) ++ tail)
      rw [List.append_assoc]
      exact brk_blank hb h3
    · refine .inr ?_
      show Brk (g' ++ (tkS t' ++ lay r) ++ tail)
      cases g' with
      | nil =>
        rw [List.nil_append, List.append_assoc]
        exact brk_soft h3
      | cons a b =>
        rw [List.append_assoc]
        exact brk_blank hb (by simp)
theorem lay_go {cs tail : List Nat} {c' : Cu} : ∀ {gts : List GT} {p : Nat}, gts ≠ [] → AtR cs p (lay gts ++ tail) → LayOk gts tail → Lx cs (p + (lay gts).length) c'.1 c'.2.1 c'.2.2 → ∃ c, Lx cs p c.1 c.2.1 c.2.2 ∧ Go cs c (gts.map (·.2)) c'
  | (g, t) :: r, p, _, at_, ok, hx => by
    obtain ⟨h1, h2, h3, h4⟩ := ok.head
    have at1 : AtR cs p (g ++ (tkS t ++ (lay r ++ tail))) := by
      have e : lay ((g, t) :: r) ++ tail = g ++ (tkS t ++ (lay r ++ tail)) := by
        show g ++ (tkS t ++ lay r) ++ tail = _
        simp
      rw [← e]
      exact at_
    have hl : Lx cs p t (p + g.length) (p + g.length + (tkS t).length) := ⟨g, _, _, at1, h1, rfl, tk_at h2 h3, rfl⟩
    have at2 : AtR cs (p + g.length + (tkS t).length) (lay r ++ tail) := at1.adv.adv
    have elen : p + (lay ((g, t) :: r)).length = p + g.length + (tkS t).length + (lay r).length := by
      show p + (g ++ (tkS t ++ lay r)).length = _
      simp only [List.length_append]
      omega
    rw [elen] at hx
    cases r with
    | nil =>
      refine ⟨(t, _, _), hl, .cons ?_ .nil⟩
      exact hx
    | cons a r =>
      obtain ⟨c1, x1, g1⟩ := lay_go (gts := a :: r) (by simp) at2 h4 hx
      exact ⟨(t, _, _), hl, .cons x1 g1⟩
theorem at_start {cs : List Nat} : AtR cs 0 cs := ⟨List.drop_zero .., Nat.zero_le _⟩
/-- the end -/
theorem lx_fin {cs g : List Nat} {p : Nat} (h : AtR cs p g) (hb : Blank g) : Lx cs p .fin (p + g.length) (p + g.length) := ⟨g, [], 0, by rw [List.append_nil]; exact h, hb, rfl, ⟨rfl, rfl⟩, rfl⟩

theorem tkS_ne {t : Tk} (h : TkOk t) : ∃ c r, tkS t = c :: r ∧ c < 128 ∧ (soft t = false → c ≠ 34 ∧ tkS t ≠ [40] ∧ tkS t ≠ [41]) := by
  cases t with
  | op => exact ⟨40, [], rfl, by decide, fun z => by cases z⟩
  | cl => exact ⟨41, [], rfl, by decide, fun z => by cases z⟩
  | lt w =>
    obtain ⟨h1, h2⟩ := h
    cases w with
    | nil => exact absurd rfl h1
    | cons a b =>
      have := letS_ge (h2 a (by simp))
      refine ⟨a, b, rfl, by omega, fun _ => ⟨by omega, fun z => ?_, fun z => ?_⟩⟩
      · have e : a = 40 := (List.cons.inj z).1
        omega
      · have e : a = 41 := (List.cons.inj z).1
        omega
  | num i =>
    obtain ⟨c, r, e, hc⟩ := shI_head i []
    rw [List.append_nil] at e
    refine ⟨c, r, e, by omega, fun _ => ⟨by omega, fun z => ?_, fun z => ?_⟩⟩
    · have e2 : shI i = [40] := z
      rw [e] at e2
      have e : c = 40 := (List.cons.inj e2).1
      omega
    · have e2 : shI i = [41] := z
      rw [e] at e2
      have e : c = 41 := (List.cons.inj e2).1
      omega
  | txt l => exact ⟨34, _, rfl, by decide, fun z => by cases z⟩
  | bad => exact h.elim
  | fin => exact h.elim
theorem tkS_len {t : Tk} (h : TkOk t) (hw : ∀ w, t = .lt w → w.length ≤ 12) : (tkS t).length ≤ 122 := by
  cases t with
  | op => show 1 ≤ 122; omega
  | cl => show 1 ≤ 122; omega
  | lt w => have := hw w rfl; show w.length ≤ 122; omega
  | num i =>
    obtain ⟨sg, n, e, hs⟩ := shI_cases i
    have h10 : (10 : Nat) ^ 7 = 10000000 := by decide
    have hi : -1000000 ≤ i ∧ i ≤ 1000000 := h
    have hn7 := TL.numL_len (n := n) (k := 7) (by decide) (by rcases hs with ⟨_, h⟩ | ⟨_, h, _⟩ <;> omega)
    have hsg : sg.length ≤ 1 := by rcases hs with ⟨h, _⟩ | ⟨h, _⟩ <;> rw [h] <;> simp
    show (shI i).length ≤ 122
    rw [e, List.length_append]
    omega
  | txt l =>
    have h1 := (escL_len l).2
    have h2 := h.1
    show (34 :: (escL l ++ [34])).length ≤ 122
    simp
    omega
  | bad => exact h.elim
  | fin => exact h.elim
theorem at0' {α : Type} {x : α} {l : List α} : atI (x :: l) 0 = some x := atI_nat (j := 0) (xs := x :: l) rfl
def W_gap : Wt := fun ds M k => ∃ (a : Addr) (p : Pool) (t t' : Tk), ds = [.ref a, .str (tx (tkS t)), .str (tx (tkS t'))] ∧ M = [(a, .lst p.d)] ∧ p.Ok ∧ TkOk t ∧ TkOk t' ∧ (tkS t).length ≤ 200 ∧ (tkS t').length ≤ 200 ∧
  ∀ (g : List Nat) (p' : Pool), p'.Ok → Blank g → g.length ≤ 3 → (soft t = true ∨ g ≠ [] ∨ soft t' = true) → k (.str (tx g)) [(a, .lst p'.d)]
section
variable {P : Program} {w : World} {K : PySem.W.Frag} {mg : Str → Option Value} {base : Heap}
theorem c__law_gap (T : Top K mg w) : Cal P w K mg base 3 "_law_gap" (Spc K W_gap) [] := cal_of T.d__law_gap fun f fd F => by
  have c__law_take := c__law_take (P := P) (w := w) (base := base) T 2
  exact spc_ok F sc__law_gap (fun ds M k h => by obtain ⟨a, p, t, t', rfl, _⟩ := h; rfl) fun cdv A outer s H E hr => ⟨_, (pss_cons (ps_set (i := 3) sc__law_gap.nd rfl (Or.inl rfl) (join_K (K := K) (pe_join pe_str (pe_lc (own := [("k", 4)]) (g := gName 4) rfl sc__law_gap.nd (pi_range1 (by rfl) T.m_range (pa_cons (pe_c c__law_take hr (by first | decide | omega) (by rfl) (pa_cons (pv 0) (pa_cons pe_int pa_nil))) pa_nil)) (blkOk_by (own := [("k", 4)]) (N := ["pool", "left", "right", "gap", "k"]) (sc := defScope s__law_gap) (by decide +kernel)) (fun _ _ _ _ _ => (pg_name (i := 4) sc__law_gap.nd rfl (Or.inl rfl))) (fun _ _ _ _ _ => pts_nil) (fun _ _ _ _ _ => (pe_ix (ix_K (K := K)) (pe_tup (pa_cons pe_str (pa_cons pe_str pa_nil))) (pe_c c__law_take hr (by first | decide | omega) (by rfl) (pa_cons (pv 0) (pa_cons pe_int pa_nil))) (fun _ _ => rfl)))))))
      (pss_cons (ps_if (pw_and (pt_cmpR op_eq (pv 3) pe_str (nomark _)) (pw_and (pt_cmpR (notin_K (K := K)) (pv 1) (pe_tup (pa_cons pe_str (pa_cons pe_str pa_nil))) (by rfl)) (pw_and (pt_cmpR (notin_K (K := K)) (pv 2) (pe_tup (pa_cons pe_str (pa_cons pe_str pa_nil))) (by rfl)) (pw_and1 (pt_cmpR (notin_K (K := K)) pe_str (pe_tup (pa_cons (pe_ix (ix_K (K := K)) (pv 1) pe_int (fun _ _ => rfl)) (pa_cons (pe_ix (ix_K (K := K)) (pv 2) pe_int (fun _ _ => rfl)) pa_nil))) (by rfl)))))).pt
      (pss_one (ps_ret pe_str))
      pss_nil)
      (pss_one (ps_ret (pv 3))))), fun ds M kk hw => by
    obtain ⟨a, p, t, t', rfl, rfl, ok, h1, h2, hl1, hl2, q⟩ := hw
    have hsz := sizeLine_eq
    refine as_start (δ' := [some (.ref a), some (.str (tx (tkS t))), some (.str (tx (tkS t'))), none, none]) rfl ?_
    walk_at "tg"
    refine ae_lc (ownG_name (by simp)) ?_
    walk_at "tg"
    walk_at "take"
    rintro _ _ ⟨r, p1, ok1, r0, r1, rfl, rfl⟩
    obtain ⟨m, rfl⟩ : ∃ m : Nat, r = (m : Int) := ⟨r.toNat, by omega⟩
    walk_at "tg"
    refine ⟨by omega, by omega, ?_⟩
    rw [Int.toNat_natCast]
    refine ⟨by rw [rng_len, hsz]; omega, fun i acc M' => ∃ (l : List Nat) (p' : Pool), p'.Ok ∧ Blank l ∧ l.length = i ∧ acc = strsD (ones l) ∧ M' = [(a, .lst p'.d)], ⟨[], p1, ok1, (fun c hc => by cases hc), rfl, rfl, rfl⟩, ?_, ?_⟩
    · rintro i d acc M' hd ⟨l, p', ok', hb, rfl, rfl, rfl⟩
      walk_at "tg"
      walk_at "take"
      rintro _ _ ⟨r3, p3, ok3, j0, j1, rfl, rfl⟩
      obtain ⟨c, hc, hat3⟩ : ∃ c : Nat, (c = 32 ∨ c = 10) ∧ atI [D.str (Str.ofString " "), D.str (Str.ofString "\n")] r3 = some (.str (Tg.tx [c])) := by
        have h : r3 = 0 ∨ r3 = 1 := by omega
        rcases h with rfl | rfl
        · exact ⟨32, .inl rfl, rfl⟩
        · exact ⟨10, .inr rfl, rfl⟩
      refine aix_T hat3 ?_
      exact ⟨l ++ [c], p3, ok3, fun x hx => by
        rcases List.mem_append.mp hx with hx | hx
        · exact hb x hx
        · rw [List.mem_singleton.mp hx]; exact hc, by rw [List.length_append]; rfl, strsD_snoc l c, rfl⟩
    · rintro acc M' ⟨l, p', ok', hb, hll, rfl, rfl⟩
      rw [rng_len] at hll
      walk_at "tg"
      refine am_join (ls := ones l) (by rw [ones_sum]; omega) ?_
      rw [ones_flat]
      refine as_seq ?_
      walk_at "tg"
      rw [sg_none]
      refine dcase (fun c0 => ?_) (fun c0 => ?_)
      · have el : l = [] := tx_inj (b := []) c0
        subst el
        walk_at "tg"
        obtain ⟨x1, y1, e1, _, s1⟩ := tkS_ne h1
        obtain ⟨x2, y2, e2, _, s2⟩ := tkS_ne h2
        have sof : ∀ {u : Tk}, (soft u = false → tkS u ≠ [40] ∧ tkS u ≠ [41]) → tx (tkS u) ∈ [Str.ofString "(", Str.ofString ")"] → soft u = true := fun {u} h z => by
          cases hs : soft u with
          | true => rfl
          | false =>
            rw [sg_op, sg_cl, List.mem_cons, List.mem_singleton] at z
            rcases z with z | z
            · exact absurd (tx_inj z) (h hs).1
            · exact absurd (tx_inj z) (h hs).2
        refine anin_tup (ss := [Str.ofString "(", Str.ofString ")"]) ?_
        refine ⟨_, rfl, ?_⟩
        refine dcaseN (fun n1 => ?_) (fun z => ?_)
        · walk_at "tg"
          refine anin_tup (ss := [Str.ofString "(", Str.ofString ")"]) ?_
          refine ⟨_, rfl, ?_⟩
          refine dcaseN (fun n2 => ?_) (fun z => ?_)
          · walk_at "tg"
            refine au_ixS (c := x1) (by omega) (by rw [e1]; exact at0') ?_
            walk_at "tg"
            refine au_ixS (c := x2) (by omega) (by rw [e2]; exact at0') ?_
            walk_at "tg"
            refine anin_tup (ss := [tx [x1], tx [x2]]) ?_
            refine ⟨_, rfl, ?_⟩
            refine dcaseN (fun n3 => ?_) (fun z => ?_)
            · walk_at "tg"
              rw [show Str.ofString " " = tx [32] from by decide +kernel]
              exact q [32] p' ok' (fun c hc => .inl (List.mem_singleton.mp hc)) (by simp) (.inr (.inl (by simp)))
            · walk_at "tg"
              have hso : soft t = true ∨ soft t' = true := by
                rw [sg_quot, List.mem_cons, List.mem_singleton, sg_eq, sg_eq] at z
                rcases z with z | z
                · cases hs : soft t with
                  | true => exact .inl rfl
                  | false => exact absurd z.symm (s1 hs).1
                · cases hs : soft t' with
                  | true => exact .inr rfl
                  | false => exact absurd z.symm (s2 hs).1
              exact q [] p' ok' hb (by simp) (hso.elim .inl fun h => .inr (.inr h))
          · walk_at "tg"
            exact q [] p' ok' hb (by simp) (.inr (.inr (sof (fun h => (s2 h).2) z)))
        · walk_at "tg"
          exact q [] p' ok' hb (by simp) (.inl (sof (fun h => (s1 h).2) z))
      · walk_at "tg"
        have hne : l ≠ [] := fun z => c0 (by rw [z])
        exact q l p' ok' hb (by omega) (.inr (.inl hne))⟩
end

theorem lay_app : ∀ a b : List GT, lay (a ++ b) = lay a ++ lay b
  | [], b => rfl
  | (g, t) :: a, b => by
    show g ++ (tkS t ++ lay (a ++ b)) = g ++ (tkS t ++ lay a) ++ lay b
    rw [lay_app a b]
    simp
theorem layOk_idx : ∀ {gts : List GT} {tail : List Nat}, (∀ (i : Nat) (x : GT), gts[i]? = some x → Blank x.1 ∧ TkOk x.2) → (∀ (i : Nat) (x y : GT), gts[i]? = some x → gts[i + 1]? = some y → soft x.2 = true ∨ y.1 ≠ [] ∨ soft y.2 = true) → (∀ x : GT, gts.getLast? = some x → soft x.2 = true ∨ Brk tail) → LayOk gts tail
  | [], _, _, _, _ => trivial
  | [(g, t)], tail, h1, _, h3 => ⟨(h1 0 (g, t) rfl).1, (h1 0 (g, t) rfl).2, h3 (g, t) rfl⟩
  | (g, t) :: (g', t') :: r, tail, h1, h2, h3 => by
    refine ⟨(h1 0 (g, t) rfl).1, (h1 0 (g, t) rfl).2, h2 0 (g, t) (g', t') rfl rfl, ?_⟩
    refine layOk_idx (fun i x e => h1 (i + 1) x e) (fun i x y e1 e2 => h2 (i + 1) x y e1 e2) fun x e => h3 x ?_
    rw [List.getLast?_cons_cons]
    exact e
def isOp : Tk → Bool
  | .op => true
  | _ => false
def isCl : Tk → Bool
  | .cl => true
  | _ => false
theorem op_iff {t : Tk} (h : TkOk t) : tx (tkS t) = tx [40] ↔ isOp t = true := by
  cases t with
  | op => exact ⟨fun _ => rfl, fun _ => rfl⟩
  | cl => exact ⟨fun z => (by have := tx_inj z; cases this), fun z => (by cases z)⟩
  | bad => exact h.elim
  | fin => exact h.elim
  | lt w => exact ⟨fun z => absurd (tx_inj z) ((tkS_ne h).choose_spec.choose_spec.2.2 rfl).2.1, fun z => by cases z⟩
  | num i => exact ⟨fun z => absurd (tx_inj z) ((tkS_ne h).choose_spec.choose_spec.2.2 rfl).2.1, fun z => by cases z⟩
  | txt l => exact ⟨fun z => (by have := tx_inj z; cases this), fun z => (by cases z)⟩
theorem cl_iff {t : Tk} (h : TkOk t) : tx (tkS t) = tx [41] ↔ isCl t = true := by
  cases t with
  | cl => exact ⟨fun _ => rfl, fun _ => rfl⟩
  | op => exact ⟨fun z => (by have := tx_inj z; cases this), fun z => (by cases z)⟩
  | bad => exact h.elim
  | fin => exact h.elim
  | lt w => exact ⟨fun z => absurd (tx_inj z) ((tkS_ne h).choose_spec.choose_spec.2.2 rfl).2.2, fun z => by cases z⟩
  | num i => exact ⟨fun z => absurd (tx_inj z) ((tkS_ne h).choose_spec.choose_spec.2.2 rfl).2.2, fun z => by cases z⟩
  | txt l => exact ⟨fun z => (by have := tx_inj z; cases this), fun z => (by cases z)⟩
/-- the gap ahead of the k-th token of a written text -/
def wgap (ts : List Tk) (k : Nat) : List Nat := if k = 0 then [] else if isCl (ts.getD k .op) || isOp (ts.getD (k - 1) .op) then [] else [32]
def wgts (ts : List Tk) (n : Nat) : List GT := (List.range n).map fun k => (wgap ts k, ts.getD k .op)
theorem wgts_succ (ts : List Tk) (n : Nat) : wgts ts (n + 1) = wgts ts n ++ [(wgap ts n, ts.getD n .op)] := by
  unfold wgts
  rw [List.range_succ, List.map_append]
  rfl
theorem wgap_len (ts : List Tk) (k : Nat) : (wgap ts k).length ≤ 1 := by
  unfold wgap
  split
  · simp
  · split <;> simp
theorem wlay_len {ts : List Tk} (h : ∀ t ∈ ts, (tkS t).length ≤ 200) : ∀ n, n ≤ ts.length → (lay (wgts ts n)).length ≤ 201 * n
  | 0, _ => Nat.le_refl _
  | n + 1, hn => by
    have ih := wlay_len h n (by omega)
    have h1 := wgap_len ts n
    have h2 : (tkS (ts.getD n .op)).length ≤ 200 := by
      rw [List.getD_eq_getElem?_getD, List.getElem?_eq_getElem (by omega : n < ts.length)]
      exact h _ (List.getElem_mem _)
    rw [wgts_succ, lay_app, List.length_append]
    show _ + (wgap ts n ++ (tkS (ts.getD n .op) ++ [])).length ≤ _
    simp only [List.length_append, List.length_nil]
    omega
/-- the written text is a layout -/
theorem wgts_ok {ts : List Tk} (h : ∀ t ∈ ts, TkOk t) : LayOk (wgts ts ts.length) [] := by
  have get : ∀ i x, (wgts ts ts.length)[i]? = some x → i < ts.length ∧ x = (wgap ts i, ts.getD i .op) := fun i x e => by
    unfold wgts at e
    rw [List.getElem?_map] at e
    obtain ⟨j, hj, rfl⟩ := Option.map_eq_some_iff.mp e
    obtain ⟨h1, h2⟩ := List.getElem?_eq_some_iff.mp hj
    rw [List.length_range] at h1
    rw [List.getElem_range] at h2
    subst h2
    exact ⟨h1, rfl⟩
  refine layOk_idx (fun i x e => ?_) (fun i x y e1 e2 => ?_) fun x _ => .inr brk_nil
  · obtain ⟨hi, rfl⟩ := get i x e
    refine ⟨fun c hc => ?_, ?_⟩
    · have hc' : c ∈ wgap ts i := hc
      unfold wgap at hc'
      split at hc'
      · cases hc'
      · split at hc'
        · cases hc'
        · exact .inl (List.mem_singleton.mp hc')
    · show TkOk (ts.getD i .op)
      rw [List.getD_eq_getElem?_getD, List.getElem?_eq_getElem hi]
      exact h _ (List.getElem_mem _)
  · obtain ⟨_, rfl⟩ := get i x e1
    obtain ⟨_, rfl⟩ := get (i + 1) y e2
    show soft (ts.getD i .op) = true ∨ wgap ts (i + 1) ≠ [] ∨ soft (ts.getD (i + 1) .op) = true
    unfold wgap
    rw [if_neg (Nat.succ_ne_zero i), Nat.add_sub_cancel]
    cases e : isCl (ts.getD (i + 1) .op) with
    | true => exact .inr (.inr (by cases e3 : ts.getD (i + 1) .op <;> rw [e3] at e <;> first | rfl | cases e))
    | false =>
      cases e4 : isOp (ts.getD i .op) with
      | true => exact .inl (by cases e3 : ts.getD i .op <;> rw [e3] at e4 <;> first | rfl | cases e4)
      | false => exact .inr (.inl (by simp))
def W_wri : Wt := fun ds M k => ∃ ts : List Tk, ds = [.lst (ts.map fun t => .str (tx (tkS t)))] ∧ M = [] ∧ (∀ t ∈ ts, TkOk t) ∧ (∀ t ∈ ts, (tkS t).length ≤ 200) ∧ ts.length ≤ 4000 ∧ k (.str (tx (lay (wgts ts ts.length)))) []
section
variable {P : Program} {w : World} {K : PySem.W.Frag} {mg : Str → Option Value} {base : Heap}
theorem c__law_written (T : Top K mg w) : Cal P w K mg base 1 "_law_written" (Spc K W_wri) [] := cal_of T.d__law_written fun f fd F => by
  exact spc_ok F sc__law_written (fun ds M k h => by obtain ⟨ts, rfl, _⟩ := h; rfl) fun cdv A outer s H E hr => ⟨_, (pss_cons (ps_set (i := 1) sc__law_written.nd rfl (Or.inl rfl) pe_str)
      (pss_cons (ps_for PassesOwn.never rfl (pi_range1 (by rfl) T.m_range (pa_cons (pe_callB (len_K (K := K)) (by rfl) T.m_len (by decide +kernel) (pa_cons (pv 0) pa_nil)) pa_nil)) (pg_name (i := 2) sc__law_written.nd rfl (Or.inl rfl))
      (pss_cons (ps_if (pw_and (pt_cmpR op_gt (pv 2) pe_int (nomark _)) (pw_and (pt_cmpR op_ne (pe_ix (ix_K (K := K)) (pv 0) (pv 2) (fun _ _ => rfl)) pe_str (nomark _)) (pw_and1 (pt_cmpR op_ne (pe_ix (ix_K (K := K)) (pv 0) (pe_op op_sub (pv 2) pe_int) (fun _ _ => rfl)) pe_str (nomark _))))).pt
      (pss_one (ps_set (i := 1) sc__law_written.nd rfl (Or.inl rfl) (pe_op (add_K (K := K)) (pv 1) pe_str)))
      pss_nil)
      (pss_one (ps_set (i := 1) sc__law_written.nd rfl (Or.inl rfl) (pe_op (add_K (K := K)) (pv 1) (pe_ix (ix_K (K := K)) (pv 0) (pv 2) (fun _ _ => rfl)))))))
      (pss_one (ps_ret (pv 1))))), fun ds M kk hw => by
    obtain ⟨ts, rfl, rfl, ok, hl, hn, q⟩ := hw
    have hsz := sizeLine_eq
    refine as_start (δ' := [some (.lst (ts.map fun t => .str (tx (tkS t)))), none, none]) rfl ?_
    walk_at "tg"
    rw [List.length_map]
    refine ⟨by omega, by omega, ?_⟩
    rw [Int.toNat_natCast]
    refine ⟨fun i δ' M' => M' = [] ∧ ∃ y, δ' = [some (.lst (ts.map fun t => .str (tx (tkS t)))), some (.str (tx (lay (wgts ts i)))), y], ⟨rfl, _, rfl⟩, ?_, ?_⟩
    · rintro i d δ' M' hd ⟨rfl, y, rfl⟩
      obtain ⟨hi, rfl⟩ := rng_get hd
      rw [Int.zero_add]
      walk_at "tg"
      have gt : ∀ k, k < ts.length → (ts.map fun t => D.str (tx (tkS t)))[k]? = some (.str (tx (tkS (ts.getD k .op)))) ∧ TkOk (ts.getD k .op) ∧ (tkS (ts.getD k .op)).length ≤ 200 := fun k hk => by
        rw [List.getElem?_map, List.getD_eq_getElem?_getD, List.getElem?_eq_getElem hk]
        exact ⟨rfl, ok _ (List.getElem_mem hk), hl _ (List.getElem_mem hk)⟩
      obtain ⟨g1, o1, l1⟩ := gt i hi
      have hlay := wlay_len hl i (by omega)
      have hwl := wgap_len ts i
      refine as_cut (fun δ' M' => M' = [] ∧ δ' = [some (.lst (ts.map fun t => .str (tx (tkS t)))), some (.str (tx (lay (wgts ts i) ++ wgap ts i))), some (.int (i : Nat))]) ?_ ?_
      · walk_at "tg"
        refine dcase (fun c1 => ?_) (fun c1 => ?_)
        · have hi0 : ¬ i = 0 := by omega
          obtain ⟨g2, o2, _⟩ := gt (i - 1) (by omega)
          have eg : wgap ts i = if isCl (ts.getD i .op) || isOp (ts.getD (i - 1) .op) then [] else [32] := if_neg hi0
          walk_at "tg"
          refine aix_L (atI_nat g1) ?_
          walk_at "tg"
          rw [sg_cl, sg_op]
          refine dcaseN (fun n1 => ?_) (fun z => ?_)
          · have e1 : isCl (ts.getD i .op) = false := by
              cases h : isCl (ts.getD i .op) with
              | false => rfl
              | true => exact absurd ((cl_iff o1).mpr h) n1
            have ei : ((i : Nat) : Int) - 1 = ((i - 1 : Nat) : Int) := by omega
            walk_at "tg"
            rw [ei]
            refine aix_L (atI_nat g2) ?_
            walk_at "tg"
            refine dcaseN (fun n2 => ?_) (fun z => ?_)
            · have e2 : isOp (ts.getD (i - 1) .op) = false := by
                cases h : isOp (ts.getD (i - 1) .op) with
                | false => rfl
                | true => exact absurd ((op_iff o2).mpr h) n2
              rw [e1, e2] at eg
              walk_at "tg"
              rw [show Str.ofString " " = tx [32] from by decide +kernel]
              refine au_str (by simp; omega) ?_
              refine ⟨rfl, ?_⟩
              rw [eg]
              rfl
            · have e2 := (op_iff o2).mp z
              rw [e2, Bool.or_true] at eg
              walk_at "tg"
              refine ⟨rfl, ?_⟩
              rw [eg, if_pos rfl, List.append_nil]
              rfl
          · have e2 := (cl_iff o1).mp z
            rw [e2, Bool.true_or] at eg
            walk_at "tg"
            refine ⟨rfl, ?_⟩
            rw [eg, if_pos rfl, List.append_nil]
            rfl
        · have hi0 : i = 0 := by omega
          have eg : wgap ts i = [] := if_pos hi0
          walk_at "tg"
          refine ⟨rfl, ?_⟩
          rw [eg, List.append_nil]
          rfl
      · rintro δ' M' ⟨rfl, rfl⟩
        walk_at "tg"
        refine aix_L (atI_nat g1) ?_
        refine au_str (by simp only [List.length_append]; omega) ?_
        refine ⟨rfl, some (.int (i : Nat)), ?_⟩
        rw [wgts_succ, lay_app]
        show _ = [_, some (D.str (tx (lay (wgts ts i) ++ (wgap ts i ++ (tkS (ts.getD i .op) ++ []))))), _]
        rw [List.append_nil, ← List.append_assoc]
        rfl
    · rintro δ' M' ⟨rfl, y, rfl⟩
      rw [rng_len]
      walk_at "tg"
      exact q⟩
end

/-- the places of the tokens -/
def plc (gts : List GT) : List D := (List.range gts.length).map fun k => D.int (((lay (gts.take k)).length + (gts.getD k ([], .op)).1.length : Nat) : Int)
theorem plc_snoc (gts : List GT) (x : GT) : plc (gts ++ [x]) = plc gts ++ [.int (((lay gts).length + x.1.length : Nat) : Int)] := by
  unfold plc
  rw [List.length_append, List.length_singleton, List.range_succ, List.map_append]
  congr 1
  · refine List.map_congr_left fun k hk => ?_
    have hk2 := List.mem_range.mp hk
    rw [List.take_append_of_le_length (by omega), List.getD_eq_getElem?_getD, List.getElem?_append_left hk2, ← List.getD_eq_getElem?_getD]
  · rw [List.map_singleton, List.take_left, List.getD_eq_getElem?_getD, List.getElem?_append_right (Nat.le_refl _), Nat.sub_self]
    rfl
theorem plc_len (gts : List GT) : (plc gts).length = gts.length := by
  unfold plc
  rw [List.length_map, List.length_range]
/-- a layout under way: what is laid, the gap behind it -/
structure Lw (ts : List Tk) (gts : List GT) (g : List Nat) : Prop where
  sn : gts.map (·.2) = ts.take gts.length
  le : gts.length ≤ ts.length
  bl : ∀ (i : Nat) (x : GT), gts[i]? = some x → Blank x.1 ∧ x.1.length ≤ 3
  sp : ∀ (i : Nat) (x y : GT), gts[i]? = some x → gts[i + 1]? = some y → soft x.2 = true ∨ y.1 ≠ [] ∨ soft y.2 = true
  gb : Blank g ∧ g.length ≤ 3
  nx : ∀ x t, gts.getLast? = some x → ts[gts.length]? = some t → soft x.2 = true ∨ g ≠ [] ∨ soft t = true
  en : gts.length = ts.length → gts ≠ [] → g = []
theorem Lw.step {ts : List Tk} {gts : List GT} {g g' : List Nat} {t : Tk} (h : Lw ts gts g) (ht : ts[gts.length]? = some t) (hb : Blank g' ∧ g'.length ≤ 3) (hs : ∀ t', ts[gts.length + 1]? = some t' → soft t = true ∨ g' ≠ [] ∨ soft t' = true) (he : gts.length + 1 = ts.length → g' = []) : Lw ts (gts ++ [(g, t)]) g' := by
  have hl : (gts ++ [(g, t)]).length = gts.length + 1 := by simp
  have hi := (List.getElem?_eq_some_iff.mp ht).1
  refine ⟨?_, by rw [hl]; omega, fun i x e => ?_, fun i x y e1 e2 => ?_, hb, fun x t' e1 e2 => ?_, fun e _ => he (by rw [hl] at e; exact e)⟩
  · rw [hl, List.map_append, h.sn, List.take_add_one, ht]
    rfl
  · by_cases c : i < gts.length
    · rw [List.getElem?_append_left c] at e
      exact h.bl i x e
    · have c2 : i = gts.length := by
        have := (List.getElem?_eq_some_iff.mp e).1
        rw [hl] at this
        omega
      subst c2
      rw [List.getElem?_append_right (Nat.le_refl _), Nat.sub_self] at e
      cases e
      exact h.gb
  · have hi2 := (List.getElem?_eq_some_iff.mp e2).1
    rw [hl] at hi2
    rw [List.getElem?_append_left (by omega)] at e1
    by_cases c : i + 1 < gts.length
    · rw [List.getElem?_append_left c] at e2
      exact h.sp i x y e1 e2
    · have c2 : i + 1 = gts.length := by omega
      rw [List.getElem?_append_right (by omega), c2, Nat.sub_self] at e2
      cases e2
      refine h.nx x t ?_ ht
      rw [List.getLast?_eq_getElem?, show gts.length - 1 = i by omega]
      exact e1
  · rw [hl] at e2
    have ex : x = (g, t) := by
      rw [List.getLast?_append] at e1
      simpa using e1.symm
    subst ex
    exact hs t' e2
theorem Lw.ok {ts : List Tk} {gts : List GT} {g : List Nat} (h : Lw ts gts g) (o : ∀ t ∈ ts, TkOk t) : LayOk gts [] := by
  refine layOk_idx (fun i x e => ⟨(h.bl i x e).1, ?_⟩) h.sp fun x _ => .inr brk_nil
  have e2 : (gts.map (·.2))[i]? = some x.2 := by rw [List.getElem?_map, e]; rfl
  rw [h.sn] at e2
  exact o _ (List.mem_of_mem_take (List.mem_of_getElem? e2))
theorem Lw.len {ts : List Tk} (hl : ∀ t ∈ ts, (tkS t).length ≤ 200) : ∀ {gts : List GT}, (∀ x ∈ gts, x.1.length ≤ 3 ∧ x.2 ∈ ts) → (lay gts).length ≤ 203 * gts.length
  | [], _ => Nat.le_refl _
  | (g, t) :: r, h => by
    have h1 := h (g, t) (by simp)
    have h2 := hl t h1.2
    have h3 : g.length ≤ 3 := h1.1
    have ih := Lw.len hl (gts := r) fun x hx => h x (List.mem_cons_of_mem _ hx)
    show (g ++ (tkS t ++ lay r)).length ≤ _
    simp only [List.length_append, List.length_cons]
    omega
theorem Lw.lay_len {ts : List Tk} {gts : List GT} {g : List Nat} (h : Lw ts gts g) (hl : ∀ t ∈ ts, (tkS t).length ≤ 200) : (lay gts).length ≤ 203 * gts.length := by
  refine Lw.len hl fun x hx => ?_
  obtain ⟨i, hi, e⟩ := List.getElem_of_mem hx
  have e1 : gts[i]? = some x := by rw [List.getElem?_eq_getElem hi, e]
  have e2 : (gts.map (·.2))[i]? = some x.2 := by rw [List.getElem?_map, e1]; rfl
  rw [h.sn] at e2
  exact ⟨(h.bl i x e1).2, List.mem_of_mem_take (List.mem_of_getElem? e2)⟩
def W_lay : Wt := fun ds M k => ∃ (a : Addr) (p : Pool) (ts : List Tk), ds = [.ref a, .lst (ts.map fun t => .str (tx (tkS t)))] ∧ M = [(a, .lst p.d)] ∧ p.Ok ∧ (∀ t ∈ ts, TkOk t) ∧ (∀ t ∈ ts, (tkS t).length ≤ 200) ∧ ts.length ≤ 4000 ∧
  ∀ (gts : List GT) (g : List Nat) (p' : Pool), p'.Ok → Lw ts gts g → gts.length = ts.length → k (.tup [.str (tx (lay gts ++ g)), .lst (plc gts)]) [(a, .lst p'.d)]
section
variable {P : Program} {w : World} {K : PySem.W.Frag} {mg : Str → Option Value} {base : Heap}
theorem c__law_layout (T : Top K mg w) : Cal P w K mg base 4 "_law_layout" (Spc K W_lay) [] := cal_of T.d__law_layout fun f fd F => by
  have c__law_gap := c__law_gap (P := P) (w := w) (base := base) T
  exact spc_ok F sc__law_layout (fun ds M k h => by obtain ⟨a, p, ts, rfl, _⟩ := h; rfl) fun cdv A outer s H E hr => ⟨_, (pss_cons (ps_set (i := 2) sc__law_layout.nd rfl (Or.inl rfl) (pe_c c__law_gap hr (by first | decide | omega) (by rfl) (pa_cons (pv 0) (pa_cons pe_str (pa_cons pe_str pa_nil)))))
      (pss_cons (ps_set (i := 3) sc__law_layout.nd rfl (Or.inl rfl) (pe_lstM (pe_lst pa_nil)))
      (pss_cons (ps_for PassesOwn.never rfl (pi_range1 (by rfl) T.m_range (pa_cons (pe_callB (len_K (K := K)) (by rfl) T.m_len (by decide +kernel) (pa_cons (pv 1) pa_nil)) pa_nil)) (pg_name (i := 4) sc__law_layout.nd rfl (Or.inl rfl))
      (pss_cons (ps_expr (app_K (K := K) (pe_bm PySem.F.plainAttrs_list PySem.F.slot_list_append PySem.F.type_list_append mt_append (pv 3) (pa_cons (pe_callB (len_K (K := K)) (by rfl) T.m_len (by decide +kernel) (pa_cons (pv 2) pa_nil)) pa_nil))))
      (pss_cons (ps_set (i := 2) sc__law_layout.nd rfl (Or.inl rfl) (pe_op (add_K (K := K)) (pv 2) (pe_ix (ix_K (K := K)) (pv 1) (pv 4) (fun _ _ => rfl))))
      (pss_one (ps_if (pt_cmpR op_lt (pe_op (add_K (K := K)) (pv 4) pe_int) (pe_callB (len_K (K := K)) (by rfl) T.m_len (by decide +kernel) (pa_cons (pv 1) pa_nil)) (nomark _))
      (pss_one (ps_set (i := 2) sc__law_layout.nd rfl (Or.inl rfl) (pe_op (add_K (K := K)) (pv 2) (pe_c c__law_gap hr (by first | decide | omega) (by rfl) (pa_cons (pv 0) (pa_cons (pe_ix (ix_K (K := K)) (pv 1) (pv 4) (fun _ _ => rfl)) (pa_cons (pe_ix (ix_K (K := K)) (pv 1) (pe_op (add_K (K := K)) (pv 4) pe_int) (fun _ _ => rfl)) pa_nil)))))))
      pss_nil)))))
      (pss_one (ps_ret (pe_tup (pa_cons (pv 2) (pa_cons (pv 3) pa_nil)))))))), fun ds M kk hw => by
    obtain ⟨a, p, ts, rfl, rfl, ok, oks, hl, hn, q⟩ := hw
    have hsz := sizeLine_eq
    refine as_start (δ' := [some (.ref a), some (.lst (ts.map fun t => .str (tx (tkS t)))), none, none, none]) rfl ?_
    walk_at "tg"
    rw [sg_op]
    refine ⟨[_], [], fun d M => ∃ (g : List Nat) (p' : Pool), p'.Ok ∧ Blank g ∧ g.length ≤ 3 ∧ d = .str (tx g) ∧ M = [(a, .lst p'.d)], rfl, ⟨a, p, .op, .op, rfl, rfl, ok, trivial, trivial, by decide, by decide, fun g p' h1 h2 h3 _ => ⟨g, p', h1, h2, h3, rfl, rfl⟩⟩, ?_⟩
    rintro _ _ ⟨g0, p1, ok1, hb0, hl0, rfl, rfl⟩
    walk_at "tg"
    intro pl
    walk_at "tg"
    rw [List.length_map]
    refine ⟨by omega, by omega, ?_⟩
    rw [Int.toNat_natCast]
    have h0 : Lw ts [] g0 := ⟨rfl, Nat.zero_le _, (fun i x e => by cases e), (fun i x y e => by cases e), ⟨hb0, hl0⟩, (fun x t e => by cases e), fun _ h => absurd rfl h⟩
    refine ⟨fun i δ' M' => ∃ (gts : List GT) (g : List Nat) (p' : Pool) (y : Option D), p'.Ok ∧ gts.length = i ∧ Lw ts gts g ∧ M' = [(a, .lst p'.d), (pl, .lst (plc gts))] ∧ δ' = [some (.ref a), some (.lst (ts.map fun t => .str (tx (tkS t)))), some (.str (tx (lay gts ++ g))), some (.ref pl), y], ⟨[], g0, p1, _, ok1, rfl, h0, rfl, rfl⟩, ?_, ?_⟩
    · rintro i d δ' M' hd ⟨gts, g, p', y, ok', rfl, hw, rfl, rfl⟩
      obtain ⟨hi, rfl⟩ := rng_get hd
      rw [Int.zero_add]
      obtain ⟨t, ht⟩ : ∃ t, ts[gts.length]? = some t := ⟨_, List.getElem?_eq_getElem hi⟩
      have hmt := List.mem_of_getElem? ht
      have hll := hw.lay_len hl
      have hgl := hw.gb.2
      have htl := hl t hmt
      have g1 : (ts.map fun t => D.str (tx (tkS t)))[gts.length]? = some (.str (tx (tkS t))) := by rw [List.getElem?_map, ht]; rfl
      walk_at "tg"
      refine ac_lenS (by rw [List.length_append]; omega) ?_
      rw [List.length_append]
      walk_at "tg"
      refine app1 (by rw [plc_len]; omega) ?_
      walk_at "tg"
      refine aix_L (atI_nat g1) ?_
      refine au_str (by rw [List.length_append]; omega) ?_
      have epl : plc (gts ++ [(g, t)]) = plc gts ++ [.int (((lay gts).length + g.length : Nat) : Int)] := plc_snoc gts (g, t)
      have ely : lay (gts ++ [(g, t)]) = lay gts ++ g ++ tkS t := by
        rw [lay_app]
        show lay gts ++ (g ++ (tkS t ++ [])) = _
        rw [List.append_nil, List.append_assoc]
      rw [← epl, ← ely]
      have hl2 : (gts ++ [(g, t)]).length = gts.length + 1 := by simp
      walk_at "tg"
      rw [List.length_map]
      walk_at "tg"
      refine dcase (fun c => ?_) (fun c => ?_)
      · have hi2 : gts.length + 1 < ts.length := by omega
        obtain ⟨t', ht'⟩ : ∃ t', ts[gts.length + 1]? = some t' := ⟨_, List.getElem?_eq_getElem hi2⟩
        have hmt' := List.mem_of_getElem? ht'
        have g2 : (ts.map fun t => D.str (tx (tkS t)))[gts.length + 1]? = some (.str (tx (tkS t'))) := by rw [List.getElem?_map, ht']; rfl
        have ei : ((gts.length : Nat) : Int) + 1 = ((gts.length + 1 : Nat) : Int) := by omega
        walk_at "tg"
        refine aix_L (atI_nat g1) ?_
        walk_at "tg"
        rw [ei]
        refine aix_L (atI_nat g2) ?_
        walk_at "tg"
        refine ⟨[_], [(pl, .lst (plc (gts ++ [(g, t)])))], fun d M => ∃ (g' : List Nat) (p2 : Pool), p2.Ok ∧ Blank g' ∧ g'.length ≤ 3 ∧ (soft t = true ∨ g' ≠ [] ∨ soft t' = true) ∧ d = .str (tx g') ∧ M = [(a, .lst p2.d)], rfl, ⟨a, p', t, t', rfl, rfl, ok', oks t hmt, oks t' hmt', htl, hl t' hmt', fun g' p2 h1 h2 h3 h4 => ⟨g', p2, h1, h2, h3, h4, rfl, rfl⟩⟩, ?_⟩
        rintro _ _ ⟨g', p2, ok2, hb', hl', hs', rfl, rfl⟩
        have hw2 : Lw ts (gts ++ [(g, t)]) g' := hw.step ht ⟨hb', hl'⟩ (fun u hu => by rw [ht'] at hu; cases hu; exact hs') (fun e => by omega)
        have hll2 := hw2.lay_len hl
        rw [hl2] at hll2
        refine au_str (by omega) ?_
        exact ⟨gts ++ [(g, t)], g', p2, _, ok2, hl2, hw2, rfl, rfl⟩
      · have hi2 : gts.length + 1 = ts.length := by omega
        walk_at "tg"
        have hw2 : Lw ts (gts ++ [(g, t)]) [] := hw.step ht ⟨(fun c hc => by cases hc), by simp⟩ (fun u hu => by
          have := (List.getElem?_eq_some_iff.mp hu).1
          omega) fun _ => rfl
        refine ⟨gts ++ [(g, t)], [], p', some (.int (gts.length : Nat)), ok', hl2, hw2, rfl, ?_⟩
        rw [List.append_nil]
        rfl
    · rintro δ' M' ⟨gts, g, p', y, ok', hgl, hw, rfl, rfl⟩
      rw [rng_len] at hgl
      show AS K _ _ _ _
      refine frz1 (s := 3) rfl ?_
      walk_at "tg"
      exact q gts g p' ok' hw hgl⟩
end

def W_ref (PT : Addr) (n : Nat) : Wt := fun ds M k => ∃ (cs : List Nat) (c : Cu) (f : Nat), ds = [.str (tx cs)] ∧ M = [(PT, .tb)] ∧ cs.length ≤ 100000 ∧ n ≤ 12 ∧ Lx cs 0 c.1 c.2.1 c.2.2 ∧ Ends n cs c (fun _ => False) (fun g => g = f) ∧ ∀ M', TbIn PT M' → k (.int (f : Nat)) M'
section
variable {P : Program} {w : World} {K : PySem.W.Frag} {mg : Str → Option Value} {base : Heap} {PT : Addr}
theorem c__law_refused (T : Top K mg w) (B : DefB K mg base "is_name" s_is_name ["text"] PT) (n : Nat) : Cal P w K mg base (9 + 4 * n) "_law_refused" (Spc K (W_ref PT n)) [] := cal_of T.d__law_refused fun f fd F => by
  obtain ⟨C_BadExpression, C_TongueError, e_BadExpression, t_TongueError, i1, i2⟩ := T.x_BadExpression
  have c_read_expression := c_read_expression (P := P) (w := w) T B e_BadExpression n
  have hlev : 9 + 4 * n = (8 + 4 * n) + 1 := by omega
  rw [hlev]
  exact spc_ok F sc__law_refused (fun ds M k h => by obtain ⟨cs, c, f, rfl, _⟩ := h; rfl) fun cdv A outer s H E hr => ⟨_, (pss_cons (ps_try_as (i := 1) rfl rfl sc__law_refused.nd rfl rfl ⟨by rfl, by decide, Or.inl e_BadExpression.m⟩ takes0 (fun W pn xe tk _ => (pss_one (ps_expr (pe_cX tk c_read_expression hr (by first | decide | omega) (by rfl) (pa_cons (pv 0) pa_nil))))) (fun a oe cls d pn hz hf => (pss_one (ps_if (tru_K (K := K) (pe_callB (call_isX e_BadExpression.ec hz hf) (by rfl) T.m_isinstance (by decide +kernel) (pa_cons (pv 1) (pa_cons (pe_bltn (v := .ty "ValueError") (by rfl) T.m_ValueError (by decide +kernel) rfl) pa_nil))))
      (pss_one (ps_ret (pe_xf e_BadExpression.xf e_BadExpression.n1 hz hf (pv 1))))
      pss_nil))))
      (pss_one (ps_ret pe_non))), fun ds M kk hw => by
    obtain ⟨cs, c, g, rfl, rfl, hl, hn, hx, hw, q⟩ := hw
    have hsz := sizeLine_eq
    refine as_start (δ' := [some (.str (tx cs)), none]) rfl ?_
    refine as_seq ?_
    refine as_tryD e_BadExpression.self ?_
    walk_at "tg"
    refine ⟨[(PT, .tb)], [], fun d M => False, fun fs M => fs = posF g ∧ TbIn PT M, rfl, ⟨cs, c, rfl, rfl, hl, hn, hx, ?_⟩, ?_, ?_⟩
    · rcases hw with ⟨e, f, _, _, _, z⟩ | ⟨e, t, s, z, h1, h2, gg, hne, rfl⟩ | ⟨e, ts, f, h1, h2, gg, cut, rfl⟩ | ⟨f, h1, rfl⟩
      · exact z.elim
      · exact .inr (.inl ⟨e, t, _, z, h1, h2, gg, hne, fun M' hm => ⟨rfl, hm⟩⟩)
      · exact .inr (.inr (.inl ⟨e, ts, _, h1, h2, gg, cut, fun M' hm => ⟨rfl, hm⟩⟩))
      · exact .inr (.inr (.inr ⟨_, h1, fun M' hm => ⟨rfl, hm⟩⟩))
    · exact fun _ _ h => h.elim
    · rintro _ Mc a d ⟨rfl, hm⟩
      have hM : Mc ++ [(d, MO.xd (posF g))] ++ [] = Mc ++ (d, MO.xd (posF g)) :: [] := by simp
      rw [hM]
      show AS K (tIfS (tTruU K (tCB (rIsX K C_BadExpression a (.ref C_BadExpression) (some d)) (tCons (tVar 1) (tCons (tC (.ty "ValueError")) tNil)))) (tRet (tXf a (.ref C_BadExpression) (some d) C_BadExpression "position" (tVar 1))) tNext) _ _ _
      refine as_if (at_tru (ae_cb (aa_cons (ae_var rfl (aa_cons (ae_ty (aa_nil ?_)))))))
      refine ac_isXty Mc [] rfl i2 ?_
      refine ⟨True.intro, (fun _ => ?_), fun z => (nomatch z)⟩
      refine as_ret (ae_xf ?_)
      exact ae_var rfl ⟨rfl, posF g, .int (g : Nat), Mc, [], rfl, rfl, q _ (List.mem_append_left _ hm)⟩⟩
end

/-! ### what stands below -/
def kidsP : Ex → List Ex
  | .nm _ => []
  | .qt _ => []
  | .sv ks => ks
  | e => [e]
def kids : Ex → List Ex
  | .fm _ ps => ps.flatMap kidsP
  | _ => []
def tupB : D → Bool
  | .tup _ => true
  | _ => false
def W_bel : Wt := fun ds M k => ∃ (n : Nat) (e : Ex), ds = [e.d] ∧ M = [] ∧ OkE n e ∧ k (.lst ((kids e).map Ex.d)) []
def termL : List Nat := [116, 101, 114, 109]
/-- the parts of a form that is no term -/
theorem frm_nosev : ∀ p ∈ frm, p.1 ≠ termL → ∀ nd ∈ p.2, isSev nd = false := by decide
def ndN : Nd → Nat
  | .one => 0
  | .name => 1
  | .text => 2
  | .sev => 3
theorem frm_term : ∀ p ∈ frm, p.1 = termL → p.2.map ndN = [2, 3] := by decide
/-- plain enough for a look at its type -/
def Look (d : D) : Prop := (∃ ds, d = .tup ds) ∨ (∃ z, d = .str z) ∨ (∃ i, d = .int i) ∨ ∃ b, d = .bl b
theorem ex_look (e : Ex) : Look e.d := by
  cases e with
  | int i => exact .inl ⟨_, rfl⟩
  | tx l => exact .inl ⟨_, rfl⟩
  | bl b => exact .inl ⟨_, rfl⟩
  | fm h ps => exact .inl ⟨_, rfl⟩
  | nm w => exact .inr (.inl ⟨_, rfl⟩)
  | qt l => exact .inr (.inl ⟨_, rfl⟩)
  | sv ks => exact .inl ⟨_, rfl⟩
theorem below_parts {O : Ex → Prop} (hO : ∀ ks, ¬ O (.sv ks)) : ∀ {ns : List Nd} {ps : List Ex}, OkPs O ns ps → (∀ nd ∈ ns, isSev nd = false) → (ps.map Ex.d).filter tupB = (ps.flatMap kidsP).map Ex.d
  | [], [], _, _ => rfl
  | nd :: ns, p :: ps, h, hs => by
    have ih := below_parts hO h.2 fun x hx => hs x (List.mem_cons_of_mem _ hx)
    have h1 := h.1
    have h2 := hs nd (by simp)
    rw [List.flatMap_cons, List.map_cons, List.map_append, ← ih]
    cases p with
    | sv ks =>
      cases nd with
      | one => exact absurd h1 (hO ks)
      | name => exact h1.elim
      | text => exact h1.elim
      | sev => cases h2
    | _ => rfl
  | [], _ :: _, h, _ => h.elim
  | _ :: _, [], h, _ => h.elim
theorem okE_sv (n : Nat) (ks : List Ex) : ¬ OkE n (.sv ks) := fun h => by cases n <;> exact h.elim
theorem term_parts {O : Ex → Prop} {ns : List Nd} {ps : List Ex} (h : OkPs O ns ps) (hs : ns.map ndN = [2, 3]) : ∃ l ks, ps = [.qt l, .sv ks] ∧ TxOk l ∧ ks.length ≤ 5 ∧ ∀ k ∈ ks, O k := by
  match ns, hs with
  | [], hs => simp at hs
  | [_], hs => simp at hs
  | _ :: _ :: _ :: _, hs => simp at hs
  | [n1, n2], hs =>
    have e1 : ndN n1 = 2 ∧ ndN n2 = 3 := by simpa using hs
    match ps, h with
    | [p1, p2], h =>
      cases n1 <;> first | (cases e1.1) | skip
      cases n2 <;> first | (cases e1.2) | skip
      cases p1 <;> first | exact h.1.elim | skip
      cases p2 <;> first | exact h.2.1.elim | skip
      exact ⟨_, _, rfl, h.1, h.2.1.1, h.2.1.2⟩
    | [], h => exact h.elim
    | [_], h => exact h.2.elim
    | _ :: _ :: _ :: _, h => exact h.2.2.elim
section
variable {P : Program} {w : World} {K : PySem.W.Frag} {mg : Str → Option Value} {base : Heap}
theorem c__law_below (T : Top K mg w) : Cal P w K mg base 1 "_law_below" (Spc K W_bel) [] := cal_of T.d__law_below fun f fd F => by
  exact spc_ok F sc__law_below (fun ds M k h => by obtain ⟨n, e, rfl, _⟩ := h; rfl) fun cdv A outer s H E hr => ⟨_, (pss_cons (ps_if (pt_cmpR op_eq (pe_ix (ix_K (K := K)) (pv 0) pe_int (fun _ _ => rfl)) pe_str (nomark _))
      (pss_one (ps_ret (pe_callTy (list_K (K := K)) (by rfl) T.m_list (by decide +kernel) (pa_cons (pe_ix (ix_K (K := K)) (pv 0) pe_int (fun _ _ => rfl)) pa_nil))))
      pss_nil)
      (pss_one (ps_ret (pe_lc (own := [("part", 1)]) (g := gName 1) rfl sc__law_below.nd (seq_K (K := K) (pe_slice (sl_K (K := K)) (pv 0) (po_some pe_int) po_none)) (blkOk_by (own := [("part", 1)]) (N := ["expression", "part"]) (sc := defScope s__law_below) (by decide +kernel)) (fun _ _ _ _ _ => (pg_name (i := 1) sc__law_below.nd rfl (Or.inl rfl))) (fun _ _ _ _ _ => (pts_one (tru_K (K := K) (pe_callB (isi_K (K := K)) (by rfl) T.m_isinstance (by decide +kernel) (pa_cons (pv 1) (pa_cons (pe_bltn (v := .ty "tuple") (by rfl) T.m_tuple (by decide +kernel) rfl) pa_nil)))))) (fun _ _ _ _ _ => (pv 1)))))), fun ds M kk hw => by
    obtain ⟨n, e, rfl, rfl, ok, q⟩ := hw
    have hsz := sizeLine_eq
    obtain ⟨hd, rest, he, md⟩ : ∃ hd rest, e.d = .tup (.str hd :: rest) ∧ ((hd ≠ Str.ofString "term" ∧ rest.length ≤ 100 ∧ (∀ d ∈ rest, Look d) ∧ kk (.lst (rest.filter tupB)) []) ∨ (hd = Str.ofString "term" ∧ ∃ x ks, rest = [x, .tup (List.map Ex.d ks)] ∧ ks.length ≤ 100 ∧ kk (.lst (ks.map Ex.d)) [])) := by
      cases e with
      | int i => exact ⟨_, _, rfl, .inl ⟨by decide +kernel, by simp, fun d hd => by rw [List.mem_singleton.mp hd]; exact .inr (.inr (.inl ⟨_, rfl⟩)), q⟩⟩
      | tx l => exact ⟨_, _, rfl, .inl ⟨by decide +kernel, by simp, fun d hd => by rw [List.mem_singleton.mp hd]; exact .inr (.inl ⟨_, rfl⟩), q⟩⟩
      | bl b => exact ⟨_, _, rfl, .inl ⟨by decide +kernel, by simp, fun d hd => by rw [List.mem_singleton.mp hd]; exact .inr (.inr (.inr ⟨_, rfl⟩)), q⟩⟩
      | fm h ps =>
        cases n with
        | zero => exact ok.elim
        | succ n =>
          obtain ⟨ns, hfr, okp⟩ := ok
          have hlen := okPs_len okp
          have hl3 : ns.length ≤ 3 := frm_len _ hfr
          have hd : (Ex.fm h ps).d = .tup (.str (tx h) :: ps.map Ex.d) := by
            show D.tup (_ :: Ex.ds ps) = _
            rw [Ex.ds_map]
          refine ⟨_, _, hd, ?_⟩
          have et : Str.ofString "term" = tx termL := by decide +kernel
          by_cases ht : h = termL
          · obtain ⟨l, ks, rfl, _, h5, _⟩ := term_parts okp (frm_term _ hfr ht)
            refine .inr ⟨by rw [ht, et], (Ex.qt l).d, ks, ?_, by omega, ?_⟩
            · show [(Ex.qt l).d, D.tup (Ex.ds ks)] = _
              rw [Ex.ds_map]
            · have hk : kids (Ex.fm h [.qt l, .sv ks]) = ks := by
                show [Ex.qt l, .sv ks].flatMap kidsP = _
                simp [kidsP]
              rw [hk] at q
              exact q
          · refine .inl ⟨fun z => ht (tx_inj (z.trans et)), by rw [List.length_map]; omega, fun d hd => ?_, ?_⟩
            · obtain ⟨e, _, rfl⟩ := List.mem_map.mp hd
              exact ex_look e
            · rw [below_parts (okE_sv n) okp (frm_nosev _ hfr ht)]
              exact q
      | nm w => cases n <;> exact ok.elim
      | qt l => cases n <;> exact ok.elim
      | sv ks => cases n <;> exact ok.elim
    clear ok q
    refine as_start (δ' := [some (.tup (.str hd :: rest)), none]) (by rw [he]; rfl) ?_
    refine as_seq ?_
    walk_at "tg"
    refine aix_T at0' ?_
    walk_at "tg"
    rcases md with ⟨hne, hl, hlook, q⟩ | ⟨rfl, x, ks, rfl, hl, q⟩
    · refine dcase (fun z => absurd z hne) (fun _ => ?_)
      walk_at "tg"
      refine ae_lc (ownG_name (by simp)) ?_
      walk_at "tg"
      refine asl_tup ?_
      have ecut : Tg.cutD (D.str hd :: rest) (some 1) none = rest := by
        unfold Tg.cutD
        rw [show (1 : Int) = ((1 : Nat) : Int) from rfl, HT.sIx_nat]
        have hn : HT.sIx (D.str hd :: rest).length (D.str hd :: rest).length none = (D.str hd :: rest).length := rfl
        rw [hn]
        simp
      rw [ecut]
      refine ⟨_, rfl, by rw [hsz]; omega, fun i acc M' => M' = [] ∧ acc = (rest.take i).filter tupB, ⟨rfl, rfl⟩, ?_, ?_⟩
      · rintro i d acc M' hd2 ⟨rfl, rfl⟩
        have et : rest.take (i + 1) = rest.take i ++ [d] := by rw [List.take_add_one, hd2]; rfl
        walk_at "tg"
        rcases hlook d (List.mem_of_getElem? hd2) with ⟨x, rfl⟩ | ⟨x, rfl⟩ | ⟨x, rfl⟩ | ⟨x, rfl⟩
        all_goals
          walk_at "tg"
          refine ⟨rfl, ?_⟩
          rw [et, List.filter_append]
          first | rfl | exact (List.append_nil _).symm
      · rintro acc M' ⟨rfl, rfl⟩
        rw [List.take_length]
        exact q
    · walk_at "tg"
      exact ac_list (.inr (.inl rfl)) q⟩
end

/-! ### all parts, the deeper ones first -/
def prts : Nat → Ex → List Ex
  | 0, e => [e]
  | n + 1, e => (kids e).flatMap (prts n) ++ [e]
theorem kids_len {n : Nat} {e : Ex} (h : OkE n e) : (kids e).length ≤ 8 := by
  cases e with
  | fm hd ps =>
    cases n with
    | zero => exact h.elim
    | succ n =>
      obtain ⟨ns, hfr, okp⟩ := h
      have hl3 : ns.length ≤ 3 := frm_len _ hfr
      have hlen := okPs_len okp
      by_cases ht : hd = termL
      · obtain ⟨l, ks, rfl, _, h5, _⟩ := term_parts okp (frm_term _ hfr ht)
        have hk : kids (Ex.fm hd [.qt l, .sv ks]) = ks := by
          show [Ex.qt l, .sv ks].flatMap kidsP = _
          simp [kidsP]
        rw [hk]
        omega
      · have : ∀ {ns : List Nd} {ps : List Ex}, OkPs (OkE n) ns ps → (∀ nd ∈ ns, isSev nd = false) → (ps.flatMap kidsP).length ≤ ps.length := by
          intro ns ps
          induction ps generalizing ns with
          | nil => intro _ _; simp
          | cons p ps ih =>
            intro h hs
            cases ns with
            | nil => exact h.elim
            | cons nd ns =>
              have h1 := ih h.2 fun x hx => hs x (List.mem_cons_of_mem _ hx)
              have h2 := hs nd (by simp)
              rw [List.flatMap_cons, List.length_append, List.length_cons]
              have h3 : (kidsP p).length ≤ 1 := by
                cases p with
                | sv ks =>
                  cases nd with
                  | one => exact absurd h.1 (okE_sv n ks)
                  | name => exact h.1.elim
                  | text => exact h.1.elim
                  | sev => cases h2
                | _ => simp [kidsP]
              omega
        have h9 := this okp (frm_nosev _ hfr ht)
        show (ps.flatMap kidsP).length ≤ 8
        omega
  | _ => simp [kids]
theorem kids_ok {n : Nat} {e : Ex} (h : OkE (n + 1) e) : ∀ k ∈ kids e, OkE n k := by
  cases e with
  | fm hd ps =>
    obtain ⟨ns, hfr, okp⟩ := h
    have : ∀ {ns : List Nd} {ps : List Ex}, OkPs (OkE n) ns ps → ∀ k ∈ ps.flatMap kidsP, OkE n k := by
      intro ns ps
      induction ps generalizing ns with
      | nil => intro _ k hk; cases hk
      | cons p ps ih =>
        intro h k hk
        cases ns with
        | nil => exact h.elim
        | cons nd ns =>
          rw [List.flatMap_cons] at hk
          rcases List.mem_append.mp hk with hk | hk
          · cases p with
            | sv ks =>
              cases nd with
              | one => exact absurd h.1 (okE_sv n ks)
              | name => exact h.1.elim
              | text => exact h.1.elim
              | sev => exact h.1.2 k hk
            | nm w => cases hk
            | qt l => cases hk
            | int i =>
              cases nd <;> first | exact h.1.elim | skip
              rw [List.mem_singleton.mp hk]
              exact h.1
            | tx i =>
              cases nd <;> first | exact h.1.elim | skip
              rw [List.mem_singleton.mp hk]
              exact h.1
            | bl i =>
              cases nd <;> first | exact h.1.elim | skip
              rw [List.mem_singleton.mp hk]
              exact h.1
            | fm i j =>
              cases nd <;> first | exact h.1.elim | skip
              rw [List.mem_singleton.mp hk]
              exact h.1
          · exact ih h.2 k hk
    exact this okp
  | _ => intro k hk; cases hk
theorem kids_zero {e : Ex} (h : OkE 0 e) : kids e = [] := by
  cases e <;> first | rfl | exact h.elim
def pB : Nat → Nat
  | 0 => 1
  | n + 1 => 8 * pB n + 1
theorem prts_len : ∀ {n : Nat} {e : Ex}, OkE n e → (prts n e).length ≤ pB n
  | 0, e, _ => Nat.le_refl _
  | n + 1, e, h => by
    have hk := kids_len h
    have ho := kids_ok h
    have : ∀ l : List Ex, (∀ k ∈ l, OkE n k) → (l.flatMap (prts n)).length ≤ l.length * pB n := by
      intro l
      induction l with
      | nil => intro _; simp
      | cons a l ih =>
        intro hl
        have h1 := prts_len (hl a (by simp))
        have h2 := ih fun k hk => hl k (List.mem_cons_of_mem _ hk)
        rw [List.flatMap_cons, List.length_append, List.length_cons, Nat.succ_mul]
        omega
    have h1 := this (kids e) ho
    have h2 : (kids e).length * pB n ≤ 8 * pB n := Nat.mul_le_mul_right _ hk
    show ((kids e).flatMap (prts n) ++ [e]).length ≤ 8 * pB n + 1
    rw [List.length_append, List.length_singleton]
    omega
def W_prt (n : Nat) : Wt := fun ds M k => ∃ (e : Ex), ds = [e.d] ∧ M = [] ∧ OkE n e ∧ k (.lst ((prts n e).map Ex.d)) []
theorem flat_len {m : Nat} : ∀ l : List Ex, (∀ k ∈ l, OkE m k) → (l.flatMap (prts m)).length ≤ l.length * pB m
  | [], _ => by simp
  | a :: l, hl => by
    have h1 := prts_len (hl a (by simp))
    have h2 := flat_len l fun k hk => hl k (List.mem_cons_of_mem _ hk)
    rw [List.flatMap_cons, List.length_append, List.length_cons, Nat.succ_mul]
    omega
def W_prt' : Nat → Wt
  | 0 => fun _ _ _ => False
  | n + 1 => W_prt n
theorem pB_mono : ∀ n, n ≤ 5 → pB n ≤ 40000 := by
  intro n h
  have : n = 0 ∨ n = 1 ∨ n = 2 ∨ n = 3 ∨ n = 4 ∨ n = 5 := by omega
  rcases this with rfl | rfl | rfl | rfl | rfl | rfl <;> decide
section
variable {P : Program} {w : World} {K : PySem.W.Frag} {mg : Str → Option Value} {base : Heap}
theorem c__law_parts1 (T : Top K mg w) (n : Nat) (hn : n ≤ 5) (c__law_parts : Cal P w K mg base (1 + n) "_law_parts" (Spc K (W_prt' n)) []) : Cal P w K mg base (2 + n) "_law_parts" (Spc K (W_prt n)) [] := cal_of T.d__law_parts fun f fd F => by
  have c__law_below := c__law_below (P := P) (w := w) (base := base) T
  have hlev : 2 + n = (1 + n) + 1 := by omega
  rw [hlev]
  exact spc_ok F sc__law_parts (fun ds M k h => by obtain ⟨e, rfl, _⟩ := h; rfl) fun cdv A outer s H E hr => ⟨_, (pss_cons (ps_set (i := 1) sc__law_parts.nd rfl (Or.inl rfl) (pe_lst pa_nil))
      (pss_cons (ps_for PassesOwn.never rfl (seq_K (K := K) (pe_c c__law_below hr (by first | decide | omega) (by rfl) (pa_cons (pv 0) pa_nil))) (pg_name (i := 2) sc__law_parts.nd rfl (Or.inl rfl))
      (pss_one (ps_set (i := 1) sc__law_parts.nd rfl (Or.inl rfl) (pe_op (add_K (K := K)) (pv 1) (pe_c c__law_parts hr (by first | decide | omega) (by rfl) (pa_cons (pv 2) pa_nil))))))
      (pss_one (ps_ret (pe_op (add_K (K := K)) (pv 1) (pe_lst (pa_cons (pv 0) pa_nil))))))), fun ds M kk hw => by
    obtain ⟨e, rfl, rfl, ok, q⟩ := hw
    have hsz := sizeLine_eq
    have hB := pB_mono n hn
    refine as_start (δ' := [some e.d, none, none]) rfl ?_
    walk_at "tg"
    refine ⟨[], [], fun d M => d = .lst ((kids e).map Ex.d) ∧ M = [], rfl, ⟨n, e, rfl, rfl, ok, rfl, rfl⟩, ?_⟩
    rintro _ _ ⟨rfl, rfl⟩
    cases n with
    | zero =>
      have hk := kids_zero ok
      rw [hk]
      refine ⟨_, rfl, fun i δ' M' => M' = [] ∧ ∃ y, δ' = [some e.d, some (.lst []), y], ⟨rfl, _, rfl⟩, (fun i d δ' M' h => by cases h), ?_⟩
      rintro δ' M' ⟨rfl, y, rfl⟩
      walk_at "tg"
      refine au_lst (by rw [hsz]; exact (by decide : 0 + 1 ≤ 16777216)) ?_
      exact q
    | succ m =>
      have hko := kids_ok ok
      have hkl := kids_len ok
      refine ⟨_, rfl, fun i δ' M' => M' = [] ∧ ∃ y, δ' = [some e.d, some (.lst ((((kids e).take i).flatMap (prts m)).map Ex.d)), y], ⟨rfl, _, rfl⟩, ?_, ?_⟩
      · rintro i d δ' M' hd ⟨rfl, y, rfl⟩
        rw [List.getElem?_map] at hd
        obtain ⟨k, hk, rfl⟩ := Option.map_eq_some_iff.mp hd
        have hmk := List.mem_of_getElem? hk
        have et : (kids e).take (i + 1) = (kids e).take i ++ [k] := by rw [List.take_add_one, hk]; rfl
        have h1 := flat_len ((kids e).take i) fun x hx => hko x (List.mem_of_mem_take hx)
        have h2 := prts_len (hko k hmk)
        have h3 : ((kids e).take i).length ≤ 8 := by rw [List.length_take]; omega
        have h4 : ((kids e).take i).length * pB m ≤ 8 * pB m := Nat.mul_le_mul_right _ h3
        have h5 : pB (m + 1) = 8 * pB m + 1 := rfl
        walk_at "tg"
        refine ⟨[], [], fun d M => d = .lst ((prts m k).map Ex.d) ∧ M = [], rfl, ⟨k, rfl, rfl, hko k hmk, rfl, rfl⟩, ?_⟩
        rintro _ _ ⟨rfl, rfl⟩
        refine au_lst (by rw [List.length_map, List.length_map]; omega) ?_
        refine ⟨rfl, some k.d, ?_⟩
        rw [et, List.flatMap_append, List.map_append]
        show _ = [_, some (D.lst (_ ++ (([k] : List Ex).flatMap (prts m)).map Ex.d)), _]
        rw [List.flatMap_singleton]
        rfl
      · rintro δ' M' ⟨rfl, y, rfl⟩
        have h1 := flat_len (kids e) hko
        have h4 : (kids e).length * pB m ≤ 8 * pB m := Nat.mul_le_mul_right _ hkl
        have h5 : pB (m + 1) = 8 * pB m + 1 := rfl
        rw [List.length_map, List.take_length]
        walk_at "tg"
        refine au_lst (by rw [List.length_map, List.length_singleton]; omega) ?_
        have e9 : (prts (m + 1) e).map Ex.d = ((kids e).flatMap (prts m)).map Ex.d ++ [e.d] := by
          show ((kids e).flatMap (prts m) ++ [e]).map Ex.d = _
          rw [List.map_append]
          rfl
        rw [e9] at q
        exact q⟩
theorem c__law_parts (T : Top K mg w) : ∀ n : Nat, n ≤ 5 → Cal P w K mg base (2 + n) "_law_parts" (Spc K (W_prt n)) []
  | 0, h => c__law_parts1 T 0 h (cal_none T.d__law_parts fun _ _ _ h => h)
  | n + 1, h => c__law_parts1 T (n + 1) h (by
    have e : 1 + (n + 1) = 2 + n := by omega
    rw [e]
    exact c__law_parts T n (by omega))
end

/-! ### the law's table of forms -/
def lawF : List (List Nat × List Nat) := [([111, 119, 110], [65]), ([99, 104, 105, 108, 100], [70, 65]), ([98, 101, 102, 111, 114, 101], [65, 69]), ([104, 97, 115], [70]), ([99, 111, 117, 110, 116], [70]), ([115, 112, 101, 108, 108, 105, 110, 103], [70]), ([109, 101, 97, 110, 116], [70, 65]), ([115, 117, 109], [70, 65]), ([97, 108, 108], [70, 65]), ([97, 110, 121], [70, 65]), ([99, 111, 108, 108, 101, 99, 116], [70, 65]), ([106, 111, 105, 110], [70, 65, 84]), ([108, 97, 115, 116], [70, 65, 69]), ([110, 111, 116], [69]), ([110, 101, 103, 97, 116, 105, 118, 101], [69]), ([108, 101, 110, 103, 116, 104], [69]), ([115, 104, 111, 119, 110], [69]), ([112, 97, 114, 115, 101, 100], [69]), ([108, 97, 98, 101, 108], [69]), ([115, 105, 122, 101], [69]), ([110, 97, 109, 101, 100], [69]), ([97, 100, 100], [69, 69]), ([115, 117, 98, 116, 114, 97, 99, 116], [69, 69]), ([109, 117, 108, 116, 105, 112, 108, 121], [69, 69]), ([113, 117, 111, 116, 105, 101, 110, 116], [69, 69]), ([114, 101, 109, 97, 105, 110, 100, 101, 114], [69, 69]), ([108, 101, 115, 115], [69, 69]), ([115, 97, 109, 101], [69, 69]), ([97, 110, 100], [69, 69]), ([111, 114], [69, 69]), ([97, 112, 112, 101, 110, 100], [69, 69]), ([119, 105, 116, 104], [69, 69]), ([97, 114, 103, 117, 109, 101, 110, 116], [69, 69]), ([101, 108, 115, 101], [69, 69]), ([105, 102], [69, 69, 69])]
def lawS : List (Str × Str) := lawF.map fun p => (tx p.1, tx p.2)
def fmsM (a : Addr) : Addr × MO := (a, .dK (csD lawS))
def W_fms : Wt := fun ds M k => ds = [] ∧ M = [] ∧ ∀ a : Addr, k (.ref a) [fmsM a]
section
variable {P : Program} {w : World} {K : PySem.W.Frag} {mg : Str → Option Value} {base : Heap}
theorem c__law_forms (T : Top K mg w) : Cal P w K mg base 1 "_law_forms" (Spc K W_fms) [] := cal_of T.d__law_forms fun f fd F => by
  exact spc_ok F sc__law_forms (fun ds M k h => by obtain ⟨rfl, _⟩ := h; rfl) fun cdv A outer s H E hr => ⟨_, (pss_one (ps_ret (pe_dispC (by rfl) (fun z => by cases z)))), fun ds M kk hw => by
    obtain ⟨rfl, rfl, q⟩ := hw
    refine as_start (δ' := []) rfl ?_
    walk_at "tg"
    refine ae_dispE (l := lawS) (by decide +kernel) (by decide +kernel) (by decide +kernel) fun a => ?_
    exact q a⟩
end

/-! ### drawn expressions -/
def ltN (c : Nat) : Nat := if c = 69 then 0 else if c = 84 then 2 else 1
theorem lawF_any : ∀ p ∈ lawF, frm.any (fun q => q.1 == p.1 && q.2.map ndN == p.2.map ltN) = true := by decide
theorem lawF_frm {p : List Nat × List Nat} (h : p ∈ lawF) : ∃ ns, (p.1, ns) ∈ frm ∧ ns.map ndN = p.2.map ltN := by
  obtain ⟨q, hq, e⟩ := List.any_eq_true.mp (lawF_any p h)
  rw [Bool.and_eq_true] at e
  obtain ⟨e1, e2⟩ := e
  have e1' : q.1 = p.1 := eq_of_beq e1
  refine ⟨q.2, ?_, eq_of_beq e2⟩
  rw [← e1']
  exact hq
theorem lawF_len : ∀ p ∈ lawF, p.2.length ≤ 3 := by decide
theorem lawF_keys : (csD lawS).map (·.1) = (lawF.map fun p => tx p.1).map Sum.inr := by
  unfold csD lawS
  rw [List.map_map, List.map_map, List.map_map]
  rfl
theorem csD_val {z : Str} : ∀ l : List (Str × Str), valD (csD l) (Sum.inr z) = ((l.find? fun p => decide (p.1 = z)).map fun p => D.str p.2)
  | [] => rfl
  | p :: l => by
    have ih := csD_val (z := z) l
    unfold valD at ih ⊢
    show Option.map (fun x => x.snd) (List.find? _ ((Sum.inr p.1, D.str p.2) :: csD l)) = _
    rw [List.find?_cons, List.find?_cons]
    by_cases h : p.1 = z
    · rw [decide_eq_true (p := (Sum.inr p.1 : Key) = Sum.inr z) (by rw [h]), decide_eq_true h]
      rfl
    · rw [decide_eq_false (p := (Sum.inr p.1 : Key) = Sum.inr z) (fun e => h (Sum.inr.inj e)), decide_eq_false h]
      exact ih
theorem lawF_find : ∀ p ∈ lawF, (lawS.find? fun q => decide (q.1 = tx p.1)) = some (tx p.1, tx p.2) := by decide +kernel
theorem lawF_val {p : List Nat × List Nat} (h : p ∈ lawF) : valD (csD lawS) (Sum.inr (tx p.1)) = some (.str (tx p.2)) := by
  rw [csD_val, lawF_find p h]
  rfl
theorem okE_zero {e : Ex} (h : OkE 0 e) : ∀ n, OkE n e := fun n => by
  cases e with
  | int i => cases n <;> exact h
  | tx l => cases n <;> exact h
  | bl b => cases n <;> exact h
  | fm hd ps => exact h.elim
  | nm w => exact h.elim
  | qt l => exact h.elim
  | sv ks => exact h.elim
def W_dexp (n : Nat) : Wt := fun ds M k => ∃ (a : Addr) (p : Pool) (j : Nat), j ≤ n ∧ ds = [.ref a, .int (j : Nat)] ∧ M = [(a, .lst p.d)] ∧ p.Ok ∧ ∀ (e : Ex) (p' : Pool), p'.Ok → OkE n e → k e.d [(a, .lst p'.d)]
def W_dexp' : Nat → Wt
  | 0 => fun _ _ _ => False
  | n + 1 => W_dexp n
theorem tm_frm : (termL, [Nd.text, Nd.sev]) ∈ frm := .head _
theorem sg_E : Str.ofString "E" = tx [69] := by decide +kernel
theorem sg_T : Str.ofString "T" = tx [84] := by decide +kernel
theorem okPs_snoc {O : Ex → Prop} {nd : Nd} {p : Ex} (h : OkP O nd p) : ∀ {ns : List Nd} {ps : List Ex}, OkPs O ns ps → OkPs O (ns ++ [nd]) (ps ++ [p])
  | [], [], _ => ⟨h, trivial⟩
  | _ :: _, _ :: _, h2 => ⟨h2.1, okPs_snoc h h2.2⟩
  | [], _ :: _, h2 => h2.elim
  | _ :: _, [], h2 => h2.elim
theorem okPs_name {O : Ex → Prop} {nd : Nd} (h : ndN nd = 1) {w : List Nat} (hw : NmOk w) : OkP O nd (.nm w) := by
  cases nd <;> first | exact hw | cases h
section
variable {P : Program} {w : World} {K : PySem.W.Frag} {mg : Str → Option Value} {base : Heap}
theorem c__law_expression1 (T : Top K mg w) (n : Nat) (hn : n ≤ 5) (c__law_expression : Cal P w K mg base (5 + n) "_law_expression" (Spc K (W_dexp' n)) []) : Cal P w K mg base (6 + n) "_law_expression" (Spc K (W_dexp n)) [] := cal_of T.d__law_expression fun f fd F => by
  have c__law_take := c__law_take (P := P) (w := w) (base := base) T 2
  have c__law_plain := c__law_plain (P := P) (w := w) (base := base) T
  have c__law_text := c__law_text (P := P) (w := w) (base := base) T
  have c__law_name := c__law_name (P := P) (w := w) (base := base) T
  have c__law_forms := c__law_forms (P := P) (w := w) (base := base) T
  have hlev : 6 + n = (5 + n) + 1 := by omega
  rw [hlev]
  exact spc_ok F sc__law_expression (fun ds M k h => by obtain ⟨a, p, j, _, rfl, _⟩ := h; rfl) fun cdv A outer s H E hr => ⟨_, (pss_cons (ps_set (i := 2) sc__law_expression.nd rfl (Or.inl rfl) (pe_c c__law_take hr (by first | decide | omega) (by rfl) (pa_cons (pv 0) (pa_cons pe_int pa_nil))))
      (pss_cons (ps_if (pw_or (pt_cmpR op_lt (pv 1) pe_int (nomark _)) (pw_or1 (pt_cmpR op_eq (pv 2) pe_int (nomark _)))).pt
      (pss_one (ps_ret (pe_c c__law_plain hr (by first | decide | omega) (by rfl) (pa_cons (pv 0) pa_nil))))
      pss_nil)
      (pss_cons (ps_if (pt_cmpR op_eq (pv 2) pe_int (nomark _))
      (pss_cons (ps_set (i := 3) sc__law_expression.nd rfl (Or.inl rfl) (pe_c c__law_take hr (by first | decide | omega) (by rfl) (pa_cons (pv 0) (pa_cons pe_int pa_nil))))
      (pss_one (ps_ret (pe_tup (pa_cons pe_str (pa_cons (pe_c c__law_text hr (by first | decide | omega) (by rfl) (pa_cons (pv 0) pa_nil)) (pa_cons (pe_callTy (tup_K (K := K)) (by rfl) T.m_tuple (by decide +kernel) (pa_cons (pe_lc (own := [("k", 4)]) (g := gName 4) rfl sc__law_expression.nd (pi_range1 (by rfl) T.m_range (pa_cons (pv 3) pa_nil)) (blkOk_by (own := [("k", 4)]) (N := ["pool", "depth", "kind", "many", "k", "forms", "head", "found"]) (sc := defScope s__law_expression) (by decide +kernel)) (fun _ _ _ _ _ => (pg_name (i := 4) sc__law_expression.nd rfl (Or.inl rfl))) (fun _ _ _ _ _ => pts_nil) (fun _ _ _ _ _ => (pe_c c__law_expression hr (by first | decide | omega) (by rfl) (pa_cons (pv 0) (pa_cons (pe_op op_sub (pv 1) pe_int) pa_nil))))) pa_nil)) pa_nil)))))))
      pss_nil)
      (pss_cons (ps_set (i := 5) sc__law_expression.nd rfl (Or.inl rfl) (pe_c0 c__law_forms hr (by first | decide | omega) (by rfl)))
      (pss_cons (ps_set (i := 6) sc__law_expression.nd rfl (Or.inl rfl) (pe_ix (ix_K (K := K)) (pe_callB (sortedD_K rfl) (by rfl) T.m_sorted (by decide +kernel) (pa_cons (pv 5) pa_nil)) (pe_c c__law_take hr (by first | decide | omega) (by rfl) (pa_cons (pv 0) (pa_cons (pe_callB lenDk_K (by rfl) T.m_len (by decide +kernel) (pa_cons (pv 5) pa_nil)) pa_nil))) (fun _ _ => rfl)))
      (pss_cons (ps_set (i := 7) sc__law_expression.nd rfl (Or.inl rfl) (pe_lstM (pe_lst (pa_cons (pv 6) pa_nil))))
      (pss_cons (ps_for PassesOwn.never rfl (seq_K (K := K) (pe_dget (hu_of hr) (pv 5) (pv 6) (fun _ _ => rfl))) (pg_name (i := 4) sc__law_expression.nd rfl (Or.inl rfl))
      (pss_one (ps_if (pt_cmpR op_eq (pv 4) pe_str (nomark _))
      (pss_one (ps_expr (app_K (K := K) (pe_bm PySem.F.plainAttrs_list PySem.F.slot_list_append PySem.F.type_list_append mt_append (pv 7) (pa_cons (pe_c c__law_expression hr (by first | decide | omega) (by rfl) (pa_cons (pv 0) (pa_cons (pe_op op_sub (pv 1) pe_int) pa_nil))) pa_nil)))))
      (pss_one (ps_if (pt_cmpR op_eq (pv 4) pe_str (nomark _))
      (pss_one (ps_expr (app_K (K := K) (pe_bm PySem.F.plainAttrs_list PySem.F.slot_list_append PySem.F.type_list_append mt_append (pv 7) (pa_cons (pe_c c__law_text hr (by first | decide | omega) (by rfl) (pa_cons (pv 0) pa_nil)) pa_nil)))))
      (pss_one (ps_expr (app_K (K := K) (pe_bm PySem.F.plainAttrs_list PySem.F.slot_list_append PySem.F.type_list_append mt_append (pv 7) (pa_cons (pe_c c__law_name hr (by first | decide | omega) (by rfl) (pa_cons (pv 0) pa_nil)) pa_nil))))))))))
      (pss_one (ps_ret (pe_callTy (tup_K (K := K)) (by rfl) T.m_tuple (by decide +kernel) (pa_cons (pv 7) pa_nil))))))))))), fun ds M kk hw => by
    obtain ⟨a, p, dep, hdep, rfl, rfl, ok, q⟩ := hw
    have hsz := sizeLine_eq
    refine as_start (δ' := [some (.ref a), some (.int (dep : Nat)), none, none, none, none, none, none]) rfl ?_
    walk_at "tg"
    walk_at "take"
    rintro _ _ ⟨r, p1, ok1, r0, r1, rfl, rfl⟩
    refine as_seq ?_
    walk_at "tg"
    refine dcaseR (fun c => ?_) (fun c => ?_)
    · walk_at "tg"
      refine dcase (fun c2 => ?_) (fun c2 => ?_)
      · walk_at "tg"
        refine ⟨[_], [], fun d M => ∃ (e : Ex) (p' : Pool), p'.Ok ∧ OkE n e ∧ d = e.d ∧ M = [(a, .lst p'.d)], rfl, ⟨a, p1, rfl, rfl, ok1, fun e p' h1 h2 => ⟨e, p', h1, okE_zero h2 n, rfl, rfl⟩⟩, ?_⟩
        rintro _ _ ⟨e, p2, ok2, he, rfl, rfl⟩
        exact q e p2 ok2 he
      · obtain ⟨m, rfl⟩ : ∃ m, n = m + 1 := ⟨n - 1, by omega⟩
        have esub : ((dep : Nat) : Int) - 1 = ((dep - 1 : Nat) : Int) := by omega
        walk_at "tg"
        refine as_seq ?_
        walk_at "tg"
        refine dcase (fun c3 => ?_) (fun c3 => ?_)
        · walk_at "tg"
          walk_at "take"
          rintro _ _ ⟨r2, p2, ok2, s0, s1, rfl, rfl⟩
          walk_at "tg"
          refine ⟨[_], [], fun d M => ∃ (l : List Nat) (p' : Pool), p'.Ok ∧ TxOk l ∧ d = .str (Tg.tx l) ∧ M = [(a, .lst p'.d)], rfl, ⟨a, p2, rfl, rfl, ok2, fun l p' h1 h2 => ⟨l, p', h1, h2, rfl, rfl⟩⟩, ?_⟩
          rintro _ _ ⟨l, p3, ok3, hl, rfl, rfl⟩
          walk_at "tg"
          refine ae_lc (ownG_name (by simp)) ?_
          walk_at "tg"
          obtain ⟨mm, rfl⟩ : ∃ mm : Nat, r2 = (mm : Int) := ⟨r2.toNat, by omega⟩
          refine ⟨by omega, by omega, ?_⟩
          rw [Int.toNat_natCast]
          refine ⟨by rw [rng_len, hsz]; omega, fun i acc M' => ∃ (ks : List Ex) (p' : Pool), p'.Ok ∧ (∀ k ∈ ks, OkE m k) ∧ ks.length = i ∧ acc = ks.map Ex.d ∧ M' = [(a, .lst p'.d)], ⟨[], p3, ok3, by simp, rfl, rfl, rfl⟩, ?_, ?_⟩
          · rintro i d acc M' hd ⟨ks, p', ok', hks, rfl, rfl, rfl⟩
            walk_at "tg"
            rw [esub]
            refine ⟨[_], [], fun d M => ∃ (e : Ex) (p' : Pool), p'.Ok ∧ OkE m e ∧ d = e.d ∧ M = [(a, .lst p'.d)], rfl, ⟨a, p', dep - 1, by omega, rfl, rfl, ok', fun e p' h1 h2 => ⟨e, p', h1, h2, rfl, rfl⟩⟩, ?_⟩
            rintro _ _ ⟨e, p4, ok4, he, rfl, rfl⟩
            refine ⟨ks ++ [e], p4, ok4, fun k hk => ?_, by simp, by simp, rfl⟩
            rcases List.mem_append.mp hk with hk | hk
            · exact hks k hk
            · rw [List.mem_singleton.mp hk]; exact he
          · rintro acc M' ⟨ks, p', ok', hks, hlen, rfl, rfl⟩
            rw [rng_len] at hlen
            walk_at "tg"
            have e9 : (Ex.fm termL [.qt l, .sv ks]).d = .tup [.str (Str.ofString "term"), .str (tx l), .tup (ks.map Ex.d)] := by
              show D.tup [.str (tx termL), .str (tx l), .tup (Ex.ds ks)] = _
              rw [Ex.ds_map]
              rfl
            have := q (.fm termL [.qt l, .sv ks]) p' ok' ⟨_, tm_frm, hl, ⟨by omega, hks⟩, trivial⟩
            rw [e9] at this
            exact this
        · walk_at "tg"
          refine ⟨[], [_], fun d M => ∃ af : Addr, d = .ref af ∧ M = [fmsM af], rfl, ⟨rfl, rfl, fun af => ⟨af, rfl, rfl⟩⟩, ?_⟩
          rintro _ _ ⟨af, rfl, rfl⟩
          refine as_perm (M' := [(a, .lst p1.d), fmsM af]) (List.Perm.swap _ _ _) ?_
          walk_at "tg"
          refine ac_sortedD (M1 := [(a, .lst p1.d)]) (M2 := []) (kvs := csD lawS) rfl lawF_keys (by decide) fun ys hperm _ => ?_
          walk_at "tg"
          refine ac_lenDk (M1 := [(a, .lst p1.d)]) (M2 := []) (kvs := csD lawS) rfl ?_
          rw [show (csD lawS).length = 35 from by decide]
          walk_at "tg"
          walk_at "take"
          rintro _ _ ⟨r2, p2, ok2, s0, s1, rfl, rfl⟩
          have hyl : ys.length = 35 := by rw [hperm.length_eq]; decide
          obtain ⟨j, rfl⟩ : ∃ j : Nat, r2 = (j : Int) := ⟨r2.toNat, by omega⟩
          obtain ⟨hd, hy⟩ : ∃ hd, ys[j]? = some hd := ⟨ys[j]'(by omega), List.getElem?_eq_getElem _⟩
          obtain ⟨pf, hpf, rfl⟩ := List.mem_map.mp (hperm.mem_iff.mp (List.mem_of_getElem? hy))
          obtain ⟨ns, hfr, hns⟩ := lawF_frm hpf
          have hfl := lawF_len pf hpf
          have hnl : ns.length = pf.2.length := by
            have := congrArg List.length hns
            rw [List.length_map, List.length_map] at this
            exact this
          refine aix_L (d := .str (tx pf.1)) (atI_nat (by rw [List.getElem?_map, hy]; rfl)) ?_
          walk_at "tg"
          intro rd
          refine as_seq ?_
          walk_at "tg"
          refine ae_dgetM ?_
          walk_at "tg"
          refine ⟨af, csD lawS, [(a, .lst p2.d)], [_], .inr (tx pf.1), .str (tx pf.2), rfl, rfl, rfl, lawF_val hpf, ?_⟩
          refine ⟨_, rfl, fun i δ' M' => ∃ (ps : List Ex) (p' : Pool) (y : Option D), p'.Ok ∧ OkPs (OkE m) (ns.take i) ps ∧ δ' = [some (.ref a), some (.int (dep : Nat)), some (.int r), none, y, some (.ref af), some (.str (tx pf.1)), some (.ref rd)] ∧ M' = [(a, .lst p'.d), fmsM af, (rd, .lst (.str (tx pf.1) :: ps.map Ex.d))], ⟨[], p2, _, ok2, trivial, rfl, rfl⟩, ?_, ?_⟩
          · rintro i d δ' M' hd ⟨ps, p', y, ok', hps, rfl, rfl⟩
            unfold Tg.signs at hd
            rw [List.getElem?_map] at hd
            obtain ⟨c0, hc, rfl⟩ := Option.map_eq_some_iff.mp hd
            have hc : pf.2[i]? = some c0 := hc
            obtain ⟨nd, hnd⟩ : ∃ nd, ns[i]? = some nd := ⟨ns[i]'(by have := (List.getElem?_eq_some_iff.mp hc).1; omega), List.getElem?_eq_getElem _⟩
            have hk : ndN nd = ltN c0 := by
              have e1 : (ns.map ndN)[i]? = some (ndN nd) := by rw [List.getElem?_map, hnd]; rfl
              rw [hns, List.getElem?_map, hc] at e1
              exact (Option.some.inj e1).symm
            have et : ns.take (i + 1) = ns.take i ++ [nd] := by rw [List.take_add_one, hnd]; rfl
            have hpl := okPs_len hps
            have hpl2 : (ns.take i).length ≤ 3 := by rw [List.length_take]; omega
            have fin : ∀ (e : Ex) (p4 : Pool), p4.Ok → OkP (OkE m) nd e → ∃ (ps' : List Ex) (p' : Pool) (y : Option D), p'.Ok ∧ OkPs (OkE m) (ns.take (i + 1)) ps' ∧ [some (D.ref a), some (.int (dep : Nat)), some (.int r), none, some (.str ⟨#[c0]⟩), some (.ref af), some (.str (tx pf.1)), some (.ref rd)] = [some (.ref a), some (.int (dep : Nat)), some (.int r), none, y, some (.ref af), some (.str (tx pf.1)), some (.ref rd)] ∧
                [(a, MO.lst p4.d), fmsM af, (rd, .lst (.str (tx pf.1) :: ps.map Ex.d ++ [e.d]))] = [(a, .lst p'.d), fmsM af, (rd, .lst (.str (tx pf.1) :: ps'.map Ex.d))] := fun e p4 ok4 he =>
              ⟨ps ++ [e], p4, _, ok4, by rw [et]; exact okPs_snoc he hps, rfl, by simp⟩
            walk_at "tg"
            rw [sg_E]
            show (decide ((⟨#[c0]⟩ : Str) = tx [69]) = true → _) ∧ _
            refine dcase (fun z => ?_) (fun z => ?_)
            · have hc0 : c0 = 69 := by
                have := congrArg (fun x : Str => x.cps.toList) z
                simpa [tx] using this
              subst hc0
              have hnd1 : nd = .one := by
                cases nd <;> first | rfl | cases hk
              subst hnd1
              walk_at "tg"
              rw [esub]
              refine ⟨[_], [_, _], fun d M => ∃ (e : Ex) (p' : Pool), p'.Ok ∧ OkE m e ∧ d = e.d ∧ M = [(a, .lst p'.d)], rfl, ⟨a, p', dep - 1, by omega, rfl, rfl, ok', fun e p' h1 h2 => ⟨e, p', h1, h2, rfl, rfl⟩⟩, ?_⟩
              rintro _ _ ⟨e, p4, ok4, he, rfl, rfl⟩
              walk_at "tg"
              refine app2 (ds := .str (tx pf.1) :: ps.map Ex.d) (by rw [List.length_cons, List.length_map]; omega) ?_
              exact fin e p4 ok4 he
            · walk_at "tg"
              rw [sg_T]
              show (decide ((⟨#[c0]⟩ : Str) = tx [84]) = true → _) ∧ _
              have hne : c0 ≠ 69 := fun e => z (by rw [e]; rfl)
              refine dcase (fun z2 => ?_) (fun z2 => ?_)
              · have hc0 : c0 = 84 := by
                  have := congrArg (fun x : Str => x.cps.toList) z2
                  simpa [tx] using this
                subst hc0
                have hnd1 : nd = .text := by
                  cases nd <;> first | rfl | cases hk
                subst hnd1
                walk_at "tg"
                refine ⟨[_], [_, _], fun d M => ∃ (l : List Nat) (p' : Pool), p'.Ok ∧ TxOk l ∧ d = .str (Tg.tx l) ∧ M = [(a, .lst p'.d)], rfl, ⟨a, p', rfl, rfl, ok', fun l p' h1 h2 => ⟨l, p', h1, h2, rfl, rfl⟩⟩, ?_⟩
                rintro _ _ ⟨l, p4, ok4, hl, rfl, rfl⟩
                walk_at "tg"
                refine app2 (ds := .str (tx pf.1) :: ps.map Ex.d) (by rw [List.length_cons, List.length_map]; omega) ?_
                exact fin (.qt l) p4 ok4 hl
              · have hne2 : c0 ≠ 84 := fun e => z2 (by rw [e]; rfl)
                have hk1 : ndN nd = 1 := by
                  rw [hk]
                  unfold ltN
                  rw [if_neg hne, if_neg hne2]
                walk_at "tg"
                refine ⟨[_], [_, _], fun d M => ∃ (l : List Nat) (p' : Pool), p'.Ok ∧ NmOk l ∧ d = .str (Tg.tx l) ∧ M = [(a, .lst p'.d)], rfl, ⟨a, p', rfl, rfl, ok', fun l p' h1 h2 => ⟨l, p', h1, h2, rfl, rfl⟩⟩, ?_⟩
                rintro _ _ ⟨l, p4, ok4, hl, rfl, rfl⟩
                walk_at "tg"
                refine app2 (ds := .str (tx pf.1) :: ps.map Ex.d) (by rw [List.length_cons, List.length_map]; omega) ?_
                exact fin (.nm l) p4 ok4 (okPs_name hk1 hl)
          · rintro δ' M' ⟨ps, p', y, ok', hps, rfl, rfl⟩
            have esl : (Tg.signs (tx pf.2)).length = pf.2.length := by simp [Tg.signs, tx]
            rw [esl, ← hnl, List.take_length] at hps
            show AS K _ _ _ _
            refine as_lose (M' := [(a, .lst p'.d), (rd, MO.lst (D.str (tx pf.1) :: List.map Ex.d ps))]) (J := [fmsM af]) (List.Perm.cons _ (List.Perm.swap _ _ _)) ?_
            refine frz1 (s := 7) rfl ?_
            walk_at "tg"
            have e9 : (Ex.fm pf.1 ps).d = .tup (.str (tx pf.1) :: ps.map Ex.d) := by
              show D.tup (_ :: Ex.ds ps) = _
              rw [Ex.ds_map]
            have := q (.fm pf.1 ps) p' ok' ⟨ns, hfr, hps⟩
            rw [e9] at this
            exact this
    · walk_at "tg"
      refine ⟨[_], [], fun d M => ∃ (e : Ex) (p' : Pool), p'.Ok ∧ OkE n e ∧ d = e.d ∧ M = [(a, .lst p'.d)], rfl, ⟨a, p1, rfl, rfl, ok1, fun e p' h1 h2 => ⟨e, p', h1, okE_zero h2 n, rfl, rfl⟩⟩, ?_⟩
      rintro _ _ ⟨e, p2, ok2, he, rfl, rfl⟩
      exact q e p2 ok2 he⟩
end
section
variable {P : Program} {w : World} {K : PySem.W.Frag} {mg : Str → Option Value} {base : Heap}
theorem c__law_expression (T : Top K mg w) : ∀ n : Nat, n ≤ 5 → Cal P w K mg base (6 + n) "_law_expression" (Spc K (W_dexp n)) []
  | 0, h => c__law_expression1 T 0 h (cal_none T.d__law_expression fun _ _ _ h => h)
  | n + 1, h => c__law_expression1 T (n + 1) h (by
    have e : 5 + (n + 1) = 6 + n := by omega
    rw [e]
    exact c__law_expression T n (by omega))
end

/-! ### the tokens of an expression -/
theorem frm_law : ∀ p ∈ frm, p.1 ≠ termL → lawF.any (fun q => q.1 == p.1 && q.2.map ltN == p.2.map ndN) = true := by decide
theorem frm_lawF {p : List Nat × List Nd} (h : p ∈ frm) (hne : p.1 ≠ termL) : ∃ fl, (p.1, fl) ∈ lawF ∧ fl.map ltN = p.2.map ndN := by
  obtain ⟨q, hq, e⟩ := List.any_eq_true.mp (frm_law p h hne)
  rw [Bool.and_eq_true] at e
  obtain ⟨e1, e2⟩ := e
  have e1' : q.1 = p.1 := eq_of_beq e1
  refine ⟨q.2, ?_, eq_of_beq e2⟩
  rw [← e1']
  exact hq
theorem frm_three : ∀ p ∈ frm, tx p.1 ≠ Str.ofString "integer" ∧ tx p.1 ≠ Str.ofString "text" ∧ tx p.1 ≠ Str.ofString "boolean" := by decide +kernel
theorem law_letters : ∀ p ∈ lawF, ∀ c ∈ p.2, c = 65 ∨ c = 69 ∨ c = 70 ∨ c = 84 := by decide
def tB : Nat → Nat
  | 0 => 1
  | n + 1 => 4 + 5 * tB n
theorem tB_mono : ∀ n, n ≤ 5 → tB n ≤ 10000 := by
  intro n h
  have : n = 0 ∨ n = 1 ∨ n = 2 ∨ n = 3 ∨ n = 4 ∨ n = 5 := by omega
  rcases this with rfl | rfl | rfl | rfl | rfl | rfl <;> decide
theorem tB_pos : ∀ n, 1 ≤ tB n
  | 0 => Nat.le_refl _
  | n + 1 => by
    show 1 ≤ 4 + 5 * tB n
    omega
theorem tokL_app : ∀ a b : List Ex, Ex.tokL (a ++ b) = Ex.tokL a ++ Ex.tokL b
  | [], b => rfl
  | e :: a, b => by
    show e.toks ++ Ex.tokL (a ++ b) = e.toks ++ Ex.tokL a ++ Ex.tokL b
    rw [tokL_app a b, List.append_assoc]
theorem tokL_len {n : Nat} : ∀ {ps : List Ex}, (∀ p ∈ ps, p.toks.length ≤ n) → (Ex.tokL ps).length ≤ ps.length * n
  | [], _ => by simp [Ex.tokL]
  | p :: ps, h => by
    have h1 := h p (by simp)
    have h2 := tokL_len (ps := ps) fun q hq => h q (List.mem_cons_of_mem _ hq)
    show (p.toks ++ Ex.tokL ps).length ≤ _
    rw [List.length_append, List.length_cons, Nat.succ_mul]
    omega
theorem okPs_mem {O : Ex → Prop} : ∀ {ns : List Nd} {ps : List Ex} {i : Nat} {nd : Nd} {p : Ex}, OkPs O ns ps → ns[i]? = some nd → ps[i]? = some p → OkP O nd p
  | nd :: ns, p :: ps, 0, _, _, h, h1, h2 => by
    cases h1
    cases h2
    exact h.1
  | nd :: ns, p :: ps, i + 1, _, _, h, h1, h2 => okPs_mem h.2 (by simpa using h1) (by simpa using h2)
  | [], [], _, _, _, _, h1, _ => by simp at h1
  | [], _ :: _, _, _, _, h, _, _ => h.elim
  | _ :: _, [], _, _, _, h, _, _ => h.elim
theorem part_len {n : Nat} (O : Ex → Prop) (hO : ∀ e, O e → e.toks.length ≤ n) (h1 : 1 ≤ n) {nd : Nd} {p : Ex} (hs : isSev nd = false) (h : OkP O nd p) : p.toks.length ≤ n := by
  cases nd with
  | one => exact hO p h
  | name =>
    cases p with
    | nm w => exact h1
    | _ => exact h.elim
  | text =>
    cases p with
    | qt l => exact h1
    | _ => exact h.elim
  | sev => cases hs
theorem toks_len : ∀ {n : Nat} {e : Ex}, OkE n e → e.toks.length ≤ tB n
  | 0, e, h => by
    cases e with
    | int i => exact Nat.le_refl _
    | tx l => exact Nat.le_refl _
    | bl b => exact Nat.le_refl _
    | fm hd ps => exact h.elim
    | nm w => exact h.elim
    | qt l => exact h.elim
    | sv ks => exact h.elim
  | n + 1, e, h => by
    have hp := tB_pos n
    have hB : tB (n + 1) = 4 + 5 * tB n := rfl
    cases e with
    | int i => exact tB_pos _
    | tx l => exact tB_pos _
    | bl b => exact tB_pos _
    | nm w => exact h.elim
    | qt l => exact h.elim
    | sv ks => exact h.elim
    | fm hd ps =>
      obtain ⟨ns, hfr, okp⟩ := h
      have hl3 : ns.length ≤ 3 := frm_len _ hfr
      have hlen := okPs_len okp
      have e1 : (Ex.fm hd ps).toks.length = 3 + (Ex.tokL ps).length := by
        show (Tk.op :: .lt hd :: (Ex.tokL ps ++ [.cl])).length = _
        simp
        omega
      rw [e1]
      by_cases ht : hd = termL
      · obtain ⟨l, ks, rfl, _, h5, hk⟩ := term_parts okp (frm_term _ hfr ht)
        have h2 := tokL_len (n := tB n) (ps := ks) fun k hk2 => toks_len (hk k hk2)
        have h3 : ks.length * tB n ≤ 5 * tB n := Nat.mul_le_mul_right _ h5
        have e2 : (Ex.tokL [Ex.qt l, .sv ks]).length = 1 + (Ex.tokL ks).length := by
          show ([Tk.txt l] ++ (Ex.tokL ks ++ [])).length = _
          simp
          omega
        omega
      · have h2 := tokL_len (n := tB n) (ps := ps) fun p hp2 => by
          obtain ⟨i, hi⟩ := List.mem_iff_getElem?.mp hp2
          obtain ⟨nd, hnd⟩ : ∃ nd, ns[i]? = some nd := ⟨ns[i]'(by have := (List.getElem?_eq_some_iff.mp hi).1; omega), List.getElem?_eq_getElem _⟩
          exact part_len (OkE n) (fun e he => toks_len he) hp (frm_nosev _ hfr ht nd (List.mem_of_getElem? hnd)) (okPs_mem okp hnd hi)
        have h3 : ps.length * tB n ≤ 3 * tB n := Nat.mul_le_mul_right _ (by omega)
        omega
abbrev tkD (ts : List Tk) : List D := ts.map fun t => .str (tx (tkS t))
def W_tks (n : Nat) : Wt := fun ds M k => ∃ e : Ex, ds = [e.d] ∧ M = [] ∧ OkE n e ∧ k (.lst (tkD e.toks)) []
def W_tks' : Nat → Wt
  | 0 => fun _ _ _ => False
  | n + 1 => W_tks n
theorem log_small {i : Int} (h : -1000000 ≤ i ∧ i ≤ 1000000) : i.natAbs.log2 < 1920 := by
  have h1 : i.natAbs ≤ 1000000 := by omega
  have h2 : i.natAbs.log2 < 20 + 1 := by
    rcases Nat.eq_zero_or_pos i.natAbs with z | z
    · rw [z]
      decide
    · exact (Nat.log2_lt (by omega)).mpr (by omega)
  omega
theorem trueL_eq : Str.ofString "true" = tx trueL := by decide +kernel
theorem falseL_eq : Str.ofString "false" = tx falseL := by decide +kernel
theorem term_eq : Str.ofString "term" = tx termL := by decide +kernel
section
variable {P : Program} {w : World} {K : PySem.W.Frag} {mg : Str → Option Value} {base : Heap}
theorem c__law_tokens1 (T : Top K mg w) (n : Nat) (hn : n ≤ 5) (c__law_tokens : Cal P w K mg base (1 + n) "_law_tokens" (Spc K (W_tks' n)) []) : Cal P w K mg base (2 + n) "_law_tokens" (Spc K (W_tks n)) [] := cal_of T.d__law_tokens fun f fd F => by
  have c__law_quoted := c__law_quoted (P := P) (w := w) (base := base) T
  have c__law_forms := c__law_forms (P := P) (w := w) (base := base) T
  have hlev : 2 + n = (1 + n) + 1 := by omega
  rw [hlev]
  exact spc_ok F sc__law_tokens (fun ds M k h => by obtain ⟨e, rfl, _⟩ := h; rfl) fun cdv A outer s H E hr => ⟨_, (pss_cons (ps_if (pt_cmpR op_eq (pe_ix (ix_K (K := K)) (pv 0) pe_int (fun _ _ => rfl)) pe_str (nomark _))
      (pss_one (ps_ret (pe_lst (pa_cons (pe_callTy call_strU (by rfl) T.m_str (by decide +kernel) (pa_cons (pe_ix (ix_K (K := K)) (pv 0) pe_int (fun _ _ => rfl)) pa_nil)) pa_nil))))
      pss_nil)
      (pss_cons (ps_if (pt_cmpR op_eq (pe_ix (ix_K (K := K)) (pv 0) pe_int (fun _ _ => rfl)) pe_str (nomark _))
      (pss_one (ps_ret (pe_lst (pa_cons (pe_c c__law_quoted hr (by first | decide | omega) (by rfl) (pa_cons (pe_ix (ix_K (K := K)) (pv 0) pe_int (fun _ _ => rfl)) pa_nil)) pa_nil))))
      pss_nil)
      (pss_cons (ps_if (pt_cmpR op_eq (pe_ix (ix_K (K := K)) (pv 0) pe_int (fun _ _ => rfl)) pe_str (nomark _))
      (pss_one (ps_ret (pe_lst (pa_cons (pe_ifExp (tru_K (K := K) (pe_ix (ix_K (K := K)) (pv 0) pe_int (fun _ _ => rfl))) pe_str pe_str) pa_nil))))
      pss_nil)
      (pss_cons (ps_if (pt_cmpR op_eq (pe_ix (ix_K (K := K)) (pv 0) pe_int (fun _ _ => rfl)) pe_str (nomark _))
      (pss_cons (ps_set (i := 1) sc__law_tokens.nd rfl (Or.inl rfl) (pe_lstM (pe_lst (pa_cons pe_str (pa_cons pe_str (pa_cons (pe_c c__law_quoted hr (by first | decide | omega) (by rfl) (pa_cons (pe_ix (ix_K (K := K)) (pv 0) pe_int (fun _ _ => rfl)) pa_nil)) pa_nil))))))
      (pss_cons (ps_for PassesOwn.never rfl (seq_K (K := K) (pe_ix (ix_K (K := K)) (pv 0) pe_int (fun _ _ => rfl))) (pg_name (i := 2) sc__law_tokens.nd rfl (Or.inl rfl))
      (pss_one (ps_set (i := 1) sc__law_tokens.nd rfl (Or.inl rfl) (pe_op (add_K (K := K)) (pv 1) (pe_c c__law_tokens hr (by first | decide | omega) (by rfl) (pa_cons (pv 2) pa_nil))))))
      (pss_one (ps_ret (pe_op (add_K (K := K)) (pv 1) (pe_lst (pa_cons pe_str pa_nil)))))))
      pss_nil)
      (pss_cons (ps_set (i := 1) sc__law_tokens.nd rfl (Or.inl rfl) (pe_lstM (pe_lst (pa_cons pe_str (pa_cons (pe_ix (ix_K (K := K)) (pv 0) pe_int (fun _ _ => rfl)) pa_nil)))))
      (pss_cons (ps_set (i := 3) sc__law_tokens.nd rfl (Or.inl rfl) (pe_dget (hu_of hr) (pe_c0 c__law_forms hr (by first | decide | omega) (by rfl)) (pe_ix (ix_K (K := K)) (pv 0) pe_int (fun _ _ => rfl)) (fun _ _ => rfl)))
      (pss_cons (ps_for PassesOwn.never rfl (pi_range1 (by rfl) T.m_range (pa_cons (pe_callB (len_K (K := K)) (by rfl) T.m_len (by decide +kernel) (pa_cons (pv 3) pa_nil)) pa_nil)) (pg_name (i := 4) sc__law_tokens.nd rfl (Or.inl rfl))
      (pss_cons (ps_set (i := 2) sc__law_tokens.nd rfl (Or.inl rfl) (pe_ix (ix_K (K := K)) (pv 0) (pe_op (add_K (K := K)) (pv 4) pe_int) (fun _ _ => rfl)))
      (pss_one (ps_if (pt_cmpR op_eq (pe_ix (ix_K (K := K)) (pv 3) (pv 4) (fun _ _ => rfl)) pe_str (nomark _))
      (pss_one (ps_set (i := 1) sc__law_tokens.nd rfl (Or.inl rfl) (pe_op (add_K (K := K)) (pv 1) (pe_c c__law_tokens hr (by first | decide | omega) (by rfl) (pa_cons (pv 2) pa_nil)))))
      (pss_one (ps_expr (app_K (K := K) (pe_bm PySem.F.plainAttrs_list PySem.F.slot_list_append PySem.F.type_list_append mt_append (pv 1) (pa_cons (pe_ifExp (pt_cmpR op_eq (pe_ix (ix_K (K := K)) (pv 3) (pv 4) (fun _ _ => rfl)) pe_str (nomark _)) (pe_c c__law_quoted hr (by first | decide | omega) (by rfl) (pa_cons (pv 2) pa_nil)) (pv 2)) pa_nil)))))))))
      (pss_one (ps_ret (pe_op (add_K (K := K)) (pv 1) (pe_lst (pa_cons pe_str pa_nil)))))))))))), fun ds M kk hw => by
    obtain ⟨e, rfl, rfl, ok, q⟩ := hw
    have hsz := sizeLine_eq
    have hB := tB_mono n hn
    cases e with
    | int i =>
      have hi : -1000000 ≤ i ∧ i ≤ 1000000 := by cases n <;> exact ok
      refine as_start (δ' := [some (.tup [.str (Str.ofString "integer"), .int i]), none, none, none, none]) rfl ?_
      repeat (refine as_seq ?_; walk_at "tg")
      refine ac_strI (log_small hi) ?_
      walk_at "tg"
      exact q
    | tx l =>
      have hl : TxOk l := by cases n <;> exact ok
      refine as_start (δ' := [some (.tup [.str (Str.ofString "text"), .str (tx l)]), none, none, none, none]) rfl ?_
      repeat (refine as_seq ?_; walk_at "tg")
      refine ⟨[], [], fun d M => d = .str (tx (34 :: (escL l ++ [34]))) ∧ M = [], rfl, ⟨l, rfl, rfl, hl.1, rfl, rfl⟩, ?_⟩
      rintro _ _ ⟨rfl, rfl⟩
      walk_at "tg"
      exact q
    | bl b =>
      refine as_start (δ' := [some (.tup [.str (Str.ofString "boolean"), .bl b]), none, none, none, none]) rfl ?_
      repeat (refine as_seq ?_; walk_at "tg")
      cases b with
      | true =>
        refine bcaseT ?_
        walk_at "tg"
        exact q
      | false =>
        refine bcaseF ?_
        walk_at "tg"
        exact q
    | fm h ps =>
      cases n with
      | zero => exact ok.elim
      | succ n =>
        obtain ⟨ns, hfr, okp⟩ := ok
        obtain ⟨n1, n2, n3⟩ := frm_three _ hfr
        have hl3 : ns.length ≤ 3 := frm_len _ hfr
        have hlen := okPs_len okp
        have hB1 : tB (n + 1) = 4 + 5 * tB n := rfl
        have hp1 := tB_pos n
        have hd : (Ex.fm h ps).d = .tup (.str (tx h) :: ps.map Ex.d) := by
          show D.tup (_ :: Ex.ds ps) = _
          rw [Ex.ds_map]
        rw [show (Ex.fm h ps).toks = .op :: .lt h :: (Ex.tokL ps ++ [.cl]) from rfl] at q
        refine as_start (δ' := [some (.tup (.str (tx h) :: ps.map Ex.d)), none, none, none, none]) (by rw [hd]; rfl) ?_
        refine as_seq ?_
        walk_at "tg"
        refine aix_T at0' ?_
        walk_at "tg"
        refine dcase (fun z => absurd z n1) (fun _ => ?_)
        walk_at "tg"
        refine as_seq ?_
        walk_at "tg"
        refine aix_T at0' ?_
        walk_at "tg"
        refine dcase (fun z => absurd z n2) (fun _ => ?_)
        walk_at "tg"
        refine as_seq ?_
        walk_at "tg"
        refine aix_T at0' ?_
        walk_at "tg"
        refine dcase (fun z => absurd z n3) (fun _ => ?_)
        walk_at "tg"
        refine as_seq ?_
        walk_at "tg"
        refine aix_T at0' ?_
        walk_at "tg"
        refine dcase (fun z => ?_) (fun z => ?_)
        · have ht : h = termL := tx_inj (z.trans term_eq)
          subst ht
          obtain ⟨l, ks, rfl, hl, h5, hk⟩ := term_parts okp (frm_term _ hfr rfl)
          have hds : List.map Ex.d [Ex.qt l, Ex.sv ks] = [.str (tx l), .tup (ks.map Ex.d)] := by
            show [D.str (tx l), D.tup (Ex.ds ks)] = _
            rw [Ex.ds_map]
          rw [hds]
          walk_at "tg"
          refine ⟨[], [], fun d M => d = .str (tx (34 :: (escL l ++ [34]))) ∧ M = [], rfl, ⟨l, rfl, rfl, hl.1, rfl, rfl⟩, ?_⟩
          rintro _ _ ⟨rfl, rfl⟩
          walk_at "tg"
          intro rd
          refine as_seq ?_
          walk_at "tg"
          refine ⟨fun i δ' M' => ∃ (J : Mu) (p : Addr) (y : Option D), δ' = [some (.tup [.str (tx termL), .str (tx l), .tup (ks.map Ex.d)]), some (.ref p), y, none, none] ∧ M' = J ++ [(p, .lst (tkD (.op :: .lt termL :: .txt l :: Ex.tokL (ks.take i))))], ⟨[], rd, _, rfl, rfl⟩, ?_, ?_⟩
          · rintro i d δ' M' hd2 ⟨J, p, y, rfl, rfl⟩
            rw [List.getElem?_map] at hd2
            obtain ⟨k, hk2, rfl⟩ := Option.map_eq_some_iff.mp hd2
            have hmk := List.mem_of_getElem? hk2
            have et : ks.take (i + 1) = ks.take i ++ [k] := by rw [List.take_add_one, hk2]; rfl
            have b1 := toks_len (hk k hmk)
            have b2 := tokL_len (n := tB n) (ps := ks.take i) fun x hx => toks_len (hk x (List.mem_of_mem_take hx))
            have b3 : (ks.take i).length ≤ 5 := by rw [List.length_take]; omega
            have b4 : (ks.take i).length * tB n ≤ 5 * tB n := Nat.mul_le_mul_right _ b3
            walk_at "tg"
            refine ⟨[], _, fun d M => d = .lst (tkD k.toks) ∧ M = [], rfl, ⟨k, rfl, rfl, hk k hmk, rfl, rfl⟩, ?_⟩
            rintro _ _ ⟨rfl, rfl⟩
            refine au_lstN (M1 := J) (M2 := []) rfl (by simp only [tkD, List.length_map, List.length_cons]; omega) fun p' => ?_
            refine ⟨J ++ [(p, .lst (tkD (.op :: .lt termL :: .txt l :: Ex.tokL (ks.take i))))], p', some k.d, rfl, ?_⟩
            rw [et, tokL_app]
            simp [tkD, Ex.tokL]
          · rintro δ' M' ⟨J, p, y, rfl, rfl⟩
            rw [List.length_map, List.take_length]
            have b2 := tokL_len (n := tB n) (ps := ks) fun x hx => toks_len (hk x hx)
            have b4 : ks.length * tB n ≤ 5 * tB n := Nat.mul_le_mul_right _ h5
            show AS K _ _ _ _
            refine as_freeze (M1 := J) (M2 := []) (i := 1) rfl rfl ?_
            refine as_lose (M' := []) (J := J ++ []) (List.Perm.refl _) ?_
            walk_at "tg"
            refine au_lst (by simp only [tkD, List.length_map, List.length_cons, List.length_nil]; omega) ?_
            have e9 : tkD (.op :: .lt termL :: .txt l :: Ex.tokL ks) ++ [D.str (Str.ofString ")")] = tkD (.op :: .lt termL :: (Ex.tokL [.qt l, .sv ks] ++ [.cl])) := by
              rw [sg_cl]
              simp [tkD, Ex.tokL, Ex.toks, tkS]
            rw [e9]
            exact q
        · have hne : h ≠ termL := fun e => z (by rw [e, term_eq])
          obtain ⟨fl, hfl, hlt⟩ := frm_lawF hfr hne
          have hfll : fl.length = ns.length := by
            have := congrArg List.length hlt
            rw [List.length_map, List.length_map] at this
            exact this
          walk_at "tg"
          refine aix_T at0' ?_
          walk_at "tg"
          intro rd
          refine as_seq ?_
          walk_at "tg"
          refine ae_dgetM ?_
          walk_at "tg"
          refine ⟨[], [_], fun d M => ∃ af : Addr, d = .ref af ∧ M = [fmsM af], rfl, ⟨rfl, rfl, fun af => ⟨af, rfl, rfl⟩⟩, ?_⟩
          rintro _ _ ⟨af, rfl, rfl⟩
          walk_at "tg"
          refine aix_T at0' ?_
          refine ⟨af, csD lawS, [], [_], .inr (tx h), .str (tx fl), rfl, rfl, rfl, lawF_val hfl, ?_⟩
          refine as_lose (M' := [_]) (J := [fmsM af]) (List.Perm.swap _ _ _) ?_
          refine as_seq ?_
          walk_at "tg"
          refine ⟨by omega, by omega, fun i δ' M' => ∃ (J : Mu) (p : Addr) (y y' : Option D), δ' = [some (.tup (.str (tx h) :: ps.map Ex.d)), some (.ref p), y, some (.str (tx fl)), y'] ∧ M' = J ++ [(p, .lst (tkD (.op :: .lt h :: Ex.tokL (ps.take i))))], ⟨[], rd, _, _, rfl, rfl⟩, ?_, ?_⟩
          · rintro i d δ' M' hd2 ⟨J, p, y, y', rfl, rfl⟩
            obtain ⟨hi, rfl⟩ := rng_get hd2
            rw [Int.zero_add]
            have hi2 : i < fl.length := by simpa using hi
            obtain ⟨c, hc⟩ : ∃ c, fl[i]? = some c := ⟨fl[i], List.getElem?_eq_getElem hi2⟩
            obtain ⟨nd, hnd⟩ : ∃ nd, ns[i]? = some nd := ⟨ns[i]'(by omega), List.getElem?_eq_getElem _⟩
            obtain ⟨pe, hpe⟩ : ∃ pe, ps[i]? = some pe := ⟨ps[i]'(by omega), List.getElem?_eq_getElem _⟩
            have okk := okPs_mem okp hnd hpe
            have hk : ltN c = ndN nd := by
              have e1 : (fl.map ltN)[i]? = some (ltN c) := by rw [List.getElem?_map, hc]; rfl
              rw [hlt, List.getElem?_map, hnd] at e1
              exact (Option.some.inj e1).symm
            have hsv := frm_nosev _ hfr hne nd (List.mem_of_getElem? hnd)
            have et : ps.take (i + 1) = ps.take i ++ [pe] := by rw [List.take_add_one, hpe]; rfl
            have pl : ∀ (j : Nat) (x : Ex), ps[j]? = some x → x.toks.length ≤ tB n := fun j x hx => by
              obtain ⟨nd', hnd'⟩ : ∃ nd, ns[j]? = some nd := ⟨ns[j]'(by have := (List.getElem?_eq_some_iff.mp hx).1; omega), List.getElem?_eq_getElem _⟩
              exact part_len (OkE n) (fun e he => toks_len he) hp1 (frm_nosev _ hfr hne nd' (List.mem_of_getElem? hnd')) (okPs_mem okp hnd' hx)
            have b1 := pl i pe hpe
            have b2 := tokL_len (n := tB n) (ps := ps.take i) fun x hx => by
              obtain ⟨j, hj⟩ := List.mem_iff_getElem?.mp (List.mem_of_mem_take hx)
              exact pl j x hj
            have b3 : (ps.take i).length ≤ 3 := by rw [List.length_take]; omega
            have b4 : (ps.take i).length * tB n ≤ 3 * tB n := Nat.mul_le_mul_right _ b3
            walk_at "tg"
            rw [show ((i : Nat) : Int) + 1 = ((i + 1 : Nat) : Int) from by omega]
            refine aix_T (d := pe.d) (atI_nat (by rw [List.getElem?_cons_succ, List.getElem?_map, hpe]; rfl)) ?_
            show AS K _ _ _ _
            walk_at "tg"
            refine au_ixS (c := c) (by omega) (atI_nat hc) ?_
            walk_at "tg"
            rw [sg_E]
            have pls : ∀ {ts : List Tk}, ts = pe.toks → tkD (.op :: .lt h :: Ex.tokL (ps.take i)) ++ tkD ts = tkD (.op :: .lt h :: Ex.tokL (ps.take (i + 1))) := fun {ts} e => by
              rw [e, et, tokL_app]
              simp [tkD, Ex.tokL]
            refine dcase (fun z1 => ?_) (fun z1 => ?_)
            · have hc0 : c = 69 := by
                have := tx_inj (b := [69]) z1
                simpa using this
              subst hc0
              have hnd1 : nd = .one := by
                cases nd <;> first | rfl | cases hk
              subst hnd1
              walk_at "tg"
              refine ⟨[], _, fun d M => d = .lst (tkD pe.toks) ∧ M = [], rfl, ⟨pe, rfl, rfl, okk, rfl, rfl⟩, ?_⟩
              rintro _ _ ⟨rfl, rfl⟩
              refine au_lstN (M1 := J) (M2 := []) rfl (by simp only [tkD, List.length_map, List.length_cons]; omega) fun p' => ?_
              refine ⟨J ++ [(p, .lst (tkD (.op :: .lt h :: Ex.tokL (ps.take i))))], p', some pe.d, _, rfl, ?_⟩
              rw [pls rfl]
              simp
            · walk_at "tg"
              refine ⟨lstM_ref (N1 := J) (N2 := []) rfl, ?_⟩
              walk_at "tg"
              refine au_ixS (c := c) (by omega) (atI_nat hc) ?_
              walk_at "tg"
              rw [sg_T]
              have hne1 : c ≠ 69 := fun e => z1 (by rw [e])
              have fin : ∀ (t : Tk) (d : D), pe.toks = [t] → d = .str (tx (tkS t)) → ∃ (J' : Mu) (p' : Addr) (y y' : Option D), [some (D.tup (.str (tx h) :: ps.map Ex.d)), some (.ref p), some pe.d, some (.str (tx fl)), some (.int (i : Nat))] = [some (.tup (.str (tx h) :: ps.map Ex.d)), some (.ref p'), y, some (.str (tx fl)), y'] ∧
                  J ++ [(p, MO.lst (tkD (.op :: .lt h :: Ex.tokL (ps.take i)) ++ [d]))] = J' ++ [(p', .lst (tkD (.op :: .lt h :: Ex.tokL (ps.take (i + 1)))))] := fun t d e1 e2 => by
                refine ⟨J, p, _, _, rfl, ?_⟩
                have := pls (ts := [t]) e1.symm
                rw [← this, e2]
                rfl
              have hlz : (tkD (.op :: .lt h :: Ex.tokL (ps.take i))).length < sizeLine := by
                simp only [tkD, List.length_map, List.length_cons]
                omega
              refine dcase (fun z2 => ?_) (fun z2 => ?_)
              · have hc0 : c = 84 := by
                  have := tx_inj (b := [84]) z2
                  simpa using this
                subst hc0
                have hnd1 : nd = .text := by
                  cases nd <;> first | rfl | cases hk
                subst hnd1
                cases pe with
                | qt l =>
                  walk_at "tg"
                  refine ⟨[], _, fun d M => d = .str (tx (34 :: (escL l ++ [34]))) ∧ M = [], rfl, ⟨l, rfl, rfl, okk.1, rfl, rfl⟩, ?_⟩
                  rintro _ _ ⟨rfl, rfl⟩
                  walk_at "tg"
                  refine am_append (M1 := J) (M2 := []) rfl hlz ?_
                  exact fin (.txt l) _ rfl rfl
                | _ => exact okk.elim
              · have hne2 : c ≠ 84 := fun e => z2 (by rw [e])
                have hk1 : ndN nd = 1 := by
                  rw [← hk]
                  unfold ltN
                  rw [if_neg hne1, if_neg hne2]
                have hnd1 : nd = .name := by
                  cases nd <;> first | rfl | cases hk1
                subst hnd1
                cases pe with
                | nm w =>
                  walk_at "tg"
                  refine am_append (M1 := J) (M2 := []) rfl hlz ?_
                  exact fin (.lt w) _ rfl rfl
                | _ => exact okk.elim
          · rintro δ' M' ⟨J, p, y, y', rfl, rfl⟩
            have ep : ps.take (rng 0 ((fl.length : Nat) : Int).toNat).length = ps := by
              rw [rng_len, Int.toNat_natCast, hfll, ← hlen, List.take_length]
            have b2 := tokL_len (n := tB n) (ps := ps) fun x hx => by
              obtain ⟨j, hj⟩ := List.mem_iff_getElem?.mp hx
              obtain ⟨nd', hnd'⟩ : ∃ nd, ns[j]? = some nd := ⟨ns[j]'(by have := (List.getElem?_eq_some_iff.mp hj).1; omega), List.getElem?_eq_getElem _⟩
              exact part_len (OkE n) (fun e he => toks_len he) hp1 (frm_nosev _ hfr hne nd' (List.mem_of_getElem? hnd')) (okPs_mem okp hnd' hj)
            have b4 : ps.length * tB n ≤ 3 * tB n := Nat.mul_le_mul_right _ (by omega)
            rw [ep]
            show AS K _ _ _ _
            refine as_freeze (M1 := J) (M2 := []) (i := 1) rfl rfl ?_
            refine as_lose (M' := []) (J := J ++ []) (List.Perm.refl _) ?_
            walk_at "tg"
            refine au_lst (by simp only [tkD, List.length_map, List.length_cons, List.length_nil]; omega) ?_
            have e9 : tkD (.op :: .lt h :: Ex.tokL ps) ++ [D.str (Str.ofString ")")] = tkD (.op :: .lt h :: (Ex.tokL ps ++ [.cl])) := by
              rw [sg_cl]
              simp [tkD, tkS]
            rw [e9]
            exact q
    | nm w => cases n <;> exact ok.elim
    | qt l => cases n <;> exact ok.elim
    | sv ks => cases n <;> exact ok.elim⟩
end
section
variable {P : Program} {w : World} {K : PySem.W.Frag} {mg : Str → Option Value} {base : Heap}
theorem c__law_tokens (T : Top K mg w) : ∀ n : Nat, n ≤ 5 → Cal P w K mg base (2 + n) "_law_tokens" (Spc K (W_tks n)) []
  | 0, h => c__law_tokens1 T 0 h (cal_none T.d__law_tokens fun _ _ _ h => h)
  | n + 1, h => c__law_tokens1 T (n + 1) h (by
    have e : 1 + (n + 1) = 2 + n := by omega
    rw [e]
    exact c__law_tokens T n (by omega))
end

def FormTabN (K : PySem.W.Frag) (w : World) (a : Addr) : Prop := ∃ kvs, KTabV K w a kvs ∧ (∀ h ns, (h, ns) ∈ frm → ∃ b, kvs.lookup (tx h) = some (.ref b) ∧ ∀ G, Rep K G (.tup (ns.map fun n => .str n.s)) (.ref b)) ∧
  ∀ z : Str, (z = Str.ofString "integer" ∨ z = Str.ofString "text" ∨ z = Str.ofString "boolean") → kvs.lookup z = none
theorem top_formsN {w : World} {K : PySem.W.Frag} {mg : Str → Option Value} (T : Top K mg w) : ∃ a, mg "FORMS" = some (.ref a) ∧ FormTabN K w a := by
  obtain ⟨a, _, g, b0, b1, b2, b3, b4, b5, b6, b7, b8, b9, b10, b11, b12, b13, b14, b15, b16, b17, b18, b19, b20, b21, b22, b23, b24, b25, b26, b27, b28, b29, b30, b31, b32, b33, b34, b35, tab, r0, r1, r2, r3, r4, r5, r6, r7, r8, r9, r10, r11, r12, r13, r14, r15, r16, r17, r18, r19, r20, r21, r22, r23, r24, r25, r26, r27, r28, r29, r30, r31, r32, r33, r34, r35⟩ := T.g_FORMS
  refine ⟨a, g, _, tab, ?_, fun z hz => ?_⟩
  · intro h ns hm
    simp only [frm, List.mem_cons, Prod.mk.injEq, List.not_mem_nil, or_false] at hm
    rcases hm with ⟨rfl, rfl⟩ | ⟨rfl, rfl⟩ | ⟨rfl, rfl⟩ | ⟨rfl, rfl⟩ | ⟨rfl, rfl⟩ | ⟨rfl, rfl⟩ | ⟨rfl, rfl⟩ | ⟨rfl, rfl⟩ | ⟨rfl, rfl⟩ | ⟨rfl, rfl⟩ | ⟨rfl, rfl⟩ | ⟨rfl, rfl⟩ | ⟨rfl, rfl⟩ | ⟨rfl, rfl⟩ | ⟨rfl, rfl⟩ | ⟨rfl, rfl⟩ | ⟨rfl, rfl⟩ | ⟨rfl, rfl⟩ | ⟨rfl, rfl⟩ | ⟨rfl, rfl⟩ | ⟨rfl, rfl⟩ | ⟨rfl, rfl⟩ | ⟨rfl, rfl⟩ | ⟨rfl, rfl⟩ | ⟨rfl, rfl⟩ | ⟨rfl, rfl⟩ | ⟨rfl, rfl⟩ | ⟨rfl, rfl⟩ | ⟨rfl, rfl⟩ | ⟨rfl, rfl⟩ | ⟨rfl, rfl⟩ | ⟨rfl, rfl⟩ | ⟨rfl, rfl⟩ | ⟨rfl, rfl⟩ | ⟨rfl, rfl⟩ | ⟨rfl, rfl⟩
    · exact ⟨b0, rfl, r0⟩
    · exact ⟨b1, rfl, r1⟩
    · exact ⟨b2, rfl, r2⟩
    · exact ⟨b3, rfl, r3⟩
    · exact ⟨b4, rfl, r4⟩
    · exact ⟨b5, rfl, r5⟩
    · exact ⟨b6, rfl, r6⟩
    · exact ⟨b7, rfl, r7⟩
    · exact ⟨b8, rfl, r8⟩
    · exact ⟨b9, rfl, r9⟩
    · exact ⟨b10, rfl, r10⟩
    · exact ⟨b11, rfl, r11⟩
    · exact ⟨b12, rfl, r12⟩
    · exact ⟨b13, rfl, r13⟩
    · exact ⟨b14, rfl, r14⟩
    · exact ⟨b15, rfl, r15⟩
    · exact ⟨b16, rfl, r16⟩
    · exact ⟨b17, rfl, r17⟩
    · exact ⟨b18, rfl, r18⟩
    · exact ⟨b19, rfl, r19⟩
    · exact ⟨b20, rfl, r20⟩
    · exact ⟨b21, rfl, r21⟩
    · exact ⟨b22, rfl, r22⟩
    · exact ⟨b23, rfl, r23⟩
    · exact ⟨b24, rfl, r24⟩
    · exact ⟨b25, rfl, r25⟩
    · exact ⟨b26, rfl, r26⟩
    · exact ⟨b27, rfl, r27⟩
    · exact ⟨b28, rfl, r28⟩
    · exact ⟨b29, rfl, r29⟩
    · exact ⟨b30, rfl, r30⟩
    · exact ⟨b31, rfl, r31⟩
    · exact ⟨b32, rfl, r32⟩
    · exact ⟨b33, rfl, r33⟩
    · exact ⟨b34, rfl, r34⟩
    · exact ⟨b35, rfl, r35⟩
  · rcases hz with rfl | rfl | rfl
    · rfl
    · rfl
    · rfl

def W_ops : Wt := fun ds M k => ∃ (n : Nat) (e : Ex), ds = [e.d] ∧ M = [] ∧ OkE n e ∧ k (.tup ((kids e).map Ex.d)) []
theorem kidsP_one {n : Nat} {e : Ex} (h : OkE n e) : kidsP e = [e] := by
  cases e with
  | nm w => cases n <;> exact h.elim
  | qt l => cases n <;> exact h.elim
  | sv ks => cases n <;> exact h.elim
  | _ => rfl
theorem cut_tail (d : D) (rest : List D) : Tg.cutD (d :: rest) (some 1) none = rest := by
  unfold Tg.cutD
  rw [show (1 : Int) = ((1 : Nat) : Int) from rfl, HT.sIx_nat]
  have hn : HT.sIx (d :: rest).length (d :: rest).length none = (d :: rest).length := rfl
  rw [hn]
  simp
section
variable {P : Program} {w : World} {K : PySem.W.Frag} {mg : Str → Option Value} {base : Heap}
theorem c_operands (T : Top K mg w) : Cal P w K mg base 1 "operands" (Spc K W_ops) [] := cal_of T.d_operands fun f fd F => by
  obtain ⟨t_FORMS, g_FORMS, kvs, tab, look, no⟩ := top_formsN (w := w) T
  exact spc_ok F sc_operands (fun ds M k h => by obtain ⟨n, e, rfl, _⟩ := h; rfl) fun cdv A outer s H E hr => ⟨_, (pss_cons (ps_set (i := 1) sc_operands.nd rfl (Or.inl rfl) (pe_lstM (pe_lst pa_nil)))
      (pss_cons (ps_for PassesOwn.never rfl (zip_K (K := K) (RZ.pi_zipA (by rfl) T.m_zip (pa_cons (kget2_K (K := K) (w := w) (pe_kget2 (pe_glob (v := V.ref t_FORMS) (by rfl) g_FORMS rfl) (pe_ix (ix_K (K := K)) (pv 0) pe_int (fun _ _ => rfl)) (pe_tup pa_nil) ⟨rfl, rfl, rfl, rfl⟩)) (pa_cons (pe_slice (sl_K (K := K)) (pv 0) (po_some pe_int) po_none) pa_nil)))) (gtup_K (K := K) (n := 2) rfl (pgs_cons (pg_name (i := 2) sc_operands.nd rfl (Or.inl rfl)) (pgs_cons (pg_name (i := 3) sc_operands.nd rfl (Or.inl rfl)) pgs_nil)))
      (pss_one (ps_if (pt_cmpR op_eq (pv 2) pe_str (nomark _))
      (pss_one (ps_expr (app_K (K := K) (pe_bm PySem.F.plainAttrs_list PySem.F.slot_list_append PySem.F.type_list_append mt_append (pv 1) (pa_cons (pv 3) pa_nil)))))
      (pss_one (ps_if (pt_cmpR op_eq (pv 2) pe_str (nomark _))
      (pss_one (ps_expr (extU_K (K := K) (pe_bm PySem.F.plainAttrs_list PySem.F.slot_list_extend PySem.F.type_list_extend mt_extendU (pv 1) (pa_cons (pv 3) pa_nil)))))
      pss_nil)))))
      (pss_one (ps_ret (pe_callTy (tup_K (K := K)) (by rfl) T.m_tuple (by decide +kernel) (pa_cons (pv 1) pa_nil)))))), fun ds M kk hw => by
    obtain ⟨n, e, rfl, rfl, ok, q⟩ := hw
    have hsz := sizeLine_eq
    obtain ⟨hd, rest, ns, he, hlk, hst⟩ : ∃ (hd : Str) (rest : List D) (ns : List Nd), e.d = .tup (.str hd :: rest) ∧ ((kvs.lookup hd = none ∧ kids e = [] ∧ ns = []) ∨ ∃ h ps m, e = .fm h ps ∧ hd = tx h ∧ rest = ps.map Ex.d ∧ (h, ns) ∈ frm ∧ OkPs (OkE m) ns ps) ∧ True := by
      cases e with
      | int i => exact ⟨_, _, [], rfl, .inl ⟨no _ (.inl rfl), rfl, rfl⟩, trivial⟩
      | tx l => exact ⟨_, _, [], rfl, .inl ⟨no _ (.inr (.inl rfl)), rfl, rfl⟩, trivial⟩
      | bl b => exact ⟨_, _, [], rfl, .inl ⟨no _ (.inr (.inr rfl)), rfl, rfl⟩, trivial⟩
      | fm h ps =>
        cases n with
        | zero => exact ok.elim
        | succ n =>
          obtain ⟨ns, hfr, okp⟩ := ok
          refine ⟨_, _, ns, ?_, .inr ⟨h, ps, n, rfl, rfl, rfl, hfr, okp⟩, trivial⟩
          show D.tup (_ :: Ex.ds ps) = _
          rw [Ex.ds_map]
      | nm w => cases n <;> exact ok.elim
      | qt l => cases n <;> exact ok.elim
      | sv ks => cases n <;> exact ok.elim
    refine as_start (δ' := [some (.tup (.str hd :: rest)), none, none, none]) (by rw [he]; rfl) ?_
    refine as_seq ?_
    walk_at "tg"
    intro rd
    refine as_seq (as_for (ai_zipT ?_))
    walk_at "tg"
    refine ae_kget2 (ae_refC ⟨t_FORMS, kvs, rfl, tab, ?_⟩)
    walk_at "tg"
    refine aix_T at0' ⟨hd, rfl, ?_⟩
    walk_at "tg"
    have go : ∀ {kg : D → Prop}, kg (.tup (ns.map fun n => .str n.s)) → (∃ v dv, kvs.lookup hd = some v ∧ (∀ G, Rep K G dv v) ∧ kg dv) ∨ (kvs.lookup hd = none ∧ kg (.tup [])) := fun {kg} h => by
      rcases hlk with ⟨h1, _, rfl⟩ | ⟨h0, ps, m, _, rfl, _, hfr, _⟩
      · exact .inr ⟨h1, h⟩
      · obtain ⟨b, hb, hrep⟩ := look h0 ns hfr
        exact .inl ⟨_, _, hb, hrep, h⟩
    refine go ?_
    walk_at "tg"
    refine asl_tup ?_
    rw [cut_tail]
    walk_at "tg"
    obtain ⟨pk, m, hzp, okp, hkid⟩ : ∃ (pk : List Ex) (m : Nat), zipD (ns.map fun n => D.str n.s) rest = zipD (ns.map fun n => D.str n.s) (pk.map Ex.d) ∧ OkPs (OkE m) ns pk ∧ pk.flatMap kidsP = kids e := by
      rcases hlk with ⟨_, h2, rfl⟩ | ⟨h0, ps, m, rfl, rfl, rfl, hfr, okp⟩
      · exact ⟨[], 0, rfl, trivial, h2.symm⟩
      · exact ⟨ps, m, rfl, okp, rfl⟩
    have hk8 := kids_len ok
    have hpre : ∀ i, ((pk.take i).flatMap kidsP).length ≤ 8 := fun i => by
      have e1 : (pk.flatMap kidsP).length = ((pk.take i).flatMap kidsP).length + ((pk.drop i).flatMap kidsP).length := by
        rw [← List.length_append, ← List.flatMap_append, List.take_append_drop]
      rw [hkid] at e1
      omega
    have hlen := okPs_len okp
    refine ⟨_, _, rfl, fun i δ' M' => ∃ (y y' : Option D), δ' = [some (.tup (.str hd :: rest)), some (.ref rd), y, y'] ∧ M' = [(rd, .lst (((pk.take i).flatMap kidsP).map Ex.d))], ⟨_, _, rfl, rfl⟩, ?_, ?_⟩
    · rintro i d δ' M' hd2 ⟨y, y', rfl, rfl⟩
      rw [hzp] at hd2
      obtain ⟨x, z, hx, hz, rfl⟩ := zipD_get hd2
      rw [List.getElem?_map] at hx hz
      obtain ⟨nd, hnd, rfl⟩ := Option.map_eq_some_iff.mp hx
      obtain ⟨pe, hpe, rfl⟩ := Option.map_eq_some_iff.mp hz
      have okk := okPs_mem okp hnd hpe
      have et : pk.take (i + 1) = pk.take i ++ [pe] := by rw [List.take_add_one, hpe]; rfl
      have h8 := hpre (i + 1)
      rw [et, List.flatMap_append, List.flatMap_singleton, List.length_append] at h8
      have fin : ((pk.take (i + 1)).flatMap kidsP).map Ex.d = ((pk.take i).flatMap kidsP).map Ex.d ++ (kidsP pe).map Ex.d := by
        rw [et, List.flatMap_append, List.flatMap_singleton, List.map_append]
      walk_at "tg"
      cases nd with
      | one =>
        refine dcase (fun _ => ?_) (fun z => absurd (by decide +kernel) z)
        walk_at "tg"
        refine app0 (by rw [List.length_map]; omega) ?_
        refine ⟨_, _, rfl, ?_⟩
        rw [fin, kidsP_one okk]
        rfl
      | sev =>
        refine dcase (fun z => absurd z (by decide +kernel)) (fun _ => ?_)
        walk_at "tg"
        cases pe with
        | sv ks =>
          refine am_extU (M1 := []) (M2 := []) (es := ks.map Ex.d) rfl (by rw [List.length_map, List.length_map]; simp only [kidsP] at h8; omega) (.inr (by show D.tup (Ex.ds ks) = _; rw [Ex.ds_map])) ?_
          refine ⟨_, _, rfl, ?_⟩
          rw [fin]
          rfl
        | _ => exact okk.elim
      | text =>
        refine dcase (fun z => absurd z (by decide +kernel)) (fun _ => ?_)
        walk_at "tg"
        cases pe with
        | qt l =>
          refine ⟨_, _, rfl, ?_⟩
          rw [fin]
          exact congrArg (fun z => [(rd, MO.lst z)]) (List.append_nil _).symm
        | _ => exact okk.elim
      | name =>
        refine dcase (fun z => absurd z (by decide +kernel)) (fun _ => ?_)
        walk_at "tg"
        cases pe with
        | nm w =>
          refine ⟨_, _, rfl, ?_⟩
          rw [fin]
          exact congrArg (fun z => [(rd, MO.lst z)]) (List.append_nil _).symm
        | _ => exact okk.elim
    · rintro δ' M' ⟨y, y', rfl, rfl⟩
      have el : (zipD (ns.map fun n => D.str n.s) rest).length = pk.length := by
        rw [hzp, zipD_len, List.length_map, List.length_map, hlen]
        omega
      rw [el, List.take_length, hkid]
      show AS K _ _ _ _
      refine frz0 (s := 1) rfl ?_
      walk_at "tg"
      exact q⟩
end

section
variable {P : Program} {w : World} {K : PySem.W.Frag} {mg : Str → Option Value} {base : Heap}
theorem c_parts1 (T : Top K mg w) (n : Nat) (hn : n ≤ 5) (c_parts : Cal P w K mg base (1 + n) "parts" (Spc K (W_prt' n)) []) : Cal P w K mg base (2 + n) "parts" (Spc K (W_prt n)) [] := cal_of T.d_parts fun f fd F => by
  have c_operands := c_operands (P := P) (w := w) (base := base) T
  have hlev : 2 + n = (1 + n) + 1 := by omega
  rw [hlev]
  exact spc_ok F sc_parts (fun ds M k h => by obtain ⟨e, rfl, _⟩ := h; rfl) fun cdv A outer s H E hr => ⟨_, (pss_cons (ps_set (i := 1) sc_parts.nd rfl (Or.inl rfl) (pe_lstM (pe_lst pa_nil)))
      (pss_cons (ps_for PassesOwn.never rfl (seq_K (K := K) (pe_c c_operands hr (by first | decide | omega) (by rfl) (pa_cons (pv 0) pa_nil))) (pg_name (i := 2) sc_parts.nd rfl (Or.inl rfl))
      (pss_one (ps_expr (ext_K (K := K) (pe_bm PySem.F.plainAttrs_list PySem.F.slot_list_extend PySem.F.type_list_extend mt_extend (pv 1) (pa_cons (pe_c c_parts hr (by first | decide | omega) (by rfl) (pa_cons (pv 2) pa_nil)) pa_nil))))))
      (pss_cons (ps_expr (app_K (K := K) (pe_bm PySem.F.plainAttrs_list PySem.F.slot_list_append PySem.F.type_list_append mt_append (pv 1) (pa_cons (pv 0) pa_nil))))
      (pss_one (ps_ret (pv 1)))))), fun ds M kk hw => by
    obtain ⟨e, rfl, rfl, ok, q⟩ := hw
    have hsz := sizeLine_eq
    have hB := pB_mono n hn
    refine as_start (δ' := [some e.d, none, none]) rfl ?_
    refine as_seq ?_
    walk_at "tg"
    intro rd
    refine as_seq ?_
    walk_at "tg"
    refine ⟨[], _, fun d M => d = .tup ((kids e).map Ex.d) ∧ M = [], rfl, ⟨n, e, rfl, rfl, ok, rfl, rfl⟩, ?_⟩
    rintro _ _ ⟨rfl, rfl⟩
    cases n with
    | zero =>
      have hk := kids_zero ok
      rw [hk]
      refine ⟨_, rfl, fun i δ' M' => M' = [(rd, .lst [])] ∧ ∃ y, δ' = [some e.d, some (.ref rd), y], ⟨rfl, _, rfl⟩, (fun i d δ' M' h => by cases h), ?_⟩
      rintro δ' M' ⟨rfl, y, rfl⟩
      refine as_seq ?_
      walk_at "tg"
      refine app0 (by rw [hsz]; exact (by decide : 0 < 16777216)) ?_
      show AS K _ _ _ _
      refine frz0 (s := 1) rfl ?_
      walk_at "tg"
      exact q
    | succ m =>
      have hko := kids_ok ok
      have hkl := kids_len ok
      refine ⟨_, rfl, fun i δ' M' => M' = [(rd, .lst ((((kids e).take i).flatMap (prts m)).map Ex.d))] ∧ ∃ y, δ' = [some e.d, some (.ref rd), y], ⟨rfl, _, rfl⟩, ?_, ?_⟩
      · rintro i d δ' M' hd ⟨rfl, y, rfl⟩
        rw [List.getElem?_map] at hd
        obtain ⟨k, hk, rfl⟩ := Option.map_eq_some_iff.mp hd
        have hmk := List.mem_of_getElem? hk
        have et : (kids e).take (i + 1) = (kids e).take i ++ [k] := by rw [List.take_add_one, hk]; rfl
        have h1 := flat_len ((kids e).take i) fun x hx => hko x (List.mem_of_mem_take hx)
        have h2 := prts_len (hko k hmk)
        have h3 : ((kids e).take i).length ≤ 8 := by rw [List.length_take]; omega
        have h4 : ((kids e).take i).length * pB m ≤ 8 * pB m := Nat.mul_le_mul_right _ h3
        have h5 : pB (m + 1) = 8 * pB m + 1 := rfl
        walk_at "tg"
        refine ⟨[], _, fun d M => d = .lst ((prts m k).map Ex.d) ∧ M = [], rfl, ⟨k, rfl, rfl, hko k hmk, rfl, rfl⟩, ?_⟩
        rintro _ _ ⟨rfl, rfl⟩
        walk_at "tg"
        refine am_extend (M1 := []) (M2 := []) rfl (by rw [List.length_map, List.length_map]; omega) ?_
        refine ⟨?_, some k.d, rfl⟩
        rw [et, List.flatMap_append, List.map_append, List.flatMap_singleton]
        rfl
      · rintro δ' M' ⟨rfl, y, rfl⟩
        have h1 := flat_len (kids e) hko
        have h4 : (kids e).length * pB m ≤ 8 * pB m := Nat.mul_le_mul_right _ hkl
        have h5 : pB (m + 1) = 8 * pB m + 1 := rfl
        rw [List.length_map, List.take_length]
        refine as_seq ?_
        walk_at "tg"
        refine app0 (by rw [List.length_map]; omega) ?_
        show AS K _ _ _ _
        refine frz0 (s := 1) rfl ?_
        walk_at "tg"
        have e9 : (prts (m + 1) e).map Ex.d = ((kids e).flatMap (prts m)).map Ex.d ++ [e.d] := by
          show ((kids e).flatMap (prts m) ++ [e]).map Ex.d = _
          rw [List.map_append]
          rfl
        rw [e9] at q
        exact q⟩
theorem c_parts (T : Top K mg w) : ∀ n : Nat, n ≤ 5 → Cal P w K mg base (2 + n) "parts" (Spc K (W_prt n)) []
  | 0, h => c_parts1 T 0 h (cal_none T.d_parts fun _ _ _ h => h)
  | n + 1, h => c_parts1 T (n + 1) h (by
    have e : 1 + (n + 1) = 2 + n := by omega
    rw [e]
    exact c_parts T n (by omega))
end

/-! ### written expressions -/
mutual
def wP : Ex → List (List Nat)
  | .int i => [shI i]
  | .tx l => [34 :: (escL l ++ [34])]
  | .bl b => [boolL b]
  | .fm h ps => [40 :: (joinL [32] (h :: wPs ps) ++ [41])]
  | .nm w => [w]
  | .qt l => [34 :: (escL l ++ [34])]
  | .sv ks => wPs ks
def wPs : List Ex → List (List Nat)
  | [] => []
  | e :: r => wP e ++ wPs r
end
def wS (e : Ex) : List Nat := (wP e).headD []
theorem wP_one {n : Nat} {e : Ex} (h : OkE n e) : wP e = [wS e] := by
  cases e with
  | nm w => cases n <;> exact h.elim
  | qt l => cases n <;> exact h.elim
  | sv ks => cases n <;> exact h.elim
  | _ => rfl
theorem wPs_app : ∀ a b : List Ex, wPs (a ++ b) = wPs a ++ wPs b
  | [], b => rfl
  | e :: a, b => by
    show wP e ++ wPs (a ++ b) = wP e ++ wPs a ++ wPs b
    rw [wPs_app a b, List.append_assoc]
theorem wPs_ones {n : Nat} : ∀ {ks : List Ex}, (∀ k ∈ ks, OkE n k) → wPs ks = ks.map wS
  | [], _ => rfl
  | k :: ks, h => by
    show wP k ++ wPs ks = _
    rw [wP_one (h k (by simp)), wPs_ones fun x hx => h x (List.mem_cons_of_mem _ hx)]
    rfl
def sB : Nat → Nat
  | 0 => 200
  | n + 1 => 200 + 6 * (sB n + 1)
theorem sB_mono : ∀ n, n ≤ 5 → sB n ≤ 2000000 := by
  intro n h
  have : n = 0 ∨ n = 1 ∨ n = 2 ∨ n = 3 ∨ n = 4 ∨ n = 5 := by omega
  rcases this with rfl | rfl | rfl | rfl | rfl | rfl <;> decide
theorem sB_big : ∀ n, 200 ≤ sB n
  | 0 => Nat.le_refl _
  | n + 1 => by
    show 200 ≤ 200 + 6 * (sB n + 1)
    omega
theorem frm_twelve : ∀ p ∈ frm, p.1.length ≤ 12 := by decide
theorem joinL_len (a : List Nat) : ∀ ls : List (List Nat), (joinL a ls).length ≤ (ls.map (·.length)).sum + ls.length * a.length
  | [] => by simp [joinL]
  | [l] => by
    simp [joinL]
  | l :: m :: r => by
    have ih := joinL_len a (m :: r)
    have e : joinL a (l :: m :: r) = l ++ (a ++ joinL a (m :: r)) := by simp [joinL]
    rw [e, List.length_append, List.length_append, List.map_cons, List.sum_cons, List.length_cons, Nat.succ_mul]
    omega
theorem sum_le {b : Nat} : ∀ {ls : List (List Nat)}, (∀ l ∈ ls, l.length ≤ b) → (ls.map (·.length)).sum ≤ ls.length * b
  | [], _ => by simp
  | l :: ls, h => by
    have h1 := h l (by simp)
    have h2 := sum_le (ls := ls) fun x hx => h x (List.mem_cons_of_mem _ hx)
    rw [List.map_cons, List.sum_cons, List.length_cons, Nat.succ_mul]
    omega
theorem shI_len {i : Int} (h : -1000000 ≤ i ∧ i ≤ 1000000) : (shI i).length ≤ 122 := tkS_len (t := .num i) h fun w e => by cases e
theorem quo_len {l : List Nat} (h : TxOk l) : (34 :: (escL l ++ [34])).length ≤ 122 := tkS_len (t := .txt l) h fun w e => by cases e
theorem wPs_mem {x : List Nat} : ∀ {ps : List Ex}, x ∈ wPs ps → ∃ p ∈ ps, x ∈ wP p
  | [], h => by cases h
  | p :: ps, h => by
    rcases List.mem_append.mp (show x ∈ wP p ++ wPs ps from h) with h | h
    · exact ⟨p, by simp, h⟩
    · obtain ⟨q, hq, e⟩ := wPs_mem h
      exact ⟨q, List.mem_cons_of_mem _ hq, e⟩
/-- the pieces of a form's parts are few -/
theorem wPs_few {n : Nat} {ns : List Nd} {ps : List Ex} {h : List Nat} (hfr : (h, ns) ∈ frm) (ok : OkPs (OkE n) ns ps) : (wPs ps).length ≤ 6 := by
  have hl3 : ns.length ≤ 3 := frm_len _ hfr
  have hlen := okPs_len ok
  by_cases ht : h = termL
  · obtain ⟨l, ks, rfl, _, h5, hk⟩ := term_parts ok (frm_term _ hfr ht)
    show ([34 :: (escL l ++ [34])] ++ (wPs ks ++ [])).length ≤ 6
    rw [wPs_ones hk]
    simp
    omega
  · have : ∀ {ns : List Nd} {ps : List Ex}, OkPs (OkE n) ns ps → (∀ nd ∈ ns, isSev nd = false) → (wPs ps).length ≤ ps.length := by
      intro ns ps
      induction ps generalizing ns with
      | nil => intro _ _; simp [wPs]
      | cons p ps ih =>
        intro h hs
        cases ns with
        | nil => exact h.elim
        | cons nd ns =>
          have h1 := ih h.2 fun x hx => hs x (List.mem_cons_of_mem _ hx)
          have h2 := hs nd (by simp)
          show (wP p ++ wPs ps).length ≤ _
          rw [List.length_append, List.length_cons]
          have h3 : (wP p).length ≤ 1 := by
            cases p with
            | sv ks =>
              cases nd with
              | one => exact absurd h.1 (okE_sv n ks)
              | name => exact h.1.elim
              | text => exact h.1.elim
              | sev => cases h2
            | _ => exact Nat.le_refl _
          omega
    have := this ok (frm_nosev _ hfr ht)
    omega
theorem okPs_of {O : Ex → Prop} : ∀ {ns : List Nd} {ps : List Ex} {p : Ex}, OkPs O ns ps → p ∈ ps → ∃ nd ∈ ns, OkP O nd p
  | nd :: ns, q :: ps, p, h, hp => by
    rcases List.mem_cons.mp hp with rfl | hp
    · exact ⟨nd, by simp, h.1⟩
    · obtain ⟨x, hx, e⟩ := okPs_of h.2 hp
      exact ⟨x, List.mem_cons_of_mem _ hx, e⟩
  | [], [], _, _, hp => by cases hp
  | [], _ :: _, _, h, _ => h.elim
  | _ :: _, [], _, h, _ => h.elim
theorem wS_len : ∀ {n : Nat} {e : Ex}, OkE n e → (wS e).length ≤ sB n
  | 0, e, h => by
    cases e with
    | int i => exact Nat.le_trans (shI_len h) (by decide)
    | tx l => exact Nat.le_trans (quo_len h) (by decide)
    | bl b => cases b <;> decide
    | fm hd ps => exact h.elim
    | nm w => exact h.elim
    | qt l => exact h.elim
    | sv ks => exact h.elim
  | n + 1, e, h => by
    have hb := sB_big n
    have hb1 := sB_big (n + 1)
    cases e with
    | int i => exact Nat.le_trans (shI_len h) (by omega)
    | tx l => exact Nat.le_trans (quo_len h) (by omega)
    | bl b => exact Nat.le_trans (show (boolL b).length ≤ 5 by cases b <;> decide) (by omega)
    | nm w => exact h.elim
    | qt l => exact h.elim
    | sv ks => exact h.elim
    | fm hd ps =>
      obtain ⟨ns, hfr, okp⟩ := h
      have hB : sB (n + 1) = 200 + 6 * (sB n + 1) := rfl
      have h6 := wPs_few hfr okp
      have h12 : hd.length ≤ 12 := frm_twelve _ hfr
      have hm : ∀ x ∈ wPs ps, x.length ≤ sB n := fun x hx => by
        obtain ⟨p, hp, hx⟩ := wPs_mem hx
        obtain ⟨nd, _, ok⟩ := okPs_of okp hp
        cases nd with
        | one =>
          rw [wP_one ok] at hx
          rw [List.mem_singleton.mp hx]
          exact wS_len ok
        | name =>
          cases p with
          | nm w =>
            rw [List.mem_singleton.mp hx]
            have := ok.2.1
            omega
          | _ => exact ok.elim
        | text =>
          cases p with
          | qt l =>
            rw [List.mem_singleton.mp hx]
            have := quo_len ok
            omega
          | _ => exact ok.elim
        | sev =>
          cases p with
          | sv ks =>
            rw [show wP (.sv ks) = wPs ks from rfl, wPs_ones ok.2] at hx
            obtain ⟨k, hk, rfl⟩ := List.mem_map.mp hx
            exact wS_len (ok.2 k hk)
          | _ => exact ok.elim
      have h1 := joinL_len [32] (hd :: wPs ps)
      have h2 := sum_le hm
      have h3 : (wPs ps).length * sB n ≤ 6 * sB n := Nat.mul_le_mul_right _ h6
      show (40 :: (joinL [32] (hd :: wPs ps) ++ [41])).length ≤ _
      rw [List.map_cons, List.sum_cons, List.length_cons, List.length_singleton] at h1
      rw [List.length_cons, List.length_append, List.length_singleton]
      omega
theorem wPs_mems {n : Nat} {ns : List Nd} {ps : List Ex} (okp : OkPs (OkE n) ns ps) : ∀ x ∈ wPs ps, x.length ≤ sB n := fun x hx => by
  have hb := sB_big n
  obtain ⟨p, hp, hx⟩ := wPs_mem hx
  obtain ⟨nd, _, ok⟩ := okPs_of okp hp
  cases nd with
  | one =>
    rw [wP_one ok] at hx
    rw [List.mem_singleton.mp hx]
    exact wS_len ok
  | name =>
    cases p with
    | nm w =>
      rw [List.mem_singleton.mp hx]
      have := ok.2.1
      omega
    | _ => exact ok.elim
  | text =>
    cases p with
    | qt l =>
      rw [List.mem_singleton.mp hx]
      have := quo_len ok
      omega
    | _ => exact ok.elim
  | sev =>
    cases p with
    | sv ks =>
      rw [show wP (.sv ks) = wPs ks from rfl, wPs_ones ok.2] at hx
      obtain ⟨k, hk, rfl⟩ := List.mem_map.mp hx
      exact wS_len (ok.2 k hk)
    | _ => exact ok.elim
theorem wPs_sum {n : Nat} {ns : List Nd} {ps : List Ex} {h : List Nat} (hfr : (h, ns) ∈ frm) (okp : OkPs (OkE n) ns ps) : ((h :: wPs ps).map (·.length)).sum + (h :: wPs ps).length ≤ sB (n + 1) := by
  have hB : sB (n + 1) = 200 + 6 * (sB n + 1) := rfl
  have h6 := wPs_few hfr okp
  have h12 : h.length ≤ 12 := frm_twelve _ hfr
  have h2 := sum_le (wPs_mems okp)
  have h3 : (wPs ps).length * sB n ≤ 6 * sB n := Nat.mul_le_mul_right _ h6
  rw [List.map_cons, List.sum_cons, List.length_cons]
  omega
def W_wrt (n : Nat) : Wt := fun ds M k => ∃ e : Ex, ds = [e.d] ∧ M = [] ∧ OkE n e ∧ k (.str (tx (wS e))) []
def W_wrt' : Nat → Wt
  | 0 => fun _ _ _ => False
  | n + 1 => W_wrt n
theorem sg_sp : Str.ofString " " = tx [32] := by decide +kernel

section
variable {P : Program} {w : World} {K : PySem.W.Frag} {mg : Str → Option Value} {base : Heap}
theorem c_write1 (T : Top K mg w) (n : Nat) (hn : n ≤ 5) (c_write_expression : Cal P w K mg base (1 + n) "write_expression" (Spc K (W_wrt' n)) []) : Cal P w K mg base (2 + n) "write_expression" (Spc K (W_wrt n)) [] := cal_of T.d_write_expression fun f fd F => by
  have c_quoted := c_quoted (P := P) (w := w) (base := base) T
  obtain ⟨t_FORMS, g_FORMS, kvs, tab, look⟩ := top_forms (w := w) T
  have hlev : 2 + n = (1 + n) + 1 := by omega
  rw [hlev]
  exact spc_ok F sc_write_expression (fun ds M k h => by obtain ⟨e, rfl, _⟩ := h; rfl) fun cdv A outer s H E hr => ⟨_, (pss_cons (ps_set (i := 1) sc_write_expression.nd rfl (Or.inl rfl) (pe_ix (ix_K (K := K)) (pv 0) pe_int (fun _ _ => rfl)))
      (pss_cons (ps_if (pt_cmpR op_eq (pv 1) pe_str (nomark _))
      (pss_one (ps_ret (pe_callTy call_strU (by rfl) T.m_str (by decide +kernel) (pa_cons (pe_ix (ix_K (K := K)) (pv 0) pe_int (fun _ _ => rfl)) pa_nil))))
      pss_nil)
      (pss_cons (ps_if (pt_cmpR op_eq (pv 1) pe_str (nomark _))
      (pss_one (ps_ret (pe_ifExp (tru_K (K := K) (pe_ix (ix_K (K := K)) (pv 0) pe_int (fun _ _ => rfl))) pe_str pe_str)))
      pss_nil)
      (pss_cons (ps_if (pt_cmpR op_eq (pv 1) pe_str (nomark _))
      (pss_one (ps_ret (pe_c c_quoted hr (by first | decide | omega) (by rfl) (pa_cons (pe_ix (ix_K (K := K)) (pv 0) pe_int (fun _ _ => rfl)) pa_nil))))
      pss_nil)
      (pss_cons (ps_set (i := 2) sc_write_expression.nd rfl (Or.inl rfl) (pe_lstM (pe_lst (pa_cons (pv 1) pa_nil))))
      (pss_cons (ps_for PassesOwn.never rfl (zip_K (K := K) (RZ.pi_zipA (by rfl) T.m_zip (pa_cons (pe_ix (kix_K (K := K) (w := w)) (pe_glob (v := V.ref t_FORMS) (by rfl) g_FORMS rfl) (pv 1) (fun _ _ => rfl)) (pa_cons (pe_slice (sl_K (K := K)) (pv 0) (po_some pe_int) po_none) pa_nil)))) (gtup_K (K := K) (n := 2) rfl (pgs_cons (pg_name (i := 3) sc_write_expression.nd rfl (Or.inl rfl)) (pgs_cons (pg_name (i := 4) sc_write_expression.nd rfl (Or.inl rfl)) pgs_nil)))
      (pss_one (ps_if (pt_cmpR op_eq (pv 3) pe_str (nomark _))
      (pss_one (ps_expr (app_K (K := K) (pe_bm PySem.F.plainAttrs_list PySem.F.slot_list_append PySem.F.type_list_append mt_append (pv 2) (pa_cons (pe_c c_write_expression hr (by first | decide | omega) (by rfl) (pa_cons (pv 4) pa_nil)) pa_nil)))))
      (pss_one (ps_if (pt_cmpR op_eq (pv 3) pe_str (nomark _))
      (pss_one (ps_expr (ext_K (K := K) (pe_bm PySem.F.plainAttrs_list PySem.F.slot_list_extend PySem.F.type_list_extend mt_extend (pv 2) (pa_cons (pe_lc (own := [("below", 5)]) (g := gName 5) rfl sc_write_expression.nd (seq_K (K := K) (pv 4)) (blkOk_by (own := [("below", 5)]) (N := ["expression", "word", "written", "need", "part", "below"]) (sc := defScope s_write_expression) (by decide +kernel)) (fun _ _ _ _ _ => (pg_name (i := 5) sc_write_expression.nd rfl (Or.inl rfl))) (fun _ _ _ _ _ => pts_nil) (fun _ _ _ _ _ => (pe_c c_write_expression hr (by first | decide | omega) (by rfl) (pa_cons (pv 5) pa_nil)))) pa_nil)))))
      (pss_one (ps_expr (app_K (K := K) (pe_bm PySem.F.plainAttrs_list PySem.F.slot_list_append PySem.F.type_list_append mt_append (pv 2) (pa_cons (pe_ifExp (pt_cmpR op_eq (pv 3) pe_str (nomark _)) (pe_c c_quoted hr (by first | decide | omega) (by rfl) (pa_cons (pv 4) pa_nil)) (pv 4)) pa_nil))))))))))
      (pss_one (ps_ret (pe_op (add_K (K := K)) (pe_op (add_K (K := K)) pe_str (join_K (K := K) (pe_join pe_str (pv 2)))) pe_str))))))))), fun ds M kk hw => by
    obtain ⟨e, rfl, rfl, ok, q⟩ := hw
    have hsz := sizeLine_eq
    have hB := sB_mono n hn
    cases e with
    | int i =>
      have hi : -1000000 ≤ i ∧ i ≤ 1000000 := by cases n <;> exact ok
      refine as_start (δ' := [some (.tup [.str (Str.ofString "integer"), .int i]), none, none, none, none, none]) rfl ?_
      repeat (refine as_seq ?_; walk_at "tg")
      refine ac_strI (log_small hi) ?_
      exact q
    | tx l =>
      have hl : TxOk l := by cases n <;> exact ok
      refine as_start (δ' := [some (.tup [.str (Str.ofString "text"), .str (tx l)]), none, none, none, none, none]) rfl ?_
      repeat (refine as_seq ?_; walk_at "tg")
      refine ⟨[], [], fun d M => d = .str (tx (34 :: (escL l ++ [34]))) ∧ M = [], rfl, ⟨l, rfl, rfl, hl.1, rfl, rfl⟩, ?_⟩
      rintro _ _ ⟨rfl, rfl⟩
      exact q
    | bl b =>
      refine as_start (δ' := [some (.tup [.str (Str.ofString "boolean"), .bl b]), none, none, none, none, none]) rfl ?_
      repeat (refine as_seq ?_; walk_at "tg")
      cases b with
      | true =>
        refine bcaseT ?_
        walk_at "tg"
        exact q
      | false =>
        refine bcaseF ?_
        walk_at "tg"
        exact q
    | fm h ps =>
      cases n with
      | zero => exact ok.elim
      | succ n =>
        obtain ⟨ns, hfr, okp⟩ := ok
        obtain ⟨n1, n2, n3⟩ := frm_three _ hfr
        have hl3 : ns.length ≤ 3 := frm_len _ hfr
        have hlen := okPs_len okp
        obtain ⟨b, hb, hrep⟩ := look h ns hfr
        have hd : (Ex.fm h ps).d = .tup (.str (tx h) :: ps.map Ex.d) := by
          show D.tup (_ :: Ex.ds ps) = _
          rw [Ex.ds_map]
        refine as_start (δ' := [some (.tup (.str (tx h) :: ps.map Ex.d)), none, none, none, none, none]) (by rw [hd]; rfl) ?_
        refine as_seq ?_
        walk_at "tg"
        refine aix_T at0' ?_
        refine as_seq ?_
        walk_at "tg"
        refine dcase (fun z => absurd z n1) (fun _ => ?_)
        walk_at "tg"
        refine as_seq ?_
        walk_at "tg"
        refine dcase (fun z => absurd z n3) (fun _ => ?_)
        walk_at "tg"
        refine as_seq ?_
        walk_at "tg"
        refine dcase (fun z => absurd z n2) (fun _ => ?_)
        walk_at "tg"
        intro rd
        refine as_seq (as_for (ai_zipT ?_))
        walk_at "tg"
        refine ae_refC ?_
        walk_at "tg"
        refine ar_kixV tab hb hrep ?_
        walk_at "tg"
        refine asl_tup ?_
        rw [cut_tail]
        walk_at "tg"
        have hfew := wPs_few hfr okp
        have hpre : ∀ i, (wPs (ps.take i)).length ≤ 6 := fun i => by
          have e1 : (wPs ps).length = (wPs (ps.take i)).length + (wPs (ps.drop i)).length := by
            rw [← List.length_append, ← wPs_app, List.take_append_drop]
          omega
        refine ⟨_, _, rfl, fun i δ' M' => ∃ (y y' y2 : Option D), δ' = [some (.tup (.str (tx h) :: ps.map Ex.d)), some (.str (tx h)), some (.ref rd), y, y', y2] ∧ M' = [(rd, .lst ((h :: wPs (ps.take i)).map fun l => .str (tx l)))], ⟨_, _, _, rfl, rfl⟩, ?_, ?_⟩
        · rintro i d δ' M' hd2 ⟨y, y', y2, rfl, rfl⟩
          obtain ⟨x, z, hx, hz, rfl⟩ := zipD_get hd2
          rw [List.getElem?_map] at hx hz
          obtain ⟨nd, hnd, rfl⟩ := Option.map_eq_some_iff.mp hx
          obtain ⟨pe, hpe, rfl⟩ := Option.map_eq_some_iff.mp hz
          have okk := okPs_mem okp hnd hpe
          have et : ps.take (i + 1) = ps.take i ++ [pe] := by rw [List.take_add_one, hpe]; rfl
          have h6 := hpre i
          have fin : ((h :: wPs (ps.take (i + 1))).map fun l => D.str (tx l)) = ((h :: wPs (ps.take i)).map fun l => D.str (tx l)) ++ (wP pe).map fun l => D.str (tx l) := by
            rw [et, wPs_app, show wPs [pe] = wP pe ++ [] from rfl, List.append_nil, ← List.cons_append, List.map_append]
          have hz : ((h :: wPs (ps.take i)).map fun l => D.str (tx l)).length ≤ 7 := by
            rw [List.length_map, List.length_cons]
            omega
          walk_at "tg"
          cases nd with
          | one =>
            refine dcase (fun _ => ?_) (fun z => absurd (by decide +kernel) z)
            walk_at "tg"
            refine ⟨[], _, fun d M => d = .str (tx (wS pe)) ∧ M = [], rfl, ⟨pe, rfl, rfl, okk, rfl, rfl⟩, ?_⟩
            rintro _ _ ⟨rfl, rfl⟩
            walk_at "tg"
            refine am_append (M1 := []) (M2 := []) rfl (by omega) ?_
            refine ⟨_, _, _, rfl, ?_⟩
            rw [fin, wP_one okk]
            rfl
          | sev =>
            refine dcase (fun z => absurd z (by decide +kernel)) (fun _ => ?_)
            walk_at "tg"
            cases pe with
            | sv ks =>
              have hks : (Ex.sv ks).d = .tup (ks.map Ex.d) := by
                show D.tup (Ex.ds ks) = _
                rw [Ex.ds_map]
              rw [hks]
              have h5 : ks.length ≤ 5 := okk.1
              refine ae_lc (ownG_name (by simp)) ?_
              walk_at "tg"
              refine ⟨by rw [List.length_map]; omega, fun i2 acc M2 => M2 = [(rd, .lst ((h :: wPs (ps.take i)).map fun l => .str (tx l)))] ∧ acc = ((ks.take i2).map wS).map fun l => D.str (tx l), ⟨rfl, rfl⟩, ?_, ?_⟩
              · rintro i2 d2 acc M2 hd3 ⟨rfl, rfl⟩
                rw [List.getElem?_map] at hd3
                obtain ⟨k, hk, rfl⟩ := Option.map_eq_some_iff.mp hd3
                have et2 : ks.take (i2 + 1) = ks.take i2 ++ [k] := by rw [List.take_add_one, hk]; rfl
                walk_at "tg"
                refine ⟨[], _, fun d M => d = .str (tx (wS k)) ∧ M = [], rfl, ⟨k, rfl, rfl, okk.2 k (List.mem_of_getElem? hk), rfl, rfl⟩, ?_⟩
                rintro _ _ ⟨rfl, rfl⟩
                refine ⟨rfl, ?_⟩
                rw [et2]
                simp
              · rintro acc M2 ⟨rfl, rfl⟩
                rw [List.length_map, List.take_length]
                walk_at "tg"
                refine am_extend (M1 := []) (M2 := []) rfl (by simp only [List.length_map, List.length_cons]; omega) ?_
                refine ⟨_, _, _, rfl, ?_⟩
                rw [fin, show wP (.sv ks) = wPs ks from rfl, wPs_ones okk.2]
                rfl
            | _ => exact okk.elim
          | text =>
            refine dcase (fun z => absurd z (by decide +kernel)) (fun _ => ?_)
            walk_at "tg"
            cases pe with
            | qt l =>
              refine ⟨[], _, fun d M => d = .str (tx (34 :: (escL l ++ [34]))) ∧ M = [], rfl, ⟨l, rfl, rfl, okk.1, rfl, rfl⟩, ?_⟩
              rintro _ _ ⟨rfl, rfl⟩
              walk_at "tg"
              refine am_append (M1 := []) (M2 := []) rfl (by omega) ?_
              refine ⟨_, _, _, rfl, ?_⟩
              rw [fin]
              rfl
            | _ => exact okk.elim
          | name =>
            refine dcase (fun z => absurd z (by decide +kernel)) (fun _ => ?_)
            walk_at "tg"
            cases pe with
            | nm w =>
              refine am_append (M1 := []) (M2 := []) rfl (by omega) ?_
              refine ⟨_, _, _, rfl, ?_⟩
              rw [fin]
              rfl
            | _ => exact okk.elim
        · rintro δ' M' ⟨y, y', y2, rfl, rfl⟩
          have el : (zipD (ns.map fun n => D.str n.s) (ps.map Ex.d)).length = ps.length := by
            rw [zipD_len, List.length_map, List.length_map, hlen]
            omega
          rw [el, List.take_length]
          show AS K _ _ _ _
          refine frz0 (s := 2) rfl ?_
          walk_at "tg"
          have hw := wS_len (n := n + 1) (e := .fm h ps) ⟨ns, hfr, okp⟩
          have hw2 : (wS (.fm h ps)).length = (joinL [32] (h :: wPs ps)).length + 2 := by
            show (40 :: (joinL [32] (h :: wPs ps) ++ [41])).length = _
            simp
          rw [sg_sp]
          refine am_joinS (ls := h :: wPs ps) (by
            have := wPs_sum hfr okp
            rw [List.length_singleton, Nat.mul_one]
            omega) ?_
          rw [sg_op]
          refine au_str (by rw [List.length_singleton]; omega) ?_
          walk_at "tg"
          rw [sg_cl]
          refine au_str (by rw [List.length_append, List.length_singleton, List.length_singleton]; omega) ?_
          exact q
    | nm w => cases n <;> exact ok.elim
    | qt l => cases n <;> exact ok.elim
    | sv ks => cases n <;> exact ok.elim⟩
end
section
variable {P : Program} {w : World} {K : PySem.W.Frag} {mg : Str → Option Value} {base : Heap}
theorem c_write_expression (T : Top K mg w) : ∀ n : Nat, n ≤ 5 → Cal P w K mg base (2 + n) "write_expression" (Spc K (W_wrt n)) []
  | 0, h => c_write1 T 0 h (cal_none T.d_write_expression fun _ _ _ h => h)
  | n + 1, h => c_write1 T (n + 1) h (by
    have e : 1 + (n + 1) = 2 + n := by omega
    rw [e]
    exact c_write_expression T n (by omega))
end

/-! ### what is known of drawn expressions -/
theorem okPs_imp {O O' : Ex → Prop} (h : ∀ e, O e → O' e) : ∀ {ns : List Nd} {ps : List Ex}, OkPs O ns ps → OkPs O' ns ps
  | [], [], _ => trivial
  | nd :: ns, p :: ps, q => by
    refine ⟨?_, okPs_imp h q.2⟩
    have q1 := q.1
    cases nd with
    | one => exact h p q1
    | name =>
      cases p with
      | nm w => exact q1
      | _ => exact q1.elim
    | text =>
      cases p with
      | qt w => exact q1
      | _ => exact q1.elim
    | sev =>
      cases p with
      | sv ks => exact ⟨q1.1, fun k hk => h k (q1.2 k hk)⟩
      | _ => exact q1.elim
  | [], _ :: _, q => q.elim
  | _ :: _, [], q => q.elim
theorem okE_succ : ∀ {n : Nat} {e : Ex}, OkE n e → OkE (n + 1) e
  | 0, e, h => okE_zero h 1
  | n + 1, e, h => by
    cases e with
    | fm hd ps =>
      obtain ⟨ns, hfr, ok⟩ := h
      exact ⟨ns, hfr, okPs_imp (fun _ => okE_succ) ok⟩
    | int i => exact h
    | tx l => exact h
    | bl b => exact h
    | nm w => exact h.elim
    | qt l => exact h.elim
    | sv ks => exact h.elim
theorem okE_le {n : Nat} {e : Ex} (h : OkE n e) : ∀ k, OkE (n + k) e
  | 0 => h
  | k + 1 => okE_succ (okE_le h k)
theorem cntL_map {f : Ex → List Ex} : ∀ {ks : List Ex}, (∀ k ∈ ks, (f k).length = k.cnt) → (ks.flatMap f).length = Ex.cntL ks
  | [], _ => rfl
  | k :: ks, h => by
    rw [List.flatMap_cons, List.length_append, h k (by simp), cntL_map fun x hx => h x (List.mem_cons_of_mem _ hx)]
    rfl
theorem prts_cnt : ∀ {n : Nat} {e : Ex}, OkE n e → (prts n e).length = e.cnt
  | 0, e, h => by
    cases e with
    | int i => rfl
    | tx l => rfl
    | bl b => rfl
    | fm hd ps => exact h.elim
    | nm w => exact h.elim
    | qt l => exact h.elim
    | sv ks => exact h.elim
  | n + 1, e, h => by
    have hsum : ∀ {ns : List Nd} {ps : List Ex}, OkPs (OkE n) ns ps → ((ps.flatMap kidsP).flatMap (prts n)).length = Ex.cntL ps := by
      intro ns ps
      induction ps generalizing ns with
      | nil => intro _; rfl
      | cons p ps ih =>
        intro q
        cases ns with
        | nil => exact q.elim
        | cons nd ns =>
          have h2 := ih q.2
          have q1 := q.1
          rw [List.flatMap_cons, List.flatMap_append, List.length_append, h2]
          show _ = p.cnt + Ex.cntL ps
          have e1 : ((kidsP p).flatMap (prts n)).length = p.cnt := by
            cases nd with
            | one =>
              rw [kidsP_one q1, List.flatMap_singleton]
              exact prts_cnt q1
            | name =>
              cases p with
              | nm w => rfl
              | _ => exact q1.elim
            | text =>
              cases p with
              | qt l => rfl
              | _ => exact q1.elim
            | sev =>
              cases p with
              | sv ks => exact cntL_map fun k hk => prts_cnt (q1.2 k hk)
              | _ => exact q1.elim
          rw [e1]
    show ((kids e).flatMap (prts n) ++ [e]).length = e.cnt
    rw [List.length_append, List.length_singleton]
    cases e with
    | fm hd ps =>
      obtain ⟨ns, hfr, ok⟩ := h
      have := hsum ok
      show ((ps.flatMap kidsP).flatMap (prts n)).length + 1 = 1 + Ex.cntL ps
      omega
    | int i => rfl
    | tx l => rfl
    | bl b => rfl
    | nm w => exact h.elim
    | qt l => exact h.elim
    | sv ks => exact h.elim
/-- the tokens: what they are, how many -/
def TokG (ts : List Tk) : Prop := ∀ t ∈ ts, TkOk t ∧ ∀ w, t = .lt w → w.length ≤ 12
theorem tokG_app {a b : List Tk} (h1 : TokG a) (h2 : TokG b) : TokG (a ++ b) := fun t ht => (List.mem_append.mp ht).elim (h1 t) (h2 t)
theorem tokG_one {t : Tk} (h1 : TkOk t) (h2 : ∀ w, t = .lt w → w.length ≤ 12) : TokG [t] := fun x hx => by
  rw [List.mem_singleton.mp hx]
  exact ⟨h1, h2⟩
theorem frm_letters : ∀ p ∈ frm, p.1 ≠ [] ∧ ∀ c ∈ p.1, c ∈ LetS := by decide
theorem boolL_ok (b : Bool) : boolL b ≠ [] ∧ (∀ c ∈ boolL b, c ∈ LetS) ∧ (boolL b).length ≤ 12 := by cases b <;> decide
theorem tokG_lt {w : List Nat} (h1 : w ≠ []) (h2 : ∀ c ∈ w, c ∈ LetS) (h3 : w.length ≤ 12) : TokG [.lt w] := tokG_one ⟨h1, h2⟩ fun w' e => by
  injection e with e
  rw [← e]
  exact h3
theorem toks_good : ∀ {n : Nat} {e : Ex}, OkE n e → TokG e.toks ∧ e.toks.length ≤ 6 * e.cnt
  | n, .int i, h => ⟨tokG_one (show TkOk (.num i) by cases n <;> exact h) fun _ z => (by cases z), by show 1 ≤ 6 * 1; omega⟩
  | n, .tx l, h => ⟨tokG_one (show TkOk (.txt l) by cases n <;> exact h) fun _ z => (by cases z), by show 1 ≤ 6 * 1; omega⟩
  | n, .bl b, h => ⟨tokG_lt (boolL_ok b).1 (boolL_ok b).2.1 (boolL_ok b).2.2, by show 1 ≤ 6 * 1; omega⟩
  | 0, .fm hd ps, h => h.elim
  | 0, .nm w, h => h.elim
  | 0, .qt l, h => h.elim
  | 0, .sv ks, h => h.elim
  | n + 1, .nm w, h => h.elim
  | n + 1, .qt l, h => h.elim
  | n + 1, .sv ks, h => h.elim
  | n + 1, .fm hd ps, h => by
    obtain ⟨ns, hfr, ok⟩ := h
    have hl3 : ns.length ≤ 3 := frm_len _ hfr
    have hsev : ∀ {ks : List Ex}, (∀ k ∈ ks, OkE n k) → TokG (Ex.tokL ks) ∧ (Ex.tokL ks).length ≤ 6 * Ex.cntL ks := by
      intro ks
      induction ks with
      | nil => intro _; exact ⟨fun _ hx => (by cases hx), Nat.le_refl _⟩
      | cons k ks ih =>
        intro hk
        obtain ⟨g1, g2⟩ := toks_good (hk k (by simp))
        obtain ⟨g3, g4⟩ := ih fun x hx => hk x (List.mem_cons_of_mem _ hx)
        refine ⟨tokG_app g1 g3, ?_⟩
        show (k.toks ++ Ex.tokL ks).length ≤ 6 * (k.cnt + Ex.cntL ks)
        rw [List.length_append]
        omega
    have hall : ∀ {ns : List Nd} {ps : List Ex}, OkPs (OkE n) ns ps → TokG (Ex.tokL ps) ∧ (Ex.tokL ps).length ≤ ns.length + 6 * Ex.cntL ps := by
      intro ns ps
      induction ps generalizing ns with
      | nil =>
        intro _
        exact ⟨fun _ hx => (by cases hx), by show 0 ≤ _; omega⟩
      | cons p ps ih =>
        intro q
        cases ns with
        | nil => exact q.elim
        | cons nd ns =>
          obtain ⟨g3, g4⟩ := ih q.2
          have q1 := q.1
          have g : TokG p.toks ∧ p.toks.length ≤ 1 + 6 * p.cnt := by
            cases nd with
            | one =>
              obtain ⟨g1, g2⟩ := toks_good q1
              exact ⟨g1, by omega⟩
            | name =>
              cases p with
              | nm w => exact ⟨tokG_lt q1.1 q1.2.2 q1.2.1, Nat.le_refl _⟩
              | _ => exact q1.elim
            | text =>
              cases p with
              | qt l => exact ⟨tokG_one (t := .txt l) q1 fun _ z => (by cases z), Nat.le_refl _⟩
              | _ => exact q1.elim
            | sev =>
              cases p with
              | sv ks =>
                obtain ⟨g1, g2⟩ := hsev q1.2
                exact ⟨g1, by show (Ex.tokL ks).length ≤ 1 + 6 * Ex.cntL ks; omega⟩
              | _ => exact q1.elim
          refine ⟨tokG_app g.1 g3, ?_⟩
          show (p.toks ++ Ex.tokL ps).length ≤ (ns.length + 1) + 6 * (p.cnt + Ex.cntL ps)
          rw [List.length_append]
          omega
    obtain ⟨g1, g2⟩ := hall ok
    have hd1 : hd ≠ [] ∧ ∀ c ∈ hd, c ∈ LetS := frm_letters _ hfr
    have hd2 : hd.length ≤ 12 := frm_twelve _ hfr
    refine ⟨tokG_app (a := [.op]) (tokG_one trivial fun _ z => (by cases z)) (tokG_app (a := [.lt hd]) (tokG_lt hd1.1 hd1.2 hd2) (tokG_app g1 (tokG_one (t := .cl) trivial fun _ z => (by cases z)))), ?_⟩
    show (Tk.op :: .lt hd :: (Ex.tokL ps ++ [.cl])).length ≤ 6 * (1 + Ex.cntL ps)
    rw [List.length_cons, List.length_cons, List.length_append, List.length_singleton]
    omega

/-! ### the written text of the tokens -/
def gp : Option Tk → Tk → List Nat
  | none, _ => []
  | some p, t => if isCl t || isOp p then [] else [32]
def wl : Option Tk → List Tk → List Nat
  | _, [] => []
  | p, t :: r => gp p t ++ (tkS t ++ wl (some t) r)
def lastO : Option Tk → List Tk → Option Tk
  | p, [] => p
  | _, t :: r => lastO (some t) r
theorem wl_app : ∀ (p : Option Tk) (a b : List Tk), wl p (a ++ b) = wl p a ++ wl (lastO p a) b
  | p, [], b => rfl
  | p, t :: a, b => by
    show gp p t ++ (tkS t ++ wl (some t) (a ++ b)) = gp p t ++ (tkS t ++ wl (some t) a) ++ wl (lastO (some t) a) b
    rw [wl_app (some t) a b]
    simp
theorem lastO_app : ∀ (p : Option Tk) (a b : List Tk), lastO p (a ++ b) = lastO (lastO p a) b
  | p, [], b => rfl
  | p, t :: a, b => lastO_app (some t) a b
theorem lastO_take {ts : List Tk} : ∀ {n : Nat} {t : Tk}, ts[n]? = some t → lastO none (ts.take (n + 1)) = some t := fun {n t} h => by
  have e : ts.take (n + 1) = ts.take n ++ [t] := by rw [List.take_add_one, h]; rfl
  rw [e, lastO_app]
  rfl
theorem wgts_wl {ts : List Tk} : ∀ n, n ≤ ts.length → lay (wgts ts n) = wl none (ts.take n)
  | 0, _ => by
    rw [List.take_zero]
    rfl
  | n + 1, h => by
    obtain ⟨t, ht⟩ : ∃ t, ts[n]? = some t := ⟨ts[n]'(by omega), List.getElem?_eq_getElem _⟩
    have e : ts.take (n + 1) = ts.take n ++ [t] := by rw [List.take_add_one, ht]; rfl
    have eg : ts.getD n .op = t := by rw [List.getD_eq_getElem?_getD, ht]; rfl
    rw [wgts_succ, lay_app, wgts_wl n (by omega), e, wl_app, eg]
    congr 1
    show wgap ts n ++ (tkS t ++ []) = gp _ t ++ (tkS t ++ [])
    congr 1
    unfold wgap
    cases n with
    | zero =>
      rw [if_pos rfl, List.take_zero]
      rfl
    | succ m =>
      obtain ⟨u, hu⟩ : ∃ u, ts[m]? = some u := ⟨ts[m]'(by omega), List.getElem?_eq_getElem _⟩
      have eg2 : ts.getD (m + 1 - 1) .op = u := by rw [Nat.add_sub_cancel, List.getD_eq_getElem?_getD, hu]; rfl
      rw [if_neg (by omega), eg, eg2, lastO_take hu]
      rfl
/-- the gap ahead of what is no closing parenthesis -/
def ga : Option Tk → List Nat
  | none => []
  | some q => if isOp q then [] else [32]
theorem gp_ga {t : Tk} (h : isCl t = false) : ∀ p, gp p t = ga p
  | none => rfl
  | some q => by
    show (if isCl t || isOp q then [] else [32]) = if isOp q then [] else [32]
    rw [h, Bool.false_or]
def NoOp (o : Option Tk) : Prop := ∃ t, o = some t ∧ isOp t = false
theorem ga_noop {o : Option Tk} (h : NoOp o) : ga o = [32] := by
  obtain ⟨t, rfl, h⟩ := h
  show (if isOp t then [] else [32]) = _
  rw [h]
  rfl
theorem joinL_flat (a h : List Nat) : ∀ ls : List (List Nat), joinL a (h :: ls) = h ++ ls.flatMap fun x => a ++ x
  | [] => by simp [joinL]
  | l :: ls => by
    have ih := joinL_flat a l ls
    have e : joinL a (h :: l :: ls) = h ++ (a ++ joinL a (l :: ls)) := by simp [joinL]
    rw [e, ih, List.flatMap_cons]
    simp
theorem wl_one {p : Option Tk} {t : Tk} (h : isCl t = false) : wl p [t] = ga p ++ tkS t := by
  show gp p t ++ (tkS t ++ []) = _
  rw [gp_ga h, List.append_nil]
theorem wl_toks : ∀ {n : Nat} {e : Ex}, OkE n e → ∀ p, wl p e.toks = ga p ++ wS e ∧ NoOp (lastO p e.toks)
  | n, .int i, h, p => ⟨wl_one rfl, _, rfl, rfl⟩
  | n, .tx l, h, p => ⟨wl_one rfl, _, rfl, rfl⟩
  | n, .bl b, h, p => ⟨wl_one rfl, _, rfl, rfl⟩
  | 0, .fm hd ps, h, _ => h.elim
  | 0, .nm w, h, _ => h.elim
  | 0, .qt l, h, _ => h.elim
  | 0, .sv ks, h, _ => h.elim
  | n + 1, .nm w, h, _ => h.elim
  | n + 1, .qt l, h, _ => h.elim
  | n + 1, .sv ks, h, _ => h.elim
  | n + 1, .fm hd ps, h, p => by
    obtain ⟨ns, hfr, ok⟩ := h
    have hsev : ∀ {ks : List Ex}, (∀ k ∈ ks, OkE n k) → ∀ o, NoOp o → wl o (Ex.tokL ks) = (wPs ks).flatMap (fun x => [32] ++ x) ∧ NoOp (lastO o (Ex.tokL ks)) := by
      intro ks
      induction ks with
      | nil => intro _ o ho; exact ⟨rfl, ho⟩
      | cons k ks ih =>
        intro hk o ho
        obtain ⟨g1, g2⟩ := wl_toks (hk k (by simp)) o
        obtain ⟨g3, g4⟩ := ih (fun x hx => hk x (List.mem_cons_of_mem _ hx)) _ g2
        refine ⟨?_, ?_⟩
        · show wl o (k.toks ++ Ex.tokL ks) = (wP k ++ wPs ks).flatMap _
          rw [wl_app, g1, g3, ga_noop ho, wP_one (hk k (by simp)), List.flatMap_append, List.flatMap_singleton]
        · show NoOp (lastO o (k.toks ++ Ex.tokL ks))
          rw [lastO_app]
          exact g4
    have hall : ∀ {ns : List Nd} {ps : List Ex}, OkPs (OkE n) ns ps → ∀ o, NoOp o → wl o (Ex.tokL ps) = (wPs ps).flatMap (fun x => [32] ++ x) ∧ NoOp (lastO o (Ex.tokL ps)) := by
      intro ns ps
      induction ps generalizing ns with
      | nil => intro _ o ho; exact ⟨rfl, ho⟩
      | cons q ps ih =>
        intro hq o ho
        cases ns with
        | nil => exact hq.elim
        | cons nd ns =>
          have q1 := hq.1
          have g : wl o q.toks = (wP q).flatMap (fun x => [32] ++ x) ∧ NoOp (lastO o q.toks) := by
            cases nd with
            | one =>
              obtain ⟨g1, g2⟩ := wl_toks q1 o
              refine ⟨?_, g2⟩
              rw [g1, ga_noop ho, wP_one q1, List.flatMap_singleton]
            | name =>
              cases q with
              | nm w =>
                refine ⟨?_, _, rfl, rfl⟩
                show wl o [.lt w] = _
                rw [wl_one rfl, ga_noop ho]
                simp [wP, tkS]
              | _ => exact q1.elim
            | text =>
              cases q with
              | qt l =>
                refine ⟨?_, _, rfl, rfl⟩
                show wl o [.txt l] = _
                rw [wl_one rfl, ga_noop ho]
                simp [wP, tkS]
              | _ => exact q1.elim
            | sev =>
              cases q with
              | sv ks => exact hsev q1.2 o ho
              | _ => exact q1.elim
          obtain ⟨g3, g4⟩ := ih hq.2 _ g.2
          refine ⟨?_, ?_⟩
          · show wl o (q.toks ++ Ex.tokL ps) = (wP q ++ wPs ps).flatMap _
            rw [wl_app, g.1, g3, List.flatMap_append]
          · show NoOp (lastO o (q.toks ++ Ex.tokL ps))
            rw [lastO_app]
            exact g4
    obtain ⟨g1, g2⟩ := hall ok (some (.lt hd)) ⟨_, rfl, rfl⟩
    refine ⟨?_, ?_⟩
    · show gp p .op ++ (tkS .op ++ (gp (some .op) (.lt hd) ++ (tkS (.lt hd) ++ wl (some (.lt hd)) (Ex.tokL ps ++ [.cl])))) = _
      rw [wl_app, g1, gp_ga rfl]
      show ga p ++ (tkS .op ++ ([] ++ (hd ++ ((wPs ps).flatMap (fun x => [32] ++ x) ++ (gp _ .cl ++ (tkS .cl ++ [])))))) = ga p ++ (40 :: (joinL [32] (hd :: wPs ps) ++ [41]))
      have ec : gp (lastO (some (.lt hd)) (Ex.tokL ps)) .cl = [] := by
        obtain ⟨t, e, _⟩ := g2
        rw [e]
        rfl
      rw [ec, joinL_flat]
      simp [tkS]
    · show NoOp (lastO (some (.lt hd)) (Ex.tokL ps ++ [.cl]))
      rw [lastO_app]
      exact ⟨_, rfl, rfl⟩
theorem wS_lay {n : Nat} {e : Ex} (h : OkE n e) : wS e = lay (wgts e.toks e.toks.length) := by
  rw [wgts_wl _ (Nat.le_refl _), List.take_length, (wl_toks h none).1]
  rfl
/-! ### equal trees are found equal -/
theorem depth_all {b : Nat} : ∀ l : List D, (∀ d ∈ l, (toPy d).depth ≤ b) → PyData.depthAll (toPys l) ≤ b
  | [], _ => by
    unfold toPys PyData.depthAll
    omega
  | a :: l, hh => by
    unfold toPys PyData.depthAll
    have h1 := hh a (by simp)
    have h2 := depth_all l fun d hd => hh d (List.mem_cons_of_mem _ hd)
    omega
theorem pln_tx {l : List Nat} (h : ∀ c ∈ l, c < 128) : Pln (.str (tx l)) := by
  unfold Pln
  rw [tx_cps]
  exact h
theorem letS_low {c : Nat} (h : c ∈ LetS) : c < 128 := by
  have all : ∀ c ∈ LetS, c < 128 := by decide
  exact all c h
theorem ex_eqb : ∀ {n : Nat} {e : Ex}, OkE n e → Pln e.d ∧ (toPy e.d).depth ≤ 3 * n + 3
  | n, .int i, h => ⟨⟨(by unfold Pln; decide +kernel), trivial, trivial⟩, by
    show (toPy (.tup [.str (Str.ofString "integer"), .int i])).depth ≤ _
    simp only [toPy, toPys, PyData.depth, PyData.depthAll]
    omega⟩
  | n, .tx l, h => ⟨⟨(by unfold Pln; decide +kernel), pln_tx (show TxOk l by cases n <;> exact h).2, trivial⟩, by
    show (toPy (.tup [.str (Str.ofString "text"), .str (tx l)])).depth ≤ _
    simp only [toPy, toPys, PyData.depth, PyData.depthAll]
    omega⟩
  | n, .bl b, h => ⟨⟨(by unfold Pln; decide +kernel), trivial, trivial⟩, by
    show (toPy (.tup [.str (Str.ofString "boolean"), .bl b])).depth ≤ _
    simp only [toPy, toPys, PyData.depth, PyData.depthAll]
    omega⟩
  | 0, .fm hd ps, h => h.elim
  | 0, .nm w, h => h.elim
  | 0, .qt l, h => h.elim
  | 0, .sv ks, h => h.elim
  | n + 1, .nm w, h => h.elim
  | n + 1, .qt l, h => h.elim
  | n + 1, .sv ks, h => h.elim
  | n + 1, .fm hd ps, h => by
    obtain ⟨ns, hfr, ok⟩ := h
    have part : ∀ p ∈ ps, Pln p.d ∧ (toPy p.d).depth ≤ 3 * n + 5 := fun p hp => by
      obtain ⟨nd, _, q1⟩ := okPs_of ok hp
      cases nd with
      | one =>
        obtain ⟨a, b⟩ := ex_eqb q1
        exact ⟨a, by omega⟩
      | name =>
        cases p with
        | nm w =>
          refine ⟨pln_tx fun c hc => letS_low (q1.2.2 c hc), ?_⟩
          show (toPy (.str (tx w))).depth ≤ _
          simp only [toPy, PyData.depth]
          omega
        | _ => exact q1.elim
      | text =>
        cases p with
        | qt l =>
          refine ⟨pln_tx q1.2, ?_⟩
          show (toPy (.str (tx l))).depth ≤ _
          simp only [toPy, PyData.depth]
          omega
        | _ => exact q1.elim
      | sev =>
        cases p with
        | sv ks =>
          have hd : (Ex.sv ks).d = .tup (ks.map Ex.d) := by
            show D.tup (Ex.ds ks) = _
            rw [Ex.ds_map]
          rw [hd]
          refine ⟨plns_all.mpr fun d hd => ?_, ?_⟩
          · obtain ⟨k, hk, rfl⟩ := List.mem_map.mp hd
            exact (ex_eqb (q1.2 k hk)).1
          · have := depth_all (b := 3 * n + 3) (ks.map Ex.d) fun d hd => by
              obtain ⟨k, hk, rfl⟩ := List.mem_map.mp hd
              exact (ex_eqb (q1.2 k hk)).2
            simp only [toPy, PyData.depth]
            omega
        | _ => exact q1.elim
    have hd1 : hd ≠ [] ∧ ∀ c ∈ hd, c ∈ LetS := frm_letters _ hfr
    have he : (Ex.fm hd ps).d = .tup (.str (tx hd) :: ps.map Ex.d) := by
      show D.tup (_ :: Ex.ds ps) = _
      rw [Ex.ds_map]
    rw [he]
    refine ⟨⟨pln_tx fun c hc => letS_low (hd1.2 c hc), plns_all.mpr fun d hd => ?_⟩, ?_⟩
    · obtain ⟨p, hp, rfl⟩ := List.mem_map.mp hd
      exact (part p hp).1
    · have := depth_all (b := 3 * n + 5) (ps.map Ex.d) fun d hd => by
        obtain ⟨p, hp, rfl⟩ := List.mem_map.mp hd
        exact (part p hp).2
      simp only [toPy, toPys, PyData.depth, PyData.depthAll]
      omega
theorem ex_Eqb {n : Nat} {e : Ex} (hn : n ≤ 5) (h : OkE n e) : Eqb e.d := ⟨(ex_eqb h).1, by have := (ex_eqb h).2; omega⟩
theorem exs_Eqb {n : Nat} {es : List Ex} (hn : n ≤ 5) (h : ∀ e ∈ es, OkE n e) : Eqb (.lst (es.map Ex.d)) := by
  refine ⟨plns_all.mpr fun d hd => ?_, ?_⟩
  · obtain ⟨k, hk, rfl⟩ := List.mem_map.mp hd
    exact (ex_eqb (h k hk)).1
  · have := depth_all (b := 3 * n + 3) (es.map Ex.d) fun d hd => by
      obtain ⟨k, hk, rfl⟩ := List.mem_map.mp hd
      exact (ex_eqb (h k hk)).2
    simp only [toPy, PyData.depth]
    omega

/-! ### what is read, in plain Lean -/
theorem atR_all {p q : List Nat} : AtR (p ++ q) p.length q := by
  have h : AtR (p ++ q) 0 (p ++ q) := at_start
  have := h.adv
  rw [Nat.zero_add] at this
  exact this
theorem Lw.okT {ts : List Tk} {gts : List GT} {g tail : List Nat} (h : Lw ts gts g) (o : ∀ t ∈ ts, TkOk t) (hb : Brk tail) : LayOk gts tail := by
  refine layOk_idx (fun i x e => ⟨(h.bl i x e).1, ?_⟩) h.sp fun x _ => .inr hb
  have e2 : (gts.map (·.2))[i]? = some x.2 := by rw [List.getElem?_map, e]; rfl
  rw [h.sn] at e2
  exact o _ (List.mem_of_mem_take (List.mem_of_getElem? e2))
theorem toks_ne {n : Nat} {e : Ex} (h : OkE n e) : e.toks ≠ [] := by
  obtain ⟨t, ts, et, _⟩ := first_tok h
  rw [et]
  simp
section
variable {n : Nat} {e : Ex} {gts : List GT} {g : List Nat} {Kf : D → Prop} {Xf : Nat → Prop}
theorem lw_all (hw : Lw e.toks gts g) (hl : gts.length = e.toks.length) : gts.map (·.2) = e.toks := by
  rw [hw.sn, hl, List.take_length]
theorem lw_ne (he : OkE n e) (hl : gts.length = e.toks.length) : gts ≠ [] := fun z => by
  rw [z] at hl
  exact toks_ne he (List.length_eq_zero_iff.mp hl.symm)
theorem read_lay (he : OkE n e) (hc : e.cnt ≤ 60) (hw : Lw e.toks gts g) (hl : gts.length = e.toks.length) (q : Kf e.d) : ∃ c : Cu, Lx (lay gts) 0 c.1 c.2.1 c.2.2 ∧ Ends n (lay gts) c Kf Xf := by
  have hne := lw_ne he hl
  have ht := (toks_good he).1
  have hend : AtR (lay gts ++ []) (lay gts).length [] := atR_all
  rw [List.append_nil] at hend
  have hfin := lx_fin hend (fun c hc => by cases hc)
  have hst : AtR (lay gts) 0 (lay gts ++ []) := by
    rw [List.append_nil]
    exact at_start
  obtain ⟨c, h1, h2⟩ := lay_go (c' := (.fin, (lay gts).length + 0, (lay gts).length + 0)) hne hst (hw.okT (fun t h => (ht t h).1) brk_nil) (by rw [Nat.zero_add]; exact hfin)
  rw [lw_all hw hl] at h2
  exact ⟨c, h1, .inl ⟨e, _, he, hc, h2, q⟩⟩
theorem wgts_map (ts : List Tk) : (wgts ts ts.length).map (·.2) = ts := by
  refine List.ext_getElem? fun i => ?_
  unfold wgts
  rw [List.getElem?_map, List.getElem?_map]
  by_cases h : i < ts.length
  · rw [List.getElem?_range h, List.getElem?_eq_getElem h]
    show some (ts.getD i .op) = _
    rw [List.getD_eq_getElem?_getD, List.getElem?_eq_getElem h]
    rfl
  · rw [List.getElem?_eq_none (by rw [List.length_range]; omega), List.getElem?_eq_none (by omega)]
    rfl
theorem read_wr (he : OkE n e) (hc : e.cnt ≤ 60) (q : Kf e.d) : ∃ c : Cu, Lx (wS e) 0 c.1 c.2.1 c.2.2 ∧ Ends n (wS e) c Kf Xf := by
  have ht := (toks_good he).1
  rw [wS_lay he]
  have hne : wgts e.toks e.toks.length ≠ [] := fun z => by
    have := wgts_map e.toks
    rw [z] at this
    exact toks_ne he this.symm
  have hend : AtR (lay (wgts e.toks e.toks.length) ++ []) (lay (wgts e.toks e.toks.length)).length [] := atR_all
  rw [List.append_nil] at hend
  have hfin := lx_fin hend (fun c hc => by cases hc)
  have hst : AtR (lay (wgts e.toks e.toks.length)) 0 (lay (wgts e.toks e.toks.length) ++ []) := by
    rw [List.append_nil]
    exact at_start
  obtain ⟨c, h1, h2⟩ := lay_go (c' := (.fin, (lay (wgts e.toks e.toks.length)).length + 0, (lay (wgts e.toks e.toks.length)).length + 0)) hne hst (wgts_ok fun t h => (ht t h).1) (by rw [Nat.zero_add]; exact hfin)
  rw [wgts_map] at h2
  exact ⟨c, h1, .inl ⟨e, _, he, hc, h2, q⟩⟩
def strg : List (List Nat) := [[36], [122, 122, 122], [41], [50]]
theorem strg_at {s : List Nat} (h : s ∈ strg) : ∃ t z, Tk.At t s z ∧ t.sort ≠ Str.ofString "end" := by
  have h : s = [36] ∨ s = [122, 122, 122] ∨ s = [41] ∨ s = [50] := by simpa [strg] using h
  rcases h with rfl | rfl | rfl | rfl
  · exact ⟨.bad, 0, ⟨rfl, _, rfl⟩, by decide +kernel⟩
  · exact ⟨.lt [122, 122, 122], 3, ⟨rfl, by decide, by decide, [], rfl, (fun c hc => by cases hc)⟩, by decide +kernel⟩
  · exact ⟨.cl, 1, ⟨rfl, _, rfl⟩, by decide +kernel⟩
  · exact ⟨.num 2, 1, ⟨by decide +kernel, by decide, [], by decide +kernel, (fun c hc => by cases hc)⟩, by decide +kernel⟩
theorem read_more {s : List Nat} (hs : s ∈ strg) (he : OkE n e) (hc : e.cnt ≤ 60) (hw : Lw e.toks gts g) (hl : gts.length = e.toks.length) (q : Xf ((lay gts).length + 1)) : ∃ c : Cu, Lx (lay gts ++ (32 :: s)) 0 c.1 c.2.1 c.2.2 ∧ Ends n (lay gts ++ (32 :: s)) c Kf Xf := by
  have hne := lw_ne he hl
  have ht := (toks_good he).1
  obtain ⟨t, z, hat, hsort⟩ := strg_at hs
  have hend : AtR (lay gts ++ (32 :: s)) (lay gts).length (32 :: s) := atR_all
  have hx : Lx (lay gts ++ (32 :: s)) (lay gts).length t ((lay gts).length + 1) ((lay gts).length + 1 + z) := ⟨[32], s, z, hend, (fun c hc => .inl (List.mem_singleton.mp hc)), rfl, hat, rfl⟩
  obtain ⟨c, h1, h2⟩ := lay_go (c' := (t, (lay gts).length + 1, (lay gts).length + 1 + z)) hne at_start (hw.okT (fun t h => (ht t h).1) (brk_c (c := 32) (by decide))) (by rw [Nat.zero_add]; exact hx)
  rw [lw_all hw hl] at h2
  exact ⟨c, h1, .inr (.inl ⟨e, t, _, _, he, hc, h2, hsort, q⟩)⟩
theorem read_none {b : List Nat} (hb : Blank b) (q : Xf b.length) : ∃ c : Cu, Lx b 0 c.1 c.2.1 c.2.2 ∧ Ends n b c Kf Xf :=
  ⟨(.fin, 0 + b.length, 0 + b.length), lx_fin at_start hb, .inr (.inr (.inr ⟨b.length, by rw [Nat.zero_add], q⟩))⟩
theorem read_cut {k : Nat} {x : GT} (he : OkE n e) (hc : e.cnt ≤ 60) (hw : Lw e.toks gts g) (hl : gts.length = e.toks.length) (hx : gts[k]? = some x) (q : Xf (lay (gts.take k) ++ x.1).length) : ∃ c : Cu, Lx (lay (gts.take k) ++ x.1) 0 c.1 c.2.1 c.2.2 ∧ Ends n (lay (gts.take k) ++ x.1) c Kf Xf := by
  have ht := (toks_good he).1
  obtain ⟨hb, _⟩ := hw.bl k x hx
  have hk := (List.getElem?_eq_some_iff.mp hx).1
  by_cases h0 : k = 0
  · subst h0
    rw [List.take_zero]
    have e1 : lay [] ++ x.1 = x.1 := rfl
    rw [e1]
    rw [List.take_zero, e1] at q
    exact read_none hb q
  · have hne : gts.take k ≠ [] := fun z => by
      have := congrArg List.length z
      rw [List.length_take, List.length_nil] at this
      omega
    have hend : AtR (lay (gts.take k) ++ x.1) (lay (gts.take k)).length x.1 := atR_all
    have hfin := lx_fin hend hb
    have hbrk : Brk x.1 := by
      by_cases hz : x.1 = []
      · rw [hz]
        exact brk_nil
      · have := brk_blank (r := []) hb hz
        rw [List.append_nil] at this
        exact this
    have hok : LayOk (gts.take k) x.1 := by
      refine layOk_idx (fun i y ey => ?_) (fun i y z ey ez => ?_) fun y _ => .inr hbrk
      · have ey2 : gts[i]? = some y := by
          rw [List.getElem?_take] at ey
          split at ey
          · exact ey
          · cases ey
        refine ⟨(hw.bl i y ey2).1, ?_⟩
        have e2 : (gts.map (·.2))[i]? = some y.2 := by rw [List.getElem?_map, ey2]; rfl
        rw [hw.sn] at e2
        exact (ht _ (List.mem_of_mem_take (List.mem_of_getElem? e2))).1
      · have up : ∀ {j : Nat} {u : GT}, (gts.take k)[j]? = some u → gts[j]? = some u := fun {j u} eu => by
          rw [List.getElem?_take] at eu
          split at eu
          · exact eu
          · cases eu
        exact hw.sp i y z (up ey) (up ez)
    obtain ⟨c, h1, h2⟩ := lay_go (c' := (.fin, (lay (gts.take k)).length + x.1.length, (lay (gts.take k)).length + x.1.length)) hne at_start hok (by rw [Nat.zero_add]; exact hfin)
    have em : (gts.take k).map (·.2) = e.toks.take k := by rw [List.map_take, lw_all hw hl]
    rw [em] at h2
    rw [List.length_append] at q
    refine ⟨c, h1, .inr (.inr (.inl ⟨e, _, _, he, hc, h2, .inl ⟨e.toks.drop k, fun z => ?_, (List.take_append_drop k e.toks).symm⟩, q⟩))⟩
    have := congrArg List.length z
    rw [List.length_drop, List.length_nil] at this
    omega
end
theorem prts_ok : ∀ {n : Nat} {e : Ex}, OkE n e → ∀ x ∈ prts n e, OkE n x
  | 0, e, h, x, hx => by
    rw [List.mem_singleton.mp hx]
    exact h
  | n + 1, e, h, x, hx => by
    rcases List.mem_append.mp (show x ∈ (kids e).flatMap (prts n) ++ [e] from hx) with hx | hx
    · obtain ⟨k, hk, hx⟩ := List.mem_flatMap.mp hx
      exact okE_succ (prts_ok (kids_ok h k hk) x hx)
    · rw [List.mem_singleton.mp hx]
      exact h

def W_law (PT : Addr) : Wt := fun ds M k => ∃ ns : List Int, ds = [.lsk (ns.map D.int)] ∧ M = [(PT, .tb)] ∧ ns.length ≤ 63 ∧ ∀ M', k (.bl true) M'
theorem law_asks (PT : Addr) (ns : List Int) (hl : ns.length ≤ 63) : W_law PT [.lsk (ns.map D.int)] [(PT, .tb)] fun d _ => d = .bl true := ⟨ns, rfl, rfl, hl, fun _ => rfl⟩
abbrev lawLevel : Nat := 30
section
variable {P : Program} {w : World} {K : PySem.W.Frag} {mg : Str → Option Value} {base : Heap}
theorem ok_law (T : Top K mg w) {PT : Addr} (B : DefB K mg base "is_name" s_is_name ["text"] PT) {f : Addr} {fd : FuncData} (F : Fun K "law" "law" s_law f fd) : FnOk P w K mg base CX0 lawLevel f fd ["script"] (Spc K (W_law PT)) := by
  obtain ⟨C_BadExpression, C_TongueError, e_BadExpression, t_TongueError, i1, i2⟩ := T.x_BadExpression
  have c_read_expression := c_read_expression (P := P) (w := w) T B e_BadExpression 4
  have c__law_refused := c__law_refused (P := P) (w := w) T B 4
  have c__law_pool := c__law_pool (P := P) (w := w) (base := base) T
  have c__law_take := c__law_take (P := P) (w := w) (base := base) T 2
  have c__law_plain := c__law_plain (P := P) (w := w) (base := base) T
  have c__law_written := c__law_written (P := P) (w := w) (base := base) T
  have c__law_layout := c__law_layout (P := P) (w := w) (base := base) T
  have c__law_below := c__law_below (P := P) (w := w) (base := base) T
  have c__law_parts := c__law_parts (P := P) (w := w) (base := base) T 4 (by omega)
  have c_operands := c_operands (P := P) (w := w) (base := base) T
  have c_parts := c_parts (P := P) (w := w) (base := base) T 4 (by omega)
  have c_write_expression := c_write_expression (P := P) (w := w) (base := base) T 4 (by omega)
  have c__law_tokens := c__law_tokens (P := P) (w := w) (base := base) T 4 (by omega)
  have c__law_expression := c__law_expression (P := P) (w := w) (base := base) T 4 (by omega)
  exact spc_ok F sc_law (fun ds M k h => by obtain ⟨ns, rfl, _⟩ := h; rfl) fun cdv A outer s H E hr => ⟨_, (pss_cons (ps_set (i := 1) sc_law.nd rfl (Or.inl rfl) (pe_c c__law_pool hr (by first | decide | omega) (by rfl) (pa_cons (pv 0) pa_nil)))
      (pss_cons (ps_set (i := 2) sc_law.nd rfl (Or.inl rfl) (pe_c c__law_expression hr (by first | decide | omega) (by rfl) (pa_cons (pv 1) (pa_cons (pe_c c__law_take hr (by first | decide | omega) (by rfl) (pa_cons (pv 1) (pa_cons pe_int pa_nil))) pa_nil))))
      (pss_cons (ps_if (pt_cmpR op_gt (pe_callB (len_K (K := K)) (by rfl) T.m_len (by decide +kernel) (pa_cons (pe_c c__law_parts hr (by first | decide | omega) (by rfl) (pa_cons (pv 2) pa_nil)) pa_nil)) pe_int (nomark _))
      (pss_one (ps_set (i := 2) sc_law.nd rfl (Or.inl rfl) (pe_c c__law_plain hr (by first | decide | omega) (by rfl) (pa_cons (pv 1) pa_nil))))
      pss_nil)
      (pss_cons (ps_set (i := 3) sc_law.nd rfl (Or.inl rfl) (pe_c c__law_tokens hr (by first | decide | omega) (by rfl) (pa_cons (pv 2) pa_nil)))
      (pss_cons (ps_set (i := 4) sc_law.nd rfl (Or.inl rfl) (pe_c c__law_layout hr (by first | decide | omega) (by rfl) (pa_cons (pv 1) (pa_cons (pv 3) pa_nil))))
      (pss_cons (ps_set (i := 5) sc_law.nd rfl (Or.inl rfl) (pe_ix (ix_K (K := K)) (pv 4) pe_int (fun _ _ => rfl)))
      (pss_cons (ps_if (pw_or (pt_cmpR (neU_K (K := K) hr) (pe_cX takes_none c_read_expression hr (by first | decide | omega) (by rfl) (pa_cons (pv 5) pa_nil)) (pv 2) (nomark _)) (pw_or1 (pt_cmpR (neU_K (K := K) hr) (pe_c c_write_expression hr (by first | decide | omega) (by rfl) (pa_cons (pv 2) pa_nil)) (pe_c c__law_written hr (by first | decide | omega) (by rfl) (pa_cons (pv 3) pa_nil)) (nomark _)))).pt
      (pss_one (ps_ret pe_bl))
      pss_nil)
      (pss_cons (ps_if (pt_cmpR (neU_K (K := K) hr) (pe_cX takes_none c_read_expression hr (by first | decide | omega) (by rfl) (pa_cons (pe_c c_write_expression hr (by first | decide | omega) (by rfl) (pa_cons (pv 2) pa_nil)) pa_nil)) (pv 2) (nomark _))
      (pss_one (ps_ret pe_bl))
      pss_nil)
      (pss_cons (ps_if (pw_or (pt_cmpR (neU_K (K := K) hr) (pe_callTy (list_K (K := K)) (by rfl) T.m_list (by decide +kernel) (pa_cons (pe_c c_operands hr (by first | decide | omega) (by rfl) (pa_cons (pv 2) pa_nil)) pa_nil)) (pe_c c__law_below hr (by first | decide | omega) (by rfl) (pa_cons (pv 2) pa_nil)) (nomark _)) (pw_or1 (pt_cmpR (neU_K (K := K) hr) (pe_callTy (list_K (K := K)) (by rfl) T.m_list (by decide +kernel) (pa_cons (pe_c c_parts hr (by first | decide | omega) (by rfl) (pa_cons (pv 2) pa_nil)) pa_nil)) (pe_c c__law_parts hr (by first | decide | omega) (by rfl) (pa_cons (pv 2) pa_nil)) (nomark _)))).pt
      (pss_one (ps_ret pe_bl))
      pss_nil)
      (pss_cons (ps_set (i := 6) sc_law.nd rfl (Or.inl rfl) (pe_ix (ix_K (K := K)) (pe_tup (pa_cons pe_str (pa_cons pe_str (pa_cons pe_str (pa_cons pe_str pa_nil))))) (pe_c c__law_take hr (by first | decide | omega) (by rfl) (pa_cons (pv 1) (pa_cons pe_int pa_nil))) (fun _ _ => rfl)))
      (pss_cons (ps_if (pt_cmpR (neU_K (K := K) hr) (pe_c c__law_refused hr (by first | decide | omega) (by rfl) (pa_cons (pe_op (add_K (K := K)) (pe_op (add_K (K := K)) (pv 5) pe_str) (pv 6)) pa_nil)) (pe_op (add_K (K := K)) (pe_callB (len_K (K := K)) (by rfl) T.m_len (by decide +kernel) (pa_cons (pv 5) pa_nil)) pe_int) (nomark _))
      (pss_one (ps_ret pe_bl))
      pss_nil)
      (pss_cons (ps_if (pw_or (pt_cmpR (neU_K (K := K) hr) (pe_c c__law_refused hr (by first | decide | omega) (by rfl) (pa_cons pe_str pa_nil)) pe_int (nomark _)) (pw_or1 (pt_cmpR (neU_K (K := K) hr) (pe_c c__law_refused hr (by first | decide | omega) (by rfl) (pa_cons pe_str pa_nil)) pe_int (nomark _)))).pt
      (pss_one (ps_ret pe_bl))
      pss_nil)
      (pss_cons (ps_set (i := 7) sc_law.nd rfl (Or.inl rfl) (pe_c c__law_take hr (by first | decide | omega) (by rfl) (pa_cons (pv 1) (pa_cons (pe_callB (len_K (K := K)) (by rfl) T.m_len (by decide +kernel) (pa_cons (pv 3) pa_nil)) pa_nil))))
      (pss_cons (ps_set (i := 8) sc_law.nd rfl (Or.inl rfl) (pe_slice (sl_K (K := K)) (pv 5) po_none (po_some (pe_ix (ix_K (K := K)) (pe_ix (ix_K (K := K)) (pv 4) pe_int (fun _ _ => rfl)) (pv 7) (fun _ _ => rfl)))))
      (pss_one (ps_ret (pe_cmpR (eqU_K (K := K) hr) (pe_c c__law_refused hr (by first | decide | omega) (by rfl) (pa_cons (pv 8) pa_nil)) (pe_callB (len_K (K := K)) (by rfl) T.m_len (by decide +kernel) (pa_cons (pv 8) pa_nil)) (nomark _)))))))))))))))))), fun ds M kk hw => by
    obtain ⟨ns, rfl, rfl, hl, q⟩ := hw
    have hsz := sizeLine_eq
    refine as_start (δ' := [some (.lsk (ns.map D.int)), none, none, none, none, none, none, none, none]) rfl ?_
    walk_at "tg"
    refine ⟨[], [_], fun d M => ∃ (a : Addr) (p : Pool), p.Ok ∧ d = .ref a ∧ M = [(a, .lst p.d)], rfl, ⟨ns, rfl, rfl, hl, fun a p ok => ⟨a, p, ok, rfl, rfl⟩⟩, ?_⟩
    rintro _ _ ⟨a, p0, ok0, rfl, rfl⟩
    walk_at "tg"
    walk_at "take"
    rintro _ _ ⟨r1, p1, ok1, k0, k1, rfl, rfl⟩
    obtain ⟨dep, rfl⟩ : ∃ dep : Nat, r1 = (dep : Int) := ⟨r1.toNat, by omega⟩
    walk_at "tg"
    refine ⟨[_], [_], fun d M => ∃ (e : Ex) (p' : Pool), p'.Ok ∧ OkE 4 e ∧ d = e.d ∧ M = [(a, .lst p'.d)], rfl, ⟨a, p1, dep, by omega, rfl, rfl, ok1, fun e p' h1 h2 => ⟨e, p', h1, h2, rfl, rfl⟩⟩, ?_⟩
    rintro _ _ ⟨e0, p2, ok2, he0, rfl, rfl⟩
    refine as_cut (fun δ' M' => ∃ (e : Ex) (p' : Pool), p'.Ok ∧ OkE 4 e ∧ e.cnt ≤ 60 ∧ δ' = [some (.lsk (ns.map D.int)), some (.ref a), some e.d, none, none, none, none, none, none] ∧ M' = [(a, .lst p'.d), (PT, .tb)]) ?_ ?_
    · walk_at "tg"
      refine ⟨[], _, fun d M => d = .lst ((prts 4 e0).map Ex.d) ∧ M = [], rfl, ⟨e0, rfl, rfl, he0, rfl, rfl⟩, ?_⟩
      rintro _ _ ⟨rfl, rfl⟩
      walk_at "tg"
      refine dcase (fun c => ?_) (fun c => ?_)
      · walk_at "tg"
        refine ⟨[_], [_], fun d M => ∃ (e : Ex) (p' : Pool), p'.Ok ∧ OkE 0 e ∧ d = e.d ∧ M = [(a, .lst p'.d)], rfl, ⟨a, p2, rfl, rfl, ok2, fun e p' h1 h2 => ⟨e, p', h1, h2, rfl, rfl⟩⟩, ?_⟩
        rintro _ _ ⟨e, p3, ok3, he, rfl, rfl⟩
        refine ⟨e, p3, ok3, okE_zero he 4, ?_, rfl, rfl⟩
        have := prts_cnt he
        have h1 : (prts 0 e).length = 1 := rfl
        omega
      · walk_at "tg"
        refine ⟨e0, p2, ok2, he0, ?_, rfl, rfl⟩
        have := prts_cnt he0
        rw [List.length_map] at c
        omega
    · rintro δ' M' ⟨e, p3, ok3, he, hcnt, rfl, rfl⟩
      obtain ⟨tg1, tg2⟩ := toks_good he
      have tk1 : ∀ t ∈ e.toks, TkOk t := fun t ht => (tg1 t ht).1
      have tk2 : ∀ t ∈ e.toks, (tkS t).length ≤ 200 := fun t ht => Nat.le_trans (tkS_len (tg1 t ht).1 (tg1 t ht).2) (by decide)
      have tk3 : e.toks.length ≤ 360 := by omega
      have heq : ∀ {d : D}, Pln d → eqD d d = true := fun h => eqv_self h
      refine as_seq ?_
      walk_at "tg"
      refine ⟨[], _, fun d M => d = .lst (tkD e.toks) ∧ M = [], rfl, ⟨e, rfl, rfl, he, rfl, rfl⟩, ?_⟩
      rintro _ _ ⟨rfl, rfl⟩
      refine as_seq ?_
      walk_at "tg"
      refine ⟨[_], [_], fun d M => ∃ (gts : List GT) (g : List Nat) (p' : Pool), p'.Ok ∧ Lw e.toks gts g ∧ gts.length = e.toks.length ∧ d = .tup [.str (tx (lay gts ++ g)), .lst (plc gts)] ∧ M = [(a, .lst p'.d)], rfl, ⟨a, p3, e.toks, rfl, rfl, ok3, tk1, tk2, by omega, fun gts g p' h1 h2 h3 => ⟨gts, g, p', h1, h2, h3, rfl, rfl⟩⟩, ?_⟩
      rintro _ _ ⟨gts, g, p4, ok4, hw, hgl, rfl, rfl⟩
      obtain rfl : g = [] := hw.en hgl (lw_ne he hgl)
      rw [List.append_nil]
      have hlen := hw.lay_len tk2
      refine as_seq ?_
      walk_at "tg"
      have eqb := ex_Eqb (n := 4) (by omega) he
      show AS K _ _ _ _
      refine as_perm (M' := [(PT, .tb), (a, .lst p4.d)]) (List.Perm.swap _ _ _) ?_
      obtain ⟨c1, hx1, hE1⟩ := read_lay (Kf := fun d => ∀ o : Addr × MO, d = e.d ∧ ∃ o' : Addr × MO, [o, (PT, MO.tb)] = [o', (PT, MO.tb)]) (Xf := fun f => ∀ M', TbIn PT M' → False) he hcnt hw hgl (fun o => ⟨rfl, o, rfl⟩)
      refine as_seq ?_
      walk_at "tg"
      refine ae_callN ?_
      walk_at "tg"
      refine ⟨[_], [_], fun d M => d = e.d ∧ ∃ o : Addr × MO, M = [o, (PT, .tb)], rfl, ⟨lay gts, c1, rfl, rfl, by omega, by omega, hx1, hE1⟩, ?_⟩
      rintro _ _ ⟨rfl, o1, rfl⟩
      walk_at "tg"
      refine ar_neT eqb eqb ?_
      rw [heq eqb.1, Bool.not_true]
      walk_at "tg"
      refine ⟨[], _, fun d M => d = .str (tx (wS e)) ∧ M = [], rfl, ⟨e, rfl, rfl, he, rfl, rfl⟩, ?_⟩
      rintro _ _ ⟨rfl, rfl⟩
      walk_at "tg"
      refine ⟨[], _, fun d M => d = .str (tx (lay (wgts e.toks e.toks.length))) ∧ M = [], rfl, ⟨e.toks, rfl, rfl, tk1, tk2, by omega, rfl, rfl⟩, ?_⟩
      rintro _ _ ⟨rfl, rfl⟩
      rw [wS_lay he]
      refine ar_neS (b := true) (by simp [sclD]) ?_
      rw [Bool.not_true]
      walk_at "tg"
      show AS K _ _ _ _
      refine as_lose (M' := [(PT, .tb), (a, .lst p4.d)]) (J := [o1]) (List.perm_append_comm (l₁ := [o1]) (l₂ := [_, _])) ?_
      obtain ⟨c2, hx2, hE2⟩ := read_wr (n := 4) (Kf := fun d => ∀ o : Addr × MO, d = e.d ∧ ∃ o' : Addr × MO, [o, (PT, MO.tb)] = [o', (PT, MO.tb)]) (Xf := fun f => ∀ M', TbIn PT M' → False) he hcnt (fun o => ⟨rfl, o, rfl⟩)
      have hwl : (wS e).length ≤ 201 * e.toks.length := by
        rw [wS_lay he]
        exact wlay_len tk2 _ (Nat.le_refl _)
      refine as_seq ?_
      walk_at "tg"
      refine ae_callN ?_
      walk_at "tg"
      refine ⟨[], _, fun d M => d = .str (tx (wS e)) ∧ M = [], rfl, ⟨e, rfl, rfl, he, rfl, rfl⟩, ?_⟩
      rintro _ _ ⟨rfl, rfl⟩
      walk_at "tg"
      refine ⟨[_], [_], fun d M => d = e.d ∧ ∃ o : Addr × MO, M = [o, (PT, .tb)], rfl, ⟨wS e, c2, rfl, rfl, by omega, by omega, hx2, hE2⟩, ?_⟩
      rintro _ _ ⟨rfl, o2, rfl⟩
      walk_at "tg"
      refine ar_neT eqb eqb ?_
      rw [heq eqb.1, Bool.not_true]
      walk_at "tg"
      show AS K _ _ _ _
      refine as_lose (M' := [(a, .lst p4.d), (PT, .tb)]) (J := [o2]) ((List.perm_append_comm (l₁ := [o2]) (l₂ := [_, _])).trans (List.Perm.swap _ _ _)) ?_
      have eqk : Eqb (.lst ((kids e).map Ex.d)) := exs_Eqb (n := 4) (by omega) fun x hx => okE_succ (kids_ok (n := 3) he x hx)
      have eqp : Eqb (.lst ((prts 4 e).map Ex.d)) := exs_Eqb (n := 4) (by omega) (prts_ok he)
      refine as_seq ?_
      walk_at "tg"
      refine ⟨[], _, fun d M => d = .tup ((kids e).map Ex.d) ∧ M = [], rfl, ⟨4, e, rfl, rfl, he, rfl, rfl⟩, ?_⟩
      rintro _ _ ⟨rfl, rfl⟩
      walk_at "tg"
      refine ac_list (.inr (.inl rfl)) ?_
      walk_at "tg"
      refine ⟨[], _, fun d M => d = .lst ((kids e).map Ex.d) ∧ M = [], rfl, ⟨4, e, rfl, rfl, he, rfl, rfl⟩, ?_⟩
      rintro _ _ ⟨rfl, rfl⟩
      refine ar_neT eqk eqk ?_
      rw [heq eqk.1, Bool.not_true]
      walk_at "tg"
      refine ⟨[], _, fun d M => d = .lst ((prts 4 e).map Ex.d) ∧ M = [], rfl, ⟨e, rfl, rfl, he, rfl, rfl⟩, ?_⟩
      rintro _ _ ⟨rfl, rfl⟩
      walk_at "tg"
      refine ac_list (.inl rfl) ?_
      walk_at "tg"
      refine ⟨[], _, fun d M => d = .lst ((prts 4 e).map Ex.d) ∧ M = [], rfl, ⟨e, rfl, rfl, he, rfl, rfl⟩, ?_⟩
      rintro _ _ ⟨rfl, rfl⟩
      refine ar_neT eqp eqp ?_
      rw [heq eqp.1, Bool.not_true]
      walk_at "tg"
      walk_at "take"
      rintro _ _ ⟨r4, p5, ok5, j0, j1, rfl, rfl⟩
      obtain ⟨st, hst, hat⟩ : ∃ st : List Nat, st ∈ strg ∧ atI [D.str (Str.ofString "$"), D.str (Str.ofString "zzz"), D.str (Str.ofString ")"), D.str (Str.ofString "2")] r4 = some (.str (tx st)) := by
        have h : r4 = 0 ∨ r4 = 1 ∨ r4 = 2 ∨ r4 = 3 := by omega
        rcases h with rfl | rfl | rfl | rfl
        · exact ⟨[36], by decide, rfl⟩
        · exact ⟨[122, 122, 122], by decide, rfl⟩
        · exact ⟨[41], by decide, rfl⟩
        · exact ⟨[50], by decide, rfl⟩
      have hstl : st.length ≤ 3 := by
        have all : ∀ s ∈ strg, s.length ≤ 3 := by decide
        exact all st hst
      refine aix_T hat ?_
      show AS K _ _ _ _
      refine as_perm (M' := [(PT, .tb), (a, .lst p5.d)]) (List.Perm.swap _ _ _) ?_
      have hcs : lay gts ++ [32] ++ st = lay gts ++ (32 :: st) := by simp
      have hcl : (lay gts ++ (32 :: st)).length = (lay gts).length + 1 + st.length := by simp; omega
      obtain ⟨c3, hx3, hE3⟩ := read_more (n := 4) (Kf := fun _ => False) (Xf := fun g => g = (lay gts).length + 1) hst he hcnt hw hgl rfl
      refine as_seq ?_
      walk_at "tg"
      rw [sg_sp]
      refine au_str (by rw [List.length_singleton]; omega) ?_
      walk_at "tg"
      refine au_str (by rw [List.length_append, List.length_singleton]; omega) ?_
      rw [hcs]
      walk_at "tg"
      refine ⟨[_], [_], fun d M => d = .int (((lay gts).length + 1 : Nat) : Int) ∧ TbIn PT M, rfl, ⟨lay gts ++ (32 :: st), c3, _, rfl, rfl, by omega, by omega, hx3, hE3, fun M' hm => ⟨rfl, hm⟩⟩, ?_⟩
      rintro _ M1 ⟨rfl, hm1⟩
      walk_at "tg"
      refine ar_neS (b := true) (by simp only [sclD]; rw [decide_eq_true (by omega)]) ?_
      rw [Bool.not_true]
      walk_at "tg"
      show AS K _ _ _ _
      refine as_tb hm1 ?_
      obtain ⟨c4, hx4, hE4⟩ := read_none (n := 4) (b := []) (Kf := fun _ => False) (Xf := fun g => g = 0) (fun c hc => by cases hc) rfl
      obtain ⟨c5, hx5, hE5⟩ := read_none (n := 4) (b := [32]) (Kf := fun _ => False) (Xf := fun g => g = 1) (fun c hc => .inl (List.mem_singleton.mp hc)) rfl
      refine as_seq ?_
      walk_at "tg"
      rw [sg_none]
      refine ⟨[_], [_], fun d M => d = .int ((0 : Nat) : Int) ∧ TbIn PT M, rfl, ⟨[], c4, _, rfl, rfl, by simp, by omega, hx4, hE4, fun M' hm => ⟨rfl, hm⟩⟩, ?_⟩
      rintro _ M2 ⟨rfl, hm2⟩
      refine ae_int ?_
      refine ar_neS (b := true) rfl ?_
      rw [Bool.not_true]
      refine ⟨false, rfl, fun _ => ?_, fun z => (by cases z)⟩
      refine at_test (ae_op (ae_tb hm2 ?_))
      walk_at "tg"
      refine ⟨[_], [_], fun d M => d = .int ((1 : Nat) : Int) ∧ TbIn PT M, rfl, ⟨[32], c5, _, rfl, rfl, by simp, by omega, hx5, hE5, fun M' hm => ⟨rfl, hm⟩⟩, ?_⟩
      rintro _ M3 ⟨rfl, hm3⟩
      refine ae_int ?_
      refine ar_neS (b := true) rfl ?_
      rw [Bool.not_true]
      refine ⟨false, rfl, fun z => (by cases z), fun _ => ?_⟩
      refine as_next ?_
      show AS K _ _ _ _
      refine as_tb hm3 ?_
      refine as_perm (M' := [(a, .lst p5.d), (PT, .tb)]) (List.Perm.swap _ _ _) ?_
      have hpos : 0 < e.toks.length := List.length_pos_iff.mpr (toks_ne he)
      refine as_seq ?_
      walk_at "tg"
      rw [List.length_map]
      walk_at "take"
      rintro _ _ ⟨r5, p6, ok6, l0, l1, rfl, rfl⟩
      obtain ⟨kk2, rfl⟩ : ∃ k : Nat, r5 = (k : Int) := ⟨r5.toNat, by omega⟩
      have hk : kk2 < gts.length := by omega
      obtain ⟨x, hx⟩ : ∃ x, gts[kk2]? = some x := ⟨gts[kk2], List.getElem?_eq_getElem hk⟩
      have hxl : (gts.getD kk2 ([], .op)) = x := by rw [List.getD_eq_getElem?_getD, hx]; rfl
      have hplc : (plc gts)[kk2]? = some (.int (((lay (gts.take kk2)).length + x.1.length : Nat) : Int)) := by
        unfold plc
        rw [List.getElem?_map, List.getElem?_range hk]
        show some (D.int (((lay (gts.take kk2)).length + (gts.getD kk2 ([], .op)).1.length : Nat) : Int)) = _
        rw [hxl]
      have hlay : lay gts = (lay (gts.take kk2) ++ x.1) ++ (tkS x.2 ++ lay (gts.drop (kk2 + 1))) := by
        have e1 : gts = gts.take kk2 ++ (x :: gts.drop (kk2 + 1)) := by
          have h1 := List.getElem?_eq_some_iff.mp hx
          rw [← h1.2, List.getElem_cons_drop, List.take_append_drop]
        have e2 : lay gts = lay (gts.take kk2 ++ (x :: gts.drop (kk2 + 1))) := congrArg lay e1
        rw [e2, lay_app]
        show lay (gts.take kk2) ++ (x.1 ++ (tkS x.2 ++ lay (gts.drop (kk2 + 1)))) = _
        simp
      obtain ⟨c6, hx6, hE6⟩ := read_cut (n := 4) (Kf := fun _ => False) (Xf := fun g => g = (lay (gts.take kk2) ++ x.1).length) he hcnt hw hgl hx rfl
      have hcutl : (lay (gts.take kk2) ++ x.1).length ≤ (lay gts).length := by rw [hlay, List.length_append (as := lay (gts.take kk2) ++ x.1)]; omega
      show AS K _ _ _ _
      refine as_perm (M' := [(PT, .tb), (a, .lst p6.d)]) (List.Perm.swap _ _ _) ?_
      refine as_seq ?_
      walk_at "tg"
      refine aix_L (atI_nat hplc) ?_
      refine ⟨_, rfl, asl_str (by omega) ?_⟩
      have ecut : Tg.cutD (lay gts) none (some (((lay (gts.take kk2)).length + x.1.length : Nat) : Int)) = lay (gts.take kk2) ++ x.1 := by
        unfold Tg.cutD
        have h0 : HT.sIx (lay gts).length 0 none = 0 := rfl
        rw [HT.sIx_nat, h0, List.drop_zero, Nat.sub_zero, Nat.min_eq_left (by rw [← List.length_append]; exact hcutl), ← List.length_append, hlay, List.take_left]
      rw [ecut]
      show AS K _ _ _ _
      walk_at "tg"
      refine ⟨[_], [_], fun d M => d = .int (((lay (gts.take kk2) ++ x.1).length : Nat) : Int) ∧ TbIn PT M, rfl, ⟨lay (gts.take kk2) ++ x.1, c6, _, rfl, rfl, by omega, by omega, hx6, hE6, fun M' hm => ⟨rfl, hm⟩⟩, ?_⟩
      rintro _ M4 ⟨rfl, hm4⟩
      walk_at "tg"
      refine ar_eqS (b := true) (by simp [sclD]) ?_
      exact q _⟩
end

theorem all_mk {l : PySem.W.OpenLaw} {w : World} {K : PySem.W.Frag} {h : Heap} {mg : Str → Option Value} {tc tP fa f0 f1 f2 f3 f4 f5 f6 f7 f8 f9 f10 f11 f12 f13 f14 f15 f16 f17 f18 f19 f20 f21 f22 f23 f24 f25 f26 : Addr} (X : K.In h) (G : h.Ns mainGlobals mg) (hfa : mg "law" = some (.ref fa))
    {od0 an0 od1 an1 od2 an2 od3 an3 od4 an4 od5 an5 od6 an6 od7 an7 od8 an8 od9 an9 od10 an10 od11 an11 od12 an12 od13 an13 od14 an14 od15 an15 od16 an16 od17 an17 od18 an18 od19 an19 od20 an20 od21 an21 od22 an22 od23 an23 od24 an24 od25 an25 od26 an26 : Option Addr} {sl0 sl1 sl2 sl3 sl4 sl5 sl6 sl7 sl8 sl9 sl10 sl11 sl12 sl13 sl14 sl15 sl16 sl17 sl18 sl19 sl20 sl21 sl22 sl23 sl24 sl25 sl26 : Array (Option Value)} {oc0 kV0 dc0 pm0 ct0 oc1 kV1 dc1 pm1 cd1 ct1 oc2 kV2 dc2 pm2 cd2 ct2 oc3 kV3 dc3 pm3 cd3 ct3 oc4 kV4 dc4 pm4 cd4 ct4 oc5 kV5 dc5 pm5 cd5 ct5 oc6 kV6 dc6 pm6 cd6 ct6 oc7 kV7 dc7 pm7 cd7 ct7 oc8 kV8 dc8 pm8 cd8 ct8 oc9 kV9 dc9 pm9 cd9 ct9 oc10 kV10 dc10 pm10 cd10 ct10 oc11 kV11 dc11 pm11 cd11 ct11 oc12 kV12 dc12 pm12 cd12 ct12 oc13 kV13 dc13 pm13 cd13 ct13 oc14 kV14 dc14 pm14 cd14 ct14 oc15 kV15 dc15 pm15 cd15 ct15 oc16 kV16 dc16 pm16 cd16 ct16 oc17 kV17 dc17 pm17 cd17 ct17 oc18 kV18 dc18 pm18 cd18 ct18 oc19 kV19 dc19 pm19 cd19 ct19 oc20 kV20 dc20 pm20 cd20 ct20 oc21 kV21 dc21 pm21 cd21 ct21 oc22 kV22 dc22 pm22 cd22 ct22 oc23 kV23 dc23 pm23 cd23 ct23 oc24 kV24 dc24 pm24 cd24 ct24 oc25 kV25 dc25 pm25 cd25 ct25 oc26 kV26 dc26 pm26 cd26 ct26 : Value}
    {CT : Addr} {C0 N0 fI0 : Addr} {nm0 q0 : Str} {bs0 sub0 : List Value} {sn0 : List Str} {ab0 : Bool} {col0 : Option Bool} {dd0 odI0 anI0 : Option Addr} {jj0_0 jj1_0 jj2_0 jj3_0 jj5_0 : Option Value} {slI0 : Array (Option Value)} {ocI0 kVI0 dcI0 pmI0 cdI0 ctI0 : Value}
    (a0 : PySem.W.nsIn K mainGlobals "is_name" = some (some (.ref f0))) (l0 : K.lookup f0 = some ⟨oc0, od0, .func (PySem.W.fnOf "is_name" "is_name" (defArgs s_is_name) (defBody s_is_name) (defScope s_is_name) .none kV0 dc0 pm0 an0 (.ref tc) ct0), sl0⟩) (c0 : PySem.W.codeIn K (.ref tc) "is_name" = true) (k0 : PySem.W.keepIn K (.ref f0) = true)
    (a1 : PySem.W.nsIn K mainGlobals "expression_token" = some (some (.ref f1))) (l1 : K.lookup f1 = some ⟨oc1, od1, .func (PySem.W.fnOf "expression_token" "expression_token" (defArgs s_expression_token) (defBody s_expression_token) (defScope s_expression_token) .none kV1 dc1 pm1 an1 cd1 ct1), sl1⟩) (c1 : PySem.W.codeIn K cd1 "expression_token" = true) (k1 : PySem.W.keepIn K (.ref f1) = true)
    (a2 : PySem.W.nsIn K mainGlobals "row_stop" = some (some (.ref f2))) (l2 : K.lookup f2 = some ⟨oc2, od2, .func (PySem.W.fnOf "row_stop" "row_stop" (defArgs s_row_stop) (defBody s_row_stop) (defScope s_row_stop) .none kV2 dc2 pm2 an2 cd2 ct2), sl2⟩) (c2 : PySem.W.codeIn K cd2 "row_stop" = true) (k2 : PySem.W.keepIn K (.ref f2) = true)
    (a3 : PySem.W.nsIn K mainGlobals "integer_token" = some (some (.ref f3))) (l3 : K.lookup f3 = some ⟨oc3, od3, .func (PySem.W.fnOf "integer_token" "integer_token" (defArgs s_integer_token) (defBody s_integer_token) (defScope s_integer_token) .none kV3 dc3 pm3 an3 cd3 ct3), sl3⟩) (c3 : PySem.W.codeIn K cd3 "integer_token" = true) (k3 : PySem.W.keepIn K (.ref f3) = true)
    (a4 : PySem.W.nsIn K mainGlobals "text_token" = some (some (.ref f4))) (l4 : K.lookup f4 = some ⟨oc4, od4, .func (PySem.W.fnOf "text_token" "text_token" (defArgs s_text_token) (defBody s_text_token) (defScope s_text_token) .none kV4 dc4 pm4 an4 cd4 ct4), sl4⟩) (c4 : PySem.W.codeIn K cd4 "text_token" = true) (k4 : PySem.W.keepIn K (.ref f4) = true)
    (a5 : PySem.W.nsIn K mainGlobals "read_expression" = some (some (.ref f5))) (l5 : K.lookup f5 = some ⟨oc5, od5, .func (PySem.W.fnOf "read_expression" "read_expression" (defArgs s_read_expression) (defBody s_read_expression) (defScope s_read_expression) .none kV5 dc5 pm5 an5 cd5 ct5), sl5⟩) (c5 : PySem.W.codeIn K cd5 "read_expression" = true) (k5 : PySem.W.keepIn K (.ref f5) = true)
    (a6 : PySem.W.nsIn K mainGlobals "write_expression" = some (some (.ref f6))) (l6 : K.lookup f6 = some ⟨oc6, od6, .func (PySem.W.fnOf "write_expression" "write_expression" (defArgs s_write_expression) (defBody s_write_expression) (defScope s_write_expression) .none kV6 dc6 pm6 an6 cd6 ct6), sl6⟩) (c6 : PySem.W.codeIn K cd6 "write_expression" = true) (k6 : PySem.W.keepIn K (.ref f6) = true)
    (a7 : PySem.W.nsIn K mainGlobals "quoted" = some (some (.ref f7))) (l7 : K.lookup f7 = some ⟨oc7, od7, .func (PySem.W.fnOf "quoted" "quoted" (defArgs s_quoted) (defBody s_quoted) (defScope s_quoted) .none kV7 dc7 pm7 an7 cd7 ct7), sl7⟩) (c7 : PySem.W.codeIn K cd7 "quoted" = true) (k7 : PySem.W.keepIn K (.ref f7) = true)
    (a8 : PySem.W.nsIn K mainGlobals "operands" = some (some (.ref f8))) (l8 : K.lookup f8 = some ⟨oc8, od8, .func (PySem.W.fnOf "operands" "operands" (defArgs s_operands) (defBody s_operands) (defScope s_operands) .none kV8 dc8 pm8 an8 cd8 ct8), sl8⟩) (c8 : PySem.W.codeIn K cd8 "operands" = true) (k8 : PySem.W.keepIn K (.ref f8) = true)
    (a9 : PySem.W.nsIn K mainGlobals "parts" = some (some (.ref f9))) (l9 : K.lookup f9 = some ⟨oc9, od9, .func (PySem.W.fnOf "parts" "parts" (defArgs s_parts) (defBody s_parts) (defScope s_parts) .none kV9 dc9 pm9 an9 cd9 ct9), sl9⟩) (c9 : PySem.W.codeIn K cd9 "parts" = true) (k9 : PySem.W.keepIn K (.ref f9) = true)
    (a10 : PySem.W.nsIn K mainGlobals "_law_pool" = some (some (.ref f10))) (l10 : K.lookup f10 = some ⟨oc10, od10, .func (PySem.W.fnOf "_law_pool" "_law_pool" (defArgs s__law_pool) (defBody s__law_pool) (defScope s__law_pool) .none kV10 dc10 pm10 an10 cd10 ct10), sl10⟩) (c10 : PySem.W.codeIn K cd10 "_law_pool" = true) (k10 : PySem.W.keepIn K (.ref f10) = true)
    (a11 : PySem.W.nsIn K mainGlobals "_law_take" = some (some (.ref f11))) (l11 : K.lookup f11 = some ⟨oc11, od11, .func (PySem.W.fnOf "_law_take" "_law_take" (defArgs s__law_take) (defBody s__law_take) (defScope s__law_take) .none kV11 dc11 pm11 an11 cd11 ct11), sl11⟩) (c11 : PySem.W.codeIn K cd11 "_law_take" = true) (k11 : PySem.W.keepIn K (.ref f11) = true)
    (a12 : PySem.W.nsIn K mainGlobals "_law_forms" = some (some (.ref f12))) (l12 : K.lookup f12 = some ⟨oc12, od12, .func (PySem.W.fnOf "_law_forms" "_law_forms" (defArgs s__law_forms) (defBody s__law_forms) (defScope s__law_forms) .none kV12 dc12 pm12 an12 cd12 ct12), sl12⟩) (c12 : PySem.W.codeIn K cd12 "_law_forms" = true) (k12 : PySem.W.keepIn K (.ref f12) = true)
    (a13 : PySem.W.nsIn K mainGlobals "_law_name" = some (some (.ref f13))) (l13 : K.lookup f13 = some ⟨oc13, od13, .func (PySem.W.fnOf "_law_name" "_law_name" (defArgs s__law_name) (defBody s__law_name) (defScope s__law_name) .none kV13 dc13 pm13 an13 cd13 ct13), sl13⟩) (c13 : PySem.W.codeIn K cd13 "_law_name" = true) (k13 : PySem.W.keepIn K (.ref f13) = true)
    (a14 : PySem.W.nsIn K mainGlobals "_law_text" = some (some (.ref f14))) (l14 : K.lookup f14 = some ⟨oc14, od14, .func (PySem.W.fnOf "_law_text" "_law_text" (defArgs s__law_text) (defBody s__law_text) (defScope s__law_text) .none kV14 dc14 pm14 an14 cd14 ct14), sl14⟩) (c14 : PySem.W.codeIn K cd14 "_law_text" = true) (k14 : PySem.W.keepIn K (.ref f14) = true)
    (a15 : PySem.W.nsIn K mainGlobals "_law_integer" = some (some (.ref f15))) (l15 : K.lookup f15 = some ⟨oc15, od15, .func (PySem.W.fnOf "_law_integer" "_law_integer" (defArgs s__law_integer) (defBody s__law_integer) (defScope s__law_integer) .none kV15 dc15 pm15 an15 cd15 ct15), sl15⟩) (c15 : PySem.W.codeIn K cd15 "_law_integer" = true) (k15 : PySem.W.keepIn K (.ref f15) = true)
    (a16 : PySem.W.nsIn K mainGlobals "_law_plain" = some (some (.ref f16))) (l16 : K.lookup f16 = some ⟨oc16, od16, .func (PySem.W.fnOf "_law_plain" "_law_plain" (defArgs s__law_plain) (defBody s__law_plain) (defScope s__law_plain) .none kV16 dc16 pm16 an16 cd16 ct16), sl16⟩) (c16 : PySem.W.codeIn K cd16 "_law_plain" = true) (k16 : PySem.W.keepIn K (.ref f16) = true)
    (a17 : PySem.W.nsIn K mainGlobals "_law_expression" = some (some (.ref f17))) (l17 : K.lookup f17 = some ⟨oc17, od17, .func (PySem.W.fnOf "_law_expression" "_law_expression" (defArgs s__law_expression) (defBody s__law_expression) (defScope s__law_expression) .none kV17 dc17 pm17 an17 cd17 ct17), sl17⟩) (c17 : PySem.W.codeIn K cd17 "_law_expression" = true) (k17 : PySem.W.keepIn K (.ref f17) = true)
    (a18 : PySem.W.nsIn K mainGlobals "_law_below" = some (some (.ref f18))) (l18 : K.lookup f18 = some ⟨oc18, od18, .func (PySem.W.fnOf "_law_below" "_law_below" (defArgs s__law_below) (defBody s__law_below) (defScope s__law_below) .none kV18 dc18 pm18 an18 cd18 ct18), sl18⟩) (c18 : PySem.W.codeIn K cd18 "_law_below" = true) (k18 : PySem.W.keepIn K (.ref f18) = true)
    (a19 : PySem.W.nsIn K mainGlobals "_law_parts" = some (some (.ref f19))) (l19 : K.lookup f19 = some ⟨oc19, od19, .func (PySem.W.fnOf "_law_parts" "_law_parts" (defArgs s__law_parts) (defBody s__law_parts) (defScope s__law_parts) .none kV19 dc19 pm19 an19 cd19 ct19), sl19⟩) (c19 : PySem.W.codeIn K cd19 "_law_parts" = true) (k19 : PySem.W.keepIn K (.ref f19) = true)
    (a20 : PySem.W.nsIn K mainGlobals "_law_quoted" = some (some (.ref f20))) (l20 : K.lookup f20 = some ⟨oc20, od20, .func (PySem.W.fnOf "_law_quoted" "_law_quoted" (defArgs s__law_quoted) (defBody s__law_quoted) (defScope s__law_quoted) .none kV20 dc20 pm20 an20 cd20 ct20), sl20⟩) (c20 : PySem.W.codeIn K cd20 "_law_quoted" = true) (k20 : PySem.W.keepIn K (.ref f20) = true)
    (a21 : PySem.W.nsIn K mainGlobals "_law_tokens" = some (some (.ref f21))) (l21 : K.lookup f21 = some ⟨oc21, od21, .func (PySem.W.fnOf "_law_tokens" "_law_tokens" (defArgs s__law_tokens) (defBody s__law_tokens) (defScope s__law_tokens) .none kV21 dc21 pm21 an21 cd21 ct21), sl21⟩) (c21 : PySem.W.codeIn K cd21 "_law_tokens" = true) (k21 : PySem.W.keepIn K (.ref f21) = true)
    (a22 : PySem.W.nsIn K mainGlobals "_law_written" = some (some (.ref f22))) (l22 : K.lookup f22 = some ⟨oc22, od22, .func (PySem.W.fnOf "_law_written" "_law_written" (defArgs s__law_written) (defBody s__law_written) (defScope s__law_written) .none kV22 dc22 pm22 an22 cd22 ct22), sl22⟩) (c22 : PySem.W.codeIn K cd22 "_law_written" = true) (k22 : PySem.W.keepIn K (.ref f22) = true)
    (a23 : PySem.W.nsIn K mainGlobals "_law_gap" = some (some (.ref f23))) (l23 : K.lookup f23 = some ⟨oc23, od23, .func (PySem.W.fnOf "_law_gap" "_law_gap" (defArgs s__law_gap) (defBody s__law_gap) (defScope s__law_gap) .none kV23 dc23 pm23 an23 cd23 ct23), sl23⟩) (c23 : PySem.W.codeIn K cd23 "_law_gap" = true) (k23 : PySem.W.keepIn K (.ref f23) = true)
    (a24 : PySem.W.nsIn K mainGlobals "_law_layout" = some (some (.ref f24))) (l24 : K.lookup f24 = some ⟨oc24, od24, .func (PySem.W.fnOf "_law_layout" "_law_layout" (defArgs s__law_layout) (defBody s__law_layout) (defScope s__law_layout) .none kV24 dc24 pm24 an24 cd24 ct24), sl24⟩) (c24 : PySem.W.codeIn K cd24 "_law_layout" = true) (k24 : PySem.W.keepIn K (.ref f24) = true)
    (a25 : PySem.W.nsIn K mainGlobals "_law_refused" = some (some (.ref f25))) (l25 : K.lookup f25 = some ⟨oc25, od25, .func (PySem.W.fnOf "_law_refused" "_law_refused" (defArgs s__law_refused) (defBody s__law_refused) (defScope s__law_refused) .none kV25 dc25 pm25 an25 cd25 ct25), sl25⟩) (c25 : PySem.W.codeIn K cd25 "_law_refused" = true) (k25 : PySem.W.keepIn K (.ref f25) = true)
    (a26 : PySem.W.nsIn K mainGlobals "law" = some (some (.ref f26))) (l26 : K.lookup f26 = some ⟨oc26, od26, .func (PySem.W.fnOf "law" "law" (defArgs s_law) (defBody s_law) (defScope s_law) .none kV26 dc26 pm26 an26 cd26 ct26), sl26⟩) (c26 : PySem.W.codeIn K cd26 "law" = true) (k26 : PySem.W.keepIn K (.ref f26) = true)
    (z0 : PySem.W.nsIn K mainGlobals "ValueError" = some none)    (z1 : PySem.W.nsIn K mainGlobals "all" = some none)    (z2 : PySem.W.nsIn K mainGlobals "int" = some none)    (z3 : PySem.W.nsIn K mainGlobals "isinstance" = some none)    (z4 : PySem.W.nsIn K mainGlobals "len" = some none)    (z5 : PySem.W.nsIn K mainGlobals "list" = some none)    (z6 : PySem.W.nsIn K mainGlobals "range" = some none)    (z7 : PySem.W.nsIn K mainGlobals "sorted" = some none)    (z8 : PySem.W.nsIn K mainGlobals "str" = some none)    (z9 : PySem.W.nsIn K mainGlobals "tuple" = some none)    (z10 : PySem.W.nsIn K mainGlobals "zip" = some none)    (zdig : PySem.W.nsIn K cStatics "sys.int_max_str_digits" = some none)
    {zs0 : Str} {zt0 : Tok} (gs0 : PySem.W.nsIn K mainGlobals "LETTERS" = some (some (.str zs0 zt0))) (ge0 : zs0 = tx cst_LETTERS)
    {zt1 : Tok} (gs1 : PySem.W.nsIn K mainGlobals "LONGEST_NAME" = some (some (.int 12 zt1)))
    {zt2 : Tok} (gs2 : PySem.W.nsIn K mainGlobals "LARGEST" = some (some (.int 1000000 zt2)))
    {zs3 : Str} {zt3 : Tok} (gs3 : PySem.W.nsIn K mainGlobals "DIGITS" = some (some (.str zs3 zt3))) (ge3 : zs3 = tx cst_DIGITS)
    {zt4 : Tok} (gs4 : PySem.W.nsIn K mainGlobals "LONGEST_TEXT" = some (some (.int 60 zt4)))
    {zt5 : Tok} (gs5 : PySem.W.nsIn K mainGlobals "MOST_PARTS" = some (some (.int 60 zt5)))
    {zt6 : Tok} (gs6 : PySem.W.nsIn K mainGlobals "MOST_LEVELS" = some (some (.int 12 zt6)))
    {zt7 : Tok} (gs7 : PySem.W.nsIn K mainGlobals "MOST_BELOW" = some (some (.int 6 zt7)))
    {ga8 : Addr} {gn8 : Nat} {gh8_0 gh8_1 gh8_2 gh8_3 gh8_4 gh8_5 gh8_6 gh8_7 gh8_8 gh8_9 gh8_10 gh8_11 gh8_12 gh8_13 gh8_14 gh8_15 gh8_16 gh8_17 gh8_18 gh8_19 gh8_20 gh8_21 gh8_22 gh8_23 gh8_24 gh8_25 gh8_26 gh8_27 gh8_28 gh8_29 gh8_30 gh8_31 gh8_32 gh8_33 gh8_34 gh8_35 : Int} {gz8_0 gz8_1 gz8_2 gz8_3 gz8_4 gz8_5 gz8_6 gz8_7 gz8_8 gz8_9 gz8_10 gz8_11 gz8_12 gz8_13 gz8_14 gz8_15 gz8_16 gz8_17 gz8_18 gz8_19 gz8_20 gz8_21 gz8_22 gz8_23 gz8_24 gz8_25 gz8_26 gz8_27 gz8_28 gz8_29 gz8_30 gz8_31 gz8_32 gz8_33 gz8_34 gz8_35 : Str} {gt8_0 gt8_1 gt8_2 gt8_3 gt8_4 gt8_5 gt8_6 gt8_7 gt8_8 gt8_9 gt8_10 gt8_11 gt8_12 gt8_13 gt8_14 gt8_15 gt8_16 gt8_17 gt8_18 gt8_19 gt8_20 gt8_21 gt8_22 gt8_23 gt8_24 gt8_25 gt8_26 gt8_27 gt8_28 gt8_29 gt8_30 gt8_31 gt8_32 gt8_33 gt8_34 gt8_35 : Tok} {qa8_0 : Addr} {qd8_0 : Option Addr} {qn8_0 : Nat} {ql8_0 : Array (Option Value)} {qs8_0_0 : Str} {qt8_0_0 : Tok} {qs8_0_1 : Str} {qt8_0_1 : Tok} {qa8_1 : Addr} {qd8_1 : Option Addr} {qn8_1 : Nat} {ql8_1 : Array (Option Value)} {qs8_1_0 : Str} {qt8_1_0 : Tok} {qa8_2 : Addr} {qd8_2 : Option Addr} {qn8_2 : Nat} {ql8_2 : Array (Option Value)} {qs8_2_0 : Str} {qt8_2_0 : Tok} {qs8_2_1 : Str} {qt8_2_1 : Tok} {qa8_3 : Addr} {qd8_3 : Option Addr} {qn8_3 : Nat} {ql8_3 : Array (Option Value)} {qs8_3_0 : Str} {qt8_3_0 : Tok} {qs8_3_1 : Str} {qt8_3_1 : Tok} {qa8_4 : Addr} {qd8_4 : Option Addr} {qn8_4 : Nat} {ql8_4 : Array (Option Value)} {qs8_4_0 : Str} {qt8_4_0 : Tok} {qa8_5 : Addr} {qd8_5 : Option Addr} {qn8_5 : Nat} {ql8_5 : Array (Option Value)} {qs8_5_0 : Str} {qt8_5_0 : Tok} {qa8_6 : Addr} {qd8_6 : Option Addr} {qn8_6 : Nat} {ql8_6 : Array (Option Value)} {qs8_6_0 : Str} {qt8_6_0 : Tok} {qa8_7 : Addr} {qd8_7 : Option Addr} {qn8_7 : Nat} {ql8_7 : Array (Option Value)} {qs8_7_0 : Str} {qt8_7_0 : Tok} {qs8_7_1 : Str} {qt8_7_1 : Tok} {qa8_8 : Addr} {qd8_8 : Option Addr} {qn8_8 : Nat} {ql8_8 : Array (Option Value)} {qs8_8_0 : Str} {qt8_8_0 : Tok} {qs8_8_1 : Str} {qt8_8_1 : Tok} {qs8_8_2 : Str} {qt8_8_2 : Tok} {qa8_9 : Addr} {qd8_9 : Option Addr} {qn8_9 : Nat} {ql8_9 : Array (Option Value)} {qs8_9_0 : Str} {qt8_9_0 : Tok} {qs8_9_1 : Str} {qt8_9_1 : Tok} {qa8_10 : Addr} {qd8_10 : Option Addr} {qn8_10 : Nat} {ql8_10 : Array (Option Value)} {qs8_10_0 : Str} {qt8_10_0 : Tok} {qs8_10_1 : Str} {qt8_10_1 : Tok} {qa8_11 : Addr} {qd8_11 : Option Addr} {qn8_11 : Nat} {ql8_11 : Array (Option Value)} {qs8_11_0 : Str} {qt8_11_0 : Tok} {qs8_11_1 : Str} {qt8_11_1 : Tok} {qa8_12 : Addr} {qd8_12 : Option Addr} {qn8_12 : Nat} {ql8_12 : Array (Option Value)} {qs8_12_0 : Str} {qt8_12_0 : Tok} {qs8_12_1 : Str} {qt8_12_1 : Tok} {qa8_13 : Addr} {qd8_13 : Option Addr} {qn8_13 : Nat} {ql8_13 : Array (Option Value)} {qs8_13_0 : Str} {qt8_13_0 : Tok} {qs8_13_1 : Str} {qt8_13_1 : Tok} {qs8_13_2 : Str} {qt8_13_2 : Tok} {qa8_14 : Addr} {qd8_14 : Option Addr} {qn8_14 : Nat} {ql8_14 : Array (Option Value)} {qs8_14_0 : Str} {qt8_14_0 : Tok} {qa8_15 : Addr} {qd8_15 : Option Addr} {qn8_15 : Nat} {ql8_15 : Array (Option Value)} {qs8_15_0 : Str} {qt8_15_0 : Tok} {qa8_16 : Addr} {qd8_16 : Option Addr} {qn8_16 : Nat} {ql8_16 : Array (Option Value)} {qs8_16_0 : Str} {qt8_16_0 : Tok} {qa8_17 : Addr} {qd8_17 : Option Addr} {qn8_17 : Nat} {ql8_17 : Array (Option Value)} {qs8_17_0 : Str} {qt8_17_0 : Tok} {qa8_18 : Addr} {qd8_18 : Option Addr} {qn8_18 : Nat} {ql8_18 : Array (Option Value)} {qs8_18_0 : Str} {qt8_18_0 : Tok} {qa8_19 : Addr} {qd8_19 : Option Addr} {qn8_19 : Nat} {ql8_19 : Array (Option Value)} {qs8_19_0 : Str} {qt8_19_0 : Tok} {qa8_20 : Addr} {qd8_20 : Option Addr} {qn8_20 : Nat} {ql8_20 : Array (Option Value)} {qs8_20_0 : Str} {qt8_20_0 : Tok} {qa8_21 : Addr} {qd8_21 : Option Addr} {qn8_21 : Nat} {ql8_21 : Array (Option Value)} {qs8_21_0 : Str} {qt8_21_0 : Tok} {qa8_22 : Addr} {qd8_22 : Option Addr} {qn8_22 : Nat} {ql8_22 : Array (Option Value)} {qs8_22_0 : Str} {qt8_22_0 : Tok} {qs8_22_1 : Str} {qt8_22_1 : Tok} {qa8_23 : Addr} {qd8_23 : Option Addr} {qn8_23 : Nat} {ql8_23 : Array (Option Value)} {qs8_23_0 : Str} {qt8_23_0 : Tok} {qs8_23_1 : Str} {qt8_23_1 : Tok} {qa8_24 : Addr} {qd8_24 : Option Addr} {qn8_24 : Nat} {ql8_24 : Array (Option Value)} {qs8_24_0 : Str} {qt8_24_0 : Tok} {qs8_24_1 : Str} {qt8_24_1 : Tok} {qa8_25 : Addr} {qd8_25 : Option Addr} {qn8_25 : Nat} {ql8_25 : Array (Option Value)} {qs8_25_0 : Str} {qt8_25_0 : Tok} {qs8_25_1 : Str} {qt8_25_1 : Tok} {qa8_26 : Addr} {qd8_26 : Option Addr} {qn8_26 : Nat} {ql8_26 : Array (Option Value)} {qs8_26_0 : Str} {qt8_26_0 : Tok} {qs8_26_1 : Str} {qt8_26_1 : Tok} {qa8_27 : Addr} {qd8_27 : Option Addr} {qn8_27 : Nat} {ql8_27 : Array (Option Value)} {qs8_27_0 : Str} {qt8_27_0 : Tok} {qs8_27_1 : Str} {qt8_27_1 : Tok} {qa8_28 : Addr} {qd8_28 : Option Addr} {qn8_28 : Nat} {ql8_28 : Array (Option Value)} {qs8_28_0 : Str} {qt8_28_0 : Tok} {qs8_28_1 : Str} {qt8_28_1 : Tok} {qa8_29 : Addr} {qd8_29 : Option Addr} {qn8_29 : Nat} {ql8_29 : Array (Option Value)} {qs8_29_0 : Str} {qt8_29_0 : Tok} {qs8_29_1 : Str} {qt8_29_1 : Tok} {qa8_30 : Addr} {qd8_30 : Option Addr} {qn8_30 : Nat} {ql8_30 : Array (Option Value)} {qs8_30_0 : Str} {qt8_30_0 : Tok} {qs8_30_1 : Str} {qt8_30_1 : Tok} {qa8_31 : Addr} {qd8_31 : Option Addr} {qn8_31 : Nat} {ql8_31 : Array (Option Value)} {qs8_31_0 : Str} {qt8_31_0 : Tok} {qs8_31_1 : Str} {qt8_31_1 : Tok} {qa8_32 : Addr} {qd8_32 : Option Addr} {qn8_32 : Nat} {ql8_32 : Array (Option Value)} {qs8_32_0 : Str} {qt8_32_0 : Tok} {qs8_32_1 : Str} {qt8_32_1 : Tok} {qa8_33 : Addr} {qd8_33 : Option Addr} {qn8_33 : Nat} {ql8_33 : Array (Option Value)} {qs8_33_0 : Str} {qt8_33_0 : Tok} {qs8_33_1 : Str} {qt8_33_1 : Tok} {qa8_34 : Addr} {qd8_34 : Option Addr} {qn8_34 : Nat} {ql8_34 : Array (Option Value)} {qs8_34_0 : Str} {qt8_34_0 : Tok} {qs8_34_1 : Str} {qt8_34_1 : Tok} {qa8_35 : Addr} {qd8_35 : Option Addr} {qn8_35 : Nat} {ql8_35 : Array (Option Value)} {qs8_35_0 : Str} {qt8_35_0 : Tok} {qs8_35_1 : Str} {qt8_35_1 : Tok} {qs8_35_2 : Str} {qt8_35_2 : Tok} (gs8 : PySem.W.nsIn K mainGlobals "FORMS" = some (some (.ref ga8))) (gk8 : K.lookup ga8 = some ⟨.type "dict", none, .dict #[⟨gh8_0, .str gz8_0 gt8_0, .ref qa8_0⟩, ⟨gh8_1, .str gz8_1 gt8_1, .ref qa8_1⟩, ⟨gh8_2, .str gz8_2 gt8_2, .ref qa8_2⟩, ⟨gh8_3, .str gz8_3 gt8_3, .ref qa8_3⟩, ⟨gh8_4, .str gz8_4 gt8_4, .ref qa8_4⟩, ⟨gh8_5, .str gz8_5 gt8_5, .ref qa8_5⟩, ⟨gh8_6, .str gz8_6 gt8_6, .ref qa8_6⟩, ⟨gh8_7, .str gz8_7 gt8_7, .ref qa8_7⟩, ⟨gh8_8, .str gz8_8 gt8_8, .ref qa8_8⟩, ⟨gh8_9, .str gz8_9 gt8_9, .ref qa8_9⟩, ⟨gh8_10, .str gz8_10 gt8_10, .ref qa8_10⟩, ⟨gh8_11, .str gz8_11 gt8_11, .ref qa8_11⟩, ⟨gh8_12, .str gz8_12 gt8_12, .ref qa8_12⟩, ⟨gh8_13, .str gz8_13 gt8_13, .ref qa8_13⟩, ⟨gh8_14, .str gz8_14 gt8_14, .ref qa8_14⟩, ⟨gh8_15, .str gz8_15 gt8_15, .ref qa8_15⟩, ⟨gh8_16, .str gz8_16 gt8_16, .ref qa8_16⟩, ⟨gh8_17, .str gz8_17 gt8_17, .ref qa8_17⟩, ⟨gh8_18, .str gz8_18 gt8_18, .ref qa8_18⟩, ⟨gh8_19, .str gz8_19 gt8_19, .ref qa8_19⟩, ⟨gh8_20, .str gz8_20 gt8_20, .ref qa8_20⟩, ⟨gh8_21, .str gz8_21 gt8_21, .ref qa8_21⟩, ⟨gh8_22, .str gz8_22 gt8_22, .ref qa8_22⟩, ⟨gh8_23, .str gz8_23 gt8_23, .ref qa8_23⟩, ⟨gh8_24, .str gz8_24 gt8_24, .ref qa8_24⟩, ⟨gh8_25, .str gz8_25 gt8_25, .ref qa8_25⟩, ⟨gh8_26, .str gz8_26 gt8_26, .ref qa8_26⟩, ⟨gh8_27, .str gz8_27 gt8_27, .ref qa8_27⟩, ⟨gh8_28, .str gz8_28 gt8_28, .ref qa8_28⟩, ⟨gh8_29, .str gz8_29 gt8_29, .ref qa8_29⟩, ⟨gh8_30, .str gz8_30 gt8_30, .ref qa8_30⟩, ⟨gh8_31, .str gz8_31 gt8_31, .ref qa8_31⟩, ⟨gh8_32, .str gz8_32 gt8_32, .ref qa8_32⟩, ⟨gh8_33, .str gz8_33 gt8_33, .ref qa8_33⟩, ⟨gh8_34, .str gz8_34 gt8_34, .ref qa8_34⟩, ⟨gh8_35, .str gz8_35 gt8_35, .ref qa8_35⟩] gn8, #[]⟩) (ge8 : [gz8_0, gz8_1, gz8_2, gz8_3, gz8_4, gz8_5, gz8_6, gz8_7, gz8_8, gz8_9, gz8_10, gz8_11, gz8_12, gz8_13, gz8_14, gz8_15, gz8_16, gz8_17, gz8_18, gz8_19, gz8_20, gz8_21, gz8_22, gz8_23, gz8_24, gz8_25, gz8_26, gz8_27, gz8_28, gz8_29, gz8_30, gz8_31, gz8_32, gz8_33, gz8_34, gz8_35] = [tx [116, 101, 114, 109], tx [111, 119, 110], tx [99, 104, 105, 108, 100], tx [98, 101, 102, 111, 114, 101], tx [104, 97, 115], tx [99, 111, 117, 110, 116], tx [115, 112, 101, 108, 108, 105, 110, 103], tx [109, 101, 97, 110, 116], tx [108, 97, 115, 116], tx [115, 117, 109], tx [97, 108, 108], tx [97, 110, 121], tx [99, 111, 108, 108, 101, 99, 116], tx [106, 111, 105, 110], tx [110, 111, 116], tx [110, 101, 103, 97, 116, 105, 118, 101], tx [108, 101, 110, 103, 116, 104], tx [115, 104, 111, 119, 110], tx [112, 97, 114, 115, 101, 100], tx [108, 97, 98, 101, 108], tx [115, 105, 122, 101], tx [110, 97, 109, 101, 100], tx [97, 100, 100], tx [115, 117, 98, 116, 114, 97, 99, 116], tx [109, 117, 108, 116, 105, 112, 108, 121], tx [113, 117, 111, 116, 105, 101, 110, 116], tx [114, 101, 109, 97, 105, 110, 100, 101, 114], tx [108, 101, 115, 115], tx [115, 97, 109, 101], tx [97, 110, 100], tx [111, 114], tx [97, 112, 112, 101, 110, 100], tx [119, 105, 116, 104], tx [97, 114, 103, 117, 109, 101, 110, 116], tx [101, 108, 115, 101], tx [105, 102]]) (gb8 : (ga8 == sysModules) = false)
    (gq8_0 : gh8_0 = PyData.keyHash w.params gz8_0)
    (gq8_1 : gh8_1 = PyData.keyHash w.params gz8_1)
    (gq8_2 : gh8_2 = PyData.keyHash w.params gz8_2)
    (gq8_3 : gh8_3 = PyData.keyHash w.params gz8_3)
    (gq8_4 : gh8_4 = PyData.keyHash w.params gz8_4)
    (gq8_5 : gh8_5 = PyData.keyHash w.params gz8_5)
    (gq8_6 : gh8_6 = PyData.keyHash w.params gz8_6)
    (gq8_7 : gh8_7 = PyData.keyHash w.params gz8_7)
    (gq8_8 : gh8_8 = PyData.keyHash w.params gz8_8)
    (gq8_9 : gh8_9 = PyData.keyHash w.params gz8_9)
    (gq8_10 : gh8_10 = PyData.keyHash w.params gz8_10)
    (gq8_11 : gh8_11 = PyData.keyHash w.params gz8_11)
    (gq8_12 : gh8_12 = PyData.keyHash w.params gz8_12)
    (gq8_13 : gh8_13 = PyData.keyHash w.params gz8_13)
    (gq8_14 : gh8_14 = PyData.keyHash w.params gz8_14)
    (gq8_15 : gh8_15 = PyData.keyHash w.params gz8_15)
    (gq8_16 : gh8_16 = PyData.keyHash w.params gz8_16)
    (gq8_17 : gh8_17 = PyData.keyHash w.params gz8_17)
    (gq8_18 : gh8_18 = PyData.keyHash w.params gz8_18)
    (gq8_19 : gh8_19 = PyData.keyHash w.params gz8_19)
    (gq8_20 : gh8_20 = PyData.keyHash w.params gz8_20)
    (gq8_21 : gh8_21 = PyData.keyHash w.params gz8_21)
    (gq8_22 : gh8_22 = PyData.keyHash w.params gz8_22)
    (gq8_23 : gh8_23 = PyData.keyHash w.params gz8_23)
    (gq8_24 : gh8_24 = PyData.keyHash w.params gz8_24)
    (gq8_25 : gh8_25 = PyData.keyHash w.params gz8_25)
    (gq8_26 : gh8_26 = PyData.keyHash w.params gz8_26)
    (gq8_27 : gh8_27 = PyData.keyHash w.params gz8_27)
    (gq8_28 : gh8_28 = PyData.keyHash w.params gz8_28)
    (gq8_29 : gh8_29 = PyData.keyHash w.params gz8_29)
    (gq8_30 : gh8_30 = PyData.keyHash w.params gz8_30)
    (gq8_31 : gh8_31 = PyData.keyHash w.params gz8_31)
    (gq8_32 : gh8_32 = PyData.keyHash w.params gz8_32)
    (gq8_33 : gh8_33 = PyData.keyHash w.params gz8_33)
    (gq8_34 : gh8_34 = PyData.keyHash w.params gz8_34)
    (gq8_35 : gh8_35 = PyData.keyHash w.params gz8_35)
    (qk8_0 : K.lookup qa8_0 = some ⟨.type "tuple", qd8_0, .seq #[.str qs8_0_0 qt8_0_0, .str qs8_0_1 qt8_0_1] qn8_0, ql8_0⟩)
    (qe8_0_0 : qs8_0_0 = tx [116, 101, 120, 116])
    (qe8_0_1 : qs8_0_1 = tx [115, 101, 118, 101, 114, 97, 108])
    (qk8_1 : K.lookup qa8_1 = some ⟨.type "tuple", qd8_1, .seq #[.str qs8_1_0 qt8_1_0] qn8_1, ql8_1⟩)
    (qe8_1_0 : qs8_1_0 = tx [110, 97, 109, 101])
    (qk8_2 : K.lookup qa8_2 = some ⟨.type "tuple", qd8_2, .seq #[.str qs8_2_0 qt8_2_0, .str qs8_2_1 qt8_2_1] qn8_2, ql8_2⟩)
    (qe8_2_0 : qs8_2_0 = tx [110, 97, 109, 101])
    (qe8_2_1 : qs8_2_1 = tx [110, 97, 109, 101])
    (qk8_3 : K.lookup qa8_3 = some ⟨.type "tuple", qd8_3, .seq #[.str qs8_3_0 qt8_3_0, .str qs8_3_1 qt8_3_1] qn8_3, ql8_3⟩)
    (qe8_3_0 : qs8_3_0 = tx [110, 97, 109, 101])
    (qe8_3_1 : qs8_3_1 = tx [111, 110, 101])
    (qk8_4 : K.lookup qa8_4 = some ⟨.type "tuple", qd8_4, .seq #[.str qs8_4_0 qt8_4_0] qn8_4, ql8_4⟩)
    (qe8_4_0 : qs8_4_0 = tx [110, 97, 109, 101])
    (qk8_5 : K.lookup qa8_5 = some ⟨.type "tuple", qd8_5, .seq #[.str qs8_5_0 qt8_5_0] qn8_5, ql8_5⟩)
    (qe8_5_0 : qs8_5_0 = tx [110, 97, 109, 101])
    (qk8_6 : K.lookup qa8_6 = some ⟨.type "tuple", qd8_6, .seq #[.str qs8_6_0 qt8_6_0] qn8_6, ql8_6⟩)
    (qe8_6_0 : qs8_6_0 = tx [110, 97, 109, 101])
    (qk8_7 : K.lookup qa8_7 = some ⟨.type "tuple", qd8_7, .seq #[.str qs8_7_0 qt8_7_0, .str qs8_7_1 qt8_7_1] qn8_7, ql8_7⟩)
    (qe8_7_0 : qs8_7_0 = tx [110, 97, 109, 101])
    (qe8_7_1 : qs8_7_1 = tx [110, 97, 109, 101])
    (qk8_8 : K.lookup qa8_8 = some ⟨.type "tuple", qd8_8, .seq #[.str qs8_8_0 qt8_8_0, .str qs8_8_1 qt8_8_1, .str qs8_8_2 qt8_8_2] qn8_8, ql8_8⟩)
    (qe8_8_0 : qs8_8_0 = tx [110, 97, 109, 101])
    (qe8_8_1 : qs8_8_1 = tx [110, 97, 109, 101])
    (qe8_8_2 : qs8_8_2 = tx [111, 110, 101])
    (qk8_9 : K.lookup qa8_9 = some ⟨.type "tuple", qd8_9, .seq #[.str qs8_9_0 qt8_9_0, .str qs8_9_1 qt8_9_1] qn8_9, ql8_9⟩)
    (qe8_9_0 : qs8_9_0 = tx [110, 97, 109, 101])
    (qe8_9_1 : qs8_9_1 = tx [110, 97, 109, 101])
    (qk8_10 : K.lookup qa8_10 = some ⟨.type "tuple", qd8_10, .seq #[.str qs8_10_0 qt8_10_0, .str qs8_10_1 qt8_10_1] qn8_10, ql8_10⟩)
    (qe8_10_0 : qs8_10_0 = tx [110, 97, 109, 101])
    (qe8_10_1 : qs8_10_1 = tx [110, 97, 109, 101])
    (qk8_11 : K.lookup qa8_11 = some ⟨.type "tuple", qd8_11, .seq #[.str qs8_11_0 qt8_11_0, .str qs8_11_1 qt8_11_1] qn8_11, ql8_11⟩)
    (qe8_11_0 : qs8_11_0 = tx [110, 97, 109, 101])
    (qe8_11_1 : qs8_11_1 = tx [110, 97, 109, 101])
    (qk8_12 : K.lookup qa8_12 = some ⟨.type "tuple", qd8_12, .seq #[.str qs8_12_0 qt8_12_0, .str qs8_12_1 qt8_12_1] qn8_12, ql8_12⟩)
    (qe8_12_0 : qs8_12_0 = tx [110, 97, 109, 101])
    (qe8_12_1 : qs8_12_1 = tx [110, 97, 109, 101])
    (qk8_13 : K.lookup qa8_13 = some ⟨.type "tuple", qd8_13, .seq #[.str qs8_13_0 qt8_13_0, .str qs8_13_1 qt8_13_1, .str qs8_13_2 qt8_13_2] qn8_13, ql8_13⟩)
    (qe8_13_0 : qs8_13_0 = tx [110, 97, 109, 101])
    (qe8_13_1 : qs8_13_1 = tx [110, 97, 109, 101])
    (qe8_13_2 : qs8_13_2 = tx [116, 101, 120, 116])
    (qk8_14 : K.lookup qa8_14 = some ⟨.type "tuple", qd8_14, .seq #[.str qs8_14_0 qt8_14_0] qn8_14, ql8_14⟩)
    (qe8_14_0 : qs8_14_0 = tx [111, 110, 101])
    (qk8_15 : K.lookup qa8_15 = some ⟨.type "tuple", qd8_15, .seq #[.str qs8_15_0 qt8_15_0] qn8_15, ql8_15⟩)
    (qe8_15_0 : qs8_15_0 = tx [111, 110, 101])
    (qk8_16 : K.lookup qa8_16 = some ⟨.type "tuple", qd8_16, .seq #[.str qs8_16_0 qt8_16_0] qn8_16, ql8_16⟩)
    (qe8_16_0 : qs8_16_0 = tx [111, 110, 101])
    (qk8_17 : K.lookup qa8_17 = some ⟨.type "tuple", qd8_17, .seq #[.str qs8_17_0 qt8_17_0] qn8_17, ql8_17⟩)
    (qe8_17_0 : qs8_17_0 = tx [111, 110, 101])
    (qk8_18 : K.lookup qa8_18 = some ⟨.type "tuple", qd8_18, .seq #[.str qs8_18_0 qt8_18_0] qn8_18, ql8_18⟩)
    (qe8_18_0 : qs8_18_0 = tx [111, 110, 101])
    (qk8_19 : K.lookup qa8_19 = some ⟨.type "tuple", qd8_19, .seq #[.str qs8_19_0 qt8_19_0] qn8_19, ql8_19⟩)
    (qe8_19_0 : qs8_19_0 = tx [111, 110, 101])
    (qk8_20 : K.lookup qa8_20 = some ⟨.type "tuple", qd8_20, .seq #[.str qs8_20_0 qt8_20_0] qn8_20, ql8_20⟩)
    (qe8_20_0 : qs8_20_0 = tx [111, 110, 101])
    (qk8_21 : K.lookup qa8_21 = some ⟨.type "tuple", qd8_21, .seq #[.str qs8_21_0 qt8_21_0] qn8_21, ql8_21⟩)
    (qe8_21_0 : qs8_21_0 = tx [111, 110, 101])
    (qk8_22 : K.lookup qa8_22 = some ⟨.type "tuple", qd8_22, .seq #[.str qs8_22_0 qt8_22_0, .str qs8_22_1 qt8_22_1] qn8_22, ql8_22⟩)
    (qe8_22_0 : qs8_22_0 = tx [111, 110, 101])
    (qe8_22_1 : qs8_22_1 = tx [111, 110, 101])
    (qk8_23 : K.lookup qa8_23 = some ⟨.type "tuple", qd8_23, .seq #[.str qs8_23_0 qt8_23_0, .str qs8_23_1 qt8_23_1] qn8_23, ql8_23⟩)
    (qe8_23_0 : qs8_23_0 = tx [111, 110, 101])
    (qe8_23_1 : qs8_23_1 = tx [111, 110, 101])
    (qk8_24 : K.lookup qa8_24 = some ⟨.type "tuple", qd8_24, .seq #[.str qs8_24_0 qt8_24_0, .str qs8_24_1 qt8_24_1] qn8_24, ql8_24⟩)
    (qe8_24_0 : qs8_24_0 = tx [111, 110, 101])
    (qe8_24_1 : qs8_24_1 = tx [111, 110, 101])
    (qk8_25 : K.lookup qa8_25 = some ⟨.type "tuple", qd8_25, .seq #[.str qs8_25_0 qt8_25_0, .str qs8_25_1 qt8_25_1] qn8_25, ql8_25⟩)
    (qe8_25_0 : qs8_25_0 = tx [111, 110, 101])
    (qe8_25_1 : qs8_25_1 = tx [111, 110, 101])
    (qk8_26 : K.lookup qa8_26 = some ⟨.type "tuple", qd8_26, .seq #[.str qs8_26_0 qt8_26_0, .str qs8_26_1 qt8_26_1] qn8_26, ql8_26⟩)
    (qe8_26_0 : qs8_26_0 = tx [111, 110, 101])
    (qe8_26_1 : qs8_26_1 = tx [111, 110, 101])
    (qk8_27 : K.lookup qa8_27 = some ⟨.type "tuple", qd8_27, .seq #[.str qs8_27_0 qt8_27_0, .str qs8_27_1 qt8_27_1] qn8_27, ql8_27⟩)
    (qe8_27_0 : qs8_27_0 = tx [111, 110, 101])
    (qe8_27_1 : qs8_27_1 = tx [111, 110, 101])
    (qk8_28 : K.lookup qa8_28 = some ⟨.type "tuple", qd8_28, .seq #[.str qs8_28_0 qt8_28_0, .str qs8_28_1 qt8_28_1] qn8_28, ql8_28⟩)
    (qe8_28_0 : qs8_28_0 = tx [111, 110, 101])
    (qe8_28_1 : qs8_28_1 = tx [111, 110, 101])
    (qk8_29 : K.lookup qa8_29 = some ⟨.type "tuple", qd8_29, .seq #[.str qs8_29_0 qt8_29_0, .str qs8_29_1 qt8_29_1] qn8_29, ql8_29⟩)
    (qe8_29_0 : qs8_29_0 = tx [111, 110, 101])
    (qe8_29_1 : qs8_29_1 = tx [111, 110, 101])
    (qk8_30 : K.lookup qa8_30 = some ⟨.type "tuple", qd8_30, .seq #[.str qs8_30_0 qt8_30_0, .str qs8_30_1 qt8_30_1] qn8_30, ql8_30⟩)
    (qe8_30_0 : qs8_30_0 = tx [111, 110, 101])
    (qe8_30_1 : qs8_30_1 = tx [111, 110, 101])
    (qk8_31 : K.lookup qa8_31 = some ⟨.type "tuple", qd8_31, .seq #[.str qs8_31_0 qt8_31_0, .str qs8_31_1 qt8_31_1] qn8_31, ql8_31⟩)
    (qe8_31_0 : qs8_31_0 = tx [111, 110, 101])
    (qe8_31_1 : qs8_31_1 = tx [111, 110, 101])
    (qk8_32 : K.lookup qa8_32 = some ⟨.type "tuple", qd8_32, .seq #[.str qs8_32_0 qt8_32_0, .str qs8_32_1 qt8_32_1] qn8_32, ql8_32⟩)
    (qe8_32_0 : qs8_32_0 = tx [111, 110, 101])
    (qe8_32_1 : qs8_32_1 = tx [111, 110, 101])
    (qk8_33 : K.lookup qa8_33 = some ⟨.type "tuple", qd8_33, .seq #[.str qs8_33_0 qt8_33_0, .str qs8_33_1 qt8_33_1] qn8_33, ql8_33⟩)
    (qe8_33_0 : qs8_33_0 = tx [111, 110, 101])
    (qe8_33_1 : qs8_33_1 = tx [111, 110, 101])
    (qk8_34 : K.lookup qa8_34 = some ⟨.type "tuple", qd8_34, .seq #[.str qs8_34_0 qt8_34_0, .str qs8_34_1 qt8_34_1] qn8_34, ql8_34⟩)
    (qe8_34_0 : qs8_34_0 = tx [111, 110, 101])
    (qe8_34_1 : qs8_34_1 = tx [111, 110, 101])
    (qk8_35 : K.lookup qa8_35 = some ⟨.type "tuple", qd8_35, .seq #[.str qs8_35_0 qt8_35_0, .str qs8_35_1 qt8_35_1, .str qs8_35_2 qt8_35_2] qn8_35, ql8_35⟩)
    (qe8_35_0 : qs8_35_0 = tx [111, 110, 101])
    (qe8_35_1 : qs8_35_1 = tx [111, 110, 101])
    (qe8_35_2 : qs8_35_2 = tx [111, 110, 101])
    {qC0 : Addr} (ke0 : PySem.W.nsIn K mainGlobals "ExpressionReader" = some (some (.ref qC0))) (kp0 : PySem.W.plainGet K qC0 Str.empty = true) (kh0 : PySem.W.hasDictIn K qC0 = true) (ko0 : PySem.W.plainOver K qC0 = true) (ks0 : PySem.W.findIn K (.ref qC0) "__setattr__" = some (some (.builtin "object.__setattr__"))) (km0 : PySem.W.makesIn K qC0 = true) (kk0 : PySem.W.keepIn K (.ref qC0) = true)
    (kf0_0 : PySem.W.findIn K (.ref qC0) "_text" = some none)
    (kf0_1 : PySem.W.findIn K (.ref qC0) "_token" = some none)
    (kf0_2 : PySem.W.findIn K (.ref qC0) "_many" = some none)
    {mf0_0 : Addr} {mod0_0 man0_0 : Option Addr} {msl0_0 : Array (Option Value)} {moc0_0 mkV0_0 mdc0_0 mpm0_0 mcd0_0 mct0_0 : Value} (ma0_0 : PySem.W.findIn K (.ref qC0) "__init__" = some (some (.ref mf0_0))) (mi0_0 : PySem.W.isFn K (.ref mf0_0) = true) (mk0_0 : PySem.W.keepIn K (.ref mf0_0) = true) (ml0_0 : K.lookup mf0_0 = some ⟨moc0_0, mod0_0, .func (PySem.W.fnOf "__init__" "ExpressionReader.__init__" (defArgs s_ExpressionReader___init__) (defBody s_ExpressionReader___init__) (defScope s_ExpressionReader___init__) .none mkV0_0 mdc0_0 mpm0_0 man0_0 mcd0_0 mct0_0), msl0_0⟩) (mc0_0 : PySem.W.codeIn K mcd0_0 "ExpressionReader.__init__" = true)
    {mf0_1 : Addr} {mod0_1 man0_1 : Option Addr} {msl0_1 : Array (Option Value)} {moc0_1 mkV0_1 mdc0_1 mpm0_1 mcd0_1 mct0_1 : Value} (ma0_1 : PySem.W.findIn K (.ref qC0) "whole" = some (some (.ref mf0_1))) (mi0_1 : PySem.W.isFn K (.ref mf0_1) = true) (mk0_1 : PySem.W.keepIn K (.ref mf0_1) = true) (ml0_1 : K.lookup mf0_1 = some ⟨moc0_1, mod0_1, .func (PySem.W.fnOf "whole" "ExpressionReader.whole" (defArgs s_ExpressionReader_whole) (defBody s_ExpressionReader_whole) (defScope s_ExpressionReader_whole) .none mkV0_1 mdc0_1 mpm0_1 man0_1 mcd0_1 mct0_1), msl0_1⟩) (mc0_1 : PySem.W.codeIn K mcd0_1 "ExpressionReader.whole" = true)
    {mf0_2 : Addr} {mod0_2 man0_2 : Option Addr} {msl0_2 : Array (Option Value)} {moc0_2 mkV0_2 mdc0_2 mpm0_2 mcd0_2 mct0_2 : Value} (ma0_2 : PySem.W.findIn K (.ref qC0) "_take" = some (some (.ref mf0_2))) (mi0_2 : PySem.W.isFn K (.ref mf0_2) = true) (mk0_2 : PySem.W.keepIn K (.ref mf0_2) = true) (ml0_2 : K.lookup mf0_2 = some ⟨moc0_2, mod0_2, .func (PySem.W.fnOf "_take" "ExpressionReader._take" (defArgs s_ExpressionReader__take) (defBody s_ExpressionReader__take) (defScope s_ExpressionReader__take) .none mkV0_2 mdc0_2 mpm0_2 man0_2 mcd0_2 mct0_2), msl0_2⟩) (mc0_2 : PySem.W.codeIn K mcd0_2 "ExpressionReader._take" = true)
    {mf0_3 : Addr} {mod0_3 man0_3 : Option Addr} {msl0_3 : Array (Option Value)} {moc0_3 mkV0_3 mdc0_3 mpm0_3 mcd0_3 mct0_3 : Value} (ma0_3 : PySem.W.findIn K (.ref qC0) "_expression" = some (some (.ref mf0_3))) (mi0_3 : PySem.W.isFn K (.ref mf0_3) = true) (mk0_3 : PySem.W.keepIn K (.ref mf0_3) = true) (ml0_3 : K.lookup mf0_3 = some ⟨moc0_3, mod0_3, .func (PySem.W.fnOf "_expression" "ExpressionReader._expression" (defArgs s_ExpressionReader__expression) (defBody s_ExpressionReader__expression) (defScope s_ExpressionReader__expression) .none mkV0_3 mdc0_3 mpm0_3 man0_3 mcd0_3 mct0_3), msl0_3⟩) (mc0_3 : PySem.W.codeIn K mcd0_3 "ExpressionReader._expression" = true)
    {mf0_4 : Addr} {mod0_4 man0_4 : Option Addr} {msl0_4 : Array (Option Value)} {moc0_4 mkV0_4 mdc0_4 mpm0_4 mcd0_4 mct0_4 : Value} (ma0_4 : PySem.W.findIn K (.ref qC0) "_form" = some (some (.ref mf0_4))) (mi0_4 : PySem.W.isFn K (.ref mf0_4) = true) (mk0_4 : PySem.W.keepIn K (.ref mf0_4) = true) (ml0_4 : K.lookup mf0_4 = some ⟨moc0_4, mod0_4, .func (PySem.W.fnOf "_form" "ExpressionReader._form" (defArgs s_ExpressionReader__form) (defBody s_ExpressionReader__form) (defScope s_ExpressionReader__form) .none mkV0_4 mdc0_4 mpm0_4 man0_4 mcd0_4 mct0_4), msl0_4⟩) (mc0_4 : PySem.W.codeIn K mcd0_4 "ExpressionReader._form" = true)
    {mf0_5 : Addr} {mod0_5 man0_5 : Option Addr} {msl0_5 : Array (Option Value)} {moc0_5 mkV0_5 mdc0_5 mpm0_5 mcd0_5 mct0_5 : Value} (ma0_5 : PySem.W.findIn K (.ref qC0) "_needed" = some (some (.ref mf0_5))) (mi0_5 : PySem.W.isFn K (.ref mf0_5) = true) (mk0_5 : PySem.W.keepIn K (.ref mf0_5) = true) (ml0_5 : K.lookup mf0_5 = some ⟨moc0_5, mod0_5, .func (PySem.W.fnOf "_needed" "ExpressionReader._needed" (defArgs s_ExpressionReader__needed) (defBody s_ExpressionReader__needed) (defScope s_ExpressionReader__needed) .none mkV0_5 mdc0_5 mpm0_5 man0_5 mcd0_5 mct0_5), msl0_5⟩) (mc0_5 : PySem.W.codeIn K mcd0_5 "ExpressionReader._needed" = true)
    {mf0_6 : Addr} {mod0_6 man0_6 : Option Addr} {msl0_6 : Array (Option Value)} {moc0_6 mkV0_6 mdc0_6 mpm0_6 mcd0_6 mct0_6 : Value} (ma0_6 : PySem.W.findIn K (.ref qC0) "_several" = some (some (.ref mf0_6))) (mi0_6 : PySem.W.isFn K (.ref mf0_6) = true) (mk0_6 : PySem.W.keepIn K (.ref mf0_6) = true) (ml0_6 : K.lookup mf0_6 = some ⟨moc0_6, mod0_6, .func (PySem.W.fnOf "_several" "ExpressionReader._several" (defArgs s_ExpressionReader__several) (defBody s_ExpressionReader__several) (defScope s_ExpressionReader__several) .none mkV0_6 mdc0_6 mpm0_6 man0_6 mcd0_6 mct0_6), msl0_6⟩) (mc0_6 : PySem.W.codeIn K mcd0_6 "ExpressionReader._several" = true)
    (aT : PySem.W.nsIn K mainGlobals "TongueError" = some (some (.ref CT))) (iT : PySem.W.isClsIn K CT = true) (yT : PySem.W.typeIn K (.ref CT) = some (.type "type"))
    (eC0 : PySem.W.nsIn K mainGlobals "BadExpression" = some (some (.ref C0)))
    (xL0 : K.lookup C0 = some (excClassObj nm0 q0 C0 N0 bs0 [.ref CT, .type "ValueError", .type "Exception", .type "BaseException", .type "object"] true sn0 sub0 ab0 col0 dd0 jj0_0 jj1_0 jj2_0 jj3_0 jj5_0 "ValueError.__new__"))
    (sa0 : PySem.W.findIn K (.ref C0) "__setattr__" = some (some (.builtin "object.__setattr__")))
    (ga0 : PySem.W.findIn K (.ref C0) "__getattribute__" = some (some (.builtin "BaseException.__getattribute__")))
    (gg0 : PySem.W.findIn K (.ref C0) "__getattr__" = some none)
    (n1_0 : PySem.W.findIn K (.ref C0) "position" = some none)
    (iI0 : PySem.W.findIn K (.ref C0) "__init__" = some (some (.ref fI0)))
    (tI0 : PySem.W.typeIn K (.ref fI0) = some (.type "function"))
    (lI0 : K.lookup fI0 = some ⟨ocI0, odI0, .func (PySem.W.fnOf "__init__" "BadExpression.__init__" (defArgs s_BadExpression_init) (defBody s_BadExpression_init) (defScope s_BadExpression_init) .none kVI0 dcI0 pmI0 anI0 cdI0 ctI0), slI0⟩)
    (cI0 : PySem.W.codeIn K cdI0 "BadExpression.__init__" = true)
    (kI0 : PySem.W.keepIn K (.ref fI0) = true)
    (kC0 : PySem.W.keepIn K (.ref C0) = true)
    (xC0 : PySem.W.subIn K (.ref C0) (.type "BaseException") = some true)
    (tC0 : PySem.W.typeIn K (.ref C0) = some (.type "type"))
    (hC0 : PySem.W.hasDictIn K C0 = true)
    (jC0 : PySem.W.isClsIn K C0 = true)
    (sC0 : PySem.W.subIn K (.ref C0) (.ref C0) = some true)
    (uC0 : PySem.W.subIn K (.ref C0) (.ref CT) = some true)
    (vC0 : PySem.W.subIn K (.ref C0) (.type "ValueError") = some true)
    (gC0 : PySem.W.findIn K (.ref C0) "__class__" = some (some (.builtin "object.__class__")))
    (oC0 : PySem.W.specialIn K (.builtin "object.__class__") "__get__" = some (some (.builtin "getset_descriptor.__get__")))
    (wC0 : PySem.W.takesIn K (.builtin "object.__class__") = some true)
    (mC0 : PySem.W.mroIn K C0 (.type "object") = some true)
    {tco : Value} {tcd : Option Addr} {tvs : Array Value} {tcs : Array (Option Value)} (tlk : K.lookup tc = some ⟨tco, tcd, .fields tvs, tcs⟩) (tvp : tvs[11]? = some (.ref tP)) (tno : K.lookup tP = none)
 :
    ∃ (fd : FuncData) (c P : Addr), PySem.W.tabIn K "is_name" = some (c, P) ∧ K.lookup P = none ∧ (∀ (s : Shared) (v : Value), BindsTo s fd ⟨[v], []⟩ [("script", v)]) ∧ ∀ base : Heap, K.In base → base.Ns mainGlobals mg → GxR.TabB base mg c P → FnOk l.prog w K mg base CX0 lawLevel fa fd ["script"] (Spc K (W_law P)) := by
  have e := hfa.symm.trans (PySem.W.mg_of X G a26)
  cases e
  have T : Top K mg w := ⟨⟨f0, _, fun_mk (st := s_is_name) l0 c0 k0, PySem.W.mg_of X G a0, (fun_mk (st := s_is_name) l0 c0 k0).binds (ps := ["text"]) fun _ _ _ _ _ _ us hl => match us, hl with | [_], _ => rfl⟩, ⟨f1, _, fun_mk (st := s_expression_token) l1 c1 k1, PySem.W.mg_of X G a1, (fun_mk (st := s_expression_token) l1 c1 k1).binds (ps := ["text", "at"]) fun _ _ _ _ _ _ us hl => match us, hl with | [_, _], _ => rfl⟩, ⟨f2, _, fun_mk (st := s_row_stop) l2 c2 k2, PySem.W.mg_of X G a2, (fun_mk (st := s_row_stop) l2 c2 k2).binds (ps := ["text", "at", "characters"]) fun _ _ _ _ _ _ us hl => match us, hl with | [_, _, _], _ => rfl⟩, ⟨f3, _, fun_mk (st := s_integer_token) l3 c3 k3, PySem.W.mg_of X G a3, (fun_mk (st := s_integer_token) l3 c3 k3).binds (ps := ["text", "at"]) fun _ _ _ _ _ _ us hl => match us, hl with | [_, _], _ => rfl⟩, ⟨f4, _, fun_mk (st := s_text_token) l4 c4 k4, PySem.W.mg_of X G a4, (fun_mk (st := s_text_token) l4 c4 k4).binds (ps := ["text", "at"]) fun _ _ _ _ _ _ us hl => match us, hl with | [_, _], _ => rfl⟩, ⟨f5, _, fun_mk (st := s_read_expression) l5 c5 k5, PySem.W.mg_of X G a5, (fun_mk (st := s_read_expression) l5 c5 k5).binds (ps := ["text"]) fun _ _ _ _ _ _ us hl => match us, hl with | [_], _ => rfl⟩, ⟨f6, _, fun_mk (st := s_write_expression) l6 c6 k6, PySem.W.mg_of X G a6, (fun_mk (st := s_write_expression) l6 c6 k6).binds (ps := ["expression"]) fun _ _ _ _ _ _ us hl => match us, hl with | [_], _ => rfl⟩, ⟨f7, _, fun_mk (st := s_quoted) l7 c7 k7, PySem.W.mg_of X G a7, (fun_mk (st := s_quoted) l7 c7 k7).binds (ps := ["text"]) fun _ _ _ _ _ _ us hl => match us, hl with | [_], _ => rfl⟩, ⟨f8, _, fun_mk (st := s_operands) l8 c8 k8, PySem.W.mg_of X G a8, (fun_mk (st := s_operands) l8 c8 k8).binds (ps := ["expression"]) fun _ _ _ _ _ _ us hl => match us, hl with | [_], _ => rfl⟩, ⟨f9, _, fun_mk (st := s_parts) l9 c9 k9, PySem.W.mg_of X G a9, (fun_mk (st := s_parts) l9 c9 k9).binds (ps := ["expression"]) fun _ _ _ _ _ _ us hl => match us, hl with | [_], _ => rfl⟩, ⟨f10, _, fun_mk (st := s__law_pool) l10 c10 k10, PySem.W.mg_of X G a10, (fun_mk (st := s__law_pool) l10 c10 k10).binds (ps := ["script"]) fun _ _ _ _ _ _ us hl => match us, hl with | [_], _ => rfl⟩, ⟨f11, _, fun_mk (st := s__law_take) l11 c11 k11, PySem.W.mg_of X G a11, (fun_mk (st := s__law_take) l11 c11 k11).binds (ps := ["pool", "many"]) fun _ _ _ _ _ _ us hl => match us, hl with | [_, _], _ => rfl⟩, ⟨f12, _, fun_mk (st := s__law_forms) l12 c12 k12, PySem.W.mg_of X G a12, (fun_mk (st := s__law_forms) l12 c12 k12).binds (ps := []) fun _ _ _ _ _ _ us hl => match us, hl with | [], _ => rfl⟩, ⟨f13, _, fun_mk (st := s__law_name) l13 c13 k13, PySem.W.mg_of X G a13, (fun_mk (st := s__law_name) l13 c13 k13).binds (ps := ["pool"]) fun _ _ _ _ _ _ us hl => match us, hl with | [_], _ => rfl⟩, ⟨f14, _, fun_mk (st := s__law_text) l14 c14 k14, PySem.W.mg_of X G a14, (fun_mk (st := s__law_text) l14 c14 k14).binds (ps := ["pool"]) fun _ _ _ _ _ _ us hl => match us, hl with | [_], _ => rfl⟩, ⟨f15, _, fun_mk (st := s__law_integer) l15 c15 k15, PySem.W.mg_of X G a15, (fun_mk (st := s__law_integer) l15 c15 k15).binds (ps := ["pool"]) fun _ _ _ _ _ _ us hl => match us, hl with | [_], _ => rfl⟩, ⟨f16, _, fun_mk (st := s__law_plain) l16 c16 k16, PySem.W.mg_of X G a16, (fun_mk (st := s__law_plain) l16 c16 k16).binds (ps := ["pool"]) fun _ _ _ _ _ _ us hl => match us, hl with | [_], _ => rfl⟩, ⟨f17, _, fun_mk (st := s__law_expression) l17 c17 k17, PySem.W.mg_of X G a17, (fun_mk (st := s__law_expression) l17 c17 k17).binds (ps := ["pool", "depth"]) fun _ _ _ _ _ _ us hl => match us, hl with | [_, _], _ => rfl⟩, ⟨f18, _, fun_mk (st := s__law_below) l18 c18 k18, PySem.W.mg_of X G a18, (fun_mk (st := s__law_below) l18 c18 k18).binds (ps := ["expression"]) fun _ _ _ _ _ _ us hl => match us, hl with | [_], _ => rfl⟩, ⟨f19, _, fun_mk (st := s__law_parts) l19 c19 k19, PySem.W.mg_of X G a19, (fun_mk (st := s__law_parts) l19 c19 k19).binds (ps := ["expression"]) fun _ _ _ _ _ _ us hl => match us, hl with | [_], _ => rfl⟩, ⟨f20, _, fun_mk (st := s__law_quoted) l20 c20 k20, PySem.W.mg_of X G a20, (fun_mk (st := s__law_quoted) l20 c20 k20).binds (ps := ["text"]) fun _ _ _ _ _ _ us hl => match us, hl with | [_], _ => rfl⟩, ⟨f21, _, fun_mk (st := s__law_tokens) l21 c21 k21, PySem.W.mg_of X G a21, (fun_mk (st := s__law_tokens) l21 c21 k21).binds (ps := ["expression"]) fun _ _ _ _ _ _ us hl => match us, hl with | [_], _ => rfl⟩, ⟨f22, _, fun_mk (st := s__law_written) l22 c22 k22, PySem.W.mg_of X G a22, (fun_mk (st := s__law_written) l22 c22 k22).binds (ps := ["tokens"]) fun _ _ _ _ _ _ us hl => match us, hl with | [_], _ => rfl⟩, ⟨f23, _, fun_mk (st := s__law_gap) l23 c23 k23, PySem.W.mg_of X G a23, (fun_mk (st := s__law_gap) l23 c23 k23).binds (ps := ["pool", "left", "right"]) fun _ _ _ _ _ _ us hl => match us, hl with | [_, _, _], _ => rfl⟩, ⟨f24, _, fun_mk (st := s__law_layout) l24 c24 k24, PySem.W.mg_of X G a24, (fun_mk (st := s__law_layout) l24 c24 k24).binds (ps := ["pool", "tokens"]) fun _ _ _ _ _ _ us hl => match us, hl with | [_, _], _ => rfl⟩, ⟨f25, _, fun_mk (st := s__law_refused) l25 c25 k25, PySem.W.mg_of X G a25, (fun_mk (st := s__law_refused) l25 c25 k25).binds (ps := ["text"]) fun _ _ _ _ _ _ us hl => match us, hl with | [_], _ => rfl⟩, PySem.W.mg_none_of X G z0, PySem.W.mg_none_of X G z1, PySem.W.mg_none_of X G z2, PySem.W.mg_none_of X G z3, PySem.W.mg_none_of X G z4, PySem.W.mg_none_of X G z5, PySem.W.mg_none_of X G z6, PySem.W.mg_none_of X G z7, PySem.W.mg_none_of X G z8, PySem.W.mg_none_of X G z9, PySem.W.mg_none_of X G z10, zdig, ⟨zt0, by rw [← ge0]; exact PySem.W.mg_of X G gs0⟩, ⟨zt1, PySem.W.mg_of X G gs1⟩, ⟨zt2, PySem.W.mg_of X G gs2⟩, ⟨zt3, by rw [← ge3]; exact PySem.W.mg_of X G gs3⟩, ⟨zt4, PySem.W.mg_of X G gs4⟩, ⟨zt5, PySem.W.mg_of X G gs5⟩, ⟨zt6, PySem.W.mg_of X G gs6⟩, ⟨zt7, PySem.W.mg_of X G gs7⟩, ⟨ga8, ga8, PySem.W.mg_of X G gs8, qa8_0, qa8_1, qa8_2, qa8_3, qa8_4, qa8_5, qa8_6, qa8_7, qa8_8, qa8_9, qa8_10, qa8_11, qa8_12, qa8_13, qa8_14, qa8_15, qa8_16, qa8_17, qa8_18, qa8_19, qa8_20, qa8_21, qa8_22, qa8_23, qa8_24, qa8_25, qa8_26, qa8_27, qa8_28, qa8_29, qa8_30, qa8_31, qa8_32, qa8_33, qa8_34, qa8_35, by cases ge8; exact ⟨⟨⟨_, _, gk8, ⟨⟨_, _, rfl, gq8_0⟩, ⟨_, _, rfl, gq8_1⟩, ⟨_, _, rfl, gq8_2⟩, ⟨_, _, rfl, gq8_3⟩, ⟨_, _, rfl, gq8_4⟩, ⟨_, _, rfl, gq8_5⟩, ⟨_, _, rfl, gq8_6⟩, ⟨_, _, rfl, gq8_7⟩, ⟨_, _, rfl, gq8_8⟩, ⟨_, _, rfl, gq8_9⟩, ⟨_, _, rfl, gq8_10⟩, ⟨_, _, rfl, gq8_11⟩, ⟨_, _, rfl, gq8_12⟩, ⟨_, _, rfl, gq8_13⟩, ⟨_, _, rfl, gq8_14⟩, ⟨_, _, rfl, gq8_15⟩, ⟨_, _, rfl, gq8_16⟩, ⟨_, _, rfl, gq8_17⟩, ⟨_, _, rfl, gq8_18⟩, ⟨_, _, rfl, gq8_19⟩, ⟨_, _, rfl, gq8_20⟩, ⟨_, _, rfl, gq8_21⟩, ⟨_, _, rfl, gq8_22⟩, ⟨_, _, rfl, gq8_23⟩, ⟨_, _, rfl, gq8_24⟩, ⟨_, _, rfl, gq8_25⟩, ⟨_, _, rfl, gq8_26⟩, ⟨_, _, rfl, gq8_27⟩, ⟨_, _, rfl, gq8_28⟩, ⟨_, _, rfl, gq8_29⟩, ⟨_, _, rfl, gq8_30⟩, ⟨_, _, rfl, gq8_31⟩, ⟨_, _, rfl, gq8_32⟩, ⟨_, _, rfl, gq8_33⟩, ⟨_, _, rfl, gq8_34⟩, ⟨_, _, rfl, gq8_35⟩, True.intro⟩, ⟨_, _, _, _, rfl, rfl, rfl, ⟨_, _, _, _, rfl, rfl, rfl, ⟨_, _, _, _, rfl, rfl, rfl, ⟨_, _, _, _, rfl, rfl, rfl, ⟨_, _, _, _, rfl, rfl, rfl, ⟨_, _, _, _, rfl, rfl, rfl, ⟨_, _, _, _, rfl, rfl, rfl, ⟨_, _, _, _, rfl, rfl, rfl, ⟨_, _, _, _, rfl, rfl, rfl, ⟨_, _, _, _, rfl, rfl, rfl, ⟨_, _, _, _, rfl, rfl, rfl, ⟨_, _, _, _, rfl, rfl, rfl, ⟨_, _, _, _, rfl, rfl, rfl, ⟨_, _, _, _, rfl, rfl, rfl, ⟨_, _, _, _, rfl, rfl, rfl, ⟨_, _, _, _, rfl, rfl, rfl, ⟨_, _, _, _, rfl, rfl, rfl, ⟨_, _, _, _, rfl, rfl, rfl, ⟨_, _, _, _, rfl, rfl, rfl, ⟨_, _, _, _, rfl, rfl, rfl, ⟨_, _, _, _, rfl, rfl, rfl, ⟨_, _, _, _, rfl, rfl, rfl, ⟨_, _, _, _, rfl, rfl, rfl, ⟨_, _, _, _, rfl, rfl, rfl, ⟨_, _, _, _, rfl, rfl, rfl, ⟨_, _, _, _, rfl, rfl, rfl, ⟨_, _, _, _, rfl, rfl, rfl, ⟨_, _, _, _, rfl, rfl, rfl, ⟨_, _, _, _, rfl, rfl, rfl, ⟨_, _, _, _, rfl, rfl, rfl, ⟨_, _, _, _, rfl, rfl, rfl, ⟨_, _, _, _, rfl, rfl, rfl, ⟨_, _, _, _, rfl, rfl, rfl, ⟨_, _, _, _, rfl, rfl, rfl, ⟨_, _, _, _, rfl, rfl, rfl, ⟨_, _, _, _, rfl, rfl, rfl, rfl⟩⟩⟩⟩⟩⟩⟩⟩⟩⟩⟩⟩⟩⟩⟩⟩⟩⟩⟩⟩⟩⟩⟩⟩⟩⟩⟩⟩⟩⟩⟩⟩⟩⟩⟩⟩⟩, gb8⟩, fun G => rep_ctup (its := [.str qs8_0_0 qt8_0_0, .str qs8_0_1 qt8_0_1]) qk8_0 (by show 2 ≤ sizeLine; decide) (.cons ⟨.str qs8_0_0, ⟨_, rfl⟩, by rw [← qe8_0_0]; exact rep_of_str⟩ (.cons ⟨.str qs8_0_1, ⟨_, rfl⟩, by rw [← qe8_0_1]; exact rep_of_str⟩ (.nil))), fun G => rep_ctup (its := [.str qs8_1_0 qt8_1_0]) qk8_1 (by show 1 ≤ sizeLine; decide) (.cons ⟨.str qs8_1_0, ⟨_, rfl⟩, by rw [← qe8_1_0]; exact rep_of_str⟩ (.nil)), fun G => rep_ctup (its := [.str qs8_2_0 qt8_2_0, .str qs8_2_1 qt8_2_1]) qk8_2 (by show 2 ≤ sizeLine; decide) (.cons ⟨.str qs8_2_0, ⟨_, rfl⟩, by rw [← qe8_2_0]; exact rep_of_str⟩ (.cons ⟨.str qs8_2_1, ⟨_, rfl⟩, by rw [← qe8_2_1]; exact rep_of_str⟩ (.nil))), fun G => rep_ctup (its := [.str qs8_3_0 qt8_3_0, .str qs8_3_1 qt8_3_1]) qk8_3 (by show 2 ≤ sizeLine; decide) (.cons ⟨.str qs8_3_0, ⟨_, rfl⟩, by rw [← qe8_3_0]; exact rep_of_str⟩ (.cons ⟨.str qs8_3_1, ⟨_, rfl⟩, by rw [← qe8_3_1]; exact rep_of_str⟩ (.nil))), fun G => rep_ctup (its := [.str qs8_4_0 qt8_4_0]) qk8_4 (by show 1 ≤ sizeLine; decide) (.cons ⟨.str qs8_4_0, ⟨_, rfl⟩, by rw [← qe8_4_0]; exact rep_of_str⟩ (.nil)), fun G => rep_ctup (its := [.str qs8_5_0 qt8_5_0]) qk8_5 (by show 1 ≤ sizeLine; decide) (.cons ⟨.str qs8_5_0, ⟨_, rfl⟩, by rw [← qe8_5_0]; exact rep_of_str⟩ (.nil)), fun G => rep_ctup (its := [.str qs8_6_0 qt8_6_0]) qk8_6 (by show 1 ≤ sizeLine; decide) (.cons ⟨.str qs8_6_0, ⟨_, rfl⟩, by rw [← qe8_6_0]; exact rep_of_str⟩ (.nil)), fun G => rep_ctup (its := [.str qs8_7_0 qt8_7_0, .str qs8_7_1 qt8_7_1]) qk8_7 (by show 2 ≤ sizeLine; decide) (.cons ⟨.str qs8_7_0, ⟨_, rfl⟩, by rw [← qe8_7_0]; exact rep_of_str⟩ (.cons ⟨.str qs8_7_1, ⟨_, rfl⟩, by rw [← qe8_7_1]; exact rep_of_str⟩ (.nil))), fun G => rep_ctup (its := [.str qs8_8_0 qt8_8_0, .str qs8_8_1 qt8_8_1, .str qs8_8_2 qt8_8_2]) qk8_8 (by show 3 ≤ sizeLine; decide) (.cons ⟨.str qs8_8_0, ⟨_, rfl⟩, by rw [← qe8_8_0]; exact rep_of_str⟩ (.cons ⟨.str qs8_8_1, ⟨_, rfl⟩, by rw [← qe8_8_1]; exact rep_of_str⟩ (.cons ⟨.str qs8_8_2, ⟨_, rfl⟩, by rw [← qe8_8_2]; exact rep_of_str⟩ (.nil)))), fun G => rep_ctup (its := [.str qs8_9_0 qt8_9_0, .str qs8_9_1 qt8_9_1]) qk8_9 (by show 2 ≤ sizeLine; decide) (.cons ⟨.str qs8_9_0, ⟨_, rfl⟩, by rw [← qe8_9_0]; exact rep_of_str⟩ (.cons ⟨.str qs8_9_1, ⟨_, rfl⟩, by rw [← qe8_9_1]; exact rep_of_str⟩ (.nil))), fun G => rep_ctup (its := [.str qs8_10_0 qt8_10_0, .str qs8_10_1 qt8_10_1]) qk8_10 (by show 2 ≤ sizeLine; decide) (.cons ⟨.str qs8_10_0, ⟨_, rfl⟩, by rw [← qe8_10_0]; exact rep_of_str⟩ (.cons ⟨.str qs8_10_1, ⟨_, rfl⟩, by rw [← qe8_10_1]; exact rep_of_str⟩ (.nil))), fun G => rep_ctup (its := [.str qs8_11_0 qt8_11_0, .str qs8_11_1 qt8_11_1]) qk8_11 (by show 2 ≤ sizeLine; decide) (.cons ⟨.str qs8_11_0, ⟨_, rfl⟩, by rw [← qe8_11_0]; exact rep_of_str⟩ (.cons ⟨.str qs8_11_1, ⟨_, rfl⟩, by rw [← qe8_11_1]; exact rep_of_str⟩ (.nil))), fun G => rep_ctup (its := [.str qs8_12_0 qt8_12_0, .str qs8_12_1 qt8_12_1]) qk8_12 (by show 2 ≤ sizeLine; decide) (.cons ⟨.str qs8_12_0, ⟨_, rfl⟩, by rw [← qe8_12_0]; exact rep_of_str⟩ (.cons ⟨.str qs8_12_1, ⟨_, rfl⟩, by rw [← qe8_12_1]; exact rep_of_str⟩ (.nil))), fun G => rep_ctup (its := [.str qs8_13_0 qt8_13_0, .str qs8_13_1 qt8_13_1, .str qs8_13_2 qt8_13_2]) qk8_13 (by show 3 ≤ sizeLine; decide) (.cons ⟨.str qs8_13_0, ⟨_, rfl⟩, by rw [← qe8_13_0]; exact rep_of_str⟩ (.cons ⟨.str qs8_13_1, ⟨_, rfl⟩, by rw [← qe8_13_1]; exact rep_of_str⟩ (.cons ⟨.str qs8_13_2, ⟨_, rfl⟩, by rw [← qe8_13_2]; exact rep_of_str⟩ (.nil)))), fun G => rep_ctup (its := [.str qs8_14_0 qt8_14_0]) qk8_14 (by show 1 ≤ sizeLine; decide) (.cons ⟨.str qs8_14_0, ⟨_, rfl⟩, by rw [← qe8_14_0]; exact rep_of_str⟩ (.nil)), fun G => rep_ctup (its := [.str qs8_15_0 qt8_15_0]) qk8_15 (by show 1 ≤ sizeLine; decide) (.cons ⟨.str qs8_15_0, ⟨_, rfl⟩, by rw [← qe8_15_0]; exact rep_of_str⟩ (.nil)), fun G => rep_ctup (its := [.str qs8_16_0 qt8_16_0]) qk8_16 (by show 1 ≤ sizeLine; decide) (.cons ⟨.str qs8_16_0, ⟨_, rfl⟩, by rw [← qe8_16_0]; exact rep_of_str⟩ (.nil)), fun G => rep_ctup (its := [.str qs8_17_0 qt8_17_0]) qk8_17 (by show 1 ≤ sizeLine; decide) (.cons ⟨.str qs8_17_0, ⟨_, rfl⟩, by rw [← qe8_17_0]; exact rep_of_str⟩ (.nil)), fun G => rep_ctup (its := [.str qs8_18_0 qt8_18_0]) qk8_18 (by show 1 ≤ sizeLine; decide) (.cons ⟨.str qs8_18_0, ⟨_, rfl⟩, by rw [← qe8_18_0]; exact rep_of_str⟩ (.nil)), fun G => rep_ctup (its := [.str qs8_19_0 qt8_19_0]) qk8_19 (by show 1 ≤ sizeLine; decide) (.cons ⟨.str qs8_19_0, ⟨_, rfl⟩, by rw [← qe8_19_0]; exact rep_of_str⟩ (.nil)), fun G => rep_ctup (its := [.str qs8_20_0 qt8_20_0]) qk8_20 (by show 1 ≤ sizeLine; decide) (.cons ⟨.str qs8_20_0, ⟨_, rfl⟩, by rw [← qe8_20_0]; exact rep_of_str⟩ (.nil)), fun G => rep_ctup (its := [.str qs8_21_0 qt8_21_0]) qk8_21 (by show 1 ≤ sizeLine; decide) (.cons ⟨.str qs8_21_0, ⟨_, rfl⟩, by rw [← qe8_21_0]; exact rep_of_str⟩ (.nil)), fun G => rep_ctup (its := [.str qs8_22_0 qt8_22_0, .str qs8_22_1 qt8_22_1]) qk8_22 (by show 2 ≤ sizeLine; decide) (.cons ⟨.str qs8_22_0, ⟨_, rfl⟩, by rw [← qe8_22_0]; exact rep_of_str⟩ (.cons ⟨.str qs8_22_1, ⟨_, rfl⟩, by rw [← qe8_22_1]; exact rep_of_str⟩ (.nil))), fun G => rep_ctup (its := [.str qs8_23_0 qt8_23_0, .str qs8_23_1 qt8_23_1]) qk8_23 (by show 2 ≤ sizeLine; decide) (.cons ⟨.str qs8_23_0, ⟨_, rfl⟩, by rw [← qe8_23_0]; exact rep_of_str⟩ (.cons ⟨.str qs8_23_1, ⟨_, rfl⟩, by rw [← qe8_23_1]; exact rep_of_str⟩ (.nil))), fun G => rep_ctup (its := [.str qs8_24_0 qt8_24_0, .str qs8_24_1 qt8_24_1]) qk8_24 (by show 2 ≤ sizeLine; decide) (.cons ⟨.str qs8_24_0, ⟨_, rfl⟩, by rw [← qe8_24_0]; exact rep_of_str⟩ (.cons ⟨.str qs8_24_1, ⟨_, rfl⟩, by rw [← qe8_24_1]; exact rep_of_str⟩ (.nil))), fun G => rep_ctup (its := [.str qs8_25_0 qt8_25_0, .str qs8_25_1 qt8_25_1]) qk8_25 (by show 2 ≤ sizeLine; decide) (.cons ⟨.str qs8_25_0, ⟨_, rfl⟩, by rw [← qe8_25_0]; exact rep_of_str⟩ (.cons ⟨.str qs8_25_1, ⟨_, rfl⟩, by rw [← qe8_25_1]; exact rep_of_str⟩ (.nil))), fun G => rep_ctup (its := [.str qs8_26_0 qt8_26_0, .str qs8_26_1 qt8_26_1]) qk8_26 (by show 2 ≤ sizeLine; decide) (.cons ⟨.str qs8_26_0, ⟨_, rfl⟩, by rw [← qe8_26_0]; exact rep_of_str⟩ (.cons ⟨.str qs8_26_1, ⟨_, rfl⟩, by rw [← qe8_26_1]; exact rep_of_str⟩ (.nil))), fun G => rep_ctup (its := [.str qs8_27_0 qt8_27_0, .str qs8_27_1 qt8_27_1]) qk8_27 (by show 2 ≤ sizeLine; decide) (.cons ⟨.str qs8_27_0, ⟨_, rfl⟩, by rw [← qe8_27_0]; exact rep_of_str⟩ (.cons ⟨.str qs8_27_1, ⟨_, rfl⟩, by rw [← qe8_27_1]; exact rep_of_str⟩ (.nil))), fun G => rep_ctup (its := [.str qs8_28_0 qt8_28_0, .str qs8_28_1 qt8_28_1]) qk8_28 (by show 2 ≤ sizeLine; decide) (.cons ⟨.str qs8_28_0, ⟨_, rfl⟩, by rw [← qe8_28_0]; exact rep_of_str⟩ (.cons ⟨.str qs8_28_1, ⟨_, rfl⟩, by rw [← qe8_28_1]; exact rep_of_str⟩ (.nil))), fun G => rep_ctup (its := [.str qs8_29_0 qt8_29_0, .str qs8_29_1 qt8_29_1]) qk8_29 (by show 2 ≤ sizeLine; decide) (.cons ⟨.str qs8_29_0, ⟨_, rfl⟩, by rw [← qe8_29_0]; exact rep_of_str⟩ (.cons ⟨.str qs8_29_1, ⟨_, rfl⟩, by rw [← qe8_29_1]; exact rep_of_str⟩ (.nil))), fun G => rep_ctup (its := [.str qs8_30_0 qt8_30_0, .str qs8_30_1 qt8_30_1]) qk8_30 (by show 2 ≤ sizeLine; decide) (.cons ⟨.str qs8_30_0, ⟨_, rfl⟩, by rw [← qe8_30_0]; exact rep_of_str⟩ (.cons ⟨.str qs8_30_1, ⟨_, rfl⟩, by rw [← qe8_30_1]; exact rep_of_str⟩ (.nil))), fun G => rep_ctup (its := [.str qs8_31_0 qt8_31_0, .str qs8_31_1 qt8_31_1]) qk8_31 (by show 2 ≤ sizeLine; decide) (.cons ⟨.str qs8_31_0, ⟨_, rfl⟩, by rw [← qe8_31_0]; exact rep_of_str⟩ (.cons ⟨.str qs8_31_1, ⟨_, rfl⟩, by rw [← qe8_31_1]; exact rep_of_str⟩ (.nil))), fun G => rep_ctup (its := [.str qs8_32_0 qt8_32_0, .str qs8_32_1 qt8_32_1]) qk8_32 (by show 2 ≤ sizeLine; decide) (.cons ⟨.str qs8_32_0, ⟨_, rfl⟩, by rw [← qe8_32_0]; exact rep_of_str⟩ (.cons ⟨.str qs8_32_1, ⟨_, rfl⟩, by rw [← qe8_32_1]; exact rep_of_str⟩ (.nil))), fun G => rep_ctup (its := [.str qs8_33_0 qt8_33_0, .str qs8_33_1 qt8_33_1]) qk8_33 (by show 2 ≤ sizeLine; decide) (.cons ⟨.str qs8_33_0, ⟨_, rfl⟩, by rw [← qe8_33_0]; exact rep_of_str⟩ (.cons ⟨.str qs8_33_1, ⟨_, rfl⟩, by rw [← qe8_33_1]; exact rep_of_str⟩ (.nil))), fun G => rep_ctup (its := [.str qs8_34_0 qt8_34_0, .str qs8_34_1 qt8_34_1]) qk8_34 (by show 2 ≤ sizeLine; decide) (.cons ⟨.str qs8_34_0, ⟨_, rfl⟩, by rw [← qe8_34_0]; exact rep_of_str⟩ (.cons ⟨.str qs8_34_1, ⟨_, rfl⟩, by rw [← qe8_34_1]; exact rep_of_str⟩ (.nil))), fun G => rep_ctup (its := [.str qs8_35_0 qt8_35_0, .str qs8_35_1 qt8_35_1, .str qs8_35_2 qt8_35_2]) qk8_35 (by show 3 ≤ sizeLine; decide) (.cons ⟨.str qs8_35_0, ⟨_, rfl⟩, by rw [← qe8_35_0]; exact rep_of_str⟩ (.cons ⟨.str qs8_35_1, ⟨_, rfl⟩, by rw [← qe8_35_1]; exact rep_of_str⟩ (.cons ⟨.str qs8_35_2, ⟨_, rfl⟩, by rw [← qe8_35_2]; exact rep_of_str⟩ (.nil))))⟩⟩, ⟨qC0, ⟨kp0, kh0, ko0, ks0⟩, PySem.W.mg_of X G ke0, kf0_0, kf0_1, kf0_2, ⟨mf0_0, _, fun_mk (st := s_ExpressionReader___init__) ml0_0 mc0_0 mk0_0, ⟨ma0_0, mi0_0, mk0_0⟩, (fun_mk (st := s_ExpressionReader___init__) ml0_0 mc0_0 mk0_0).binds (ps := ["self", "text"]) fun _ _ _ _ _ _ us hl => match us, hl with | [_, _], _ => rfl⟩, ⟨mf0_1, _, fun_mk (st := s_ExpressionReader_whole) ml0_1 mc0_1 mk0_1, ⟨ma0_1, mi0_1, mk0_1⟩, (fun_mk (st := s_ExpressionReader_whole) ml0_1 mc0_1 mk0_1).binds (ps := ["self"]) fun _ _ _ _ _ _ us hl => match us, hl with | [_], _ => rfl⟩, ⟨mf0_2, _, fun_mk (st := s_ExpressionReader__take) ml0_2 mc0_2 mk0_2, ⟨ma0_2, mi0_2, mk0_2⟩, (fun_mk (st := s_ExpressionReader__take) ml0_2 mc0_2 mk0_2).binds (ps := ["self", "sort"]) fun _ _ _ _ _ _ us hl => match us, hl with | [_, _], _ => rfl⟩, ⟨mf0_3, _, fun_mk (st := s_ExpressionReader__expression) ml0_3 mc0_3 mk0_3, ⟨ma0_3, mi0_3, mk0_3⟩, (fun_mk (st := s_ExpressionReader__expression) ml0_3 mc0_3 mk0_3).binds (ps := ["self", "level"]) fun _ _ _ _ _ _ us hl => match us, hl with | [_, _], _ => rfl⟩, ⟨mf0_4, _, fun_mk (st := s_ExpressionReader__form) ml0_4 mc0_4 mk0_4, ⟨ma0_4, mi0_4, mk0_4⟩, (fun_mk (st := s_ExpressionReader__form) ml0_4 mc0_4 mk0_4).binds (ps := ["self", "level"]) fun _ _ _ _ _ _ us hl => match us, hl with | [_, _], _ => rfl⟩, ⟨mf0_5, _, fun_mk (st := s_ExpressionReader__needed) ml0_5 mc0_5 mk0_5, ⟨ma0_5, mi0_5, mk0_5⟩, (fun_mk (st := s_ExpressionReader__needed) ml0_5 mc0_5 mk0_5).binds (ps := ["self", "need", "level"]) fun _ _ _ _ _ _ us hl => match us, hl with | [_, _, _], _ => rfl⟩, ⟨mf0_6, _, fun_mk (st := s_ExpressionReader__several) ml0_6 mc0_6 mk0_6, ⟨ma0_6, mi0_6, mk0_6⟩, (fun_mk (st := s_ExpressionReader__several) ml0_6 mc0_6 mk0_6).binds (ps := ["self", "level"]) fun _ _ _ _ _ _ us hl => match us, hl with | [_, _], _ => rfl⟩, km0, kk0⟩, ⟨C0, CT, ⟨⟨⟨nm0, q0, N0, bs0, _, sn0, sub0, ab0, col0, dd0, jj0_0, jj1_0, jj2_0, jj3_0, jj5_0, xL0, rfl⟩, sa0, xC0, tC0, kC0⟩, PySem.W.mg_of X G eC0, ⟨fI0, _, iI0, tI0, fun_mk (st := s_BadExpression_init) lI0 cI0 kI0, (fun_mk (st := s_BadExpression_init) lI0 cI0 kI0).binds (ps := ["self", "position"]) fun _ _ _ _ _ _ us hl => match us, hl with | [_, _], _ => rfl⟩, n1_0, ⟨ga0, gg0, xC0, hC0⟩, exm_self xC0 jC0 tC0 sC0, ⟨ga0, gg0, xC0, hC0, gC0, oC0, wC0, mC0⟩⟩, PySem.W.mg_of X G aT, kit_ref iT yT uC0, kit_ty (by decide +kernel) vC0⟩⟩
  have tht : PySem.W.tabIn K "is_name" = some (tc, tP) := by
    unfold PySem.W.tabIn
    rw [a0]
    simp only [l0, tlk, PySem.W.fnOf, tvp]
  have B : ∀ base : Heap, GxR.TabB base mg tc tP → DefB K mg base "is_name" s_is_name ["text"] tP := fun base tb => ⟨f0, _, tc, ⟨_, _, _, _, _, _, _, _, rfl, l0, c0⟩, PySem.W.mg_of X G a0, (fun_mk (st := s_is_name) l0 c0 k0).binds (ps := ["text"]) fun _ _ _ _ _ _ us hl => match us, hl with | [_], _ => rfl, k0, tb⟩
  exact ⟨PySem.W.fnOf "law" "law" (defArgs s_law) (defBody s_law) (defScope s_law) .none kV26 dc26 pm26 an26 cd26 ct26, tc, tP, tht, tno, fun s v => .of_eq rfl, fun base _ _ tb => ok_law T (B base tb) (fun_mk (st := s_law) l26 c26 k26)⟩


end PK

open PySem PySem.W PyProof.Rows
set_option maxHeartbeats 0 in
theorem PySem.Challenge.cw_tongues_k44_expressions_holds : PySem.Challenge.rw_tongues_k44_expressions.Holds := by
  w_on; o_law; k_head; (case hw => w_witness2)
  k_fill
  refine Tg.walk_tab (l := PySem.Challenge.rw_tongues_k44_expressions) (n := 63) (k := PK.lawLevel) (x := "script") (nm := "is_name") (W := PK.W_law) rfl (by decide) rfl ⟨rfl, by decide, by decide⟩ (fun w h Y => PySem.W.kIn_of Y) ⟨_, rfl⟩ ?F PK.law_asks
  case F =>
    intro w mg fa h KX G hmg
    refine' PK.all_mk KX G hmg ?a0 ?l0 ?c0 ?k0 ?a1 ?l1 ?c1 ?k1 ?a2 ?l2 ?c2 ?k2 ?a3 ?l3 ?c3 ?k3 ?a4 ?l4 ?c4 ?k4 ?a5 ?l5 ?c5 ?k5 ?a6 ?l6 ?c6 ?k6 ?a7 ?l7 ?c7 ?k7 ?a8 ?l8 ?c8 ?k8 ?a9 ?l9 ?c9 ?k9 ?a10 ?l10 ?c10 ?k10 ?a11 ?l11 ?c11 ?k11 ?a12 ?l12 ?c12 ?k12 ?a13 ?l13 ?c13 ?k13 ?a14 ?l14 ?c14 ?k14 ?a15 ?l15 ?c15 ?k15 ?a16 ?l16 ?c16 ?k16 ?a17 ?l17 ?c17 ?k17 ?a18 ?l18 ?c18 ?k18 ?a19 ?l19 ?c19 ?k19 ?a20 ?l20 ?c20 ?k20 ?a21 ?l21 ?c21 ?k21 ?a22 ?l22 ?c22 ?k22 ?a23 ?l23 ?c23 ?k23 ?a24 ?l24 ?c24 ?k24 ?a25 ?l25 ?c25 ?k25 ?a26 ?l26 ?c26 ?k26 ?z0 ?z1 ?z2 ?z3 ?z4 ?z5 ?z6 ?z7 ?z8 ?z9 ?z10 ?zdig ?gs0 ?ge0 ?gs1 ?gs2 ?gs3 ?ge3 ?gs4 ?gs5 ?gs6 ?gs7 ?gs8 ?gk8 ?ge8 ?gb8 ?gq8_0 ?gq8_1 ?gq8_2 ?gq8_3 ?gq8_4 ?gq8_5 ?gq8_6 ?gq8_7 ?gq8_8 ?gq8_9 ?gq8_10 ?gq8_11 ?gq8_12 ?gq8_13 ?gq8_14 ?gq8_15 ?gq8_16 ?gq8_17 ?gq8_18 ?gq8_19 ?gq8_20 ?gq8_21 ?gq8_22 ?gq8_23 ?gq8_24 ?gq8_25 ?gq8_26 ?gq8_27 ?gq8_28 ?gq8_29 ?gq8_30 ?gq8_31 ?gq8_32 ?gq8_33 ?gq8_34 ?gq8_35 ?qk8_0 ?qe8_0_0 ?qe8_0_1 ?qk8_1 ?qe8_1_0 ?qk8_2 ?qe8_2_0 ?qe8_2_1 ?qk8_3 ?qe8_3_0 ?qe8_3_1 ?qk8_4 ?qe8_4_0 ?qk8_5 ?qe8_5_0 ?qk8_6 ?qe8_6_0 ?qk8_7 ?qe8_7_0 ?qe8_7_1 ?qk8_8 ?qe8_8_0 ?qe8_8_1 ?qe8_8_2 ?qk8_9 ?qe8_9_0 ?qe8_9_1 ?qk8_10 ?qe8_10_0 ?qe8_10_1 ?qk8_11 ?qe8_11_0 ?qe8_11_1 ?qk8_12 ?qe8_12_0 ?qe8_12_1 ?qk8_13 ?qe8_13_0 ?qe8_13_1 ?qe8_13_2 ?qk8_14 ?qe8_14_0 ?qk8_15 ?qe8_15_0 ?qk8_16 ?qe8_16_0 ?qk8_17 ?qe8_17_0 ?qk8_18 ?qe8_18_0 ?qk8_19 ?qe8_19_0 ?qk8_20 ?qe8_20_0 ?qk8_21 ?qe8_21_0 ?qk8_22 ?qe8_22_0 ?qe8_22_1 ?qk8_23 ?qe8_23_0 ?qe8_23_1 ?qk8_24 ?qe8_24_0 ?qe8_24_1 ?qk8_25 ?qe8_25_0 ?qe8_25_1 ?qk8_26 ?qe8_26_0 ?qe8_26_1 ?qk8_27 ?qe8_27_0 ?qe8_27_1 ?qk8_28 ?qe8_28_0 ?qe8_28_1 ?qk8_29 ?qe8_29_0 ?qe8_29_1 ?qk8_30 ?qe8_30_0 ?qe8_30_1 ?qk8_31 ?qe8_31_0 ?qe8_31_1 ?qk8_32 ?qe8_32_0 ?qe8_32_1 ?qk8_33 ?qe8_33_0 ?qe8_33_1 ?qk8_34 ?qe8_34_0 ?qe8_34_1 ?qk8_35 ?qe8_35_0 ?qe8_35_1 ?qe8_35_2 ?ke0 ?kp0 ?kh0 ?ko0 ?ks0 ?km0 ?kk0 ?kf0_0 ?kf0_1 ?kf0_2 ?ma0_0 ?mi0_0 ?mk0_0 ?ml0_0 ?mc0_0 ?ma0_1 ?mi0_1 ?mk0_1 ?ml0_1 ?mc0_1 ?ma0_2 ?mi0_2 ?mk0_2 ?ml0_2 ?mc0_2 ?ma0_3 ?mi0_3 ?mk0_3 ?ml0_3 ?mc0_3 ?ma0_4 ?mi0_4 ?mk0_4 ?ml0_4 ?mc0_4 ?ma0_5 ?mi0_5 ?mk0_5 ?ml0_5 ?mc0_5 ?ma0_6 ?mi0_6 ?mk0_6 ?ml0_6 ?mc0_6 ?aT ?iT ?yT ?eC0 ?xL0 ?sa0 ?ga0 ?gg0 ?n1_0 ?iI0 ?tI0 ?lI0 ?cI0 ?kI0 ?kC0 ?xC0 ?tC0 ?hC0 ?jC0 ?sC0 ?uC0 ?vC0 ?gC0 ?oC0 ?wC0 ?mC0 ?tlk ?tvp ?tno
    (case a0 => k_is); (case l0 => k_is); (case c0 => k_is); (case k0 => k_is); (case a1 => k_is); (case l1 => k_is); (case c1 => k_is); (case k1 => k_is); (case a2 => k_is); (case l2 => k_is); (case c2 => k_is); (case k2 => k_is); (case a3 => k_is); (case l3 => k_is); (case c3 => k_is); (case k3 => k_is); (case a4 => k_is); (case l4 => k_is); (case c4 => k_is); (case k4 => k_is); (case a5 => k_is); (case l5 => k_is); (case c5 => k_is); (case k5 => k_is); (case a6 => k_is); (case l6 => k_is); (case c6 => k_is); (case k6 => k_is); (case a7 => k_is); (case l7 => k_is); (case c7 => k_is); (case k7 => k_is); (case a8 => k_is); (case l8 => k_is); (case c8 => k_is); (case k8 => k_is); (case a9 => k_is); (case l9 => k_is); (case c9 => k_is); (case k9 => k_is); (case a10 => k_is); (case l10 => k_is); (case c10 => k_is); (case k10 => k_is); (case a11 => k_is); (case l11 => k_is); (case c11 => k_is); (case k11 => k_is); (case a12 => k_is); (case l12 => k_is); (case c12 => k_is); (case k12 => k_is); (case a13 => k_is); (case l13 => k_is); (case c13 => k_is); (case k13 => k_is); (case a14 => k_is); (case l14 => k_is); (case c14 => k_is); (case k14 => k_is); (case a15 => k_is); (case l15 => k_is); (case c15 => k_is); (case k15 => k_is); (case a16 => k_is); (case l16 => k_is); (case c16 => k_is); (case k16 => k_is); (case a17 => k_is); (case l17 => k_is); (case c17 => k_is); (case k17 => k_is); (case a18 => k_is); (case l18 => k_is); (case c18 => k_is); (case k18 => k_is); (case a19 => k_is); (case l19 => k_is); (case c19 => k_is); (case k19 => k_is); (case a20 => k_is); (case l20 => k_is); (case c20 => k_is); (case k20 => k_is); (case a21 => k_is); (case l21 => k_is); (case c21 => k_is); (case k21 => k_is); (case a22 => k_is); (case l22 => k_is); (case c22 => k_is); (case k22 => k_is); (case a23 => k_is); (case l23 => k_is); (case c23 => k_is); (case k23 => k_is); (case a24 => k_is); (case l24 => k_is); (case c24 => k_is); (case k24 => k_is); (case a25 => k_is); (case l25 => k_is); (case c25 => k_is); (case k25 => k_is); (case a26 => k_is); (case l26 => k_is); (case c26 => k_is); (case k26 => k_is); (case z0 => k_is); (case z1 => k_is); (case z2 => k_is); (case z3 => k_is); (case z4 => k_is); (case z5 => k_is); (case z6 => k_is); (case z7 => k_is); (case z8 => k_is); (case z9 => k_is); (case z10 => k_is); (case zdig => k_is); (case gs0 => k_is); (case ge0 => first | rfl | decide +kernel); (case gs1 => k_is); (case gs2 => k_is); (case gs3 => k_is); (case ge3 => first | rfl | decide +kernel); (case gs4 => k_is); (case gs5 => k_is); (case gs6 => k_is); (case gs7 => k_is); (case gs8 => k_is); (case gk8 => k_is); (case ge8 => first | rfl | decide +kernel); (case gb8 => first | rfl | decide +kernel); (case gq8_0 => first | rfl | decide +kernel); (case gq8_1 => first | rfl | decide +kernel); (case gq8_2 => first | rfl | decide +kernel); (case gq8_3 => first | rfl | decide +kernel); (case gq8_4 => first | rfl | decide +kernel); (case gq8_5 => first | rfl | decide +kernel); (case gq8_6 => first | rfl | decide +kernel); (case gq8_7 => first | rfl | decide +kernel); (case gq8_8 => first | rfl | decide +kernel); (case gq8_9 => first | rfl | decide +kernel); (case gq8_10 => first | rfl | decide +kernel); (case gq8_11 => first | rfl | decide +kernel); (case gq8_12 => first | rfl | decide +kernel); (case gq8_13 => first | rfl | decide +kernel); (case gq8_14 => first | rfl | decide +kernel); (case gq8_15 => first | rfl | decide +kernel); (case gq8_16 => first | rfl | decide +kernel); (case gq8_17 => first | rfl | decide +kernel); (case gq8_18 => first | rfl | decide +kernel); (case gq8_19 => first | rfl | decide +kernel); (case gq8_20 => first | rfl | decide +kernel); (case gq8_21 => first | rfl | decide +kernel); (case gq8_22 => first | rfl | decide +kernel); (case gq8_23 => first | rfl | decide +kernel); (case gq8_24 => first | rfl | decide +kernel); (case gq8_25 => first | rfl | decide +kernel); (case gq8_26 => first | rfl | decide +kernel); (case gq8_27 => first | rfl | decide +kernel); (case gq8_28 => first | rfl | decide +kernel); (case gq8_29 => first | rfl | decide +kernel); (case gq8_30 => first | rfl | decide +kernel); (case gq8_31 => first | rfl | decide +kernel); (case gq8_32 => first | rfl | decide +kernel); (case gq8_33 => first | rfl | decide +kernel); (case gq8_34 => first | rfl | decide +kernel); (case gq8_35 => first | rfl | decide +kernel); (case qk8_0 => k_is); (case qe8_0_0 => first | rfl | decide +kernel); (case qe8_0_1 => first | rfl | decide +kernel); (case qk8_1 => k_is); (case qe8_1_0 => first | rfl | decide +kernel); (case qk8_2 => k_is); (case qe8_2_0 => first | rfl | decide +kernel); (case qe8_2_1 => first | rfl | decide +kernel); (case qk8_3 => k_is); (case qe8_3_0 => first | rfl | decide +kernel); (case qe8_3_1 => first | rfl | decide +kernel); (case qk8_4 => k_is); (case qe8_4_0 => first | rfl | decide +kernel); (case qk8_5 => k_is); (case qe8_5_0 => first | rfl | decide +kernel); (case qk8_6 => k_is); (case qe8_6_0 => first | rfl | decide +kernel); (case qk8_7 => k_is); (case qe8_7_0 => first | rfl | decide +kernel); (case qe8_7_1 => first | rfl | decide +kernel); (case qk8_8 => k_is); (case qe8_8_0 => first | rfl | decide +kernel); (case qe8_8_1 => first | rfl | decide +kernel); (case qe8_8_2 => first | rfl | decide +kernel); (case qk8_9 => k_is); (case qe8_9_0 => first | rfl | decide +kernel); (case qe8_9_1 => first | rfl | decide +kernel); (case qk8_10 => k_is); (case qe8_10_0 => first | rfl | decide +kernel); (case qe8_10_1 => first | rfl | decide +kernel); (case qk8_11 => k_is); (case qe8_11_0 => first | rfl | decide +kernel); (case qe8_11_1 => first | rfl | decide +kernel); (case qk8_12 => k_is); (case qe8_12_0 => first | rfl | decide +kernel); (case qe8_12_1 => first | rfl | decide +kernel); (case qk8_13 => k_is); (case qe8_13_0 => first | rfl | decide +kernel); (case qe8_13_1 => first | rfl | decide +kernel); (case qe8_13_2 => first | rfl | decide +kernel); (case qk8_14 => k_is); (case qe8_14_0 => first | rfl | decide +kernel); (case qk8_15 => k_is); (case qe8_15_0 => first | rfl | decide +kernel); (case qk8_16 => k_is); (case qe8_16_0 => first | rfl | decide +kernel); (case qk8_17 => k_is); (case qe8_17_0 => first | rfl | decide +kernel); (case qk8_18 => k_is); (case qe8_18_0 => first | rfl | decide +kernel); (case qk8_19 => k_is); (case qe8_19_0 => first | rfl | decide +kernel); (case qk8_20 => k_is); (case qe8_20_0 => first | rfl | decide +kernel); (case qk8_21 => k_is); (case qe8_21_0 => first | rfl | decide +kernel); (case qk8_22 => k_is); (case qe8_22_0 => first | rfl | decide +kernel); (case qe8_22_1 => first | rfl | decide +kernel); (case qk8_23 => k_is); (case qe8_23_0 => first | rfl | decide +kernel); (case qe8_23_1 => first | rfl | decide +kernel); (case qk8_24 => k_is); (case qe8_24_0 => first | rfl | decide +kernel); (case qe8_24_1 => first | rfl | decide +kernel); (case qk8_25 => k_is); (case qe8_25_0 => first | rfl | decide +kernel); (case qe8_25_1 => first | rfl | decide +kernel); (case qk8_26 => k_is); (case qe8_26_0 => first | rfl | decide +kernel); (case qe8_26_1 => first | rfl | decide +kernel); (case qk8_27 => k_is); (case qe8_27_0 => first | rfl | decide +kernel); (case qe8_27_1 => first | rfl | decide +kernel); (case qk8_28 => k_is); (case qe8_28_0 => first | rfl | decide +kernel); (case qe8_28_1 => first | rfl | decide +kernel); (case qk8_29 => k_is); (case qe8_29_0 => first | rfl | decide +kernel); (case qe8_29_1 => first | rfl | decide +kernel); (case qk8_30 => k_is); (case qe8_30_0 => first | rfl | decide +kernel); (case qe8_30_1 => first | rfl | decide +kernel); (case qk8_31 => k_is); (case qe8_31_0 => first | rfl | decide +kernel); (case qe8_31_1 => first | rfl | decide +kernel); (case qk8_32 => k_is); (case qe8_32_0 => first | rfl | decide +kernel); (case qe8_32_1 => first | rfl | decide +kernel); (case qk8_33 => k_is); (case qe8_33_0 => first | rfl | decide +kernel); (case qe8_33_1 => first | rfl | decide +kernel); (case qk8_34 => k_is); (case qe8_34_0 => first | rfl | decide +kernel); (case qe8_34_1 => first | rfl | decide +kernel); (case qk8_35 => k_is); (case qe8_35_0 => first | rfl | decide +kernel); (case qe8_35_1 => first | rfl | decide +kernel); (case qe8_35_2 => first | rfl | decide +kernel); (case ke0 => k_is); (case kp0 => k_is); (case kh0 => k_is); (case ko0 => k_is); (case ks0 => k_is); (case km0 => k_is); (case kk0 => k_is); (case kf0_0 => k_is); (case kf0_1 => k_is); (case kf0_2 => k_is); (case ma0_0 => k_is); (case mi0_0 => k_is); (case mk0_0 => k_is); (case ml0_0 => k_is); (case mc0_0 => k_is); (case ma0_1 => k_is); (case mi0_1 => k_is); (case mk0_1 => k_is); (case ml0_1 => k_is); (case mc0_1 => k_is); (case ma0_2 => k_is); (case mi0_2 => k_is); (case mk0_2 => k_is); (case ml0_2 => k_is); (case mc0_2 => k_is); (case ma0_3 => k_is); (case mi0_3 => k_is); (case mk0_3 => k_is); (case ml0_3 => k_is); (case mc0_3 => k_is); (case ma0_4 => k_is); (case mi0_4 => k_is); (case mk0_4 => k_is); (case ml0_4 => k_is); (case mc0_4 => k_is); (case ma0_5 => k_is); (case mi0_5 => k_is); (case mk0_5 => k_is); (case ml0_5 => k_is); (case mc0_5 => k_is); (case ma0_6 => k_is); (case mi0_6 => k_is); (case mk0_6 => k_is); (case ml0_6 => k_is); (case mc0_6 => k_is); (case aT => k_is); (case iT => k_is); (case yT => k_is); (case eC0 => k_is); (case xL0 => k_is); (case sa0 => k_is); (case ga0 => k_is); (case gg0 => k_is); (case n1_0 => k_is); (case iI0 => k_is); (case tI0 => k_is); (case lI0 => k_is); (case cI0 => k_is); (case kI0 => k_is); (case kC0 => k_is); (case xC0 => k_is); (case tC0 => k_is); (case hC0 => k_is); (case jC0 => k_is); (case sC0 => k_is); (case uC0 => k_is); (case vC0 => k_is); (case gC0 => k_is); (case oC0 => k_is); (case wC0 => k_is); (case mC0 => k_is); (case tlk => k_is); (case tvp => first | rfl | decide +kernel); (case tno => first | rfl | decide +kernel)
