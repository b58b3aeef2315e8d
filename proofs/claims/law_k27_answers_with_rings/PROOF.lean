import PyProof.Rows.All
import Wide.All
import OpenK.AllK
import Wide.FinOn
import HandS.ForMost
import HandS.IsInst
import HandS.Codes
import HandS.Steps
import HandS.Exc
import HandS.TupAny
import HandS.StrMore
import HandS.Flow
import HandS.Small
import HandS.Conv
import PyProof.Rows.RegReprOcc
import PyProof.StrLawsLast
import KE.GoesEnum
import HandS.ForExc
import HandS.ExcInit
import HandS.ExcField
import HandS.ExcIs
import KE.KExcIs
import PyProof.ReprLen
import PyProof.ReprRoads
import PyProof.StrLawsRepr
import PyProof.FitsInt
import HandS.Ends
import Wide.All
import OpenK.AllK
import Wide.FinOn
import HandS.More
import HandS.Replace
import PyProof.AutoSeq1
import HandS.SortInts
import KE.KIntText
import KE.IntTextLaws
import OpenK.Peek
import HandS.CallLocal
import HandS.Star
import HandS.Deep
import HandS.Wide
import HandS.AnyAll
import HandS.EndTab
import HandS.ReplaceList
import PyProof.DictDisplay
import PyProof.DictUpdate
import KE.KDictLaw
import HandS.Zip
import HandS.WordsDict
import HandS.TryMany
import HandS.Property
import HandS.HotCalls
import HandS.ForDict
import HandS.ExcCtx
import HandS.ExcInitHot
import PySem.Challenge.RW_tongues_k27_answers_with_rings
set_option Elab.async false
set_option linter.all false
set_option maxRecDepth 100000
set_option maxHeartbeats 1000000
/-! Tg: readings over deep data: what a reading asks, said of values without addresses. -/
namespace Tg
open PySem L2

/-! ### deep data -/
inductive D where
  | non | bl (b : Bool) | int (i : Int) | str (s : Str) | ty (n : String) | ref (a : Addr)
  | tup (ds : List D) | lst (ds : List D) | lsk (ds : List D)

mutual
def Rep (K : PySem.W.Frag) (G : Hp) : D → V → Prop
  | .non, v => v = .non
  | .bl b, v => v = .bl b
  | .int i, v => v = .int i
  | .str s, v => v = .str s
  | .ty n, v => v = .ty n
  | .ref a, v => v = .ref a
  | .tup ds, v => ∃ a xs, v = .ref a ∧ SqT K G a xs ∧ Reps K G ds xs
  | .lst ds, v => ∃ a xs, v = .ref a ∧ G a = some (.lst xs) ∧ Reps K G ds xs
  | .lsk ds, v => ∃ a xs, v = .ref a ∧ SqL K G a xs ∧ Reps K G ds xs
def Reps (K : PySem.W.Frag) (G : Hp) : List D → List V → Prop
  | [], xs => xs = []
  | d :: ds, xs => ∃ x r, xs = x :: r ∧ Rep K G d x ∧ Reps K G ds r
end

section
variable {K : PySem.W.Frag} {G G' H H' : Hp}
theorem Same.seqT {a : Addr} {xs : List V} (e : Same G G') (h : SqT K G a xs) : SqT K G' a xs := by
  rcases h with (h | ⟨o, h⟩) | h
  · exact .inl (.inl (e _ _ h))
  · exact .inl (.inr ⟨o, e _ _ h⟩)
  · exact .inr h
mutual
theorem Rep.mono (e : Same G G') : ∀ (d : D) (v : V), Rep K G d v → Rep K G' d v
  | .non, _, h => h
  | .bl _, _, h => h
  | .int _, _, h => h
  | .str _, _, h => h
  | .ty _, _, h => h
  | .ref _, _, h => h
  | .tup ds, _, h => by
    unfold Rep at h ⊢
    obtain ⟨a, xs, r, q, s⟩ := h
    exact ⟨a, xs, r, Same.seqT e q, Reps.mono e ds xs s⟩
  | .lst ds, _, h => by
    unfold Rep at h ⊢
    obtain ⟨a, xs, r, q, s⟩ := h
    exact ⟨a, xs, r, e _ _ q, Reps.mono e ds xs s⟩
  | .lsk ds, _, h => by
    unfold Rep at h ⊢
    obtain ⟨a, xs, r, q, s⟩ := h
    exact ⟨a, xs, r, e.seq q, Reps.mono e ds xs s⟩
theorem Reps.mono (e : Same G G') : ∀ (ds : List D) (xs : List V), Reps K G ds xs → Reps K G' ds xs
  | [], _, h => h
  | d :: ds, _, h => by
    unfold Reps at h ⊢
    obtain ⟨x, r, q, s, t⟩ := h
    exact ⟨x, r, q, Rep.mono e d x s, Reps.mono e ds r t⟩
end
theorem Reps.len : ∀ {ds : List D} {xs : List V}, Reps K G ds xs → xs.length = ds.length
  | [], _, h => by
    unfold Reps at h
    rw [h]
    rfl
  | d :: ds, _, h => by
    unfold Reps at h
    obtain ⟨x, r, q, _, t⟩ := h
    rw [q, List.length_cons, List.length_cons, Reps.len t]
theorem Reps.get : ∀ {ds : List D} {xs : List V} {i : Nat} {d : D}, Reps K G ds xs → ds[i]? = some d → ∃ x, xs[i]? = some x ∧ Rep K G d x
  | [], _, i, d, _, e => by simp at e
  | d :: ds, _, i, d', h, e => by
    unfold Reps at h
    obtain ⟨x, r, q, s, t⟩ := h
    subst q
    cases i with
    | zero =>
      have e1 : d = d' := by simpa using e
      subst e1
      exact ⟨x, rfl, s⟩
    | succ i =>
      have e1 : ds[i]? = some d' := by simpa using e
      obtain ⟨y, e2, s2⟩ := Reps.get t e1
      exact ⟨y, by simpa using e2, s2⟩
theorem Reps.get' : ∀ {ds : List D} {xs : List V} {i : Nat} {x : V}, Reps K G ds xs → xs[i]? = some x → ∃ d, ds[i]? = some d ∧ Rep K G d x
  | [], _, i, x, h, e => by
    unfold Reps at h
    rw [h] at e
    simp at e
  | d :: ds, _, i, x', h, e => by
    unfold Reps at h
    obtain ⟨x, r, q, s, t⟩ := h
    subst q
    cases i with
    | zero =>
      have e1 : x = x' := by simpa using e
      subst e1
      exact ⟨d, rfl, s⟩
    | succ i =>
      have e1 : r[i]? = some x' := by simpa using e
      obtain ⟨y, e2, s2⟩ := Reps.get' t e1
      exact ⟨y, by simpa using e2, s2⟩
theorem Reps.append : ∀ {ds es : List D} {xs ys : List V}, Reps K G ds xs → Reps K G es ys → Reps K G (ds ++ es) (xs ++ ys)
  | [], es, xs, ys, h, g => by
    unfold Reps at h
    rw [h]
    exact g
  | d :: ds, es, xs, ys, h, g => by
    unfold Reps at h
    obtain ⟨x, r, q, s, t⟩ := h
    subst q
    show Reps K G (d :: (ds ++ es)) (x :: (r ++ ys))
    unfold Reps
    exact ⟨x, _, rfl, s, Reps.append t g⟩
theorem Reps.one {d : D} {x : V} (h : Rep K G d x) : Reps K G [d] [x] := by
  unfold Reps
  exact ⟨x, [], rfl, h, by unfold Reps; rfl⟩
theorem Reps.nil : Reps K G [] [] := by
  unfold Reps
  rfl
theorem Reps.cons {d : D} {x : V} {ds : List D} {xs : List V} (h : Rep K G d x) (t : Reps K G ds xs) : Reps K G (d :: ds) (x :: xs) := by
  unfold Reps
  exact ⟨x, xs, rfl, h, t⟩
theorem Reps.uncons {d : D} {ds : List D} {xs : List V} (h : Reps K G (d :: ds) xs) : ∃ x r, xs = x :: r ∧ Rep K G d x ∧ Reps K G ds r := by
  unfold Reps at h
  exact h
theorem Reps.set : ∀ {ds : List D} {xs : List V} {i : Nat} {d : D} {x : V}, Reps K G ds xs → Rep K G d x → Reps K G (ds.set i d) (xs.set i x)
  | [], _, i, d, x, h, g => by
    unfold Reps at h
    rw [h]
    simp only [List.set_nil]
    exact Reps.nil
  | c :: ds, _, i, d, x, h, g => by
    obtain ⟨y, r, q, s, t⟩ := Reps.uncons h
    subst q
    cases i with
    | zero => exact Reps.cons g t
    | succ i => exact Reps.cons s (Reps.set t g)
theorem Reps.drop : ∀ {ds : List D} {xs : List V} (n : Nat), Reps K G ds xs → Reps K G (ds.drop n) (xs.drop n)
  | _, _, 0, h => h
  | [], _, n + 1, h => by
    unfold Reps at h
    rw [h]
    exact Reps.nil
  | c :: ds, _, n + 1, h => by
    obtain ⟨y, r, q, s, t⟩ := Reps.uncons h
    subst q
    exact Reps.drop n t
theorem Reps.take : ∀ {ds : List D} {xs : List V} (n : Nat), Reps K G ds xs → Reps K G (ds.take n) (xs.take n)
  | _, _, 0, h => Reps.nil
  | [], _, n + 1, h => by
    unfold Reps at h
    rw [h]
    exact Reps.nil
  | c :: ds, _, n + 1, h => by
    obtain ⟨y, r, q, s, t⟩ := Reps.uncons h
    subst q
    exact Reps.cons s (Reps.take n t)
theorem Reps.ints : ∀ {is : List Int} {xs : List V}, Reps K G (is.map D.int) xs → xs = is.map V.int
  | [], xs, h => by
    unfold Reps at h
    rw [h]
    rfl
  | i :: is, xs, h => by
    obtain ⟨x, r, q, s, t⟩ := Reps.uncons h
    unfold Rep at s
    rw [q, s, Reps.ints t]
    rfl
theorem Reps.ofInts : ∀ {is : List Int}, Reps K G (is.map D.int) (is.map V.int)
  | [] => Reps.nil
  | i :: is => Reps.cons (by unfold Rep; rfl) Reps.ofInts
theorem Reps.bls : ∀ {is : List Bool} {xs : List V}, Reps K G (is.map D.bl) xs → xs = is.map V.bl
  | [], xs, h => by
    unfold Reps at h
    rw [h]
    rfl
  | i :: is, xs, h => by
    obtain ⟨x, r, q, s, t⟩ := Reps.uncons h
    unfold Rep at s
    rw [q, s, Reps.bls t]
    rfl
theorem Reps.strs : ∀ {is : List Str} {xs : List V}, Reps K G (is.map D.str) xs → xs = is.map V.str
  | [], xs, h => by
    unfold Reps at h
    rw [h]
    rfl
  | i :: is, xs, h => by
    obtain ⟨x, r, q, s, t⟩ := Reps.uncons h
    unfold Rep at s
    rw [q, s, Reps.strs t]
    rfl
theorem rep_int {i : Int} {v : V} (h : Rep K G (.int i) v) : v = .int i := by
  unfold Rep at h
  exact h
theorem rep_str {i : Str} {v : V} (h : Rep K G (.str i) v) : v = .str i := by
  unfold Rep at h
  exact h
theorem rep_bl {i : Bool} {v : V} (h : Rep K G (.bl i) v) : v = .bl i := by
  unfold Rep at h
  exact h
theorem rep_non {v : V} (h : Rep K G .non v) : v = .non := by
  unfold Rep at h
  exact h
theorem rep_ref {a : Addr} {v : V} (h : Rep K G (.ref a) v) : v = .ref a := by
  unfold Rep at h
  exact h
theorem rep_ty {n : String} {v : V} (h : Rep K G (.ty n) v) : v = .ty n := by
  unfold Rep at h
  exact h
theorem rep_tup {ds : List D} {v : V} (h : Rep K G (.tup ds) v) : ∃ a xs, v = .ref a ∧ SqT K G a xs ∧ Reps K G ds xs := by
  unfold Rep at h
  exact h
theorem rep_lst {ds : List D} {v : V} (h : Rep K G (.lst ds) v) : ∃ a xs, v = .ref a ∧ G a = some (.lst xs) ∧ Reps K G ds xs := by
  unfold Rep at h
  exact h
theorem rep_lsk {ds : List D} {v : V} (h : Rep K G (.lsk ds) v) : ∃ a xs, v = .ref a ∧ SqL K G a xs ∧ Reps K G ds xs := by
  unfold Rep at h
  exact h
theorem rep_mk_tup {ds : List D} {a : Addr} {xs : List V} (h : SqT K G a xs) (r : Reps K G ds xs) : Rep K G (.tup ds) (.ref a) := by
  unfold Rep
  exact ⟨a, xs, rfl, h, r⟩
theorem rep_mk_lst {ds : List D} {a : Addr} {xs : List V} (h : G a = some (.lst xs)) (r : Reps K G ds xs) : Rep K G (.lst ds) (.ref a) := by
  unfold Rep
  exact ⟨a, xs, rfl, h, r⟩
theorem rep_mk_lsk {ds : List D} {a : Addr} {xs : List V} (h : SqL K G a xs) (r : Reps K G ds xs) : Rep K G (.lsk ds) (.ref a) := by
  unfold Rep
  exact ⟨a, xs, rfl, h, r⟩
theorem rep_of_int {i : Int} : Rep K G (.int i) (.int i) := by unfold Rep; rfl
theorem rep_of_str {i : Str} : Rep K G (.str i) (.str i) := by unfold Rep; rfl
theorem rep_of_bl {i : Bool} : Rep K G (.bl i) (.bl i) := by unfold Rep; rfl
theorem rep_of_non : Rep K G .non .non := by unfold Rep; rfl
theorem rep_of_ref {a : Addr} : Rep K G (.ref a) (.ref a) := by unfold Rep; rfl
theorem rep_of_ty {n : String} : Rep K G (.ty n) (.ty n) := by unfold Rep; rfl
end

/-! ### what may change: lists, dicts with int and text keys, instances -/
inductive MO where
  | lst (ds : List D)
  | dK (kvs : List (Key × D))
  | ins (C dx : Addr) (fs : List (Str × D))
  | xd (fs : List (Str × D))
  | tb
  /-- a dict that is locked -/
  | dF (od : Obj) (ps : List (Key × V)) (kvs : List (Key × D))
abbrev Mu := List (Addr × MO)
def RepKV (K : PySem.W.Frag) (G : Hp) {κ : Type} : List (κ × D) → List (κ × V) → Prop
  | [], xs => xs = []
  | (k, d) :: ds, xs => ∃ x r, xs = (k, x) :: r ∧ Rep K G d x ∧ RepKV K G ds r
def RepM (K : PySem.W.Frag) (G : Hp) : MO → HO → Prop
  | .lst ds, o => ∃ xs, o = .lst xs ∧ Reps K G ds xs
  | .dK kvs, o => ∃ ps, o = .dK ps ∧ RepKV K G kvs ps
  | .ins C dx fs, o => ∃ ps, o = .ins C dx ps ∧ RepKV K G fs ps
  | .xd fs, o => ∃ ps, o = .xd ps ∧ RepKV K G fs ps
  | .tb, o => ∃ ps : Array Value, o = .tbl ps ∧ TriplesOk ps.toList
  | .dF od ps kvs, o => o = .frz od (.dK ps) ∧ RepKV K G kvs ps
section
variable {K : PySem.W.Frag} {G G' H H' : Hp}
theorem RepKV.mono {κ : Type} (e : Same G G') : ∀ {ds : List (κ × D)} {xs : List (κ × V)}, RepKV K G ds xs → RepKV K G' ds xs
  | [], _, h => h
  | (k, d) :: ds, _, h => by
    unfold RepKV at h ⊢
    obtain ⟨x, r, q, s, t⟩ := h
    exact ⟨x, r, q, Rep.mono e _ _ s, RepKV.mono e t⟩
theorem RepM.mono (e : Same G G') {m : MO} {o : HO} (h : RepM K G m o) : RepM K G' m o := by
  cases m with
  | lst ds =>
    obtain ⟨xs, r, s⟩ := h
    exact ⟨xs, r, Reps.mono e _ _ s⟩
  | dK kvs =>
    obtain ⟨xs, r, s⟩ := h
    exact ⟨xs, r, RepKV.mono e s⟩
  | ins C dx fs =>
    obtain ⟨xs, r, s⟩ := h
    exact ⟨xs, r, RepKV.mono e s⟩
  | xd fs =>
    obtain ⟨xs, r, s⟩ := h
    exact ⟨xs, r, RepKV.mono e s⟩
  | tb => exact h
  | dF od ps kvs => exact ⟨h.1, RepKV.mono e h.2⟩
end

/-- the state: G the part of the heap that stays, M what may change -/
structure S (K : PySem.W.Frag) (G H : Hp) (M : Mu) : Prop where
  same : Same G H
  mu : ∀ p ∈ M, G p.1 = none ∧ ∃ o, H p.1 = some o ∧ RepM K G p.2 o
  nd : (M.map (·.1)).Nodup
/-- from (G, H) with what may change at A, to (G', H') with what may change at A' -/
structure Step (A : List Addr) (G H : Hp) (A' : List Addr) (G' H' : Hp) : Prop where
  gg : Same G G'
  fr : ∀ b, H b ≠ none → b ∉ A → G' b = G b
  keep : ∀ b o, b ∉ A → H b = some o → H' b = some o
  alive : ∀ b, H b ≠ none → H' b ≠ none
  own : ∀ b ∈ A', b ∈ A ∨ H b = none
abbrev ads (M : Mu) : List Addr := M.map (·.1)

section
variable {K : PySem.W.Frag} {G G' G1 G2 H H' H1 H2 : Hp} {A A1 A2 : List Addr} {M M' M1 M2 : Mu}
theorem Step.refl : Step A G H A G H := ⟨Same.refl G, fun _ _ _ => rfl, fun _ _ _ h => h, fun _ h => h, fun _ h => .inl h⟩
theorem Step.trans (a : Step A G H A1 G1 H1) (b : Step A1 G1 H1 A2 G2 H2) : Step A G H A2 G2 H2 := by
  have no : ∀ c, H c ≠ none → c ∉ A → c ∉ A1 := fun c h n z => by
    rcases a.own c z with q | q
    · exact n q
    · exact h q
  refine ⟨a.gg.trans b.gg, fun c h n => ?_, fun c o n h => ?_, fun c h => b.alive c (a.alive c h), fun c h => ?_⟩
  · rw [b.fr c (a.alive c h) (no c h n), a.fr c h n]
  · exact b.keep c o (no c (by rw [h]; exact fun z => nomatch z) n) (a.keep c o n h)
  · rcases b.own c h with q | q
    · exact a.own c q
    · right
      cases e : H c with
      | none => rfl
      | some o => exact absurd q (a.alive c (by rw [e]; exact fun z => nomatch z))
/-- forgetting some of what may change -/
theorem S.sub (s : S K G H (M1 ++ M2)) : S K G H M1 := ⟨s.same, fun p hp => s.mu p (List.mem_append_left _ hp), by
  have h := s.nd
  rw [List.map_append] at h
  exact (List.nodup_append.mp h).1⟩
/-- a new frozen object -/
theorem S.frozen (s : S K G H M) {p : Addr} {o : HO} (hp : H p = none) : S K (upd G p o) (upd H p o) M ∧ Step (ads M) G H (ads M) (upd G p o) (upd H p o) ∧ Same G (upd G p o) := by
  have gp : G p = none := s.same.free hp
  have gs : Same G (upd G p o) := fun b u e => by
    rw [upd_ne (ne_of_none e gp)]
    exact e
  refine ⟨⟨fun b u e => ?_, fun q hq => ?_, s.nd⟩, ⟨gs, fun b hb _ => ?_, fun b u _ e => ?_, fun b e => ?_, fun b hb => .inl hb⟩, gs⟩
  · by_cases hb : b = p
    · subst hb
      rw [upd_same] at e ⊢
      exact e
    · rw [upd_ne hb] at e ⊢
      exact s.same b u e
  · obtain ⟨g1, o1, h1, r1⟩ := s.mu q hq
    have ne : q.1 ≠ p := ne_of_none h1 hp
    exact ⟨by rw [upd_ne ne]; exact g1, o1, by rw [upd_ne ne]; exact h1, r1.mono gs⟩
  · rw [upd_ne (fun z => hb (by rw [z]; exact hp))]
  · rw [upd_ne (ne_of_none e hp)]
    exact e
  · by_cases hb : b = p
    · subst hb
      rw [upd_same]
      exact fun z => nomatch z
    · rw [upd_ne hb]
      exact e
/-- a new object that may change -/
theorem S.fresh (s : S K G H M) {p : Addr} {o : HO} {m : MO} (hp : H p = none) (r : RepM K G m o) : S K G (upd H p o) (M ++ [(p, m)]) ∧ Step (ads M) G H (ads (M ++ [(p, m)])) G (upd H p o) := by
  have gp : G p = none := s.same.free hp
  refine ⟨⟨fun b u e => ?_, fun q hq => ?_, ?_⟩, ⟨Same.refl G, fun b hb _ => rfl, fun b u _ e => ?_, fun b e => ?_, fun b hb => ?_⟩⟩
  · rw [upd_ne (ne_of_none e gp)]
    exact s.same b u e
  · rcases List.mem_append.mp hq with hq | hq
    · obtain ⟨g1, o1, h1, r1⟩ := s.mu q hq
      exact ⟨g1, o1, by rw [upd_ne (ne_of_none h1 hp)]; exact h1, r1⟩
    · have e : q = (p, m) := by simpa using hq
      subst e
      exact ⟨gp, o, upd_same, r⟩
  · rw [List.map_append, List.nodup_append]
    refine ⟨s.nd, by simp, fun a ha b hb => ?_⟩
    have e : b = p := by simpa using hb
    subst e
    obtain ⟨q, hq, rfl⟩ := List.mem_map.mp ha
    obtain ⟨_, o1, h1, _⟩ := s.mu q hq
    exact ne_of_none h1 hp
  · rw [upd_ne (ne_of_none e hp)]
    exact e
  · by_cases hb : b = p
    · subst hb
      rw [upd_same]
      exact fun z => nomatch z
    · rw [upd_ne hb]
      exact e
  · have hb' : b ∈ M.map (·.1) ++ [p] := by simpa [ads] using hb
    rcases List.mem_append.mp hb' with hb | hb
    · exact .inl hb
    · have e : b = p := by simpa using hb
      subst e
      exact .inr hp
/-- what may change is changed -/
theorem S.write (s : S K G H (M1 ++ (p, m) :: M2)) {o : HO} {m' : MO} (r : RepM K G m' o) : S K G (upd H p o) (M1 ++ (p, m') :: M2) ∧ Step (ads (M1 ++ (p, m) :: M2)) G H (ads (M1 ++ (p, m') :: M2)) G (upd H p o) := by
  obtain ⟨gp, o0, hp, r0⟩ := s.mu (p, m) (by simp)
  have nd := s.nd
  have ads_eq : ads (M1 ++ (p, m') :: M2) = ads (M1 ++ (p, m) :: M2) := by simp [ads]
  have nd' : (M1.map (·.1) ++ p :: M2.map (·.1)).Nodup := by simpa using nd
  have out : ∀ q, q ∈ M1 ∨ q ∈ M2 → q.1 ≠ p := fun q hq z => by
    rw [List.nodup_append] at nd'
    obtain ⟨_, h2, h3⟩ := nd'
    rcases hq with hq | hq
    · exact h3 q.1 (List.mem_map.mpr ⟨q, hq, rfl⟩) p (by simp) z
    · exact (List.nodup_cons.mp h2).1 (List.mem_map.mpr ⟨q, hq, z⟩)
  refine ⟨⟨fun b u e => ?_, fun q hq => ?_, by rw [show (M1 ++ (p, m') :: M2).map (·.1) = (M1 ++ (p, m) :: M2).map (·.1) from ads_eq]; exact nd⟩, ⟨Same.refl G, fun b hb _ => rfl, fun b u hb e => ?_, fun b e => ?_, fun b hb => .inl (by rw [← ads_eq]; exact hb)⟩⟩
  · rw [upd_ne (ne_of_none e gp)]
    exact s.same b u e
  · have old : ∀ q, q ∈ M1 ∨ q ∈ M2 → G q.1 = none ∧ ∃ o1, upd H p o q.1 = some o1 ∧ RepM K G q.2 o1 := fun q hq => by
      obtain ⟨g1, o1, h1, r1⟩ := s.mu q (by rcases hq with hq | hq <;> simp [hq])
      exact ⟨g1, o1, by rw [upd_ne (out q hq)]; exact h1, r1⟩
    rcases List.mem_append.mp hq with hq | hq
    · exact old q (.inl hq)
    · rcases List.mem_cons.mp hq with e | hq
      · subst e
        exact ⟨gp, o, upd_same, r⟩
      · exact old q (.inr hq)
  · have ne : b ≠ p := fun z => hb (by simp [ads, z])
    rw [upd_ne ne]
    exact e
  · by_cases hb : b = p
    · subst hb
      rw [upd_same]
      exact fun z => nomatch z
    · rw [upd_ne hb]
      exact e
/-- what may change is frozen -/
theorem S.freeze {p : Addr} {ds : List D} (s : S K G H (M1 ++ (p, .lst ds) :: M2)) : ∃ xs, S K (upd G p (.lst xs)) H (M1 ++ M2) ∧ Step (ads (M1 ++ (p, .lst ds) :: M2)) G H (ads (M1 ++ M2)) (upd G p (.lst xs)) H ∧ Same G (upd G p (.lst xs)) ∧ Rep K (upd G p (.lst xs)) (.lst ds) (.ref p) := by
  obtain ⟨gp, o0, hp, r0⟩ := s.mu (p, .lst ds) (by simp)
  obtain ⟨xs, rfl, rx⟩ := r0
  have gs : Same G (upd G p (.lst xs)) := fun b u e => by
    rw [upd_ne (ne_of_none e gp)]
    exact e
  have nd := s.nd
  have nd' : (M1.map (·.1) ++ p :: M2.map (·.1)).Nodup := by simpa using nd
  have out : ∀ q, q ∈ M1 ∨ q ∈ M2 → q.1 ≠ p := fun q hq z => by
    rw [List.nodup_append] at nd'
    obtain ⟨_, h2, h3⟩ := nd'
    rcases hq with hq | hq
    · exact h3 q.1 (List.mem_map.mpr ⟨q, hq, rfl⟩) p (by simp) z
    · exact (List.nodup_cons.mp h2).1 (List.mem_map.mpr ⟨q, hq, z⟩)
  refine ⟨xs, ⟨fun b u e => ?_, fun q hq => ?_, ?_⟩, ⟨gs, fun b hb hn => ?_, fun b u hb e => e, fun b e => e, fun b hb => .inl ?_⟩, gs, ?_⟩
  · by_cases hb : b = p
    · subst hb
      rw [upd_same] at e
      rw [← e]
      exact hp
    · rw [upd_ne hb] at e
      exact s.same b u e
  · have hq' := List.mem_append.mp hq
    obtain ⟨g1, o1, h1, r1⟩ := s.mu q (by rcases hq' with z | z <;> simp [z])
    exact ⟨by rw [upd_ne (out q hq')]; exact g1, o1, h1, r1.mono gs⟩
  · rw [List.map_append]
    rw [List.nodup_append] at nd' ⊢
    obtain ⟨h1, h2, h3⟩ := nd'
    exact ⟨h1, (List.nodup_cons.mp h2).2, fun a ha b hb => h3 a ha b (List.mem_cons_of_mem _ hb)⟩
  · rw [upd_ne]
    intro z
    exact hn (by simp [ads, z])
  · simp only [ads, List.map_append, List.mem_append, List.map_cons, List.mem_cons] at hb ⊢
    rcases hb with z | z
    · exact .inl z
    · exact .inr (.inr z)
  · exact rep_mk_lst upd_same (Reps.mono gs _ _ rx)
end

/-! ### slots -/
abbrev DS := List (Option D)
structure RelS (K : PySem.W.Frag) (G : Hp) (δ : DS) (σ : L2.St) : Prop where
  len : δ.length = σ.length
  at_ : ∀ (i : Nat) (d : D), δ[i]? = some (some d) → ∃ v, σ[i]? = some (some v) ∧ Rep K G d v
section
variable {K : PySem.W.Frag} {G G' H H' : Hp} {δ : DS} {σ : L2.St}
theorem RelS.mono (e : Same G G') (r : RelS K G δ σ) : RelS K G' δ σ := ⟨r.len, fun i d h => let ⟨v, a, b⟩ := r.at_ i d h; ⟨v, a, Rep.mono e _ _ b⟩⟩
theorem RelS.set (r : RelS K G δ σ) (i : Nat) {d : D} {v : V} (h : Rep K G d v) : RelS K G (δ.set i (some d)) (σ.set i (some v)) := by
  refine ⟨by rw [List.length_set, List.length_set]; exact r.len, fun j e hj => ?_⟩
  by_cases hij : i = j
  · subst hij
    rw [List.getElem?_set] at hj ⊢
    rw [if_pos rfl] at hj ⊢
    rw [← r.len]
    split at hj
    · rename_i hl
      have e1 : d = e := by simpa using hj
      subst e1
      rw [if_pos hl]
      exact ⟨v, rfl, h⟩
    · cases hj
  · rw [List.getElem?_set_ne hij] at hj ⊢
    exact r.at_ j e hj
theorem RelS.setD (r : RelS K G δ σ) (i : Nat) {d : D} {v : V} (e : σ[i]? = some (some v)) (h : Rep K G d v) : RelS K G (δ.set i (some d)) σ := by
  refine ⟨by rw [List.length_set]; exact r.len, fun j f hj => ?_⟩
  by_cases hij : i = j
  · subst hij
    rw [List.getElem?_set, if_pos rfl] at hj
    split at hj
    · have e1 : d = f := by simpa using hj
      subst e1
      exact ⟨v, e, h⟩
    · cases hj
  · rw [List.getElem?_set_ne hij] at hj
    exact r.at_ j f hj
theorem RelS.drop (r : RelS K G δ σ) (i : Nat) : RelS K G (δ.set i none) (σ.set i none) := by
  refine ⟨by rw [List.length_set, List.length_set]; exact r.len, fun j e hj => ?_⟩
  by_cases hij : i = j
  · subst hij
    rw [List.getElem?_set, if_pos rfl] at hj
    split at hj <;> cases hj
  · rw [List.getElem?_set_ne hij] at hj ⊢
    exact r.at_ j e hj
/-- forgetting slots -/
theorem RelS.weak {δ' : DS} (r : RelS K G δ σ) (hl : δ'.length = δ.length) (h : ∀ (i : Nat) (d : D), δ'[i]? = some (some d) → δ[i]? = some (some d)) : RelS K G δ' σ := ⟨hl.trans r.len, fun i d e => r.at_ i d (h i d e)⟩
end
def startD (n : Nat) (ds : List D) : DS := ds.map some ++ List.replicate (n - ds.length) none
theorem relS_start {K : PySem.W.Frag} {G : Hp} {N : List Str} {ds : List D} {vs : List V} (r : Reps K G ds vs) : RelS K G (startD N.length ds) (L2.start N vs) := by
  have hl := r.len
  refine ⟨by simp [startD, L2.start, hl], fun i d h => ?_⟩
  unfold startD at h
  unfold L2.start
  by_cases hi : i < ds.length
  · rw [List.getElem?_append_left (by simpa using hi), List.getElem?_map] at h
    cases e : ds[i]? with
    | none => rw [e] at h; cases h
    | some d' =>
      rw [e] at h
      have e1 : d' = d := by simpa using h
      subst e1
      obtain ⟨x, e2, q⟩ := r.get e
      refine ⟨x, ?_, q⟩
      rw [List.getElem?_append_left (by simp [hl]; exact hi), List.getElem?_map, e2]
      rfl
  · rw [List.getElem?_append_right (by simpa using hi), List.getElem?_replicate] at h
    split at h <;> cases h

/-! ### readings over deep data -/
section
variable (K : PySem.W.Frag)
/-- behind an evaluation: the value d, what may change is M' -/
def AE (te : TE) (δ : DS) (M : Mu) (k : D → Mu → Prop) : Prop := ∀ σ G H Q, RelS K G δ σ → S K G H M →
  (∀ d M' v G' H', k d M' → S K G' H' M' → Step (ads M) G H (ads M') G' H' → Rep K G' d v → Q v H') → te σ H Q
def AT (tt : TT) (δ : DS) (M : Mu) (k : Bool → Mu → Prop) : Prop := ∀ σ G H Q, RelS K G δ σ → S K G H M →
  (∀ b M' G' H', k b M' → S K G' H' M' → Step (ads M) G H (ads M') G' H' → Q b H') → tt σ H Q
def AA (ta : TA) (δ : DS) (M : Mu) (k : List D → Mu → Prop) : Prop := ∀ σ G H Q, RelS K G δ σ → S K G H M →
  (∀ ds M' vs G' H', k ds M' → S K G' H' M' → Step (ads M) G H (ads M') G' H' → Reps K G' ds vs → Q vs H') → ta σ H Q
def AO (to : TO) (δ : DS) (M : Mu) (k : Option Int → Mu → Prop) : Prop := ∀ σ G H Q, RelS K G δ σ → S K G H M →
  (∀ o M' G' H', k o M' → S K G' H' M' → Step (ads M) G H (ads M') G' H' → Q o H') → to σ H Q
/-- an operation on two values, on one, on a list of values -/
def AR (r : R2) (x y : D) (M : Mu) (k : D → Mu → Prop) : Prop := ∀ vx vy G H Q, Rep K G x vx → Rep K G y vy → S K G H M →
  (∀ d M' v G' H', k d M' → S K G' H' M' → Step (ads M) G H (ads M') G' H' → Rep K G' d v → Q v H') → r vx vy H Q
def AU (r : V → Hp → VK → Prop) (x : D) (M : Mu) (k : D → Mu → Prop) : Prop := ∀ vx G H Q, Rep K G x vx → S K G H M →
  (∀ d M' v G' H', k d M' → S K G' H' M' → Step (ads M) G H (ads M') G' H' → Rep K G' d v → Q v H') → r vx H Q
def AC (r : List V → Hp → VK → Prop) (xs : List D) (M : Mu) (k : D → Mu → Prop) : Prop := ∀ vs G H Q, Reps K G xs vs → S K G H M →
  (∀ d M' v G' H', k d M' → S K G' H' M' → Step (ads M) G H (ads M') G' H' → Rep K G' d v → Q v H') → r vs H Q
/-- a method of x on a list of values -/
def AM (r : V → List V → Hp → VK → Prop) (x : D) (xs : List D) (M : Mu) (k : D → Mu → Prop) : Prop := ∀ vx vs G H Q, Rep K G x vx → Reps K G xs vs → S K G H M →
  (∀ d M' v G' H', k d M' → S K G' H' M' → Step (ads M) G H (ads M') G' H' → Rep K G' d v → Q v H') → r vx vs H Q
def AG (g : TG) (d : D) (δ : DS) (M : Mu) (k : DS → Mu → Prop) : Prop := ∀ v σ G H Q, Rep K G d v → RelS K G δ σ → S K G H M →
  (∀ δ' M' σ' G' H', k δ' M' → RelS K G' δ' σ' → S K G' H' M' → Step (ads M) G H (ads M') G' H' → Q σ' H') → g v σ H Q
def AGs (g : TGs) (ds : List D) (δ : DS) (M : Mu) (k : DS → Mu → Prop) : Prop := ∀ vs σ G H Q, Reps K G ds vs → RelS K G δ σ → S K G H M →
  (∀ δ' M' σ' G' H', k δ' M' → RelS K G' δ' σ' → S K G' H' M' → Step (ads M) G H (ads M') G' H' → Q σ' H') → g vs σ H Q
/-- what is wanted behind a statement -/
structure AEnds where
  nx : DS → Mu → Prop
  rt : D → Mu → Prop
  bk : DS → Mu → Prop := fun _ _ => False
  ct : DS → Mu → Prop := fun _ _ => False
  /-- what is raised: the error's fields; W, who takes it (the error's own dict, the heap) -/
  xs : List (Str × D) → Mu → Prop := fun _ _ => False
  W : Addr → Hp → Prop := fun _ _ => False
  /-- what is raised without fields: its class; who takes it -/
  ps : Addr → DS → Mu → Prop := fun _ _ _ => False
  P : Addr → St → Hp → Prop := fun _ _ _ => False
structure Fit (A : AEnds) (M : Mu) (G H : Hp) (E : Ends) : Prop where
  nx : ∀ δ' M' σ' G' H', A.nx δ' M' → RelS K G' δ' σ' → S K G' H' M' → Step (ads M) G H (ads M') G' H' → E.nx σ' H'
  rt : ∀ d M' v G' H', A.rt d M' → S K G' H' M' → Step (ads M) G H (ads M') G' H' → Rep K G' d v → E.rt v H'
  bk : ∀ δ' M' σ' G' H', A.bk δ' M' → RelS K G' δ' σ' → S K G' H' M' → Step (ads M) G H (ads M') G' H' → E.bk σ' H'
  ct : ∀ δ' M' σ' G' H', A.ct δ' M' → RelS K G' δ' σ' → S K G' H' M' → Step (ads M) G H (ads M') G' H' → E.ct σ' H'
  xs : ∀ fs M' d G' H', A.xs fs M' → S K G' H' (M' ++ [(d, .xd fs)]) → Step (ads M) G H (ads (M' ++ [(d, .xd fs)])) G' H' → A.W d H'
  ps : ∀ C δ' M' σ' G' H', A.ps C δ' M' → RelS K G' δ' σ' → S K G' H' M' → Step (ads M) G H (ads M') G' H' → A.P C σ' H'
def AS (ts : TS) (δ : DS) (M : Mu) (A : AEnds) : Prop := ∀ σ G H E, RelS K G δ σ → S K G H M → Fit K A M G H E → ts E σ H
/-- what a for walks: the items ds -/
def ItOk (J : It) (G : Hp) (ds : List D) : Prop := ∀ i G1 H1 M, Same G G1 → S K G1 H1 M →
  (∀ d, ds[i]? = some d → J.go i H1 ∧ ∀ x H', J.yld i H1 x H' → ∃ G', S K G' H' M ∧ Step (ads M) G1 H1 (ads M) G' H' ∧ Rep K G' d x) ∧ (i = ds.length → J.stop i H1)
def AI (wi : TI) (δ : DS) (M : Mu) (k : List D → Mu → Prop) : Prop := ∀ σ G H R, RelS K G δ σ → S K G H M →
  (∀ ds M' G' H' J, k ds M' → S K G' H' M' → Step (ads M) G H (ads M') G' H' → ItOk K J G' ds → R J H') → wi σ H R
end
end Tg
set_option Elab.async false
set_option linter.all false
set_option maxRecDepth 100000
set_option maxHeartbeats 1000000
namespace Tg
open PySem L2
section
variable {K : PySem.W.Frag} {δ : DS} {M : Mu} {ta tb te to ti : TE} {k : D → Mu → Prop} {i : Nat} {d x y : D}
/-! ### expressions -/
theorem ae_var (h : δ[i]? = some (some d)) (q : k d M) : AE K (tVar i) δ M k := fun σ G H Q r s f =>
  let ⟨v, e, rv⟩ := r.at_ i d h
  ⟨v, e, f d M v G H q s Step.refl rv⟩
theorem ae_c {v : V} (h : ∀ G, Rep K G d v) (q : k d M) : AE K (tC v) δ M k := fun σ G H Q r s f => f d M v G H q s Step.refl (h G)
theorem ae_int {j : Int} (q : k (.int j) M) : AE K (tC (.int j)) δ M k := ae_c (fun _ => rep_of_int) q
theorem ae_bl {b : Bool} (q : k (.bl b) M) : AE K (tC (.bl b)) δ M k := ae_c (fun _ => rep_of_bl) q
theorem ae_non (q : k .non M) : AE K (tC .non) δ M k := ae_c (fun _ => rep_of_non) q
theorem ae_str {z : Str} (q : k (.str z) M) : AE K (tC (.str z)) δ M k := ae_c (fun _ => rep_of_str) q
theorem ae_ref {a : Addr} (q : k (.ref a) M) : AE K (tC (.ref a)) δ M k := ae_c (fun _ => rep_of_ref) q
theorem ae_ty {n : String} (q : k (.ty n) M) : AE K (tC (.ty n)) δ M k := ae_c (fun _ => rep_of_ty) q
theorem ae_op {r : R2} (h : AE K ta δ M fun x M1 => AE K tb δ M1 fun y M2 => AR K r x y M2 k) : AE K (tOp r ta tb) δ M k := fun σ G H Q rs s f =>
  h σ G H _ rs s fun x M1 vx G1 H1 h1 s1 st1 r1 => h1 σ G1 H1 _ (rs.mono st1.gg) s1 fun y M2 vy G2 H2 h2 s2 st2 r2 =>
    h2 vx vy G2 H2 Q (Rep.mono st2.gg _ _ r1) r2 s2 fun d M3 v G3 H3 q s3 st3 r3 => f d M3 v G3 H3 q s3 ((st1.trans st2).trans st3) r3
theorem ae_un {r : V → Hp → VK → Prop} (h : AE K ta δ M fun x M1 => AU K r x M1 k) : AE K (tUn r ta) δ M k := fun σ G H Q rs s f =>
  h σ G H _ rs s fun x M1 vx G1 H1 h1 s1 st1 r1 => h1 vx G1 H1 Q r1 s1 fun d M3 v G3 H3 q s3 st3 r3 => f d M3 v G3 H3 q s3 (st1.trans st3) r3
theorem ae_andV (h : AE K ta δ M fun x M1 => ∃ b, x = .bl b ∧ (b = true → AE K tb δ M1 k) ∧ (b = false → k (.bl false) M1)) : AE K (tAndV ta tb) δ M k := fun σ G H Q rs s f =>
  h σ G H _ rs s fun x M1 vx G1 H1 ⟨b, e, h1, h2⟩ s1 st1 r1 => by
    subst e
    refine ⟨b, rep_bl r1, ?_⟩
    cases b with
    | true =>
      rw [if_pos rfl]
      exact h1 rfl σ G1 H1 Q (rs.mono st1.gg) s1 fun d M3 v G3 H3 q s3 st3 r3 => f d M3 v G3 H3 q s3 (st1.trans st3) r3
    | false =>
      rw [if_neg Bool.false_ne_true]
      exact f _ M1 _ G1 H1 (h2 rfl) s1 st1 rep_of_bl
theorem ae_orV (h : AE K ta δ M fun x M1 => ∃ b, x = .bl b ∧ (b = false → AE K tb δ M1 k) ∧ (b = true → k (.bl true) M1)) : AE K (tOrV ta tb) δ M k := fun σ G H Q rs s f =>
  h σ G H _ rs s fun x M1 vx G1 H1 ⟨b, e, h1, h2⟩ s1 st1 r1 => by
    subst e
    refine ⟨b, rep_bl r1, ?_⟩
    cases b with
    | false =>
      rw [if_neg Bool.false_ne_true]
      exact h1 rfl σ G1 H1 Q (rs.mono st1.gg) s1 fun d M3 v G3 H3 q s3 st3 r3 => f d M3 v G3 H3 q s3 (st1.trans st3) r3
    | true =>
      rw [if_pos rfl]
      exact f _ M1 _ G1 H1 (h2 rfl) s1 st1 rep_of_bl
theorem ae_notV (h : AE K ta δ M fun x M1 => ∃ b, x = .bl b ∧ k (.bl (!b)) M1) : AE K (tNotV ta) δ M k := fun σ G H Q rs s f =>
  h σ G H _ rs s fun x M1 vx G1 H1 ⟨b, e, h1⟩ s1 st1 r1 => by
    subst e
    exact ⟨b, rep_bl r1, f _ M1 _ G1 H1 h1 s1 st1 rep_of_bl⟩
theorem ae_if {t : TT} (h : AT K t δ M fun b M1 => (b = true → AE K ta δ M1 k) ∧ (b = false → AE K tb δ M1 k)) : AE K (tIf t ta tb) δ M k := fun σ G H Q rs s f =>
  h σ G H _ rs s fun b M1 G1 H1 ⟨h1, h2⟩ s1 st1 => by
    cases b with
    | true =>
      rw [if_pos rfl]
      exact h1 rfl σ G1 H1 Q (rs.mono st1.gg) s1 fun d M3 v G3 H3 q s3 st3 r3 => f d M3 v G3 H3 q s3 (st1.trans st3) r3
    | false =>
      rw [if_neg Bool.false_ne_true]
      exact h2 rfl σ G1 H1 Q (rs.mono st1.gg) s1 fun d M3 v G3 H3 q s3 st3 r3 => f d M3 v G3 H3 q s3 (st1.trans st3) r3
/-! ### tests -/
variable {t u : TT} {kb : Bool → Mu → Prop}
theorem at_test (h : AE K te δ M fun d M' => ∃ b, d = .bl b ∧ kb b M') : AT K (tTest te) δ M kb := fun σ G H Q rs s f =>
  h σ G H _ rs s fun x M1 vx G1 H1 ⟨b, e, h1⟩ s1 st1 r1 => by
    subst e
    exact ⟨b, rep_bl r1, f b M1 G1 H1 h1 s1 st1⟩
theorem at_B (h : AE K te δ M fun d M' => ∃ b, d = .bl b ∧ kb b M') : AT K (tB te) δ M kb := fun σ G H Q rs s f =>
  h σ G H _ rs s fun x M1 vx G1 H1 ⟨b, e, h1⟩ s1 st1 r1 => by
    subst e
    exact ⟨b, rep_bl r1, f b M1 G1 H1 h1 s1 st1⟩
theorem at_and (h : AT K t δ M fun b M1 => (b = true → AT K u δ M1 kb) ∧ (b = false → kb false M1)) : AT K (tAnd t u) δ M kb := fun σ G H Q rs s f =>
  h σ G H _ rs s fun b M1 G1 H1 ⟨h1, h2⟩ s1 st1 => by
    cases b with
    | true =>
      rw [if_pos rfl]
      exact h1 rfl σ G1 H1 Q (rs.mono st1.gg) s1 fun d M3 G3 H3 q s3 st3 => f d M3 G3 H3 q s3 (st1.trans st3)
    | false =>
      rw [if_neg Bool.false_ne_true]
      exact f _ M1 G1 H1 (h2 rfl) s1 st1
theorem at_or (h : AT K t δ M fun b M1 => (b = false → AT K u δ M1 kb) ∧ (b = true → kb true M1)) : AT K (tOr t u) δ M kb := fun σ G H Q rs s f =>
  h σ G H _ rs s fun b M1 G1 H1 ⟨h1, h2⟩ s1 st1 => by
    cases b with
    | false =>
      rw [if_neg Bool.false_ne_true]
      exact h1 rfl σ G1 H1 Q (rs.mono st1.gg) s1 fun d M3 G3 H3 q s3 st3 => f d M3 G3 H3 q s3 (st1.trans st3)
    | true =>
      rw [if_pos rfl]
      exact f _ M1 G1 H1 (h2 rfl) s1 st1
theorem at_not (h : AT K t δ M fun b M1 => kb (!b) M1) : AT K (tNot t) δ M kb := fun σ G H Q rs s f =>
  h σ G H _ rs s fun b M1 G1 H1 h1 s1 st1 => f _ M1 G1 H1 h1 s1 st1
/-- a value's truth -/
def truD : D → Bool
  | .non => false
  | .bl b => b
  | .int i => i != 0
  | .str z => ((z.length : Int) != 0)
  | .tup ds => !ds.isEmpty
  | .lst ds => !ds.isEmpty
  | .lsk ds => !ds.isEmpty
  | _ => true
def TruOk : D → Prop
  | .str z => z.length ≤ sizeLine
  | .ref _ => False
  | .ty _ => False
  | _ => True
theorem isEmpty_len {α β : Type} {xs : List α} {ys : List β} (h : xs.length = ys.length) : xs.isEmpty = ys.isEmpty := by
  cases xs <;> cases ys <;> simp_all
theorem truV_of {G H : Hp} {v : V} (e : Same G H) (o : TruOk d) (r : Rep K G d v) : TruV K v H (truD d) := by
  cases d with
  | non => rw [rep_non r]; rfl
  | bl b => rw [rep_bl r]; rfl
  | int i => rw [rep_int r]; rfl
  | str z => rw [rep_str r]; exact ⟨o, rfl⟩
  | ty n => exact o.elim
  | ref a => exact o.elim
  | tup ds =>
    obtain ⟨a, xs, rfl, h, rs⟩ := rep_tup r
    exact .inr (.inl ⟨xs, Same.seqT e h, by rw [show truD (.tup ds) = !ds.isEmpty from rfl, isEmpty_len rs.len]⟩)
  | lst ds =>
    obtain ⟨a, xs, rfl, h, rs⟩ := rep_lst r
    exact .inl ⟨xs, .inl (.inl (e _ _ h)), by rw [show truD (.lst ds) = !ds.isEmpty from rfl, isEmpty_len rs.len]⟩
  | lsk ds =>
    obtain ⟨a, xs, rfl, h, rs⟩ := rep_lsk r
    exact .inl ⟨xs, e.seq h, by rw [show truD (.lsk ds) = !ds.isEmpty from rfl, isEmpty_len rs.len]⟩
def tTruU (K : PySem.W.Frag) (ta : TE) : TT := fun σ H Q => ta σ H fun x H' => ∃ k, TruV K x H' k ∧ Q k H'
theorem pt_tru {X : Cx} {a : Expr} (ha : PE X a ta) (he : ∀ whole, isTrue a X.env whole = (do let v ← whole; standAt a.pos; holding [v] (truthy v)) := by intro _; rfl) : PT X a (tTruU X.K ta) := pt_truth ha he
theorem at_tru (h : AE K te δ M fun d M' => TruOk d ∧ kb (truD d) M') : AT K (tTruU K te) δ M kb := fun σ G H Q rs s f =>
  h σ G H _ rs s fun x M1 vx G1 H1 ⟨o, h1⟩ s1 st1 r1 => ⟨truD x, truV_of s1.same o r1, f _ M1 G1 H1 h1 s1 st1⟩
/-! ### operations -/
theorem ar_int {g : Int → Int → Int} {a b : Int} (q : k (.int (g a b)) M) : AR K (rI0 fun i j => .int (g i j)) (.int a) (.int b) M k := fun vx vy G H Q rx ry s f =>
  ⟨a, b, rep_int rx, rep_int ry, f _ M _ G H q s Step.refl rep_of_int⟩
theorem ar_cmp {g : Int → Int → Bool} {a b : Int} (q : k (.bl (g a b)) M) : AR K (rI0 fun i j => .bl (g i j)) (.int a) (.int b) M k := fun vx vy G H Q rx ry s f =>
  ⟨a, b, rep_int rx, rep_int ry, f _ M _ G H q s Step.refl rep_of_bl⟩
theorem ar_intC {C : Int → Int → Prop} {g : Int → Int → Int} {a b : Int} (c : C a b) (q : k (.int (g a b)) M) : AR K (rI C fun i j => .int (g i j)) (.int a) (.int b) M k := fun vx vy G H Q rx ry s f =>
  ⟨a, b, rep_int rx, rep_int ry, c, f _ M _ G H q s Step.refl rep_of_int⟩
theorem ar_add {a b : Int} (q : k (.int (a + b)) M) : AR K (rI0 fun i j => .int (i + j)) (.int a) (.int b) M k := ar_int (g := fun i j => i + j) q
theorem ar_sub {a b : Int} (q : k (.int (a - b)) M) : AR K (rI0 fun i j => .int (i - j)) (.int a) (.int b) M k := ar_int (g := fun i j => i - j) q
theorem ar_or1 {r1 r2 : R2} (h : AR K r1 x y M k) : AR K (fun x y H Q => r1 x y H Q ∨ r2 x y H Q) x y M k := fun vx vy G H Q rx ry s f => .inl (h vx vy G H Q rx ry s f)
theorem ar_or2 {r1 r2 : R2} (h : AR K r2 x y M k) : AR K (fun x y H Q => r1 x y H Q ∨ r2 x y H Q) x y M k := fun vx vy G H Q rx ry s f => .inr (h vx vy G H Q rx ry s f)
theorem au_neg {a : Int} (q : k (.int (-a)) M) : AU K (rU fun i => .int (-i)) (.int a) M k := fun vx G H Q rx s f => ⟨a, rep_int rx, f _ M _ G H q s Step.refl rep_of_int⟩
/-- equality of two scalars -/
def sclD : D → D → Option Bool
  | .int a, .int b => some (decide (a = b))
  | .str a, .str b => some (decide (a = b))
  | .bl a, .bl b => some (decide (a = b))
  | .non, .non => some true
  | .non, .int _ => some false
  | .int _, .non => some false
  | .non, .str _ => some false
  | .str _, .non => some false
  | _, _ => none
theorem ar_eqD {b : Bool} (h : sclD x y = some b) (q : k (.bl b) M) : AR K rEq x y M k := fun vx vy G H Q rx ry s f => by
  have go : ∀ (c : Bool), scal vx vy = true → decide (vx = vy) = c → c = b → rEq vx vy H Q := fun c h1 h2 h3 => ⟨h1, by
    rw [h2, h3]
    exact f _ M _ G H q s Step.refl rep_of_bl⟩
  cases x <;> cases y <;> simp only [sclD, Option.some.injEq, reduceCtorEq] at h
  · rw [rep_non rx, rep_non ry] at go ⊢
    exact go true rfl (by simp) h
  · rename_i j
    rw [rep_non rx, rep_int ry] at go ⊢
    exact go false rfl (by simp) h
  · rename_i j
    rw [rep_non rx, rep_str ry] at go ⊢
    exact go false rfl (by simp) h
  · rename_i i j
    rw [rep_bl rx, rep_bl ry] at go ⊢
    exact go _ rfl (by simp) h
  · rw [rep_int rx, rep_non ry] at go ⊢
    exact go false rfl (by simp) h
  · rename_i i j
    rw [rep_int rx, rep_int ry] at go ⊢
    exact go _ rfl (by simp) h
  · rw [rep_str rx, rep_non ry] at go ⊢
    exact go false rfl (by simp) h
  · rename_i i j
    rw [rep_str rx, rep_str ry] at go ⊢
    exact go _ rfl (by simp) h
theorem ar_neD {b : Bool} (h : sclD x y = some b) (q : k (.bl (!b)) M) : AR K rNe x y M k := fun vx vy G H Q rx ry s f => by
  have go : ∀ (c : Bool), scal vx vy = true → decide (vx = vy) = c → c = b → rNe vx vy H Q := fun c h1 h2 h3 => ⟨h1, by
    rw [h2, h3]
    exact f _ M _ G H q s Step.refl rep_of_bl⟩
  cases x <;> cases y <;> simp only [sclD, Option.some.injEq, reduceCtorEq] at h
  · rw [rep_non rx, rep_non ry] at go ⊢
    exact go true rfl (by simp) h
  · rename_i j
    rw [rep_non rx, rep_int ry] at go ⊢
    exact go false rfl (by simp) h
  · rename_i j
    rw [rep_non rx, rep_str ry] at go ⊢
    exact go false rfl (by simp) h
  · rename_i i j
    rw [rep_bl rx, rep_bl ry] at go ⊢
    exact go _ rfl (by simp) h
  · rw [rep_int rx, rep_non ry] at go ⊢
    exact go false rfl (by simp) h
  · rename_i i j
    rw [rep_int rx, rep_int ry] at go ⊢
    exact go _ rfl (by simp) h
  · rw [rep_str rx, rep_non ry] at go ⊢
    exact go false rfl (by simp) h
  · rename_i i j
    rw [rep_str rx, rep_str ry] at go ⊢
    exact go _ rfl (by simp) h
def isNon : D → Bool
  | .non => true
  | _ => false
theorem isNon_of {G : Hp} {v : V} (r : Rep K G d v) : decide (v = V.non) = isNon d := by
  cases d with
  | non => rw [rep_non r]; rfl
  | bl b => rw [rep_bl r]; rfl
  | int i => rw [rep_int r]; rfl
  | str z => rw [rep_str r]; rfl
  | ty n => rw [rep_ty r]; rfl
  | ref a => rw [rep_ref r]; rfl
  | tup ds => obtain ⟨a, xs, rfl, _⟩ := rep_tup r; rfl
  | lst ds => obtain ⟨a, xs, rfl, _⟩ := rep_lst r; rfl
  | lsk ds => obtain ⟨a, xs, rfl, _⟩ := rep_lsk r; rfl
theorem ar_isN (q : k (.bl (isNon x)) M) : AR K rIsN x .non M k := fun vx vy G H Q rx ry s f => ⟨rep_non ry, by
  rw [isNon_of rx]
  exact f _ M _ G H q s Step.refl rep_of_bl⟩
theorem ar_notN (q : k (.bl (!isNon x)) M) : AR K rNotN x .non M k := fun vx vy G H Q rx ry s f => ⟨rep_non ry, by
  rw [isNon_of rx]
  exact f _ M _ G H q s Step.refl rep_of_bl⟩
/-! ### items -/
theorem atI_rep {G : Hp} {ds : List D} {xs : List V} {j : Int} (r : Reps K G ds xs) (h : atI ds j = some d) : ∃ v, atI xs j = some v ∧ Rep K G d v := by
  unfold atI at h ⊢
  rw [r.len]
  cases e : ixN ds.length j with
  | none => rw [e] at h; cases h
  | some m =>
    rw [e] at h
    exact r.get h
theorem ar_ixL {ds : List D} {j : Int} (h : atI ds j = some d) (q : k d M) : AR K (rIxL K) (.lst ds) (.int j) M k := fun vx vy G H Q rx ry s f => by
  obtain ⟨a, xs, rfl, ha, rs⟩ := rep_lst rx
  obtain ⟨v, e, rv⟩ := atI_rep rs h
  exact ⟨a, xs, j, v, rfl, rep_int ry, .inl (.inl (s.same _ _ ha)), e, f d M v G H q s Step.refl rv⟩
theorem ar_ixK {ds : List D} {j : Int} (h : atI ds j = some d) (q : k d M) : AR K (rIxL K) (.lsk ds) (.int j) M k := fun vx vy G H Q rx ry s f => by
  obtain ⟨a, xs, rfl, ha, rs⟩ := rep_lsk rx
  obtain ⟨v, e, rv⟩ := atI_rep rs h
  exact ⟨a, xs, j, v, rfl, rep_int ry, s.same.seq ha, e, f d M v G H q s Step.refl rv⟩
theorem ar_ixT {ds : List D} {j : Int} (h : atI ds j = some d) (q : k d M) : AR K (rIxT K) (.tup ds) (.int j) M k := fun vx vy G H Q rx ry s f => by
  obtain ⟨a, xs, rfl, ha, rs⟩ := rep_tup rx
  obtain ⟨v, e, rv⟩ := atI_rep rs h
  exact ⟨a, xs, j, v, rfl, rep_int ry, Same.seqT s.same ha, e, f d M v G H q s Step.refl rv⟩
theorem ar_ixS {z : Str} {j : Int} {c : Nat} (hz : z.length ≤ sizeLine) (h : atI z.cps.toList j = some c) (q : k (.str ⟨#[c]⟩) M) : AR K rIxS (.str z) (.int j) M k := fun vx vy G H Q rx ry s f =>
  ⟨z, j, c, rep_str rx, rep_int ry, hz, h, f _ M _ G H q s Step.refl rep_of_str⟩
/-- an item of a list that may change -/
theorem ar_ixM {a : Addr} {M1 M2 : Mu} {ds : List D} {j : Int} (e : M = M1 ++ (a, .lst ds) :: M2) (h : atI ds j = some d) (q : k d M) : AR K (rIxL K) (.ref a) (.int j) M k := fun vx vy G H Q rx ry s f => by
  obtain ⟨_, o, ho, r⟩ := s.mu (a, .lst ds) (by rw [e]; simp)
  obtain ⟨xs, rfl, rs⟩ := r
  obtain ⟨v, e2, rv⟩ := atI_rep rs h
  exact ⟨a, xs, j, v, rep_ref rx, rep_int ry, .inl (.inl ho), e2, f d M v G H q s Step.refl rv⟩
theorem aix_L {ds : List D} {j : Int} (h : atI ds j = some d) (q : k d M) : AR K (rIx K) (.lst ds) (.int j) M k := ar_or1 (ar_ixL h q)
theorem aix_K {ds : List D} {j : Int} (h : atI ds j = some d) (q : k d M) : AR K (rIx K) (.lsk ds) (.int j) M k := ar_or1 (ar_ixK h q)
theorem aix_T {ds : List D} {j : Int} (h : atI ds j = some d) (q : k d M) : AR K (rIx K) (.tup ds) (.int j) M k := ar_or2 (ar_or1 (ar_ixT h q))
theorem aix_S {z : Str} {j : Int} {c : Nat} (hz : z.length ≤ sizeLine) (h : atI z.cps.toList j = some c) (q : k (.str ⟨#[c]⟩) M) : AR K (rIx K) (.str z) (.int j) M k := ar_or2 (ar_or2 (ar_ixS hz h q))
theorem aix_M {a : Addr} {M1 M2 : Mu} {ds : List D} {j : Int} (e : M = M1 ++ (a, .lst ds) :: M2) (h : atI ds j = some d) (q : k d M) : AR K (rIx K) (.ref a) (.int j) M k := ar_or1 (ar_ixM e h q)
/-! ### arguments, calls -/
variable {kl : List D → Mu → Prop}
theorem aa_nil (q : kl [] M) : AA K tNil δ M kl := fun σ G H Q r s f => f [] M [] G H q s Step.refl Reps.nil
theorem aa_cons {tr : TA} (h : AE K te δ M fun d M1 => AA K tr δ M1 fun ds M2 => kl (d :: ds) M2) : AA K (tCons te tr) δ M kl := fun σ G H Q rs s f =>
  h σ G H _ rs s fun x M1 vx G1 H1 h1 s1 st1 r1 => h1 σ G1 H1 _ (rs.mono st1.gg) s1 fun ds M2 vs G2 H2 h2 s2 st2 r2 =>
    f (x :: ds) M2 (vx :: vs) G2 H2 h2 s2 (st1.trans st2) (Reps.cons (Rep.mono st2.gg _ _ r1) r2)
theorem ae_tup {ts : TA} (h : AA K ts δ M fun ds M1 => ds.length ≤ sizeLine ∧ k (.tup ds) M1) : AE K (tTup ts) δ M k := fun σ G H Q rs s f =>
  h σ G H _ rs s fun ds M1 vs G1 H1 ⟨hl, h1⟩ s1 st1 r1 => ⟨by rw [r1.len]; exact hl, fun p hp => by
    obtain ⟨s2, st2, e2⟩ := s1.frozen (o := .tup vs) hp
    exact f _ M1 _ _ _ h1 s2 (st1.trans st2) (rep_mk_tup (.inl (.inl upd_same)) (Reps.mono e2 _ _ r1))⟩
theorem ae_lst {ts : TA} (h : AA K ts δ M fun ds M1 => ds.length ≤ sizeLine ∧ k (.lst ds) M1) : AE K (tLst ts) δ M k := fun σ G H Q rs s f =>
  h σ G H _ rs s fun ds M1 vs G1 H1 ⟨hl, h1⟩ s1 st1 r1 => ⟨by rw [r1.len]; exact hl, fun p hp => by
    obtain ⟨s2, st2, e2⟩ := s1.frozen (o := .lst vs) hp
    exact f _ M1 _ _ _ h1 s2 (st1.trans st2) (rep_mk_lst upd_same (Reps.mono e2 _ _ r1))⟩
/-- a list that is to change -/
def tLstM (t : TA) : TE := tLst t
theorem pe_lstM {X : Cx} {es : List Expr} {t : TA} {pos : Pos} (h : PE X (.List es pos) (tLst t)) : PE X (.List es pos) (tLstM t) := h
theorem ae_lstM {ts : TA} (h : AA K ts δ M fun ds M1 => ds.length ≤ sizeLine ∧ ∀ a, k (.ref a) (M1 ++ [(a, .lst ds)])) : AE K (tLstM ts) δ M k := fun σ G H Q rs s f =>
  h σ G H _ rs s fun ds M1 vs G1 H1 ⟨hl, h1⟩ s1 st1 r1 => ⟨by rw [r1.len]; exact hl, fun p hp => by
    obtain ⟨s2, st2⟩ := s1.fresh (m := .lst ds) (o := .lst vs) hp ⟨vs, rfl, r1⟩
    exact f _ _ _ _ _ (h1 p) s2 (st1.trans st2) rep_of_ref⟩
theorem ae_cb {r : List V → Hp → VK → Prop} {ts : TA} (h : AA K ts δ M fun ds M1 => AC K r ds M1 k) : AE K (tCB r ts) δ M k := fun σ G H Q rs s f =>
  h σ G H _ rs s fun ds M1 vs G1 H1 h1 s1 st1 r1 => h1 vs G1 H1 Q r1 s1 fun d M3 v G3 H3 q s3 st3 r3 => f d M3 v G3 H3 q s3 (st1.trans st3) r3
theorem ac_or1 {r1 r2 : List V → Hp → VK → Prop} {xs : List D} (h : AC K r1 xs M k) : AC K (fun xs H Q => r1 xs H Q ∨ r2 xs H Q) xs M k := fun vs G H Q rx s f => .inl (h vs G H Q rx s f)
theorem ac_or2 {r1 r2 : List V → Hp → VK → Prop} {xs : List D} (h : AC K r2 xs M k) : AC K (fun xs H Q => r1 xs H Q ∨ r2 xs H Q) xs M k := fun vs G H Q rx s f => .inr (h vs G H Q rx s f)
/-! ### a def's promise over deep data -/
def Spc (K : PySem.W.Frag) (W : List D → Mu → (D → Mu → Prop) → Prop) : Sp := fun vs H Q _ => ∃ G ds M k, Reps K G ds vs ∧ S K G H M ∧ W ds M k ∧
  ∀ d M' v G' H', k d M' → S K G' H' M' → Step (ads M) G H (ads M') G' H' → Rep K G' d v → Q v H'
abbrev Wt := List D → Mu → (D → Mu → Prop) → Prop
theorem S.join {G H G' H' : Hp} {Mc R Mc' : Mu} (s : S K G H (Mc ++ R)) (s' : S K G' H' Mc') (st : Step (ads Mc) G H (ads Mc') G' H') :
    S K G' H' (Mc' ++ R) ∧ Step (ads (Mc ++ R)) G H (ads (Mc' ++ R)) G' H' := by
  have nd := s.nd
  rw [List.map_append, List.nodup_append] at nd
  obtain ⟨n1, n2, n3⟩ := nd
  have rout : ∀ p ∈ R, p.1 ∉ ads Mc := fun p hp z => n3 p.1 z p.1 (List.mem_map.mpr ⟨p, hp, rfl⟩) rfl
  have ral : ∀ p ∈ R, H p.1 ≠ none := fun p hp z => by
    obtain ⟨_, o, ho, _⟩ := s.mu p (List.mem_append_right _ hp)
    rw [z] at ho
    cases ho
  refine ⟨⟨s'.same, fun p hp => ?_, ?_⟩, ⟨st.gg, fun b hb hn => st.fr b hb fun z => hn ?_, fun b o hn e => st.keep b o (fun z => hn ?_) e, st.alive, fun b hb => ?_⟩⟩
  · rcases List.mem_append.mp hp with hp | hp
    · exact s'.mu p hp
    · obtain ⟨g1, o, ho, r⟩ := s.mu p (List.mem_append_right _ hp)
      exact ⟨by rw [st.fr _ (ral p hp) (rout p hp)]; exact g1, o, st.keep _ _ (rout p hp) ho, r.mono st.gg⟩
  · rw [List.map_append, List.nodup_append]
    refine ⟨s'.nd, n2, fun a ha b hb e => ?_⟩
    subst e
    obtain ⟨p, hp, rfl⟩ := List.mem_map.mp hb
    rcases st.own _ ha with q | q
    · exact rout p hp q
    · exact ral p hp q
  · simp only [ads, List.map_append, List.mem_append]
    exact .inl z
  · simp only [ads, List.map_append, List.mem_append]
    exact .inl z
  · simp only [ads, List.map_append, List.mem_append] at hb ⊢
    rcases hb with hb | hb
    · rcases st.own b hb with q | q
      · exact .inl (.inl q)
      · exact .inr q
    · exact .inl (.inr hb)
/-- a call of a def whose promise is W: Mc is what it may change, R what it does not see, kc what is known behind it -/
theorem ae_call {W : Wt} {E : XK} {ts : TA} (h : AA K ts δ M fun ds M1 => ∃ Mc R kc, M1 = Mc ++ R ∧ W ds Mc kc ∧ ∀ d Mc', kc d Mc' → k d (Mc' ++ R)) : AE K (tCall (Spc K W) [] E ts) δ M k := fun σ G H Q rs s f =>
  h σ G H _ rs s fun ds M1 vs G1 H1 ⟨Mc, R, kc, e, hw, hk⟩ s1 st1 r1 => by
    subst e
    refine ⟨G1, ds, Mc, kc, by rw [List.append_nil]; exact r1, s1.sub, hw, fun d M' v G' H' hd s' st' rv => ?_⟩
    obtain ⟨s2, st2⟩ := s1.join s' st'
    exact f d _ v G' H' (hk d M' hd) s2 (st1.trans st2) rv
/-- freezing, ahead of what follows -/
theorem k_freeze {a : Addr} {ds : List D} {M1 M2 : Mu} {te : TE} (h : AE K te δ M fun d M' => d = .ref a ∧ M' = M1 ++ (a, .lst ds) :: M2 ∧ k (.lst ds) (M1 ++ M2)) : AE K te δ M k := fun σ G H Q rs s f =>
  h σ G H _ rs s fun x M1 vx G1 H1 ⟨e1, e2, h1⟩ s1 st1 r1 => by
    subst e1 e2
    obtain ⟨xs, s2, st2, e3, r2⟩ := s1.freeze
    rw [rep_ref r1]
    exact f _ _ _ _ _ h1 s2 (st1.trans st2) r2
/-! ### targets -/
variable {kg : DS → Mu → Prop}
theorem ag_name (q : kg (δ.set i (some d)) M) : AG K (gName i) d δ M kg := fun v σ G H Q rv rs s f => f _ M _ G H q (rs.set i rv) s Step.refl
theorem ag_tup {n : Nat} {g : TGs} {ds : List D} (hl : ds.length = n) (h : AGs K g ds δ M kg) : AG K (gTup K n g) (.tup ds) δ M kg := fun v σ G H Q rv rs s f => by
  obtain ⟨a, xs, rfl, ha, rx⟩ := rep_tup rv
  exact ⟨a, xs, rfl, Same.seqT s.same ha, by rw [rx.len, hl], h xs σ G H Q rx rs s f⟩
theorem ags_nil (q : kg δ M) : AGs K gNil [] δ M kg := fun v σ G H Q rv rs s f => by
  unfold Reps at rv
  exact ⟨rv, f _ M _ G H q rs s Step.refl⟩
theorem ags_cons {t : TG} {u : TGs} {r : List D} (h : AG K t d δ M fun δ1 M1 => AGs K u r δ1 M1 kg) : AGs K (gCons t u) (d :: r) δ M kg := fun v σ G H Q rv rs s f => by
  obtain ⟨x, xs, rfl, r1, r2⟩ := rv.uncons
  exact ⟨x, xs, rfl, h x σ G H _ r1 rs s fun δ1 M1 σ1 G1 H1 h1 rs1 s1 st1 => h1 xs σ1 G1 H1 Q (Reps.mono st1.gg _ _ r2) rs1 s1 fun δ2 M2 σ2 G2 H2 h2 rs2 s2 st2 => f δ2 M2 σ2 G2 H2 h2 rs2 s2 (st1.trans st2)⟩
/-- a[j] = d, of a list that may change -/
def PutM (o i v : D) (M : Mu) (q : Mu → Prop) : Prop := ∃ a ds M1 M2 j n, o = .ref a ∧ i = .int j ∧ M = M1 ++ (a, .lst ds) :: M2 ∧ ixN ds.length j = some n ∧ q (M1 ++ (a, .lst (ds.set n v)) :: M2)
theorem ag_setL (h : AE K to δ M fun o M1 => AE K ti δ M1 fun j M2 => PutM o j d M2 fun M3 => kg δ M3) : AG K (gSub to ti rSetL) d δ M kg := fun v σ G H Q rv rs s f =>
  h σ G H _ rs s fun o M1 vo G1 H1 h1 s1 st1 r1 => h1 σ G1 H1 _ (rs.mono st1.gg) s1 fun j M2 vj G2 H2 h2 s2 st2 r2 => by
    obtain ⟨a, ds, N1, N2, jj, n, rfl, rfl, rfl, hn, q⟩ := h2
    obtain ⟨g0, o, ho, r⟩ := s2.mu (a, .lst ds) (by simp)
    obtain ⟨xs, rfl, rx⟩ := r
    obtain ⟨s3, st3⟩ := s2.write (o := .lst (xs.set n v)) (m' := .lst (ds.set n d)) ⟨_, rfl, Reps.set rx (Rep.mono (st1.trans st2).gg _ _ rv)⟩
    exact ⟨a, xs, jj, n, rep_ref r1, rep_int r2, ho, by rw [rx.len]; exact hn, f δ _ σ G2 _ q (rs.mono (st1.trans st2).gg) s3 ((st1.trans st2).trans st3)⟩
end
/-! ### statements -/
section
variable {K : PySem.W.Frag} {δ : DS} {M : Mu} {ta tb te to ti : TE} {i : Nat} {A : AEnds} {t u : TS} {tt : TT}
theorem Fit.go {M' : Mu} {G H G' H' : Hp} {E : Ends} (f : Fit K A M G H E) (st : Step (ads M) G H (ads M') G' H') : Fit K A M' G' H' E :=
  ⟨fun δ' M2 σ' G2 H2 a r s st2 => f.nx δ' M2 σ' G2 H2 a r s (st.trans st2), fun d M2 v G2 H2 a s st2 r => f.rt d M2 v G2 H2 a s (st.trans st2) r,
   fun δ' M2 σ' G2 H2 a r s st2 => f.bk δ' M2 σ' G2 H2 a r s (st.trans st2), fun δ' M2 σ' G2 H2 a r s st2 => f.ct δ' M2 σ' G2 H2 a r s (st.trans st2),
   fun fs M2 d G2 H2 a s st2 => f.xs fs M2 d G2 H2 a s (st.trans st2), fun C δ' M2 σ' G2 H2 a r s st2 => f.ps C δ' M2 σ' G2 H2 a r s (st.trans st2)⟩
theorem as_next (q : A.nx δ M) : AS K tNext δ M A := fun σ G H E rs s f => f.nx δ M σ G H q rs s Step.refl
theorem as_seq (h : AS K t δ M { A with nx := fun δ' M' => AS K u δ' M' A }) : AS K (tSeq t u) δ M A := fun σ G H E rs s f =>
  h σ G H { E with nx := u E } rs s ⟨fun δ' M' σ' G' H' a rs' s' st => a σ' G' H' E rs' s' (f.go st), f.rt, f.bk, f.ct, f.xs, f.ps⟩
theorem as_asg {g : TG} (h : AE K te δ M fun d M1 => AG K g d δ M1 A.nx) : AS K (tAsg te g) δ M A := fun σ G H E rs s f =>
  h σ G H _ rs s fun d M1 v G1 H1 h1 s1 st1 r1 => h1 v σ G1 H1 E.nx r1 (rs.mono st1.gg) s1 fun δ' M' σ' G' H' a rs' s' st => f.nx δ' M' σ' G' H' a rs' s' (st1.trans st)
theorem as_set (h : AE K te δ M fun d M1 => A.nx (δ.set i (some d)) M1) : AS K (tAsg te (gName i)) δ M A := as_asg fun σ G H Q rs s f => h σ G H Q rs s fun d M' v G' H' q => f d M' v G' H' (ag_name q)
theorem as_ret (h : AE K te δ M A.rt) : AS K (tRet te) δ M A := fun σ G H E rs s f => h σ G H E.rt rs s fun d M1 v G1 H1 h1 s1 st1 r1 => f.rt d M1 v G1 H1 h1 s1 st1 r1
theorem as_retN (h : A.rt .non M) : AS K tRetN δ M A := fun σ G H E rs s f => f.rt .non M .non G H h s Step.refl rep_of_non
theorem as_if (h : AT K tt δ M fun b M1 => (b = true → AS K t δ M1 A) ∧ (b = false → AS K u δ M1 A)) : AS K (tIfS tt t u) δ M A := fun σ G H E rs s f =>
  h σ G H _ rs s fun b M1 G1 H1 ⟨h1, h2⟩ s1 st1 => by
    cases b with
    | true =>
      rw [if_pos rfl]
      exact h1 rfl σ G1 H1 E (rs.mono st1.gg) s1 (f.go st1)
    | false =>
      rw [if_neg Bool.false_ne_true]
      exact h2 rfl σ G1 H1 E (rs.mono st1.gg) s1 (f.go st1)
theorem as_drop (h : AE K te δ M fun _ M1 => A.nx δ M1) : AS K (tDrop te) δ M A := fun σ G H E rs s f => h σ G H _ rs s fun d M1 v G1 H1 h1 s1 st1 r1 => f.nx δ M1 σ G1 H1 h1 (rs.mono st1.gg) s1 st1
theorem as_brk (h : A.bk δ M) : AS K tBreak δ M A := fun σ G H E rs s f => f.bk δ M σ G H h rs s Step.refl
theorem as_cont (h : A.ct δ M) : AS K tCont δ M A := fun σ G H E rs s f => f.ct δ M σ G H h rs s Step.refl
theorem as_aug {r : TIp} {x : D} (hx : δ[i]? = some (some x)) (h : AE K te δ M fun y M1 => AR K r x y M1 fun z M2 => A.nx (δ.set i (some z)) M2) : AS K (tAug i te r) δ M A := fun σ G H E rs s f => by
  obtain ⟨v, e, rv⟩ := rs.at_ i x hx
  exact ⟨v, e, h σ G H _ rs s fun y M1 vy G1 H1 h1 s1 st1 r1 => h1 v vy G1 H1 _ (Rep.mono st1.gg _ _ rv) r1 s1 fun z M2 vz G2 H2 h2 s2 st2 r2 =>
    f.nx _ M2 _ G2 H2 h2 ((rs.mono (st1.trans st2).gg).set i r2) s2 (st1.trans st2)⟩
theorem as_while (I : Nat → DS → Mu → Prop) (m : Nat) (h0 : I m δ M) (h : ∀ m δ' M', I m δ' M' → AT K tt δ' M' fun b M1 => (b = true → AS K t δ' M1 { A with nx := fun δ2 M2 => ∃ m', m' < m ∧ I m' δ2 M2, ct := fun δ2 M2 => ∃ m', m' < m ∧ I m' δ2 M2, bk := A.nx }) ∧ (b = false → A.nx δ' M1)) : AS K (tWhile tt t) δ M A := fun σ G H E rs s f =>
  ⟨fun m σ' H' => ∃ δ' M' G', I m δ' M' ∧ RelS K G' δ' σ' ∧ S K G' H' M' ∧ Step (ads M) G H (ads M') G' H', ⟨m, δ, M, G, h0, rs, s, Step.refl⟩, fun m σ' H' ⟨δ', M', G', hI, rs', s', st'⟩ =>
    h m δ' M' hI σ' G' H' _ rs' s' fun b M1 G1 H1 ⟨h1, h2⟩ s1 st1 => by
      cases b with
      | true =>
        rw [if_pos rfl]
        refine ⟨fun σ2 H2 => ∃ m', m' < m ∧ ∃ δ' M' G', I m' δ' M' ∧ RelS K G' δ' σ2 ∧ S K G' H2 M' ∧ Step (ads M) G H (ads M') G' H2, fun σ2 H2 ⟨m', hm, q⟩ => ⟨m', hm, q⟩, ?_⟩
        refine h1 rfl σ' G1 H1 _ (rs'.mono st1.gg) s1 ⟨?_, ?_, ?_, ?_, ?_, fun C δ2 M2 σ2 G2 H2 q r2 s2 st2 => f.ps C δ2 M2 σ2 G2 H2 q r2 s2 ((st'.trans st1).trans st2)⟩
        · rintro δ2 M2 σ2 G2 H2 ⟨m', hm, q⟩ rs2 s2 st2
          exact ⟨m', hm, δ2, M2, G2, q, rs2, s2, (st'.trans st1).trans st2⟩
        · intro d M2 v G2 H2 q s2 st2 r2
          exact f.rt d M2 v G2 H2 q s2 ((st'.trans st1).trans st2) r2
        · intro δ2 M2 σ2 G2 H2 q rs2 s2 st2
          exact f.nx δ2 M2 σ2 G2 H2 q rs2 s2 ((st'.trans st1).trans st2)
        · rintro δ2 M2 σ2 G2 H2 ⟨m', hm, q⟩ rs2 s2 st2
          exact ⟨m', hm, δ2, M2, G2, q, rs2, s2, (st'.trans st1).trans st2⟩
        · intro fs M2 d G2 H2 q s2 st2
          exact f.xs fs M2 d G2 H2 q s2 ((st'.trans st1).trans st2)
      | false =>
        rw [if_neg Bool.false_ne_true]
        exact f.nx δ' M1 σ' G1 H1 (h2 rfl) (rs'.mono st1.gg) s1 (st'.trans st1)⟩
theorem as_for {wi : TI} {g : TG} (h : AI K wi δ M fun ds M1 => ∃ I : Nat → DS → Mu → Prop, I 0 δ M1 ∧
      (∀ i d δ' M', ds[i]? = some d → I i δ' M' → AG K g d δ' M' fun δ2 M2 => AS K t δ2 M2 { A with nx := I (i + 1), ct := I (i + 1), bk := A.nx }) ∧
      (∀ δ' M', I ds.length δ' M' → A.nx δ' M')) : AS K (tFor wi g t) δ M A := fun σ G H E rs s f =>
  h σ G H _ rs s fun ds M1 G1 H1 J ⟨I, h0, hs, he⟩ s1 st1 ok => by
    refine ⟨fun i m σ' H' => m = ds.length - i ∧ i ≤ ds.length ∧ ∃ δ' M' G', I i δ' M' ∧ RelS K G' δ' σ' ∧ S K G' H' M' ∧ Step (ads M1) G1 H1 (ads M') G' H', ⟨ds.length, by simp, Nat.zero_le _, δ, M1, G1, h0, rs.mono st1.gg, s1, Step.refl⟩, ?_⟩
    rintro i m σ' H' ⟨rfl, hi, δ', M', G', hI, rs', s', st'⟩
    obtain ⟨o1, o2⟩ := ok i G' H' M' st'.gg s'
    by_cases hl : i < ds.length
    · obtain ⟨hgo, hy⟩ := o1 ds[i] (List.getElem?_eq_getElem hl)
      refine .inr ⟨hgo, fun σ2 H2 => ∃ δ' M' G', I (i + 1) δ' M' ∧ RelS K G' δ' σ2 ∧ S K G' H2 M' ∧ Step (ads M1) G1 H1 (ads M') G' H2, fun σ2 H2 q => ⟨ds.length - (i + 1), by omega, rfl, hl, q⟩, fun x H2 y => ?_⟩
      obtain ⟨G2, s2, st2, r2⟩ := hy x H2 y
      refine hs i ds[i] δ' M' (List.getElem?_eq_getElem hl) hI x σ' G2 H2 _ r2 (rs'.mono st2.gg) s2 fun δ3 M3 σ3 G3 H3 h3 rs3 s3 st3 => ?_
      refine h3 σ3 G3 H3 _ rs3 s3 ⟨?_, ?_, ?_, ?_, ?_, fun C δ4 M4 σ4 G4 H4 q r4 s4 st4 => f.ps C δ4 M4 σ4 G4 H4 q r4 s4 (st1.trans (((st'.trans st2).trans st3).trans st4))⟩
      · intro δ4 M4 σ4 G4 H4 q rs4 s4 st4
        exact ⟨δ4, M4, G4, q, rs4, s4, ((st'.trans st2).trans st3).trans st4⟩
      · intro d M4 v G4 H4 q s4 st4 r4
        exact f.rt d M4 v G4 H4 q s4 (st1.trans (((st'.trans st2).trans st3).trans st4)) r4
      · intro δ4 M4 σ4 G4 H4 q rs4 s4 st4
        exact f.nx δ4 M4 σ4 G4 H4 q rs4 s4 (st1.trans (((st'.trans st2).trans st3).trans st4))
      · intro δ4 M4 σ4 G4 H4 q rs4 s4 st4
        exact ⟨δ4, M4, G4, q, rs4, s4, ((st'.trans st2).trans st3).trans st4⟩
      · intro fs M4 d G4 H4 q s4 st4
        exact f.xs fs M4 d G4 H4 q s4 (st1.trans (((st'.trans st2).trans st3).trans st4))
    · have e : i = ds.length := by omega
      subst e
      exact .inl ⟨o2 rfl, f.nx δ' M' σ' G' H' (he δ' M' hI) rs' s' (st1.trans st')⟩
/-- the freezing of a slot -/
theorem as_freeze {a : Addr} {ds : List D} {M1 M2 : Mu} (hi : δ[i]? = some (some (.ref a))) (e : M = M1 ++ (a, .lst ds) :: M2) (h : AS K t (δ.set i (some (.lst ds))) (M1 ++ M2) A) : AS K t δ M A := fun σ G H E rs s f => by
  subst e
  obtain ⟨xs, s2, st2, e3, r2⟩ := s.freeze
  obtain ⟨v, hv, rv⟩ := rs.at_ i _ hi
  rw [rep_ref rv] at hv
  exact h σ _ H E ((rs.mono e3).setD i hv r2) s2 (f.go st2)
/-- what follows, by another word -/
theorem AS.mono {A' : AEnds} (h : AS K t δ M A') (h1 : ∀ δ M, A'.nx δ M → A.nx δ M) (h2 : ∀ d M, A'.rt d M → A.rt d M) (h3 : ∀ δ M, A'.bk δ M → A.bk δ M) (h4 : ∀ δ M, A'.ct δ M → A.ct δ M) (h5 : ∀ fs M, A'.xs fs M → A.xs fs M) (h6 : ∀ d H, A.W d H → A'.W d H) (h7 : ∀ C δ M, A'.ps C δ M → A.ps C δ M) (h8 : ∀ C σ H, A.P C σ H → A'.P C σ H) : AS K t δ M A := fun σ G H E rs s f =>
  h σ G H E rs s ⟨fun δ' M' σ' G' H' q => f.nx δ' M' σ' G' H' (h1 _ _ q), fun d M' v G' H' q => f.rt d M' v G' H' (h2 _ _ q), fun δ' M' σ' G' H' q => f.bk δ' M' σ' G' H' (h3 _ _ q), fun δ' M' σ' G' H' q => f.ct δ' M' σ' G' H' (h4 _ _ q), fun fs M' d G' H' q s' st => h6 _ _ (f.xs fs M' d G' H' (h5 _ _ q) s' st), fun C δ' M' σ' G' H' q r s' st => h8 _ _ _ (f.ps C δ' M' σ' G' H' (h7 _ _ _ q) r s' st)⟩
end
end Tg
set_option Elab.async false
set_option linter.all false
set_option maxRecDepth 100000
set_option maxHeartbeats 1000000
namespace Tg
open PySem L2 PyProof.Rows
/-! ### what is walked -/
section
variable {K : PySem.W.Frag} {G : Hp}
theorem itOk_list {a : Addr} {xs : List V} {ds : List D} (h : SqL K G a xs) (r : Reps K G ds xs) : ItOk K (Itl K a) G ds := fun i G1 H1 M e s => by
  have hq : SqL K H1 a xs := s.same.seq (e.seq h)
  refine ⟨fun d hd => ?_, fun hi => ⟨xs, hq, by rw [r.len, hi]; exact Nat.le_refl _⟩⟩
  obtain ⟨x, hx, rx⟩ := r.get hd
  refine ⟨⟨xs, x, hq, hx⟩, fun y H' hy => ?_⟩
  obtain ⟨rfl, hy⟩ := hy
  have e2 : x = y := Option.some.inj (hx.symm.trans (hy xs hq))
  subst e2
  exact ⟨G1, s, Step.refl, Rep.mono e _ _ rx⟩
theorem itOk_tup {a : Addr} {xs : List V} {ds : List D} (h : SqT K G a xs) (r : Reps K G ds xs) : ItOk K (Itt K a) G ds := fun i G1 H1 M e s => by
  have hq : SqT K H1 a xs := Same.seqT s.same (Same.seqT e h)
  refine ⟨fun d hd => ?_, fun hi => ⟨xs, hq, by rw [r.len, hi]; exact Nat.le_refl _⟩⟩
  obtain ⟨x, hx, rx⟩ := r.get hd
  refine ⟨⟨xs, x, hq, hx⟩, fun y H' hy => ?_⟩
  obtain ⟨rfl, hy⟩ := hy
  have e2 : x = y := Option.some.inj (hx.symm.trans (hy xs hq))
  subst e2
  exact ⟨G1, s, Step.refl, Rep.mono e _ _ rx⟩
/-- the ints from lo on -/
def rng (lo : Int) (n : Nat) : List D := (List.range n).map fun i => .int (lo + (i : Nat))
theorem rng_len (lo : Int) (n : Nat) : (rng lo n).length = n := by simp [rng]
theorem rng_get {lo : Int} {n i : Nat} {d : D} (h : (rng lo n)[i]? = some d) : i < n ∧ d = .int (lo + (i : Nat)) := by
  unfold rng at h
  rw [List.getElem?_map] at h
  by_cases hi : i < n
  · rw [List.getElem?_range hi] at h
    exact ⟨hi, by simpa using h.symm⟩
  · rw [List.getElem?_eq_none (by simpa using hi)] at h
    cases h
theorem itOk_rng {lo : Int} {n : Nat} : ItOk K (Itr lo n) G (rng lo n) := fun i G1 H1 M e s => by
  refine ⟨fun d hd => ?_, fun hi => ?_⟩
  · obtain ⟨hi, rfl⟩ := rng_get hd
    refine ⟨hi, fun y H' hy => ?_⟩
    obtain ⟨rfl, rfl⟩ := hy
    exact ⟨G1, s, Step.refl, rep_of_int⟩
  · rw [rng_len] at hi
    exact Nat.le_of_eq hi.symm
def signs (z : Str) : List D := z.cps.toList.map fun c => .str ⟨#[c]⟩
theorem itOk_str {z : Str} : ItOk K (Its z) G (signs z) := fun i G1 H1 M e s => by
  refine ⟨fun d hd => ?_, fun hi => ?_⟩
  · unfold signs at hd
    rw [List.getElem?_map] at hd
    cases hc : z.cps.toList[i]? with
    | none => rw [hc] at hd; cases hd
    | some c =>
      rw [hc] at hd
      have e1 : D.str ⟨#[c]⟩ = d := by simpa using hd
      subst e1
      have hi : i < z.cps.size := by
        have h2 := (List.getElem?_eq_some_iff.mp hc).1
        simpa using h2
      refine ⟨hi, fun y H' hy => ?_⟩
      obtain ⟨rfl, c', h1, rfl⟩ := hy
      have e2 : c = c' := by
        have h3 : z.cps[i]? = some c := by simpa using hc
        rw [h1] at h3
        exact (Option.some.inj h3).symm
      subst e2
      exact ⟨G1, s, Step.refl, rep_of_str⟩
  · have h2 : z.cps.size ≤ i := by
      rw [hi]
      simp [signs]
    exact h2
/-- pairs of a number and an item -/
def enumD (ds : List D) : List D := ds.zipIdx.map fun p => .tup [.int (p.2 : Nat), p.1]
theorem itOk_enum {a : Addr} {xs : List V} {ds : List D} (h : SqL K G a xs) (r : Reps K G ds xs) : ItOk K (Ite K a) G (enumD ds) := fun i G1 H1 M e s => by
  have hq : SqL K H1 a xs := s.same.seq (e.seq h)
  refine ⟨fun d hd => ?_, fun hi => ⟨xs, hq, by rw [r.len, hi]; simp [enumD]⟩⟩
  unfold enumD at hd
  rw [List.getElem?_map, List.getElem?_zipIdx] at hd
  cases hc : ds[i]? with
  | none => rw [hc] at hd; cases hd
  | some c =>
    rw [hc] at hd
    have e1 : D.tup [.int ((0 + i : Nat) : Int), c] = d := by simpa using hd
    rw [Nat.zero_add] at e1
    subst e1
    obtain ⟨x, hx, rx⟩ := r.get hc
    refine ⟨⟨xs, x, hq, hx⟩, fun y H' hy => ?_⟩
    obtain ⟨T, x', rfl, nT, rfl, hy⟩ := hy
    have e2 : x = x' := Option.some.inj (hx.symm.trans (hy xs hq))
    subst e2
    obtain ⟨s2, st2, e3⟩ := s.frozen (o := .tup [.int (i : Nat), x]) nT
    exact ⟨_, s2, st2, rep_mk_tup (.inl (.inl upd_same)) (Reps.cons rep_of_int (Reps.one (Rep.mono (e.trans e3) _ _ rx)))⟩
end
/-- a list, a tuple, a text -/
def iSeq (K : PySem.W.Frag) (tl : TE) : TI := fun σ H R => tl σ H fun x H1 => (∃ a, x = .ref a ∧ (∃ xs, SqL K H1 a xs) ∧ R (Itl K a) H1) ∨ (∃ a, x = .ref a ∧ (∃ xs, SqT K H1 a xs) ∧ R (Itt K a) H1) ∨ (∃ z, x = .str z ∧ R (Its z) H1)
theorem pi_seq {X : Cx} {tg l : Expr} {tl : TE} (hl : PE X l tl) : PI X tg l (iSeq X.K tl) := by
  refine ⟨fun pins s σ H R I h => ?_⟩
  refine thn (hl.run pins s σ H _ I h) fun v s1 ⟨x, H1, I1, r1, q1⟩ => ?_
  rcases q1 with ⟨a, e, ⟨xs, hq⟩, q⟩ | ⟨a, e, ⟨xs, hq⟩, q⟩ | ⟨z, e, q⟩
  · subst e
    cases r1
    obtain ⟨its, rv, p, hz⟩ := I1.list hq
    refine wpAny_pyIter_list p.isList ?_
    refine ⟨s1.heap.objs.size, [s1.heap.objs.size], _, _, H1, rfl, I1.kept (t' := s1.toks) fun b o e => Heap.get?_push_of_some _ e, turn_list a _, ⟨_, Heap.get?_push_size _ rfl, rfl, rfl⟩, fun b hb => ?_, q⟩
    have e : b = s1.heap.objs.size := by simpa using hb
    subst e
    exact I1.fpOk (Nat.le_refl _) (I1.hok.fresh (Nat.le_refl _))
  · subst e
    cases r1
    obtain ⟨its, rv, p, hz⟩ := I1.tuple hq
    refine wpAny_pyIter_tuple (show s1.heap.IsTuple a its.toArray from p) ?_
    refine ⟨s1.heap.objs.size, [s1.heap.objs.size], _, _, H1, rfl, I1.kept (t' := s1.toks) fun b o e => Heap.get?_push_of_some _ e, turn_tuple a _, ⟨_, Heap.get?_push_size _ rfl, rfl, rfl⟩, fun b hb => ?_, q⟩
    have e : b = s1.heap.objs.size := by simpa using hb
    subst e
    exact I1.fpOk (Nat.le_refl _) (I1.hok.fresh (Nat.le_refl _))
  · subst e
    obtain ⟨t, rfl⟩ := r1
    cases ha : z.cps.all (· < 128)
    · exact wpAny_pyIter_wide ha (pi_one (tk := s1.toks) I1 _ (turn_str _ z t "str_iterator" (.inr rfl)) ⟨_, Heap.get?_push_size _ rfl, rfl, rfl⟩ q)
    · exact wpAny_pyIter_ascii ha (pi_one (tk := s1.toks) I1 _ (turn_str _ z t "str_ascii_iterator" (.inl rfl)) ⟨_, Heap.get?_push_size _ rfl, rfl, rfl⟩ q)
/-- the items of a deep value -/
def itemsD : D → Option (List D)
  | .lst ds => some ds
  | .lsk ds => some ds
  | .tup ds => some ds
  | .str z => some (signs z)
  | _ => none
section
variable {K : PySem.W.Frag} {δ : DS} {M : Mu} {ta tb te tl : TE} {k : D → Mu → Prop} {ki : List D → Mu → Prop}
theorem ai_seq (h : AE K tl δ M fun d M1 => ∃ ds, itemsD d = some ds ∧ ki ds M1) : AI K (iSeq K tl) δ M ki := fun σ G H R rs s f =>
  h σ G H _ rs s fun d M1 v G1 H1 ⟨ds, e, h1⟩ s1 st1 r1 => by
    cases d <;> simp only [itemsD, Option.some.injEq, reduceCtorEq] at e
    · subst e
      rw [rep_str r1]
      exact .inr (.inr ⟨_, rfl, f _ M1 G1 H1 _ h1 s1 st1 itOk_str⟩)
    · subst e
      obtain ⟨a, xs, rfl, ha, rx⟩ := rep_tup r1
      exact .inr (.inl ⟨a, rfl, ⟨xs, Same.seqT s1.same ha⟩, f _ M1 G1 H1 _ h1 s1 st1 (itOk_tup ha rx)⟩)
    · subst e
      obtain ⟨a, xs, rfl, ha, rx⟩ := rep_lst r1
      exact .inl ⟨a, rfl, ⟨xs, .inl (.inl (s1.same _ _ ha))⟩, f _ M1 G1 H1 _ h1 s1 st1 (itOk_list (.inl (.inl ha)) rx)⟩
    · subst e
      obtain ⟨a, xs, rfl, ha, rx⟩ := rep_lsk r1
      exact .inl ⟨a, rfl, ⟨xs, s1.same.seq ha⟩, f _ M1 G1 H1 _ h1 s1 st1 (itOk_list ha rx)⟩
theorem ai_range1 {ts : TA} (h : AA K ts δ M fun ds M1 => ∃ j : Int, ds = [.int j] ∧ -(2 ^ 62) ≤ j ∧ j < 2 ^ 62 ∧ ki (rng 0 j.toNat) M1) : AI K (iRng1 ts) δ M ki := fun σ G H R rs s f =>
  h σ G H _ rs s fun ds M1 vs G1 H1 ⟨j, e, h2, h3, h1⟩ s1 st1 r1 => by
    subst e
    obtain ⟨x, r, rfl, rx, rr⟩ := r1.uncons
    unfold Reps at rr
    subst rr
    exact ⟨j, by rw [rep_int rx], h2, h3, f _ M1 G1 H1 _ h1 s1 st1 itOk_rng⟩
theorem ai_range2 {ts : TA} (h : AA K ts δ M fun ds M1 => ∃ i j : Int, ds = [.int i, .int j] ∧ (-(2 ^ 62) ≤ i ∧ i < 2 ^ 62 ∧ -(2 ^ 62) ≤ j ∧ j < 2 ^ 62) ∧ ki (rng i (j - i).toNat) M1) : AI K (iRng2 ts) δ M ki := fun σ G H R rs s f =>
  h σ G H _ rs s fun ds M1 vs G1 H1 ⟨i, j, e, h2, h1⟩ s1 st1 r1 => by
    subst e
    obtain ⟨x, r, rfl, rx, rr⟩ := r1.uncons
    obtain ⟨y, r2, rfl, ry, rr⟩ := rr.uncons
    unfold Reps at rr
    subst rr
    exact ⟨i, j, by rw [rep_int rx, rep_int ry], h2, f _ M1 G1 H1 _ h1 s1 st1 itOk_rng⟩
/-! ### comprehensions -/
def wipeD (δ : DS) : List Nat → DS
  | [] => δ
  | v :: vs => (wipeD δ vs).set v none
theorem relS_wipe {G : Hp} {σ : L2.St} (r : RelS K G δ σ) : ∀ vs : List Nat, RelS K G (wipeD δ vs) (wipe σ vs)
  | [] => r
  | v :: vs => (relS_wipe r vs).drop v
/-- the target of a comprehension stores into the wiped slots alone -/
structure OwnG (vs : List Nat) (g : TG) : Prop where
  run : ∀ x σ H (Q : L2.St → Hp → Prop), g x σ H Q → g x σ H fun σ2 H2 => wipe σ2 vs = wipe σ vs ∧ Q σ2 H2
theorem wipe_set {σ : L2.St} {i : Nat} {v : Option V} : ∀ {vs : List Nat}, i ∈ vs → wipe (σ.set i v) vs = wipe σ vs
  | w :: vs, h => by
    show (wipe (σ.set i v) vs).set w none = (wipe σ vs).set w none
    by_cases hi : i ∈ vs
    · rw [wipe_set hi]
    · have e : i = w := by
        rcases List.mem_cons.mp h with e | e
        · exact e
        · exact absurd e hi
      subst e
      have aux : ∀ us : List Nat, (wipe (σ.set i v) us).set i none = (wipe σ us).set i none := by
        intro us
        induction us with
        | nil => show (σ.set i v).set i none = σ.set i none; rw [List.set_set]
        | cons u us ih =>
          show ((wipe (σ.set i v) us).set u none).set i none = ((wipe σ us).set u none).set i none
          by_cases hu : u = i
          · subst hu
            rw [List.set_set, List.set_set]
            exact ih
          · rw [List.set_comm _ _ hu, List.set_comm _ _ hu, ih]
      exact aux vs
theorem wipe_wipe {σ : L2.St} : ∀ vs : List Nat, wipe (wipe σ vs) vs = wipe σ vs := by
  have aux : ∀ (us vs : List Nat), (∀ u ∈ us, u ∈ vs) → wipe (wipe σ us) vs = wipe σ vs := by
    intro us
    induction us with
    | nil => intro vs _; rfl
    | cons u us ih =>
      intro vs h
      show wipe ((wipe σ us).set u none) vs = wipe σ vs
      rw [wipe_set (h u (by simp))]
      exact ih vs fun w hw => h w (List.mem_cons_of_mem _ hw)
  exact fun vs => aux vs vs fun _ h => h
theorem ownG_name {i : Nat} {vs : List Nat} (h : i ∈ vs) : OwnG vs (gName i) := ⟨fun x σ H Q q => ⟨wipe_set h, q⟩⟩
/-- several names -/
structure OwnGs (vs : List Nat) (g : TGs) : Prop where
  run : ∀ xs σ H (Q : L2.St → Hp → Prop), g xs σ H Q → g xs σ H fun σ2 H2 => wipe σ2 vs = wipe σ vs ∧ Q σ2 H2
theorem ownGs_nil {vs : List Nat} : OwnGs vs gNil := ⟨fun xs σ H Q ⟨e, q⟩ => ⟨e, rfl, q⟩⟩
theorem ownGs_cons {i : Nat} {vs : List Nat} {u : TGs} (h : i ∈ vs) (hu : OwnGs vs u) : OwnGs vs (gCons (gName i) u) := ⟨fun xs σ H Q ⟨v, r, e, q⟩ => ⟨v, r, e, by
  have q2 : u r (σ.set i (some v)) H Q := q
  have q3 := hu.run r (σ.set i (some v)) H Q q2
  rw [wipe_set h] at q3
  exact q3⟩⟩
theorem ownG_tup {n : Nat} {vs : List Nat} {u : TGs} (hu : OwnGs vs u) : OwnG vs (gTup K n u) := ⟨fun x σ H Q ⟨a, xs, e, hs, hl, q⟩ => ⟨a, xs, e, hs, hl, hu.run xs σ H Q q⟩⟩
theorem ae_lc {wi : TI} {g : TG} {tt : TT} {vs : List Nat} (og : OwnG vs g) (h : AI K wi δ M fun ds M1 => ds.length < sizeLine ∧ ∃ I : Nat → List D → Mu → Prop, I 0 [] M1 ∧
      (∀ i d acc M', ds[i]? = some d → I i acc M' → AG K g d (wipeD δ vs) M' fun δ2 M2 => AT K tt δ2 M2 fun b M3 => (b = true → AE K te δ2 M3 fun y M4 => I (i + 1) (acc ++ [y]) M4) ∧ (b = false → I (i + 1) acc M3)) ∧
      (∀ acc M', I ds.length acc M' → k (.lst acc) M')) : AE K (tLc wi g tt te vs) δ M k := fun σ G H Q rs s f =>
  h σ G H _ rs s fun ds M1 G1 H1 J ⟨hz, I, h0, hs, he⟩ s1 st1 ok Dl nD => by
    have gD : G1 Dl = none := s1.same.free nD
    have nM : ∀ p ∈ M1, p.1 ≠ Dl := fun p hp => by
      obtain ⟨_, o, ho, _⟩ := s1.mu p hp
      exact ne_of_none ho nD
    -- the state behind i turns; the list at Dl beside
    refine ⟨fun i m H' => m = ds.length - i ∧ i ≤ ds.length ∧ ∃ acc xs M' G', acc.length ≤ i ∧ I i acc M' ∧ H' Dl = some (.lst xs) ∧ Reps K G' acc xs ∧ G' Dl = none ∧ Dl ∉ ads M' ∧ S K G' H' M' ∧ Step (ads M1) G1 H1 (ads M') G' H',
      ⟨ds.length, by simp, Nat.zero_le _, [], [], M1, G1, Nat.le_refl _, h0, upd_same, Reps.nil, gD, fun z => ?_, ?_, ?_⟩, ?_⟩
    · obtain ⟨p, hp, e⟩ := List.mem_map.mp z
      exact nM p hp e
    · refine ⟨fun b u e => ?_, fun p hp => ?_, s1.nd⟩
      · rw [upd_ne (ne_of_none e gD)]
        exact s1.same b u e
      · obtain ⟨g1, o, ho, r⟩ := s1.mu p hp
        exact ⟨g1, o, by rw [upd_ne (nM p hp)]; exact ho, r⟩
    · refine ⟨Same.refl _, fun _ _ _ => rfl, fun b o _ e => ?_, fun b e => ?_, fun b hb => .inl hb⟩
      · rw [upd_ne (ne_of_none e nD)]
        exact e
      · by_cases hb : b = Dl
        · subst hb
          rw [upd_same]
          exact fun z => nomatch z
        · rw [upd_ne hb]
          exact e
    rintro i m H' ⟨rfl, hi, acc, xs, M', G', hal, hI, hD, rx, gD', nD', s', st'⟩
    obtain ⟨o1, o2⟩ := ok i G' H' M' st'.gg s'
    by_cases hl : i < ds.length
    · obtain ⟨hgo, hy⟩ := o1 ds[i] (List.getElem?_eq_getElem hl)
      -- the list at Dl beside any further step
      have beside : ∀ {A2 : List Addr} {G2 H2 : Hp}, Step (ads M') G' H' A2 G2 H2 → H2 Dl = some (.lst xs) ∧ G2 Dl = none ∧ Dl ∉ A2 := fun {A2 G2 H2} st => by
        refine ⟨st.keep _ _ nD' hD, ?_, fun z => ?_⟩
        · rw [st.fr Dl (by rw [hD]; exact fun z => nomatch z) nD']
          exact gD'
        · rcases st.own _ z with q | q
          · exact nD' q
          · rw [hD] at q
            cases q
      refine .inr ⟨hgo, fun H2 => ∃ acc xs M' G', acc.length ≤ i + 1 ∧ I (i + 1) acc M' ∧ H2 Dl = some (.lst xs) ∧ Reps K G' acc xs ∧ G' Dl = none ∧ Dl ∉ ads M' ∧ S K G' H2 M' ∧ Step (ads M1) G1 H1 (ads M') G' H2, fun H2 q => ⟨ds.length - (i + 1), by omega, rfl, hl, q⟩, fun x H2 y => ?_⟩
      obtain ⟨G2, s2, st2, r2⟩ := hy x H2 y
      have rsw : RelS K G2 (wipeD δ vs) (wipe σ vs) := relS_wipe (rs.mono (st1.gg.trans (st'.gg.trans st2.gg))) vs
      have body := hs i ds[i] acc M' (List.getElem?_eq_getElem hl) hI x (wipe σ vs) G2 H2 (fun σ2 H3 => tt σ2 H3 fun b H4 =>
        if b = true then te σ2 H4 fun y H5 => ∃ acc, H5 Dl = some (.lst acc) ∧ acc.length < sizeLine ∧ (fun H2 => ∃ acc xs M' G', acc.length ≤ i + 1 ∧ I (i + 1) acc M' ∧ H2 Dl = some (.lst xs) ∧ Reps K G' acc xs ∧ G' Dl = none ∧ Dl ∉ ads M' ∧ S K G' H2 M' ∧ Step (ads M1) G1 H1 (ads M') G' H2) (upd H5 Dl (.lst (acc ++ [y])))
        else (fun H2 => ∃ acc xs M' G', acc.length ≤ i + 1 ∧ I (i + 1) acc M' ∧ H2 Dl = some (.lst xs) ∧ Reps K G' acc xs ∧ G' Dl = none ∧ Dl ∉ ads M' ∧ S K G' H2 M' ∧ Step (ads M1) G1 H1 (ads M') G' H2) H4) r2 rsw s2 ?_
      · have fin := og.run x (wipe σ vs) H2 _ body
        rw [wipe_wipe] at fin
        exact fin
      · intro δ3 M3 σ3 G3 H3 h3 rs3 s3 st3
        refine h3 σ3 G3 H3 _ rs3 s3 fun b M4 G4 H4 ⟨h4, h5⟩ s4 st4 => ?_
        cases b with
        | true =>
          rw [if_pos rfl]
          refine h4 rfl σ3 G4 H4 _ (rs3.mono st4.gg) s4 fun y M5 vy G5 H5 q5 s5 st5 r5 => ?_
          have sta := ((st2.trans st3).trans st4).trans st5
          obtain ⟨b1, b2, b3⟩ := beside sta
          refine ⟨xs, b1, by rw [rx.len]; exact Nat.lt_of_le_of_lt hal (Nat.lt_of_lt_of_le hl (Nat.le_of_lt hz)), acc ++ [y], xs ++ [vy], M5, G5, by rw [List.length_append]; exact Nat.succ_le_succ hal, q5, upd_same, (Reps.mono sta.gg _ _ rx).append (Reps.one r5), b2, b3, ?_, ?_⟩
          · refine ⟨fun c u e => ?_, fun p hp => ?_, s5.nd⟩
            · rw [upd_ne (ne_of_none e b2)]
              exact s5.same c u e
            · obtain ⟨g1, o, ho, r⟩ := s5.mu p hp
              exact ⟨g1, o, by rw [upd_ne (fun z => b3 (List.mem_map.mpr ⟨p, hp, z⟩))]; exact ho, r⟩
          · have stb := st'.trans sta
            refine ⟨stb.gg, stb.fr, fun c o hc e => ?_, fun c e => ?_, stb.own⟩
            · rw [upd_ne (ne_of_none e nD)]
              exact stb.keep c o hc e
            · by_cases hcD : c = Dl
              · subst hcD
                rw [upd_same]
                exact fun z => nomatch z
              · rw [upd_ne hcD]
                exact stb.alive c e
        | false =>
          rw [if_neg Bool.false_ne_true]
          have sta := (st2.trans st3).trans st4
          obtain ⟨b1, b2, b3⟩ := beside sta
          exact ⟨acc, xs, M4, G4, Nat.le_succ_of_le hal, h5 rfl, b1, Reps.mono sta.gg _ _ rx, b2, b3, s4, st'.trans sta⟩
    · have e : i = ds.length := by omega
      subst e
      refine .inl ⟨o2 rfl, ?_⟩
      -- the list is frozen
      have sD : S K G' H' ([] ++ (Dl, .lst acc) :: M') := ⟨s'.same, fun p hp => by
        rcases List.mem_cons.mp hp with e | hp
        · subst e
          exact ⟨gD', _, hD, xs, rfl, rx⟩
        · exact s'.mu p hp, by
        show ((Dl, MO.lst acc) :: M' |>.map (·.1)).Nodup
        rw [List.map_cons, List.nodup_cons]
        exact ⟨nD', s'.nd⟩⟩
      obtain ⟨ys, s5, st5, e5, r5⟩ := sD.freeze
      refine f (.lst acc) M' (.ref Dl) _ H' (he acc M' hI) s5 (st1.trans ?_) r5
      refine ⟨st'.gg.trans e5, fun b hb hn => ?_, st'.keep, st'.alive, st'.own⟩
      rw [upd_ne (fun z => by rw [z] at hb; exact hb nD)]
      exact st'.fr b hb hn
end
/-! ### a def -/
section
variable {P : Program} {w : World} {K : PySem.W.Frag} {mg : Str → Option Value} {base : Heap}
theorem spc_ok {W : Wt} {x qual : Str} {st : Stmt} {f : Addr} {fd : FuncData} {N ps : List Str} {k : Nat} (F : Fun K x qual st f fd) (Sc : FnScope N ps (defScope st)) (len : ∀ ds M kk, W ds M kk → ds.length = ps.length)
    (hbody : ∀ (cdv : Value) (A : Around) (outer : List Env) (s : Shared) (H : Hp) (E : XK), Room k (A.deeper (envOfC qual (defScope st) s.heap.objs.size f cdv)) →
      ∃ t, PSs (cxOf CX0 P w K mg base N qual (defScope st) f cdv A outer s H E).nox (defBody st) t ∧ ∀ ds M kk, W ds M kk → AS K t (startD N.length ds) M { nx := fun _ M' => kk .non M', rt := kk }) : FnOk P w K mg base CX0 (k + 1) f fd ps (Spc K W) := by
  refine F.ok Sc (fun vs H Q E h => ?_) (fun cdv A outer s H vs Q E hr h => ?_)
  · obtain ⟨G, ds, M, kk, r, _, hw, _⟩ := h
    rw [r.len]
    exact len ds M kk hw
  · obtain ⟨G, ds, M, kk, r, hs, hw, q⟩ := h
    obtain ⟨t, pt, ht⟩ := hbody cdv A outer s H E hr
    refine ⟨t, pt, ht ds M kk hw (start N vs) G H _ (relS_start r) hs ⟨?_, ?_, ?_, ?_, ?_, fun _ _ _ _ _ _ a => a.elim⟩⟩
    · intro δ' M' σ' G' H' a rs' s' st'
      exact q .non M' .non G' H' a s' st' rep_of_non
    · intro d M' v G' H' a s' st' rv
      exact q d M' v G' H' a s' st' rv
    · intro δ' M' σ' G' H' a
      exact a.elim
    · intro δ' M' σ' G' H' a
      exact a.elim
    · intro fs M' d G' H' a
      exact a.elim
end
end Tg
set_option Elab.async false
set_option linter.all false
set_option maxRecDepth 100000
set_option maxHeartbeats 1000000
namespace Tg
open PySem L2 PyProof.Rows
/-! ### texts by their codes -/
def tx (l : List Nat) : Str := ⟨l.toArray⟩
theorem tx_len (l : List Nat) : (tx l).length = l.length := by
  show l.toArray.size = l.length
  simp
theorem tx_codes (z : Str) : tx z.cps.toList = z := by
  cases z
  simp [tx]
theorem tx_cps (l : List Nat) : (tx l).cps.toList = l := by simp [tx]
theorem tx_inj {a b : List Nat} (h : tx a = tx b) : a = b := by
  have := congrArg (fun z : Str => z.cps.toList) h
  simpa [tx] using this
theorem tx_app (a b : List Nat) : tx a ++ tx b = tx (a ++ b) := by
  show (⟨a.toArray ++ b.toArray⟩ : Str) = ⟨(a ++ b).toArray⟩
  simp
theorem tx_nil : tx [] = (⟨#[]⟩ : Str) := rfl
theorem tx_signs (l : List Nat) : signs (tx l) = l.map fun c => .str (tx [c]) := by
  unfold signs
  rw [tx_cps]
  rfl
theorem tx_eq {a b : List Nat} : decide (tx a = tx b) = decide (a = b) := by
  by_cases h : a = b
  · subst h; simp
  · rw [decide_eq_false h, decide_eq_false fun z => h (tx_inj z)]
theorem tx_join (ls : List (List Nat)) : Txt.join (tx []) (ls.map tx) = tx ls.flatten := by
  rw [TL.join_eq]
  induction ls with
  | nil => rfl
  | cons a r ih =>
    cases r with
    | nil =>
      show tx a = _
      simp
    | cons b r =>
      show tx a ++ tx [] ++ Str.join (tx []) ((b :: r).map tx) = _
      rw [ih, tx_app, tx_app]
      simp
theorem tx_cut (l : List Nat) (lo hi : Option Int) : cutS (tx l) lo hi = tx ((l.drop (HT.sIx l.length 0 lo)).take (HT.sIx l.length l.length hi - HT.sIx l.length 0 lo)) := by
  unfold cutS
  rw [tx_len, tx_cps]
  rfl
/-! ### universal operations -/
section
variable {X : Cx}
abbrev rAddU (K : PySem.W.Frag) : R2 := fun x y H Q => (rI0 fun i j => .int (i + j)) x y H Q ∨ ((fun x y H Q => ∃ i j, x = .str i ∧ y = .str j ∧ i.length + j.length ≤ sizeLine ∧ Q (.str (i ++ j)) H) x y H Q ∨ (rCat x y H Q ∨ rCatA K x y H Q))
theorem op_addU : OpR X (binaryOp .Add) (rAddU X.K) := op_add.or (op_add_str.or (op_cat.or op_catA))
abbrev rIAddU : R2 := fun x y H Q => (rI0 fun i j => .int (i + j)) x y H Q ∨ ((fun x y H Q => ∃ i j, x = .str i ∧ y = .str j ∧ i.length + j.length ≤ sizeLine ∧ Q (.str (i ++ j)) H) x y H Q)
theorem ip_addU : PIp X .Add rIAddU := iop_add.or iop_add_str
theorem ip_subU : PIp X .Sub (rI0 fun i j => .int (i - j)) := iop_sub
def rSlU (K : PySem.W.Frag) : V → Option Int → Option Int → Hp → VK → Prop := fun x lo hi H Q => rSlL K x lo hi H Q ∨ (rSlS x lo hi H Q ∨ rSlA K x lo hi H Q)
theorem sl_any : SlR X (rSlU X.K) := by
  intro pins s σ H x v vl vu lo hi sl Q I rx hs pl pu h
  rcases h with h | h | h
  · exact sl_list pins s σ H x v vl vu lo hi sl Q I rx hs pl pu h
  · exact sl_str pins s σ H x v vl vu lo hi sl Q I rx hs pl pu h
  · exact sl_tupA pins s σ H x v vl vu lo hi sl Q I rx hs pl pu h
def rLenU (K : PySem.W.Frag) : List V → Hp → VK → Prop := fun xs H Q => (∃ p ys, xs = [.ref p] ∧ (SqL K H p ys ∨ SqT K H p ys) ∧ Q (.int ys.length) H) ∨ (∃ z, xs = [.str z] ∧ z.length ≤ sizeLine ∧ Q (.int z.length) H)
theorem call_lenU : CallR X (.builtin "len") (rLenU X.K) := call_len_seq.or call_len_str
def rTupU (K : PySem.W.Frag) : List V → Hp → VK → Prop := fun xs H Q => ∃ p ys, xs = [.ref p] ∧ ((SqL K H p ys ∧ ∀ l, H l = none → Q (.ref l) (upd H l (.tup ys))) ∨ (SqT K H p ys ∧ Q (.ref p) H))
theorem call_tupU : CallR X (.type "tuple") (rTupU X.K) := call_tuple_of
def rListU (K : PySem.W.Frag) : List V → Hp → VK → Prop := fun xs H Q => ∃ p ys, xs = [.ref p] ∧ (SqL K H p ys ∨ SqT K H p ys) ∧ ∀ l, H l = none → Q (.ref l) (upd H l (.lst ys))
theorem call_listU : CallR X (.type "list") (rListU X.K) := call_list_of
def rIntU : List V → Hp → VK → Prop := fun xs H Q => (∃ i, xs = [.int i] ∧ Q (.int i) H) ∨ ∃ k, xs = [.bl k] ∧ Q (.int (if k then 1 else 0)) H
theorem call_intU : CallR X (.type "int") rIntU := call_int1
def rMin2 : List V → Hp → VK → Prop := fun xs H Q => ∃ i j, xs = [.int i, .int j] ∧ Q (.int (if j < i then j else i)) H
theorem call_minU (hc : X.calm = true) : CallR X (.builtin "min") rMin2 := call_min2 hc
end
section
variable {K : PySem.W.Frag} {δ : DS} {M : Mu} {ta tb te to : TE} {k : D → Mu → Prop} {x y d : D}
theorem au_int {a b : Int} (q : k (.int (a + b)) M) : AR K (rAddU K) (.int a) (.int b) M k := ar_or1 (ar_int q)
theorem au_str {a b : List Nat} (h : a.length + b.length ≤ sizeLine) (q : k (.str (tx (a ++ b))) M) : AR K (rAddU K) (.str (tx a)) (.str (tx b)) M k := ar_or2 (ar_or1 fun vx vy G H Q rx ry s f =>
  ⟨tx a, tx b, rep_str rx, rep_str ry, by rw [tx_len, tx_len]; exact h, by rw [tx_app]; exact f _ M _ G H q s Step.refl rep_of_str⟩)
theorem au_lst {a b : List D} (h : a.length + b.length ≤ sizeLine) (q : k (.lst (a ++ b)) M) : AR K (rAddU K) (.lst a) (.lst b) M k := ar_or2 (ar_or2 (ar_or1 fun vx vy G H Q rx ry s f => by
  obtain ⟨p, xs, rfl, hp, r1⟩ := rep_lst rx
  obtain ⟨q', ys, rfl, hq, r2⟩ := rep_lst ry
  refine ⟨p, q', xs, ys, rfl, rfl, s.same _ _ hp, s.same _ _ hq, by rw [r1.len, r2.len]; exact h, fun l hl => ?_⟩
  obtain ⟨s2, st2, e2⟩ := s.frozen (o := .lst (xs ++ ys)) hl
  exact f _ M _ _ _ q s2 st2 (rep_mk_lst upd_same (Reps.mono e2 _ _ (r1.append r2)))))
theorem au_tup {a b : List D} (h : a.length + b.length ≤ sizeLine) (q : k (.tup (a ++ b)) M) : AR K (rAddU K) (.tup a) (.tup b) M k := ar_or2 (ar_or2 (ar_or2 fun vx vy G H Q rx ry s f => by
  obtain ⟨p, xs, rfl, hp, r1⟩ := rep_tup rx
  obtain ⟨q', ys, rfl, hq, r2⟩ := rep_tup ry
  refine ⟨p, q', xs, ys, rfl, rfl, Same.seqT s.same hp, Same.seqT s.same hq, by rw [r1.len, r2.len]; exact h, fun e => ?_, fun e1 e2 => ?_, fun e1 e2 l hl => ?_⟩
  · refine f _ M _ G H q s Step.refl (rep_mk_tup hq ?_)
    have e1 : a = [] := List.length_eq_zero_iff.mp (by rw [← r1.len, e]; rfl)
    subst e1
    exact r2
  · refine f _ M _ G H q s Step.refl (rep_mk_tup hp ?_)
    have e1 : b = [] := List.length_eq_zero_iff.mp (by rw [← r2.len, e2]; rfl)
    subst e1
    rw [List.append_nil]
    exact r1
  · obtain ⟨s2, st2, e2⟩ := s.frozen (o := .tup (xs ++ ys)) hl
    exact f _ M _ _ _ q s2 st2 (rep_mk_tup (.inl (.inl upd_same)) (Reps.mono e2 _ _ (r1.append r2)))))
theorem ai_int {a b : Int} (q : k (.int (a + b)) M) : AR K rIAddU (.int a) (.int b) M k := ar_or1 (ar_int q)
theorem ai_str {a b : List Nat} (h : a.length + b.length ≤ sizeLine) (q : k (.str (tx (a ++ b))) M) : AR K rIAddU (.str (tx a)) (.str (tx b)) M k := ar_or2 fun vx vy G H Q rx ry s f =>
  ⟨tx a, tx b, rep_str rx, rep_str ry, by rw [tx_len, tx_len]; exact h, by rw [tx_app]; exact f _ M _ G H q s Step.refl rep_of_str⟩
theorem au_ixS {l : List Nat} {j : Int} {c : Nat} (hz : l.length ≤ sizeLine) (h : atI l j = some c) (q : k (.str (tx [c])) M) : AR K (rIx K) (.str (tx l)) (.int j) M k :=
  aix_S (by rw [tx_len]; exact hz) (by rw [tx_cps]; exact h) q
/-! ### slices -/
variable {ko : Option Int → Mu → Prop}
theorem ao_none (q : ko none M) : AO K tNoPart δ M ko := fun σ G H Q rs s f => f none M G H q s Step.refl
theorem ao_some (h : AE K te δ M fun d M1 => ∃ i, d = .int i ∧ ko (some i) M1) : AO K (tPart te) δ M ko := fun σ G H Q rs s f =>
  h σ G H _ rs s fun d M1 v G1 H1 ⟨i, e, q⟩ s1 st1 r1 => by
    subst e
    exact ⟨i, rep_int r1, f _ M1 G1 H1 q s1 st1⟩
/-- a slice of a value -/
def ASl (K : PySem.W.Frag) (r : V → Option Int → Option Int → Hp → VK → Prop) (x : D) (lo hi : Option Int) (M : Mu) (k : D → Mu → Prop) : Prop := ∀ vx G H Q, Rep K G x vx → S K G H M →
  (∀ d M' v G' H', k d M' → S K G' H' M' → Step (ads M) G H (ads M') G' H' → Rep K G' d v → Q v H') → r vx lo hi H Q
theorem ae_sl {r : V → Option Int → Option Int → Hp → VK → Prop} {tl th : TO} (h : AE K te δ M fun x M1 => AO K tl δ M1 fun lo M2 => AO K th δ M2 fun hi M3 => ASl K r x lo hi M3 k) : AE K (L2.tSl r te tl th) δ M k := fun σ G H Q rs s f =>
  h σ G H _ rs s fun x M1 v G1 H1 h1 s1 st1 r1 => h1 σ G1 H1 _ (rs.mono st1.gg) s1 fun lo M2 G2 H2 h2 s2 st2 => h2 σ G2 H2 _ (rs.mono (st1.trans st2).gg) s2 fun hi M3 G3 H3 h3 s3 st3 =>
    h3 v G3 H3 Q (Rep.mono (st2.trans st3).gg _ _ r1) s3 fun d M4 v4 G4 H4 q s4 st4 r4 => f d M4 v4 G4 H4 q s4 (((st1.trans st2).trans st3).trans st4) r4
def cutD {α : Type} (xs : List α) (lo hi : Option Int) : List α := (xs.drop (HT.sIx xs.length 0 lo)).take (HT.sIx xs.length xs.length hi - HT.sIx xs.length 0 lo)
theorem cutD_len {α : Type} (xs : List α) (lo hi : Option Int) : (cutD xs lo hi).length ≤ xs.length := by
  unfold cutD
  rw [List.length_take, List.length_drop]
  omega
theorem reps_cut {G : Hp} {ds : List D} {xs : List V} (r : Reps K G ds xs) (lo hi : Option Int) : Reps K G (cutD ds lo hi) (cutV xs lo hi) := by
  unfold cutD cutV
  rw [r.len]
  exact (r.drop _).take _
theorem asl_lst {ds : List D} {lo hi : Option Int} (q : k (.lst (cutD ds lo hi)) M) : ASl K (rSlU K) (.lst ds) lo hi M k := fun vx G H Q rx s f => by
  obtain ⟨a, xs, rfl, ha, rs⟩ := rep_lst rx
  refine .inl ⟨a, xs, rfl, .inl (.inl (s.same _ _ ha)), fun l hl => ?_⟩
  obtain ⟨s2, st2, e2⟩ := s.frozen (o := .lst (cutV xs lo hi)) hl
  exact f _ M _ _ _ q s2 st2 (rep_mk_lst upd_same (Reps.mono e2 _ _ (reps_cut rs lo hi)))
theorem asl_str {l : List Nat} {lo hi : Option Int} (hz : l.length ≤ sizeLine) (q : k (.str (tx (cutD l lo hi))) M) : ASl K (rSlU K) (.str (tx l)) lo hi M k := fun vx G H Q rx s f =>
  .inr (.inl ⟨tx l, rep_str rx, by rw [tx_len]; exact hz, by
    rw [tx_cut]
    exact f _ M _ G H q s Step.refl rep_of_str⟩)
/-! ### built-ins -/

def lenD : D → Option Nat
  | .lst ds => some ds.length
  | .lsk ds => some ds.length
  | .tup ds => some ds.length
  | _ => none
theorem ac_lenD {n : Nat} (h : lenD x = some n) (q : k (.int (n : Int)) M) : AC K (rLenU K) [x] M k := fun vs G H Q rx s f => by
  obtain ⟨v, r, rfl, r1, rr⟩ := rx.uncons
  unfold Reps at rr
  subst rr
  cases x <;> simp only [lenD, Option.some.injEq, reduceCtorEq] at h
  · obtain ⟨a, xs, rfl, ha, rs⟩ := rep_tup r1
    refine .inl ⟨a, xs, rfl, .inr (Same.seqT s.same ha), ?_⟩
    rw [rs.len, h]
    exact f _ M _ G H q s Step.refl rep_of_int
  · obtain ⟨a, xs, rfl, ha, rs⟩ := rep_lst r1
    refine .inl ⟨a, xs, rfl, .inl (.inl (.inl (s.same _ _ ha))), ?_⟩
    rw [rs.len, h]
    exact f _ M _ G H q s Step.refl rep_of_int
  · obtain ⟨a, xs, rfl, ha, rs⟩ := rep_lsk r1
    refine .inl ⟨a, xs, rfl, .inl (s.same.seq ha), ?_⟩
    rw [rs.len, h]
    exact f _ M _ G H q s Step.refl rep_of_int
theorem ac_lenS {l : List Nat} (hz : l.length ≤ sizeLine) (q : k (.int (l.length : Int)) M) : AC K (rLenU K) [.str (tx l)] M k := fun vs G H Q rx s f => by
  obtain ⟨v, r, rfl, r1, rr⟩ := rx.uncons
  unfold Reps at rr
  subst rr
  refine .inr ⟨tx l, by rw [rep_str r1], by rw [tx_len]; exact hz, ?_⟩
  rw [tx_len]
  exact f _ M _ G H q s Step.refl rep_of_int
theorem ac_lenM {a : Addr} {M1 M2 : Mu} {ds : List D} (e : M = M1 ++ (a, .lst ds) :: M2) (q : k (.int (ds.length : Int)) M) : AC K (rLenU K) [.ref a] M k := fun vs G H Q rx s f => by
  obtain ⟨v, r, rfl, r1, rr⟩ := rx.uncons
  unfold Reps at rr
  subst rr
  obtain ⟨_, o, ho, r⟩ := s.mu (a, .lst ds) (by rw [e]; simp)
  obtain ⟨xs, rfl, rs⟩ := r
  refine .inl ⟨a, xs, by rw [rep_ref r1], .inl (.inl (.inl ho)), ?_⟩
  rw [rs.len]
  exact f _ M _ G H q s Step.refl rep_of_int
theorem ac_int {i : Int} (q : k (.int i) M) : AC K rIntU [.int i] M k := fun vs G H Q rx s f => by
  obtain ⟨v, r, rfl, r1, rr⟩ := rx.uncons
  unfold Reps at rr
  subst rr
  exact .inl ⟨i, by rw [rep_int r1], f _ M _ G H q s Step.refl rep_of_int⟩
theorem ac_min {i j : Int} (q : k (.int (if j < i then j else i)) M) : AC K rMin2 [.int i, .int j] M k := fun vs G H Q rx s f => by
  obtain ⟨v, r, rfl, r1, rr⟩ := rx.uncons
  obtain ⟨u, r, rfl, r2, rr⟩ := rr.uncons
  unfold Reps at rr
  subst rr
  exact ⟨i, j, by rw [rep_int r1, rep_int r2], f _ M _ G H q s Step.refl rep_of_int⟩
theorem ac_tupL {ds : List D} (q : k (.tup ds) M) : AC K (rTupU K) [.lst ds] M k := fun vs G H Q rx s f => by
  obtain ⟨v, r, rfl, r1, rr⟩ := rx.uncons
  unfold Reps at rr
  subst rr
  obtain ⟨a, xs, rfl, ha, rs⟩ := rep_lst r1
  refine ⟨a, xs, rfl, .inl ⟨.inl (.inl (s.same _ _ ha)), fun l hl => ?_⟩⟩
  obtain ⟨s2, st2, e2⟩ := s.frozen (o := .tup xs) hl
  exact f _ M _ _ _ q s2 st2 (rep_mk_tup (.inl (.inl upd_same)) (Reps.mono e2 _ _ rs))
theorem ac_tupT {ds : List D} (q : k (.tup ds) M) : AC K (rTupU K) [.tup ds] M k := fun vs G H Q rx s f => by
  obtain ⟨v, r, rfl, r1, rr⟩ := rx.uncons
  unfold Reps at rr
  subst rr
  obtain ⟨a, xs, rfl, ha, rs⟩ := rep_tup r1
  exact ⟨a, xs, rfl, .inr ⟨Same.seqT s.same ha, f _ M _ G H q s Step.refl (rep_mk_tup ha rs)⟩⟩
theorem ac_tupM {a : Addr} {M1 M2 : Mu} {ds : List D} (e : M = M1 ++ (a, .lst ds) :: M2) (q : k (.tup ds) M) : AC K (rTupU K) [.ref a] M k := fun vs G H Q rx s f => by
  obtain ⟨v, r, rfl, r1, rr⟩ := rx.uncons
  unfold Reps at rr
  subst rr
  obtain ⟨_, o, ho, r⟩ := s.mu (a, .lst ds) (by rw [e]; simp)
  obtain ⟨xs, rfl, rs⟩ := r
  refine ⟨a, xs, by rw [rep_ref r1], .inl ⟨.inl (.inl ho), fun l hl => ?_⟩⟩
  obtain ⟨s2, st2, e2⟩ := s.frozen (o := .tup xs) hl
  exact f _ M _ _ _ q s2 st2 (rep_mk_tup (.inl (.inl upd_same)) (Reps.mono e2 _ _ rs))
theorem ac_list {ds : List D} (h : x = .lst ds ∨ x = .tup ds ∨ x = .lsk ds) (q : k (.lst ds) M) : AC K (rListU K) [x] M k := fun vs G H Q rx s f => by
  obtain ⟨v, r, rfl, r1, rr⟩ := rx.uncons
  unfold Reps at rr
  subst rr
  have go : ∀ (a : Addr) (xs : List V), v = .ref a → (SqL K H a xs ∨ SqT K H a xs) → Reps K G ds xs → rListU K [v] H Q := fun a xs e h1 h2 => ⟨a, xs, by rw [e], h1, fun l hl => by
    obtain ⟨s2, st2, e2⟩ := s.frozen (o := .lst xs) hl
    exact f _ M _ _ _ q s2 st2 (rep_mk_lst upd_same (Reps.mono e2 _ _ h2))⟩
  rcases h with rfl | rfl | rfl
  · obtain ⟨a, xs, e, ha, rs⟩ := rep_lst r1
    exact go a xs e (.inl (.inl (.inl (s.same _ _ ha)))) rs
  · obtain ⟨a, xs, e, ha, rs⟩ := rep_tup r1
    exact go a xs e (.inr (Same.seqT s.same ha)) rs
  · obtain ⟨a, xs, e, ha, rs⟩ := rep_lsk r1
    exact go a xs e (.inl (s.same.seq ha)) rs
theorem ac_listM {ds : List D} (h : x = .lst ds ∨ x = .tup ds ∨ x = .lsk ds) (q : ∀ a, k (.ref a) (M ++ [(a, .lst ds)])) : AC K (rListU K) [x] M k := fun vs G H Q rx s f => by
  obtain ⟨v, r, rfl, r1, rr⟩ := rx.uncons
  unfold Reps at rr
  subst rr
  have go : ∀ (a : Addr) (xs : List V), v = .ref a → (SqL K H a xs ∨ SqT K H a xs) → Reps K G ds xs → rListU K [v] H Q := fun a xs e h1 h2 => ⟨a, xs, by rw [e], h1, fun l hl => by
    obtain ⟨s2, st2⟩ := s.fresh (o := .lst xs) (m := .lst ds) hl ⟨xs, rfl, h2⟩
    exact f _ _ _ _ _ (q l) s2 st2 rep_of_ref⟩
  rcases h with rfl | rfl | rfl
  · obtain ⟨a, xs, e, ha, rs⟩ := rep_lst r1
    exact go a xs e (.inl (.inl (.inl (s.same _ _ ha)))) rs
  · obtain ⟨a, xs, e, ha, rs⟩ := rep_tup r1
    exact go a xs e (.inr (Same.seqT s.same ha)) rs
  · obtain ⟨a, xs, e, ha, rs⟩ := rep_lsk r1
    exact go a xs e (.inl (s.same.seq ha)) rs
theorem ac_all {bs : List Bool} (q : k (.bl (bs.all id)) M) : AC K (rAll K) [.lst (bs.map .bl)] M k := fun vs G H Q rx s f => by
  obtain ⟨v, r, rfl, r1, rr⟩ := rx.uncons
  unfold Reps at rr
  subst rr
  obtain ⟨a, xs, rfl, ha, rs⟩ := rep_lst r1
  rw [rs.bls] at ha
  exact ⟨a, bs, rfl, .inl (.inl (s.same _ _ ha)), f _ M _ G H q s Step.refl rep_of_bl⟩
theorem ac_any {bs : List Bool} (q : k (.bl (bs.any id)) M) : AC K (rAny K) [.lst (bs.map .bl)] M k := fun vs G H Q rx s f => by
  obtain ⟨v, r, rfl, r1, rr⟩ := rx.uncons
  unfold Reps at rr
  subst rr
  obtain ⟨a, xs, rfl, ha, rs⟩ := rep_lst r1
  rw [rs.bls] at ha
  exact ⟨a, bs, rfl, .inl (.inl (s.same _ _ ha)), f _ M _ G H q s Step.refl rep_of_bl⟩
/-! ### isinstance -/
def typeD : D → Option String
  | .non => some "NoneType"
  | .bl _ => some "bool"
  | .int _ => some "int"
  | .str _ => some "str"
  | .tup _ => some "tuple"
  | .lst _ => some "list"
  | _ => none
theorem tyX_of {G H : Hp} {v : V} {n : String} (e : Same G H) (h : typeD d = some n) (r : Rep K G d v) : TyX K H v (.type n) := by
  cases d <;> simp only [typeD, Option.some.injEq, reduceCtorEq] at h
  · rw [rep_non r, ← h]
    exact .base .non
  · rw [rep_bl r, ← h]
    exact .base (.bl _)
  · rw [rep_int r, ← h]
    exact .base (.int _)
  · rw [rep_str r, ← h]
    exact .base (.str _)
  · obtain ⟨a, xs, rfl, ha, _⟩ := rep_tup r
    rw [← h]
    rcases Same.seqT e ha with (q | ⟨o, q⟩) | ⟨o, its, n, q1, q2, q3⟩
    · exact .base (.tup q)
    · exact .fTuple q
    · exact .kTuple q1 q2
  · obtain ⟨a, xs, rfl, ha, _⟩ := rep_lst r
    rw [← h]
    exact .base (.lst (e _ _ ha))
theorem ac_isi {n c : String} {b : Bool} (h : typeD x = some n) (hk : PySem.W.kitOne K (.type n) (.type c) = some b) (q : k (.bl b) M) : AC K (rIsi K) [x, .ty c] M k := fun vs G H Q rx s f => by
  obtain ⟨v, r, rfl, r1, rr⟩ := rx.uncons
  obtain ⟨u, r, rfl, r2, rr⟩ := rr.uncons
  unfold Reps at rr
  subst rr
  exact ⟨v, u, .type n, .type c, b, rfl, by rw [rep_ty r2]; exact .ty c, tyX_of s.same h r1, hk, f _ M _ G H q s Step.refl rep_of_bl⟩
/-! ### methods -/
/-- a method of a list -/
def LstM (x : D) (M1 : Mu) : Prop := (∃ ds, x = D.lst ds) ∨ (∃ ds, x = D.lsk ds) ∨ ∃ a ds N1 N2, x = D.ref a ∧ M1 = N1 ++ (a, MO.lst ds) :: N2
theorem lstM_ref {a : Addr} {ds : List D} {M1 N1 N2 : Mu} (e : M1 = N1 ++ (a, MO.lst ds) :: N2) : LstM (.ref a) M1 := .inr (.inr ⟨a, ds, N1, N2, rfl, e⟩)
theorem ae_lm {r : V → List V → Hp → VK → Prop} {ts : TA} (h : AE K to δ M fun x M1 => LstM x M1 ∧ AA K ts δ M1 fun xs M2 => AM K r x xs M2 k) : AE K (tBM K "list" r to ts) δ M k := fun σ G H Q rs s f =>
  h σ G H _ rs s fun x M1 v G1 H1 ⟨ht, h1⟩ s1 st1 r1 => by
    refine ⟨?_, h1 σ G1 H1 _ (rs.mono st1.gg) s1 fun xs M2 vs G2 H2 h2 s2 st2 r2 => h2 v vs G2 H2 Q (Rep.mono st2.gg _ _ r1) r2 s2 fun d M3 v3 G3 H3 q s3 st3 r3 => f d M3 v3 G3 H3 q s3 ((st1.trans st2).trans st3) r3⟩
    rcases ht with ⟨ds, e⟩ | ⟨ds, e⟩ | ⟨a, ds, N1, N2, e, e2⟩
    · subst e
      obtain ⟨a, xs, rfl, ha, _⟩ := rep_lst r1
      exact .inl ⟨rfl, xs, .inl (.inl (s1.same _ _ ha))⟩
    · subst e
      obtain ⟨a, xs, rfl, ha, _⟩ := rep_lsk r1
      exact .inl ⟨rfl, xs, s1.same.seq ha⟩
    · subst e
      rw [rep_ref r1]
      obtain ⟨_, o, ho, r⟩ := s1.mu (a, .lst ds) (by rw [e2]; simp)
      obtain ⟨xs, rfl, rs⟩ := r
      exact .inl ⟨rfl, xs, .inl (.inl ho)⟩
theorem am_append {a : Addr} {ds : List D} {M1 M2 : Mu} (e : M = M1 ++ (a, .lst ds) :: M2) (hz : ds.length < sizeLine) (q : k .non (M1 ++ (a, .lst (ds ++ [d])) :: M2)) : AM K rAppend (.ref a) [d] M k := fun vx vs G H Q rx rxs s f => by
  subst e
  obtain ⟨v, r, rfl, r1, rr⟩ := rxs.uncons
  unfold Reps at rr
  subst rr
  obtain ⟨g0, o, ho, r⟩ := s.mu (a, .lst ds) (by simp)
  obtain ⟨xs, rfl, rs⟩ := r
  obtain ⟨s2, st2⟩ := s.write (o := .lst (xs ++ [v])) (m' := .lst (ds ++ [d])) ⟨_, rfl, rs.append (Reps.one r1)⟩
  exact ⟨a, xs, v, rep_ref rx, rfl, ho, by rw [rs.len]; exact hz, f _ _ _ _ _ q s2 st2 rep_of_non⟩
theorem am_extend {a : Addr} {ds es : List D} {M1 M2 : Mu} (e : M = M1 ++ (a, .lst ds) :: M2) (hz : ds.length + es.length ≤ sizeLine) (q : k .non (M1 ++ (a, .lst (ds ++ es)) :: M2)) : AM K rExtend (.ref a) [.lst es] M k := fun vx vs G H Q rx rxs s f => by
  subst e
  obtain ⟨v, r, rfl, r1, rr⟩ := rxs.uncons
  unfold Reps at rr
  subst rr
  obtain ⟨b, ys, rfl, hb, r2⟩ := rep_lst r1
  obtain ⟨g0, o, ho, r⟩ := s.mu (a, .lst ds) (by simp)
  obtain ⟨xs, rfl, rs⟩ := r
  obtain ⟨s2, st2⟩ := s.write (o := .lst (xs ++ ys)) (m' := .lst (ds ++ es)) ⟨_, rfl, rs.append r2⟩
  exact ⟨a, b, xs, ys, rep_ref rx, rfl, ho, s.same _ _ hb, by rw [rs.len, r2.len]; exact hz, f _ _ _ _ _ q s2 st2 rep_of_non⟩
abbrev rJoin (K : PySem.W.Frag) : V → List V → Hp → VK → Prop := fun x xs H Q => ∃ a p, ∃ ys : List Str, x = .str a ∧ xs = [.ref p] ∧ (SqL K H p (ys.map V.str) ∨ SqT K H p (ys.map V.str)) ∧
      (ys.map (·.length)).sum + ys.length * a.length ≤ 16777216 ∧ Q (.str (Txt.join a ys)) H
theorem ae_m1 {r : V → List V → Hp → VK → Prop} (h : AE K to δ M fun x M1 => (∃ z, x = .str z) ∧ AE K te δ M1 fun y M2 => AM K r x [y] M2 k) : AE K (tM1 r to te) δ M k := fun σ G H Q rs s f =>
  h σ G H _ rs s fun x M1 v G1 H1 ⟨⟨z, hz⟩, h1⟩ s1 st1 r1 => by
    subst hz
    refine ⟨⟨z, rep_str r1⟩, h1 σ G1 H1 _ (rs.mono st1.gg) s1 fun y M2 vy G2 H2 h2 s2 st2 r2 => h2 v [vy] G2 H2 Q (Rep.mono st2.gg _ _ r1) (Reps.one r2) s2 fun d M3 v3 G3 H3 q s3 st3 r3 => f d M3 v3 G3 H3 q s3 ((st1.trans st2).trans st3) r3⟩
theorem am_join {ls : List (List Nat)} (hz : (ls.map (·.length)).sum ≤ 16777216) (q : k (.str (tx ls.flatten)) M) : AM K (rJoin K) (.str (tx [])) [.lst (ls.map fun l => .str (tx l))] M k := fun vx vs G H Q rx rxs s f => by
  obtain ⟨v, r, rfl, r1, rr⟩ := rxs.uncons
  unfold Reps at rr
  subst rr
  obtain ⟨b, ys, rfl, hb, r2⟩ := rep_lst r1
  have e : ys = (ls.map tx).map V.str := by
    have h2 : ls.map (fun l => D.str (tx l)) = (ls.map tx).map D.str := by simp
    rw [h2] at r2
    exact r2.strs
  refine ⟨tx [], b, ls.map tx, rep_str rx, rfl, .inl (.inl (.inl (by rw [← e]; exact s.same _ _ hb))), ?_, ?_⟩
  · have h1 : ((ls.map tx).map (·.length)) = ls.map (·.length) := by
      rw [List.map_map]
      exact List.map_congr_left fun l _ => tx_len l
    rw [h1, tx_len]
    simpa using hz
  · rw [tx_join]
    exact f _ M _ G H q s Step.refl rep_of_str
end
end Tg
set_option Elab.async false
set_option linter.all false
set_option maxRecDepth 100000
set_option maxHeartbeats 1000000
namespace Tg
open PySem L2 PyProof.Rows
/-! ### the rules with the written part by its name -/
section
variable {X : Cx} {K : PySem.W.Frag} {e a b : Expr} {ta tb te tl : TE} {pos : Pos}
theorem ix_K (h : X.K = K := by rfl) : IxR X (rIx K) := h ▸ ix_seq
theorem add_K (h : X.K = K := by rfl) : OpR X (binaryOp .Add) (rAddU K) := h ▸ op_addU
theorem sl_K (h : X.K = K := by rfl) : SlR X (rSlU K) := h ▸ sl_any
theorem len_K (h : X.K = K := by rfl) : CallR X (.builtin "len") (rLenU K) := h ▸ call_lenU
theorem tup_K (h : X.K = K := by rfl) : CallR X (.type "tuple") (rTupU K) := h ▸ call_tupU
theorem list_K (h : X.K = K := by rfl) : CallR X (.type "list") (rListU K) := h ▸ call_listU
theorem all_K (hc : X.calm = true) (h : X.K = K := by rfl) : CallR X (.builtin "all") (rAll K) := h ▸ cr_all hc
theorem any_K (hc : X.calm = true) (h : X.K = K := by rfl) : CallR X (.builtin "any") (rAny K) := h ▸ cr_any hc
theorem isi_K (h : X.K = K := by rfl) : CallR X (.builtin "isinstance") (rIsi K) := h ▸ call_isi
theorem seq_K {tg l : Expr} (hl : PE X l tl) (h : X.K = K := by rfl) : PI X tg l (iSeq K tl) := h ▸ pi_seq hl
theorem tru_K {t : TE} (ha : PE X a t) (h : X.K = K := by rfl) (he : ∀ whole, isTrue a X.env whole = (do let v ← whole; standAt a.pos; holding [v] (truthy v)) := by intro _; rfl) : PT X a (tTruU K t) := h ▸ pt_tru ha he
theorem gtup_K {es : List Expr} {k : Nat} {t : TGs} {n : Nat} (hc : X.calm = true) (hg : PGs X es t) (h : X.K = K := by rfl)
    (hn : (assignEach es X.env).length = n := by rfl) (hst : (assignEach es X.env).findIdx? (·.1) = none := by rfl) : PG X (.Tuple es k pos) (gTup K n t) := h ▸ pg_tup hc hg hn hst
theorem app_K {o : Expr} {es : List Expr} {to : TE} {t : TA} {apos cpos : Pos} (h0 : PE X (.Call (.Attribute o "append" apos) (e :: es) [] cpos) (tBM X.K "list" rAppend to t)) (h : X.K = K := by rfl) : PE X (.Call (.Attribute o "append" apos) (e :: es) [] cpos) (tBM K "list" rAppend to t) := h ▸ h0
theorem ext_K {o : Expr} {es : List Expr} {to : TE} {t : TA} {apos cpos : Pos} (h0 : PE X (.Call (.Attribute o "extend" apos) (e :: es) [] cpos) (tBM X.K "list" rExtend to t)) (h : X.K = K := by rfl) : PE X (.Call (.Attribute o "extend" apos) (e :: es) [] cpos) (tBM K "list" rExtend to t) := h ▸ h0
theorem popAt_K {o : Expr} {es : List Expr} {to : TE} {t : TA} {apos cpos : Pos} (h0 : PE X (.Call (.Attribute o "pop" apos) (e :: es) [] cpos) (tBM X.K "list" rPopAt to t)) (h : X.K = K := by rfl) : PE X (.Call (.Attribute o "pop" apos) (e :: es) [] cpos) (tBM K "list" rPopAt to t) := h ▸ h0
theorem join_K {o : Expr} {to : TE} {apos cpos : Pos} (h0 : PE X (.Call (.Attribute o "join" apos) [e] [] cpos) (tM1 (rJoin X.K) to te)) (h : X.K = K := by rfl) : PE X (.Call (.Attribute o "join" apos) [e] [] cpos) (tM1 (rJoin K) to te) := h ▸ h0
/-! ### three comparisons in a row -/
def tChain3 (r r' r2 : R2) (ta tb tc td : TE) : TE := fun σ H Q => ta σ H fun x H1 => tb σ H1 fun y H2 => r x y H2 fun z H3 => ∃ k, z = .bl k ∧ (if k = true then tc σ H3 fun w' H4 => r' y w' H4 fun z2 H5 => ∃ k2, z2 = .bl k2 ∧ (if k2 = true then td σ H5 fun w2 H6 => r2 w' w2 H6 Q else Q (.bl false) H5) else Q (.bl false) H3)
end
section
variable {X : Cx} {pins : List (Addr × Obj)} {a b c d : Expr} {ta tb tc td : TE} {pos : Pos}
theorem pt_chain3 {op op' op2 : CmpOp} {r r' r2 : R2} (ho : OpR X (compareOp op) r) (ho' : OpR X (compareOp op') r') (ho2 : OpR X (compareOp op2) r2) (ha : PE X a ta) (hb : PE X b tb) (hc : PE X c tc) (hd : PE X d td)
    (hm : lastMarks [op, op', op2] [b, c, d] = false := by with_unfolding_all rfl) : PT X (.Compare a [op, op', op2] [b, c, d] pos) (tTest (tChain3 r r' r2 ta tb tc td)) := by
  refine ⟨fun pins s σ H Q I h => ?_⟩
  refine isTrue_chain (thn (ha.run pins s σ H _ I h) fun v s1 ⟨x, H1, I1, r1, q1⟩ => test_link (thn (hb.run pins s1 σ H1 _ I1 q1) fun u s2 ⟨y, H2, I2, ry, q2⟩ =>
    thn (ho pins s2 σ H2 x y v u _ I2 r1 ry q2) fun dd s3 ⟨z, H3, I3, r3, k, e, q3⟩ => ?_)) hm
  subst e
  cases r3
  refine wpAny_truthy_bool ?_
  cases k with
  | false =>
    obtain ⟨k', e', q'⟩ := q3
    cases e'
    exact ite_ff ⟨H3, I3, q'⟩
  | true =>
    refine ite_tt (test_link (thn (hc.run pins s3 σ H3 _ I3 q3) fun w' s4 ⟨z', H4, I4, r4, q4⟩ => thn (ho' pins s4 σ H4 y z' u w' _ I4 ry r4 q4) fun d' s5 ⟨z2, H5, I5, r5, k2, e2, q5⟩ => ?_))
    subst e2
    cases r5
    refine wpAny_truthy_bool ?_
    cases k2 with
    | false =>
      obtain ⟨k', e', q'⟩ := q5
      cases e'
      exact ite_ff ⟨H5, I5, q'⟩
    | true =>
      refine ite_tt (test_last (thn (hd.run pins s5 σ H5 _ I5 q5) fun w2 s6 ⟨z3, H6, I6, r6, q6⟩ => thn (ho2 pins s6 σ H6 z' z3 w' w2 _ I6 r4 r6 q6) fun d2 s7 ⟨z4, H7, I7, r7, k3, e3, q7⟩ => ?_))
      subst e3
      cases r7
      exact wpAny_truthy_bool ⟨H7, I7, q7⟩
end
section
variable {K : PySem.W.Frag} {δ : DS} {M : Mu} {ta tb tc td te to ti tx : TE} {k : D → Mu → Prop} {x y d : D}
theorem ae_chain {r r' : R2} (h : AE K ta δ M fun x M1 => AE K tb δ M1 fun y M2 => AR K r x y M2 fun z M3 => ∃ b, z = .bl b ∧ (b = true → AE K tc δ M3 fun w M4 => AR K r' y w M4 k) ∧ (b = false → k (.bl false) M3)) : AE K (tChain r r' ta tb tc) δ M k := fun σ G H Q rs s f =>
  h σ G H _ rs s fun x M1 vx G1 H1 h1 s1 st1 r1 => h1 σ G1 H1 _ (rs.mono st1.gg) s1 fun y M2 vy G2 H2 h2 s2 st2 r2 =>
    h2 vx vy G2 H2 _ (Rep.mono st2.gg _ _ r1) r2 s2 fun z M3 vz G3 H3 ⟨b, e, q1, q2⟩ s3 st3 r3 => by
      subst e
      refine ⟨b, rep_bl r3, ?_⟩
      have st := (st1.trans st2).trans st3
      cases b with
      | true =>
        rw [if_pos rfl]
        exact q1 rfl σ G3 H3 _ (rs.mono st.gg) s3 fun w M4 vw G4 H4 h4 s4 st4 r4 => h4 vy vw G4 H4 Q (Rep.mono (st3.trans st4).gg _ _ r2) r4 s4 fun d M5 v G5 H5 q s5 st5 r5 => f d M5 v G5 H5 q s5 ((st.trans st4).trans st5) r5
      | false =>
        rw [if_neg Bool.false_ne_true]
        exact f _ M3 _ G3 H3 (q2 rfl) s3 st rep_of_bl
theorem ae_chain3 {r r' r2 : R2} (h : AE K ta δ M fun x M1 => AE K tb δ M1 fun y M2 => AR K r x y M2 fun z M3 => ∃ b, z = .bl b ∧ (b = true → AE K tc δ M3 fun w M4 => AR K r' y w M4 fun z2 M5 => ∃ b2, z2 = .bl b2 ∧ (b2 = true → AE K td δ M5 fun w2 M6 => AR K r2 w w2 M6 k) ∧ (b2 = false → k (.bl false) M5)) ∧ (b = false → k (.bl false) M3)) : AE K (tChain3 r r' r2 ta tb tc td) δ M k := fun σ G H Q rs s f =>
  h σ G H _ rs s fun x M1 vx G1 H1 h1 s1 st1 r1 => h1 σ G1 H1 _ (rs.mono st1.gg) s1 fun y M2 vy G2 H2 h2 s2 st2 ry =>
    h2 vx vy G2 H2 _ (Rep.mono st2.gg _ _ r1) ry s2 fun z M3 vz G3 H3 ⟨b, e, q1, q2⟩ s3 st3 r3 => by
      subst e
      refine ⟨b, rep_bl r3, ?_⟩
      have st := (st1.trans st2).trans st3
      cases b with
      | true =>
        rw [if_pos rfl]
        exact q1 rfl σ G3 H3 _ (rs.mono st.gg) s3 fun w M4 vw G4 H4 h4 s4 st4 r4 => h4 vy vw G4 H4 _ (Rep.mono (st3.trans st4).gg _ _ ry) r4 s4 fun d M5 v G5 H5 ⟨b2, e2, q3, q4⟩ s5 st5 r5 => by
          subst e2
          refine ⟨b2, rep_bl r5, ?_⟩
          have st' := (st.trans st4).trans st5
          cases b2 with
          | true =>
            rw [if_pos rfl]
            exact q3 rfl σ G5 H5 _ (rs.mono st'.gg) s5 fun w2 M6 vw2 G6 H6 h6 s6 st6 r6 => h6 vw vw2 G6 H6 Q (Rep.mono (st5.trans st6).gg _ _ r4) r6 s6 fun d M7 v G7 H7 q s7 st7 r7 => f d M7 v G7 H7 q s7 ((st'.trans st6).trans st7) r7
          | false =>
            rw [if_neg Bool.false_ne_true]
            exact f _ M5 _ G5 H5 (q4 rfl) s5 st' rep_of_bl
      | false =>
        rw [if_neg Bool.false_ne_true]
        exact f _ M3 _ G3 H3 (q2 rfl) s3 st rep_of_bl
/-! ### the slots at the entry -/
theorem as_start {n : Nat} {ds : List D} {δ' : DS} {t : TS} {A : AEnds} (e : startD n ds = δ') (h : AS K t δ' M A) : AS K t (startD n ds) M A := e ▸ h
theorem as_slots {δ' : DS} {t : TS} {A : AEnds} (e : δ = δ') (h : AS K t δ' M A) : AS K t δ M A := e ▸ h
/-! ### list(range(..)) -/
theorem ae_listRg1 {ta : TE} (h : AE K ta δ M fun d M1 => ∃ j : Int, d = .int j ∧ 0 ≤ j ∧ j ≤ 16777216 ∧ k (.lst (rng 0 j.toNat)) M1) : AE K (tLstRg (tRg1 ta)) δ M k := fun σ G H Q rs s f =>
  h σ G H _ rs s fun d M1 v G1 H1 ⟨j, e, h0, h2, q⟩ s1 st1 r1 => by
    subst e
    refine ⟨j, rep_int r1, RgOk.of_le (Int.le_refl 0) h2 (by decide) h0, fun l hl => ?_⟩
    obtain ⟨s2, st2, e2⟩ := s1.frozen (o := .lst (rgV 0 j)) hl
    refine f _ M1 _ _ _ q s2 (st1.trans st2) (rep_mk_lst upd_same ?_)
    have e3 : rgV 0 j = (((List.range j.toNat).map fun (i : Nat) => ((0 : Int) + (i : Nat))).map V.int) := by
      unfold rgV
      rw [List.map_map, Int.sub_zero]
      rfl
    have e4 : rng 0 j.toNat = (((List.range j.toNat).map fun (i : Nat) => ((0 : Int) + (i : Nat))).map D.int) := by
      unfold rng
      rw [List.map_map]
      rfl
    rw [e3, e4]
    exact Reps.ofInts
/-! ### dicts -/
def valD {κ : Type} [DecidableEq κ] (kvs : List (κ × D)) (q : κ) : Option D := (kvs.find? fun kv => decide (kv.1 = q)).map (·.2)
def putD {κ : Type} [DecidableEq κ] (kvs : List (κ × D)) (q : κ) (v : D) : List (κ × D) :=
  if (kvs.any fun kv => decide (kv.1 = q)) = true then kvs.map (fun kv => if kv.1 = q then (kv.1, v) else kv) else kvs ++ [(q, v)]
def keyD : Key → D
  | .inl i => .int i
  | .inr z => .str z
theorem rep_key {G : Hp} {v : V} : ∀ {q : Key}, Rep K G (keyD q) v → v = kV q
  | .inl _, h => rep_int h
  | .inr _, h => rep_str h
theorem repKV_len {κ : Type} {G : Hp} : ∀ {ds : List (κ × D)} {xs : List (κ × V)}, RepKV K G ds xs → xs.length = ds.length
  | [], _, h => by
    unfold RepKV at h
    rw [h]
    rfl
  | (q, d) :: ds, _, h => by
    unfold RepKV at h
    obtain ⟨x, r, e, _, t⟩ := h
    rw [e, List.length_cons, List.length_cons, repKV_len t]
theorem repKV_get {κ : Type} [DecidableEq κ] {G : Hp} {q : κ} : ∀ {ds : List (κ × D)} {xs : List (κ × V)}, RepKV K G ds xs → (∀ d, valD ds q = some d → ∃ v, valV xs q = some v ∧ Rep K G d v) ∧ (valD ds q = none → valV xs q = none)
  | [], _, h => by
    unfold RepKV at h
    rw [h]
    exact ⟨fun d e => by simp [valD] at e, fun _ => rfl⟩
  | (q', d') :: ds, _, h => by
    unfold RepKV at h
    obtain ⟨x, r, e, rx, t⟩ := h
    subst e
    have ih := repKV_get (q := q) t
    by_cases hq : q' = q
    · subst hq
      refine ⟨fun d e => ⟨x, by simp [valV], ?_⟩, fun e => ?_⟩
      · have e1 : d' = d := by simpa [valD] using e
        subst e1
        exact rx
      · simp [valD] at e
    · have e1 : valD ((q', d') :: ds) q = valD ds q := by simp [valD, hq]
      have e2 : valV ((q', x) :: r) q = valV r q := by simp [valV, hq]
      rw [e1, e2]
      exact ih
theorem repKV_any {κ : Type} [DecidableEq κ] {G : Hp} {q : κ} : ∀ {ds : List (κ × D)} {xs : List (κ × V)}, RepKV K G ds xs → (xs.any fun kv => decide (kv.1 = q)) = (ds.any fun kv => decide (kv.1 = q))
  | [], _, h => by
    unfold RepKV at h
    rw [h]
    rfl
  | (q', d') :: ds, _, h => by
    unfold RepKV at h
    obtain ⟨x, r, e, rx, t⟩ := h
    subst e
    rw [List.any_cons, List.any_cons, repKV_any t]
theorem repKV_map {κ : Type} [DecidableEq κ] {G : Hp} {q : κ} {d : D} {v : V} (hv : Rep K G d v) : ∀ {ds : List (κ × D)} {xs : List (κ × V)}, RepKV K G ds xs → RepKV K G (ds.map fun kv => if kv.1 = q then (kv.1, d) else kv) (xs.map fun kv => if kv.1 = q then (kv.1, v) else kv)
  | [], _, h => by
    unfold RepKV at h
    rw [h]
    show RepKV K G [] []
    unfold RepKV
    rfl
  | (q', d') :: ds, _, h => by
    unfold RepKV at h
    obtain ⟨x, r, e, rx, t⟩ := h
    subst e
    rw [List.map_cons, List.map_cons]
    by_cases hq : q' = q
    · rw [if_pos hq, if_pos hq]
      unfold RepKV
      exact ⟨v, _, rfl, hv, repKV_map hv t⟩
    · rw [if_neg hq, if_neg hq]
      unfold RepKV
      exact ⟨x, _, rfl, rx, repKV_map hv t⟩
theorem repKV_snoc {κ : Type} {G : Hp} {q : κ} {d : D} {v : V} (hv : Rep K G d v) : ∀ {ds : List (κ × D)} {xs : List (κ × V)}, RepKV K G ds xs → RepKV K G (ds ++ [(q, d)]) (xs ++ [(q, v)])
  | [], _, h => by
    unfold RepKV at h
    rw [h]
    show RepKV K G [(q, d)] [(q, v)]
    unfold RepKV
    exact ⟨v, [], rfl, hv, by unfold RepKV; rfl⟩
  | (q', d') :: ds, _, h => by
    unfold RepKV at h
    obtain ⟨x, r, e, rx, t⟩ := h
    subst e
    show RepKV K G ((q', d') :: (ds ++ [(q, d)])) ((q', x) :: (r ++ [(q, v)]))
    unfold RepKV
    exact ⟨x, _, rfl, rx, repKV_snoc hv t⟩
theorem repKV_put {κ : Type} [DecidableEq κ] {G : Hp} {q : κ} {d : D} {v : V} (hv : Rep K G d v) {ds : List (κ × D)} {xs : List (κ × V)} (h : RepKV K G ds xs) : RepKV K G (putD ds q d) (putK xs q v) := by
  unfold putD putK
  rw [repKV_any h]
  split
  · exact repKV_map hv h
  · exact repKV_snoc hv h
theorem ae_dnew (q : ∀ a, k (.ref a) (M ++ [(a, .dK [])])) : AE K tDNewK δ M k := fun σ G H Q rs s f p hp => by
  obtain ⟨s2, st2⟩ := s.fresh (o := .dK []) (m := .dK []) hp ⟨[], rfl, by unfold RepKV; rfl⟩
  exact f _ _ _ _ _ (q p) s2 st2 rep_of_ref
def rSetU : TSet := fun o i v H Q => rSetL o i v H Q ∨ rSetD o i v H Q
theorem set_any {X : Cx} (hu : X.A.units + 1 < cLine) : PSet X rSetU := fun pins s σ H o i v ov iv u Q I ro ri rv h => by
  rcases h with h | h
  · exact set_list pins s σ H o i v ov iv u Q I ro ri rv h
  · exact set_dict hu pins s σ H o i v ov iv u Q I ro ri rv h
/-- o[i] = v, of a list or a dict that may change -/
def PutU (o i v : D) (M : Mu) (q : Mu → Prop) : Prop := PutM o i v M q ∨ ∃ a kvs M1 M2 key, o = .ref a ∧ i = keyD key ∧ M = M1 ++ (a, .dK kvs) :: M2 ∧ kvs.length < sizeLine ∧ q (M1 ++ (a, .dK (putD kvs key v)) :: M2)
theorem put_l {a : Addr} {ds : List D} {M1 M2 : Mu} {j : Int} {n : Nat} {v : D} {q : Mu → Prop} (e : M = M1 ++ (a, .lst ds) :: M2) (hn : ixN ds.length j = some n) (h : q (M1 ++ (a, .lst (ds.set n v)) :: M2)) : PutU (.ref a) (.int j) v M q := .inl ⟨a, ds, M1, M2, j, n, rfl, rfl, e, hn, h⟩
theorem put_d {a : Addr} {kvs : List (Key × D)} {M1 M2 : Mu} {i : D} {key : Key} {v : D} {q : Mu → Prop} (e : M = M1 ++ (a, .dK kvs) :: M2) (hi : i = keyD key) (hl : kvs.length < sizeLine) (h : q (M1 ++ (a, .dK (putD kvs key v)) :: M2)) : PutU (.ref a) i v M q := .inr ⟨a, kvs, M1, M2, key, rfl, hi, e, hl, h⟩
theorem ag_setU {kg : DS → Mu → Prop} (h : AE K to δ M fun o M1 => AE K ti δ M1 fun j M2 => PutU o j d M2 fun M3 => kg δ M3) : AG K (gSub to ti rSetU) d δ M kg := fun v σ G H Q rv rs s f =>
  h σ G H _ rs s fun o M1 vo G1 H1 h1 s1 st1 r1 => h1 σ G1 H1 _ (rs.mono st1.gg) s1 fun j M2 vj G2 H2 h2 s2 st2 r2 => by
    have rv2 := Rep.mono (st1.trans st2).gg _ _ rv
    have rs2 := rs.mono (st1.trans st2).gg
    rcases h2 with ⟨a, ds, N1, N2, jj, n, rfl, rfl, rfl, hn, q⟩ | ⟨a, kvs, N1, N2, key, rfl, rfl, rfl, hl, q⟩
    · obtain ⟨g0, o, ho, r⟩ := s2.mu (a, .lst ds) (by simp)
      obtain ⟨xs, rfl, rx⟩ := r
      obtain ⟨s3, st3⟩ := s2.write (o := .lst (xs.set n v)) (m' := .lst (ds.set n d)) ⟨_, rfl, Reps.set rx rv2⟩
      exact .inl ⟨a, xs, jj, n, rep_ref r1, rep_int r2, ho, by rw [rx.len]; exact hn, f δ _ σ G2 _ q rs2 s3 ((st1.trans st2).trans st3)⟩
    · obtain ⟨g0, o, ho, r⟩ := s2.mu (a, .dK kvs) (by simp)
      obtain ⟨xs, rfl, rx⟩ := r
      obtain ⟨s3, st3⟩ := s2.write (o := .dK (putK xs key v)) (m' := .dK (putD kvs key d)) ⟨_, rfl, repKV_put rv2 rx⟩
      exact .inr ⟨a, _, rep_ref r1, by rw [rep_key r2]; exact DPut.k ho (by rw [repKV_len rx]; exact hl), f δ _ σ G2 _ q rs2 s3 ((st1.trans st2).trans st3)⟩
/-- a dict that may change, asked -/
theorem ae_dget2 (h : AE K td δ M fun o M1 => (∃ a kvs N1 N2, o = .ref a ∧ M1 = N1 ++ (a, MO.dK kvs) :: N2) ∧ AE K te δ M1 fun i M2 => AE K tx δ M2 fun z M3 => ∃ a kvs N1 N2 key, o = .ref a ∧ i = keyD key ∧ M3 = N1 ++ (a, MO.dK kvs) :: N2 ∧ k ((valD kvs key).getD z) M3) : AE K (tDGet2 td te tx) δ M k := fun σ G H Q rs s f =>
  h σ G H _ rs s fun o M1 vo G1 H1 ⟨⟨a, kvs, N1, N2, e1, e2⟩, h1⟩ s1 st1 r1 => by
    subst e1
    refine ⟨a, rep_ref r1, ?_, h1 σ G1 H1 _ (rs.mono st1.gg) s1 fun i M2 vi G2 H2 h2 s2 st2 r2 => h2 σ G2 H2 _ (rs.mono (st1.trans st2).gg) s2 fun z M3 vz G3 H3 h3 s3 st3 r3 => ?_⟩
    · obtain ⟨g0, o, ho, r⟩ := s1.mu (a, .dK kvs) (by rw [e2]; simp)
      obtain ⟨xs, rfl, rx⟩ := r
      exact .inl ⟨xs, .inl ho⟩
    · obtain ⟨a', kvs, N1, N2, key, e3, e4, e5, q⟩ := h3
      cases e3
      subst e4
      obtain ⟨g0, o, ho, r⟩ := s3.mu (a, .dK kvs) (by rw [e5]; simp)
      obtain ⟨xs, rfl, rx⟩ := r
      have st := (st1.trans st2).trans st3
      rw [rep_key r2]
      refine ⟨valV xs key, DGet.k ho, ?_⟩
      obtain ⟨g1, g2⟩ := repKV_get (q := key) rx
      cases hv : valD kvs key with
      | none =>
        rw [hv] at q
        rw [g2 hv]
        exact f z M3 vz G3 H3 q s3 st r3
      | some dv =>
        rw [hv] at q
        obtain ⟨v, e6, r6⟩ := g1 dv hv
        rw [e6]
        exact f dv M3 v G3 H3 q s3 st r6
end
end Tg
namespace Tg
open PySem L2
theorem dcase {p : Prop} [Decidable p] {A B : Prop} (h1 : p → A) (h2 : ¬ p → B) : (decide p = true → A) ∧ (decide p = false → B) := ⟨fun c => h1 (of_decide_eq_true c), fun c => h2 (of_decide_eq_false c)⟩
theorem dcaseN {p : Prop} [Decidable p] {A B : Prop} (h1 : ¬ p → A) (h2 : p → B) : ((!decide p) = true → A) ∧ ((!decide p) = false → B) := ⟨fun c => h1 (by
  intro q
  rw [decide_eq_true q] at c
  cases c), fun c => h2 (by
  by_cases q : p
  · exact q
  · rw [decide_eq_false q] at c
    cases c)⟩
theorem dcaseR {p : Prop} [Decidable p] {A B : Prop} (h1 : ¬ p → A) (h2 : p → B) : (decide p = false → A) ∧ (decide p = true → B) := ⟨fun c => h1 (of_decide_eq_false c), fun c => h2 (of_decide_eq_true c)⟩
theorem bcaseT {A B : Prop} (h : A) : (true = true → A) ∧ (true = false → B) := ⟨fun _ => h, fun c => nomatch c⟩
theorem bcaseF {A B : Prop} (h : B) : (false = true → A) ∧ (false = false → B) := ⟨fun c => (nomatch c), fun _ => h⟩
theorem bcaseTR {A B : Prop} (h : B) : (true = false → A) ∧ (true = true → B) := ⟨fun c => (nomatch c), fun _ => h⟩
theorem bcaseFR {A B : Prop} (h : A) : (false = false → A) ∧ (false = true → B) := ⟨fun _ => h, fun c => nomatch c⟩
theorem cmul_l {i j : Int} (h1 : -(2 ^ 64) < i) (h2 : i < 2 ^ 64) : CMul i j := .inl ⟨h1, h2⟩
theorem cmul_r {i j : Int} (h1 : -(2 ^ 64) < j) (h2 : j < 2 ^ 64) : CMul i j := .inr ⟨h1, h2⟩
theorem at_yes {K : PySem.W.Frag} {δ : DS} {M : Mu} {kb : Bool → Mu → Prop} (q : kb true M) : AT K tYes δ M kb := fun σ G H Q rs s f => f true M G H q s Step.refl
end Tg
namespace Tg
open PySem L2
section
variable {K : PySem.W.Frag} {M : Mu} {k : D → Mu → Prop} {a : Addr} {ds es : List D} {M2 : Mu} {x y : Addr × MO} {j : Int} {n : Nat} {v d i : D} {q : Mu → Prop} {kvs : List (Key × D)} {key : Key}
theorem put_l0 (hn : ixN ds.length j = some n) (h : q ((a, .lst (ds.set n v)) :: M2)) : PutU (.ref a) (.int j) v ((a, .lst ds) :: M2) q := put_l (M1 := []) rfl hn h
theorem put_l1 (hn : ixN ds.length j = some n) (h : q (x :: (a, .lst (ds.set n v)) :: M2)) : PutU (.ref a) (.int j) v (x :: (a, .lst ds) :: M2) q := put_l (M1 := [x]) rfl hn h
theorem put_d0 (hi : i = keyD key) (hl : kvs.length < sizeLine) (h : q ((a, .dK (putD kvs key v)) :: M2)) : PutU (.ref a) i v ((a, .dK kvs) :: M2) q := put_d (M1 := []) rfl hi hl h
theorem put_d1 (hi : i = keyD key) (hl : kvs.length < sizeLine) (h : q (x :: (a, .dK (putD kvs key v)) :: M2)) : PutU (.ref a) i v (x :: (a, .dK kvs) :: M2) q := put_d (M1 := [x]) rfl hi hl h
theorem aix0 (h : atI ds j = some d) (q : k d ((a, .lst ds) :: M2)) : AR K (rIx K) (.ref a) (.int j) ((a, .lst ds) :: M2) k := aix_M (M1 := []) rfl h q
theorem aix1 (h : atI ds j = some d) (q : k d (x :: (a, .lst ds) :: M2)) : AR K (rIx K) (.ref a) (.int j) (x :: (a, .lst ds) :: M2) k := aix_M (M1 := [x]) rfl h q
theorem app0 (hz : ds.length < sizeLine) (q : k .non ((a, .lst (ds ++ [d])) :: M2)) : AM K rAppend (.ref a) [d] ((a, .lst ds) :: M2) k := am_append (M1 := []) rfl hz q
theorem app1 (hz : ds.length < sizeLine) (q : k .non (x :: (a, .lst (ds ++ [d])) :: M2)) : AM K rAppend (.ref a) [d] (x :: (a, .lst ds) :: M2) k := am_append (M1 := [x]) rfl hz q
theorem app2 (hz : ds.length < sizeLine) (q : k .non (x :: y :: (a, .lst (ds ++ [d])) :: M2)) : AM K rAppend (.ref a) [d] (x :: y :: (a, .lst ds) :: M2) k := am_append (M1 := [x, y]) rfl hz q
theorem ext0 (hz : ds.length + es.length ≤ sizeLine) (q : k .non ((a, .lst (ds ++ es)) :: M2)) : AM K rExtend (.ref a) [.lst es] ((a, .lst ds) :: M2) k := am_extend (M1 := []) rfl hz q
theorem lst0 : LstM (.ref a) ((a, MO.lst ds) :: M2) := lstM_ref (N1 := []) rfl
theorem lst1 : LstM (.ref a) (x :: (a, MO.lst ds) :: M2) := lstM_ref (N1 := [x]) rfl
theorem lst2 : LstM (.ref a) (x :: y :: (a, MO.lst ds) :: M2) := lstM_ref (N1 := [x, y]) rfl
theorem lenM0 (q : k (.int (ds.length : Int)) ((a, .lst ds) :: M2)) : AC K (rLenU K) [.ref a] ((a, .lst ds) :: M2) k := ac_lenM (M1 := []) rfl q
theorem lenM1 (q : k (.int (ds.length : Int)) (x :: (a, .lst ds) :: M2)) : AC K (rLenU K) [.ref a] (x :: (a, .lst ds) :: M2) k := ac_lenM (M1 := [x]) rfl q
theorem tupM0 (q : k (.tup ds) ((a, .lst ds) :: M2)) : AC K (rTupU K) [.ref a] ((a, .lst ds) :: M2) k := ac_tupM (M1 := []) rfl q
theorem tupM1 (q : k (.tup ds) (x :: (a, .lst ds) :: M2)) : AC K (rTupU K) [.ref a] (x :: (a, .lst ds) :: M2) k := ac_tupM (M1 := [x]) rfl q
variable {δ : DS} {t : TS} {A : AEnds} {s : Nat}
theorem frz0 (hi : δ[s]? = some (some (.ref a))) (h : AS K t (δ.set s (some (.lst ds))) M2 A) : AS K t δ ((a, .lst ds) :: M2) A := as_freeze (M1 := []) hi rfl h
theorem frz1 (hi : δ[s]? = some (some (.ref a))) (h : AS K t (δ.set s (some (.lst ds))) (x :: M2) A) : AS K t δ (x :: (a, .lst ds) :: M2) A := as_freeze (M1 := [x]) hi rfl h
theorem frz2 (hi : δ[s]? = some (some (.ref a))) (h : AS K t (δ.set s (some (.lst ds))) (x :: y :: M2) A) : AS K t δ (x :: y :: (a, .lst ds) :: M2) A := as_freeze (M1 := [x, y]) hi rfl h
end
end Tg
namespace Tg
open PySem L2
theorem as_cut {K : PySem.W.Frag} {δ : DS} {M : Mu} {A : AEnds} {t u : TS} (J : DS → Mu → Prop) (h1 : AS K t δ M { A with nx := J }) (h2 : ∀ δ' M', J δ' M' → AS K u δ' M' A) : AS K (tSeq t u) δ M A :=
  as_seq (h1.mono (fun δ M q => h2 δ M q) (fun _ _ q => q) (fun _ _ q => q) (fun _ _ q => q) (fun _ _ q => q) (fun _ _ q => q) (fun _ _ _ q => q) (fun _ _ _ q => q))
end Tg
namespace Tg
open PySem L2
theorem len_ok {ds : List D} (n : Nat) (h : ds.length = n) (hn : n ≤ 1000 := by decide) : ds.length ≤ sizeLine := by
  rw [h]
  exact Nat.le_trans hn (by decide)
end Tg
set_option Elab.async false
set_option linter.all false
set_option maxRecDepth 100000
set_option maxHeartbeats 1000000
namespace Tg
open PySem L2 PyProof.Rows
/-! ### methods of texts -/
section
variable {X : Cx} {e : Expr}
abbrev rCount : V → List V → Hp → VK → Prop := fun x xs H Q => ∃ a b, x = .str a ∧ xs = [.str b] ∧ Q (.int (Txt.count a b)) H
abbrev rRfind4 : V → List V → Hp → VK → Prop := fun x xs H Q => ∃ (a b : Str) (i j : Int), x = .str a ∧ xs = [.str b, .int i, .int j] ∧ Q (.int (Txt.rfindIn a b i j)) H
theorem rf_K {K : PySem.W.Frag} {o : Expr} {es : List Expr} {to : TE} {t : TA} {apos cpos : Pos} (h0 : PE X (.Call (.Attribute o "rfind" apos) (e :: es) [] cpos) (tBM X.K "str" rRfind4 to t)) (h : X.K = K := by rfl) : PE X (.Call (.Attribute o "rfind" apos) (e :: es) [] cpos) (tBM K "str" rRfind4 to t) := h ▸ h0
end
section
variable {K : PySem.W.Frag} {δ : DS} {M : Mu} {to : TE} {k : D → Mu → Prop}
theorem ae_sm {r : V → List V → Hp → VK → Prop} {ts : TA} (h : AE K to δ M fun x M1 => (∃ z, x = D.str z) ∧ AA K ts δ M1 fun xs M2 => AM K r x xs M2 k) : AE K (tBM K "str" r to ts) δ M k := fun σ G H Q rs s f =>
  h σ G H _ rs s fun x M1 v G1 H1 ⟨⟨z, e⟩, h1⟩ s1 st1 r1 => by
    subst e
    refine ⟨by rw [rep_str r1]; exact rfl, h1 σ G1 H1 _ (rs.mono st1.gg) s1 fun xs M2 vs G2 H2 h2 s2 st2 r2 => h2 v vs G2 H2 Q (Rep.mono st2.gg _ _ r1) r2 s2 fun d M3 v3 G3 H3 q s3 st3 r3 => f d M3 v3 G3 H3 q s3 ((st1.trans st2).trans st3) r3⟩
/-- how often a code stands in a list -/
def nls (l : List Nat) : Nat := (l.filter fun c => decide (c = 10)).length
def col : List Nat → Nat → Nat
  | [], n => n
  | c :: r, n => col r (if c = 10 then 1 else n + 1)
theorem col_snoc (c : Nat) : ∀ (l : List Nat) (n : Nat), col (l ++ [c]) n = if c = 10 then 1 else col l n + 1
  | [], n => rfl
  | d :: l, n => col_snoc c l _
theorem nls_snoc (l : List Nat) (c : Nat) : nls (l ++ [c]) = if c = 10 then nls l + 1 else nls l := by
  unfold nls
  rw [List.filter_append, List.length_append]
  by_cases h : c = 10
  · subst h
    simp
  · simp [h]
theorem nls_cnt : ∀ l : List Nat, cnt 10 l = (nls l : Int)
  | [] => rfl
  | c :: r => by
    rw [cnt_cons, nls_cnt r]
    unfold nls
    by_cases h : c = 10
    · subst h
      simp
      omega
    · simp [h]
theorem am_nls {l : List Nat} (q : k (.int (nls l)) M) : AM K rCount (.str (tx l)) [.str (Str.ofString "\n")] M k := fun vx vs G H Q rx rxs s f => by
  obtain ⟨v, r, rfl, r1, rr⟩ := rxs.uncons
  unfold Reps at rr
  subst rr
  refine ⟨tx l, Str.ofString "\n", rep_str rx, by rw [rep_str r1], ?_⟩
  have e : Txt.count (tx l) (Str.ofString "\n") = (nls l : Int) := by
    rw [show Str.ofString "\n" = (⟨#[10]⟩ : Str) from by decide +kernel, count_cnt, tx_cps, nls_cnt]
  rw [e]
  exact f _ M _ G H q s Step.refl rep_of_int
/-- the column behind the signs of l -/
theorem rfind_col (l : List Nat) (j : Nat) (hj : j ≤ l.length) : (j : Int) - Txt.rfindIn (tx l) (Str.ofString "\n") 0 j = (col (l.take j) 1 : Nat) := by
  have e1 : Str.ofString "\n" = (⟨#[10]⟩ : Str) := by decide +kernel
  rw [e1]
  unfold Txt.rfindIn
  have e2 : fromIndex (tx l).length 0 = 0 := by
    unfold fromIndex
    simp
  have e3 : toIndexW (tx l).length (j : Int) = j := by
    unfold toIndexW
    rw [tx_len, if_neg (by omega)]
    omega
  rw [e2, e3, StrLaws.last_eq]
  have key := StrLaws.last_run (tx l) ⟨#[10]⟩ j (List.range' 0 (j + 1 - 0)) [] none (fun _ h => nomatch h) (fun _ h => nomatch h) (by simpa using List.pairwise_lt_range' (s := 0) (n := j + 1 - 0))
  rw [List.nil_append] at key
  have at_iff : ∀ i, StrLaws.At (tx l) ⟨#[10]⟩ j i ↔ i < j ∧ l[i]? = some 10 := fun i => by
    have h0 := StrLaws.subAt_one (tx l) 10 i
    rw [tx_cps] at h0
    have h1 : (⟨#[10]⟩ : Str).length = 1 := rfl
    unfold StrLaws.At
    constructor
    · rintro ⟨h2, h3⟩
      rw [h1] at h2
      exact ⟨by omega, h0.mp ⟨by rw [h1, tx_len]; omega, h3⟩⟩
    · rintro ⟨h2, h3⟩
      exact ⟨by rw [h1]; omega, (h0.mpr h3).2⟩
  -- the column by the last line feed
  have main : ∀ j, j ≤ l.length → (∀ a, a < j → l[a]? = some 10 → (∀ i, a < i → i < j → l[i]? ≠ some 10) → (col (l.take j) 1 : Int) = j - a) ∧ ((∀ i, i < j → l[i]? ≠ some 10) → (col (l.take j) 1 : Int) = j + 1) := by
    intro j
    induction j with
    | zero =>
      intro _
      exact ⟨fun a h => absurd h (by omega), fun _ => by simp [col]⟩
    | succ j ih =>
      intro hj
      obtain ⟨i1, i2⟩ := ih (by omega)
      have hl : j < l.length := by omega
      have e : l.take (j + 1) = l.take j ++ [l[j]] := by
        rw [List.take_add_one, List.getElem?_eq_getElem hl]
        rfl
      rw [e, col_snoc]
      by_cases h : l[j] = 10
      · rw [if_pos h]
        have hs : l[j]? = some 10 := by rw [List.getElem?_eq_getElem hl, h]
        refine ⟨fun a ha h1 h2 => ?_, fun h2 => absurd hs (h2 j (by omega))⟩
        by_cases hc : a = j
        · subst hc
          omega
        · exact absurd hs (h2 j (by omega) (by omega))
      · rw [if_neg h]
        have hs : l[j]? ≠ some 10 := by
          rw [List.getElem?_eq_getElem hl]
          exact fun z => h (Option.some.inj z)
        refine ⟨fun a ha h1 h2 => ?_, fun h2 => ?_⟩
        · have hc : a ≠ j := fun z => hs (by rw [← z]; exact h1)
          have := i1 a (by omega) h1 fun i hi hi2 => h2 i hi (by omega)
          omega
        · have := i2 fun i hi => h2 i (by omega)
          omega
  obtain ⟨m1, m2⟩ := main j hj
  have mem : ∀ i, i < j → i ∈ List.range' 0 (j + 1 - 0) := fun i hi => by simp [List.mem_range']; omega
  cases hr : (forIn (List.range' 0 (j + 1 - 0)) none (StrLaws.lastBody (tx l) ⟨#[10]⟩ j)).run with
  | none =>
    rw [hr] at key
    have := m2 fun i hi hs => key i (mem i hi) ((at_iff i).mpr ⟨hi, hs⟩)
    show (j : Int) - (-1) = _
    omega
  | some a =>
    rw [hr] at key
    obtain ⟨k1, k2⟩ := key
    obtain ⟨h1, h2⟩ := (at_iff a).mp k1
    have := m1 a h1 h2 fun i hi hi2 hs => k2 i (mem i hi2) hi ((at_iff i).mpr ⟨hi2, hs⟩)
    show (j : Int) - (a : Int) = _
    omega
theorem am_rfind {l : List Nat} {j : Nat} {i1 : Int} {b : Str} (hi : i1 = 0) (hb : b = Str.ofString "\n") (q : k (.int (Txt.rfindIn (tx l) (Str.ofString "\n") 0 j)) M) : AM K rRfind4 (.str (tx l)) [.str b, .int i1, .int j] M k := fun vx vs G H Q rx rxs s f => by
  subst hi hb
  obtain ⟨v, r, rfl, r1, rr⟩ := rxs.uncons
  obtain ⟨v2, r, rfl, r2, rr⟩ := rr.uncons
  obtain ⟨v3, r, rfl, r3, rr⟩ := rr.uncons
  unfold Reps at rr
  subst rr
  exact ⟨tx l, _, 0, j, rep_str rx, by rw [rep_str r1, rep_int r2, rep_int r3], f _ M _ G H q s Step.refl rep_of_int⟩
theorem tru_ok_bl {b : Bool} : TruOk (.bl b) := True.intro
theorem tru_ok_int {i : Int} : TruOk (.int i) := True.intro
theorem tru_ok_lst {ds : List D} : TruOk (.lst ds) := True.intro
theorem caseT {b : Bool} {A B : Prop} (h : b = true) (q : A) : (b = true → A) ∧ (b = false → B) := ⟨fun _ => q, fun c => nomatch h.symm.trans c⟩
theorem caseF {b : Bool} {A B : Prop} (h : b = false) (q : B) : (b = true → A) ∧ (b = false → B) := ⟨fun c => (nomatch h.symm.trans c), fun _ => q⟩
theorem caseTR {b : Bool} {A B : Prop} (h : b = true) (q : B) : (b = false → A) ∧ (b = true → B) := ⟨fun c => (nomatch h.symm.trans c), fun _ => q⟩
theorem caseFR {b : Bool} {A B : Prop} (h : b = false) (q : A) : (b = false → A) ∧ (b = true → B) := ⟨fun _ => q, fun c => nomatch h.symm.trans c⟩
theorem ac_isiT {x : D} {n c : String} (h : typeD x = some n) (hk : PySem.W.kitOne K (.type n) (.type c) = some true) (q : k (.bl true) M) : AC K (rIsi K) [x, .ty c] M k := ac_isi h hk q
theorem ac_isiF {x : D} {n c : String} (h : typeD x = some n) (hk : PySem.W.kitOne K (.type n) (.type c) = some false) (q : k (.bl false) M) : AC K (rIsi K) [x, .ty c] M k := ac_isi h hk q
/-! ### dicts, asked -/
theorem val_put {κ : Type} [DecidableEq κ] {kvs : List (κ × D)} {q q' : κ} {v : D} : valD (putD kvs q v) q' = if q = q' then some v else valD kvs q' := by
  unfold putD
  by_cases h : (kvs.any fun kv => decide (kv.1 = q)) = true
  · rw [if_pos h]
    induction kvs with
    | nil => simp at h
    | cons kv r ih =>
      obtain ⟨p, d⟩ := kv
      rw [List.map_cons]
      by_cases hp : p = q
      · subst hp
        rw [if_pos rfl]
        by_cases hq : p = q'
        · subst hq
          simp [valD]
        · rw [if_neg hq]
          have e : ∀ r : List (κ × D), valD (r.map fun kv => if kv.1 = p then (kv.1, v) else kv) q' = valD r q' := by
            intro r
            induction r with
            | nil => rfl
            | cons kv r ih =>
              obtain ⟨p2, d2⟩ := kv
              rw [List.map_cons]
              by_cases h2 : p2 = p
              · subst h2
                rw [if_pos rfl]
                have a : valD ((p2, v) :: r.map fun kv => if kv.1 = p2 then (kv.1, v) else kv) q' = valD (r.map fun kv => if kv.1 = p2 then (kv.1, v) else kv) q' := by simp [valD, hq]
                have b : valD ((p2, d2) :: r) q' = valD r q' := by simp [valD, hq]
                rw [a, b, ih]
              · rw [if_neg h2]
                by_cases h3 : p2 = q'
                · simp [valD, h3]
                · have a : valD ((p2, d2) :: r.map fun kv => if kv.1 = p then (kv.1, v) else kv) q' = valD (r.map fun kv => if kv.1 = p then (kv.1, v) else kv) q' := by simp [valD, h3]
                  have b : valD ((p2, d2) :: r) q' = valD r q' := by simp [valD, h3]
                  rw [a, b, ih]
          have a : valD ((p, v) :: r.map fun kv => if kv.1 = p then (kv.1, v) else kv) q' = valD (r.map fun kv => if kv.1 = p then (kv.1, v) else kv) q' := by simp [valD, hq]
          have b : valD ((p, d) :: r) q' = valD r q' := by simp [valD, hq]
          rw [a, b, e]
      · rw [if_neg hp]
        have h' : (r.any fun kv => decide (kv.1 = q)) = true := by simpa [hp] using h
        by_cases hq : p = q'
        · subst hq
          rw [if_neg (Ne.symm hp)]
          simp [valD]
        · have a : valD ((p, d) :: r.map fun kv => if kv.1 = q then (kv.1, v) else kv) q' = valD (r.map fun kv => if kv.1 = q then (kv.1, v) else kv) q' := by simp [valD, hq]
          have b : valD ((p, d) :: r) q' = valD r q' := by simp [valD, hq]
          rw [a, b, ih h']
  · rw [if_neg h]
    induction kvs with
    | nil =>
      by_cases hq : q = q'
      · simp [valD, hq]
      · simp [valD, hq]
    | cons kv r ih =>
      obtain ⟨p, d⟩ := kv
      have hp : p ≠ q := fun z => h (by simp [z])
      have h' : ¬ (r.any fun kv => decide (kv.1 = q)) = true := fun z => h (by rw [List.any_cons, z, Bool.or_true])
      by_cases hq : p = q'
      · subst hq
        rw [if_neg (Ne.symm hp)]
        simp [valD]
      · have a : valD ((p, d) :: r ++ [(q, v)]) q' = valD (r ++ [(q, v)]) q' := by simp [valD, hq]
        have b : valD ((p, d) :: r) q' = valD r q' := by simp [valD, hq]
        rw [a, b, ih h']
theorem put_len {κ : Type} [DecidableEq κ] {kvs : List (κ × D)} {q : κ} {v : D} : (putD kvs q v).length ≤ kvs.length + 1 := by
  unfold putD
  split
  · rw [List.length_map]
    omega
  · rw [List.length_append]
    exact Nat.le_refl _
end
end Tg
set_option Elab.async false
set_option linter.all false
set_option maxRecDepth 100000
set_option maxHeartbeats 1000000
namespace Tg
open PySem L2 PyProof.Rows
/-! ### numbers ahead of what a tuple holds -/
/-- the tuple at a, turn by turn, its items behind their numbers in pairs that are new -/
def Iet (K : PySem.W.Frag) (a : Addr) : It where
  go := fun i H => ∃ ys y, SqT K H a ys ∧ ys[i]? = some y
  yld := fun i H v H' => ∃ p y, v = .ref p ∧ H p = none ∧ H' = upd H p (.tup [.int (i : Nat), y]) ∧ ∀ ys, SqT K H a ys → ys[i]? = some y
  stop := fun i H => ∃ ys, SqT K H a ys ∧ ys.length ≤ i
/-- how the two cells of the walk stand ahead of turn i -/
def EtAt (a en it : Addr) (i : Nat) (h : Heap) : Prop := (∃ old, IsEnum h en it (i : Int) old) ∧ h.IsTupleIter it a i ∧ en ≠ it
theorem turn_enumT {P : Program} {w : World} {K : PySem.W.Frag} {es : List Expr} {n : Nat} {tp : Pos} (a en it : Addr) : Turn P w K (.Tuple es n tp) (Iet K a) [en, it] en (EtAt a en it) where
  mem := List.mem_cons_self ..
  obj := by
    rintro i h ⟨⟨old, he⟩, ⟨o, ho, hc, hd⟩, _⟩ b hb
    rcases List.mem_cons.mp hb with rfl | hb
    · exact ⟨_, he, fun _ q => nomatch q⟩
    · cases List.mem_singleton.mp hb
      refine ⟨o, ho, fun v q => ?_⟩
      rw [hd] at q
      cases q
  keep := by
    rintro i h h' ⟨⟨old, he⟩, hi, ne⟩ k
    exact ⟨⟨old, k en (List.mem_cons_self ..) _ he⟩, hi.at fun o q => k it (by simp) o q, ne⟩
  item := by
    rintro X rfl rfl rfl calm i pins s σ H E I hf ⟨⟨old, he⟩, hit, ne⟩ ⟨ys, y, hq, hy⟩
    obtain ⟨its, rv, tp', hz⟩ := I.tuple hq
    obtain ⟨u, hu, ru⟩ := rv.get hy
    have ta : s.heap.IsTuple a its.toArray := tp'
    have lt : i < its.toArray.size := by
      have := (List.getElem?_eq_some_iff.mp hu).1
      simpa using this
    have ea : a ≠ en := by
      rintro rfl
      obtain ⟨o, ho, hc, _⟩ := ta
      rw [he] at ho
      cases ho
      exact absurd (Value.type.inj hc) (by decide)
    have ia : a ≠ it := by
      rintro rfl
      obtain ⟨o, ho, hc, _⟩ := ta
      obtain ⟨o2, ho2, hc2, _⟩ := hit
      rw [ho] at ho2
      cases ho2
      rw [hc] at hc2
      exact absurd (Value.type.inj hc2) (by decide)
    have sen : en < s.heap.objs.size := Heap.lt_size he
    have sit : it < s.heap.objs.size := by
      obtain ⟨_, q, _⟩ := hit
      exact Heap.lt_size q
    have nofp : en ∉ [it, a] := fun z => by
      rcases List.mem_cons.mp z with z | z
      · exact ne z
      · exact ea (List.mem_singleton.mp z).symm
    refine wpAny_pyNext_enum_itemD (Draws.tuple (A := X.A.in1) (I.ok.hd calm) it a ia its.toArray) he ⟨hit, ta⟩ lt ne nofp fun v h1 tk hv out st1 hT hs1 hk => ?_
    have ev : v = u := by
      have h2 : its[i]? = some v := by simpa using hv
      rw [hu] at h2
      exact (Option.some.inj h2).symm
    subst ev
    refine ⟨_, rfl, wpAny_letOwnedTupleGo_enum (s := { s with heap := h1, toks := tk + 1 }) out fun h2 he2 sb => ?_⟩
    have hT2 : h2.get? s.heap.objs.size = some { cls := .type "tuple", data := .seq #[.int i tk, v] } := by
      rw [sb.2 _ (Nat.ne_of_gt sen)]
      exact hT
    have fresh : ObjOk X.prog X.w (upd H s.heap.objs.size (.tup [.int (i : Nat), y])) h2 s.heap.objs.size (.tup [.int (i : Nat), y]) := by
      refine ⟨by show 2 ≤ sizeLine; decide, [.int i tk, v], ?_, _, hT2, rfl, _, rfl⟩
      exact .cons ⟨_, rfl⟩ (.cons ru .nil)
    have kept : ∀ b ob, b ∉ [en, it] → s.heap.get? b = some ob → h2.get? b = some ob := fun b ob hb q => by
      rw [sb.2 b fun z => hb (by simp [z])]
      exact hk b ob (fun z => hb (by simp [z])) (fun z => hb (by simp [z])) q
    have I2 : Inv X pins σ (upd H s.heap.objs.size (.tup [.int (i : Nat), y])) { s with heap := h2, toks := tk + 1 } := I.turnedNew (ch := [en, it]) kept hf (Nat.le_refl _) fresh
    refine ⟨.ref s.heap.objs.size, _, I2, rfl, ⟨_, y, rfl, I.hok.fresh (Nat.le_refl _), rfl, fun zs hz => ?_⟩, ⟨⟨v, ?_⟩, ?_, ne⟩, fun b hb => ?_⟩
    · rw [I.tuple_inj hz hq]
      exact hy
    · rw [show ((i + 1 : Nat) : Int) = (i : Int) + 1 by omega]
      exact he2
    · exact st1.1.at fun o q => (sb.2 it (Ne.symm ne)).trans q
    · have lb : b < s.heap.objs.size := by
        rcases List.mem_cons.mp hb with rfl | hb
        · exact sen
        · cases List.mem_singleton.mp hb
          exact sit
      rw [upd_ne (Nat.ne_of_lt lb)]
      exact (hf b hb).1
  done := by
    rintro X rfl rfl rfl calm i pins s σ H E I hf ⟨⟨old, he⟩, hit, ne⟩ ⟨ys, hq, hy⟩
    obtain ⟨its, rv, tp', hz⟩ := I.tuple hq
    have ta : s.heap.IsTuple a its.toArray := tp'
    obtain ⟨f0, f1, f2, f3, f4, f5⟩ := hf it (by simp)
    have hn : its.toArray[i]? = none := by
      have := rv.length
      simp
      omega
    have hT : s.TypeIs (.ref en) "enumerate" := ⟨_, he, rfl⟩
    unfold pyNext
    refine wpAny_bind (wpAny_attempt (wpAny_callSpecial?_slot (name := Str.ofString "__next__") hT F.slot_enumerate_next (wpAny_call_entry F.slot_enumerate_next hT F.entry_enumerate_next ?_ (F.args_enumerate_next_1 _))))
    show wpAny _ _ (field (.ref en) 2 >>= _) _ _ _
    refine wpAny_bind (wpAny_field he rfl (x := .ref it) rfl (wpAny_bind (wpAny_nextOf_tuple_end (I.ok.hd calm) hit ta hn fun h' x he' hx' => ?_)))
    obtain ⟨o, ho, hc⟩ := hx'
    refine wpAny_bind (wpAny_isInstance (T := "StopIteration") (b := true) ⟨o, ho, hc⟩ isSubtype_stop (wpAny_pure ⟨rfl, ?_⟩))
    exact I.turned (t' := s.toks) (fun b o hb q => he' b o hb q) f0 f1 f3 f4 f5
  self := by
    rintro A i s Q E ⟨⟨_, he⟩, _⟩ h
    exact wpAny_pyIter_enum he h
set_option maxHeartbeats 2000000 in
/-- what enumerate(v) makes -/
theorem new_enum {v : Value} {o : Obj} {H0 : Heap → Prop} (B : Begins v o H0) : Meets (Builtin.«enumerate.__new__» ⟨[.type "enumerate", v], []⟩) (fun _ R s => H0 s.heap ∧
    R (.ok (.ret (.ref (s.heap.push o).objs.size))) { s with heap := (s.heap.push o).push { cls := .type "enumerate", data := .fields #[.none, .bool false, .ref s.heap.objs.size, rawInt 0, .none, .none] } }) :=
  .of_wp fun prog w A R s hh => by
    obtain ⟨hp, g, d, tk, os⟩ := s
    obtain ⟨hH, hR⟩ := hh
    have hsub := sub_enumerate
    have begun : ∀ {A' : Around} {E Q : Value → Shared → Prop}, Q (.ref hp.objs.size) ⟨hp.push o, g, d, tk, os⟩ → wpAny (model prog w) A' (pyIter v) Q E ⟨hp, g, d, tk, os⟩ := fun q => B.iter _ _ _ _ ⟨hp, g, d, tk, os⟩ _ hH q
    wp_walk using begun
    refine wpAny_stack_any fun st => wpAny_pure ?_
    split
    · rename_i c _ _ _ _ _
      rcases c == Value.type "enumerate" with _ | _ <;> (wp_walk using begun; exact ⟨_, rfl, hR⟩)
    · wp_walk using begun
      exact ⟨_, rfl, hR⟩
theorem call_enumT {prog : Program} {w : World} {A : Around} {E : Value → Shared → Prop} {s : Shared} {a : Addr} {its : Array Value} {Q : Value → Shared → Prop} (ta : s.heap.IsTuple a its)
    (q : ∀ h', IsEnum h' (s.heap.objs.size + 1) s.heap.objs.size 0 .none → h'.IsTupleIter s.heap.objs.size a 0 → (∀ b o, s.heap.get? b = some o → h'.get? b = some o) → Q (.ref (s.heap.objs.size + 1)) { s with heap := h' }) :
    wpAny (model prog w) A (call (.type "enumerate") [.ref a]) Q E s := by
  refine callType_new F.called_enumerate (by decide) (F.typeCall_enumerate_1 _) (F.newCall_enumerate_1 _) (fun obj => F.args_object_init_2 obj _) F.entry_enumerate_new (new_enum (begins_tuple a its)) ⟨ta, ?_⟩
  show _ ∧ _
  have sz : (s.heap.push { cls := .type "tuple_iterator", data := .fields #[.ref a, .int 0 0] }).objs.size = s.heap.objs.size + 1 := Heap.size_push ..
  rw [sz]
  have he : IsEnum ((s.heap.push { cls := .type "tuple_iterator", data := .fields #[.ref a, .int 0 0] }).push { cls := .type "enumerate", data := .fields #[.none, .bool false, .ref s.heap.objs.size, rawInt 0, .none, .none] }) (s.heap.objs.size + 1) s.heap.objs.size 0 .none := by
    have h0 := Heap.get?_push_size (s.heap.push { cls := .type "tuple_iterator", data := .fields #[.ref a, .int 0 0] }) (o := { cls := .type "enumerate", data := .fields #[.none, .bool false, .ref s.heap.objs.size, rawInt 0, .none, .none] }) rfl
    rw [sz] at h0
    exact h0
  exact ⟨⟨_, he, rfl⟩, q _ he ⟨_, Heap.get?_push_of_some _ (Heap.get?_push_size _ rfl), rfl, rfl⟩ fun b o x => Heap.get?_push_of_some _ (Heap.get?_push_of_some _ x)⟩
/-- enumerate of a list or of a tuple -/
def iEnS (K : PySem.W.Frag) (ta : TA) : TI := fun σ H R => ta σ H fun vs H1 => ∃ a xs, vs = [.ref a] ∧ ((SqL K H1 a xs ∧ R (Ite K a) H1) ∨ (SqT K H1 a xs ∧ R (Iet K a) H1))
theorem pi_enS {X : Cx} {e : Expr} {ta : TA} {p pos tp : Pos} {es : List Expr} {n : Nat} (hg : Gl X "enumerate") (hm : X.mg "enumerate" = none) (ha : PA X [e] ta) (hs : starEach [e] X.env = [(false, eval e X.env)] := by rfl) : PI X (.Tuple es n tp) (.Call (.Name "enumerate" p) [e] [] pos) (iEnS X.K ta) := by
  refine ⟨fun pins s σ H R I h => ?_⟩
  refine Call_ (ld_blt I hg hm boot_enumerate (PyProof.Rows.callWith_type1 (thn (ha.run pos pins s σ H _ I h) fun us s1 ⟨vs, H1, I1, r1, a, xs, ex, alt⟩ => ?_) hs rfl))
  subst ex
  obtain ⟨u, rfl, ru⟩ : ∃ u, us = [u] ∧ RelV (.ref a) u := by
    cases r1 with
    | cons r rr =>
      cases rr
      exact ⟨_, rfl, r⟩
  cases ru
  have fp : ∀ b ∈ [s1.heap.objs.size + 1, s1.heap.objs.size], FpOk X pins H1 b := fun b hb => by
    have le : s1.heap.objs.size ≤ b := by
      rcases List.mem_cons.mp hb with rfl | hb
      · exact Nat.le_succ _
      · exact Nat.le_of_eq (List.mem_singleton.mp hb).symm
    exact I1.fpOk le (I1.hok.fresh le)
  rcases alt with ⟨hq, q⟩ | ⟨hq, q⟩
  · obtain ⟨its, rv, p', _⟩ := I1.list hq
    exact call_enumerate_list p'.isList fun h' he hit _ hk => wpAny_pyIter_enum he ⟨_, _, _, _, H1, rfl, I1.kept (t' := s1.toks) hk, turn_enum a (s1.heap.objs.size + 1) s1.heap.objs.size, ⟨⟨.none, he⟩, hit, Nat.succ_ne_self _⟩, fp, q⟩
  · obtain ⟨its, rv, p', _⟩ := I1.tuple hq
    exact call_enumT (show s1.heap.IsTuple a its.toArray from p') fun h' he hit hk => wpAny_pyIter_enum he ⟨_, _, _, _, H1, rfl, I1.kept (t' := s1.toks) hk, turn_enumT a (s1.heap.objs.size + 1) s1.heap.objs.size, ⟨⟨.none, he⟩, hit, Nat.succ_ne_self _⟩, fp, q⟩
section
variable {K : PySem.W.Frag} {G : Hp} {δ : DS} {M : Mu} {ki : List D → Mu → Prop}
theorem itOk_enumT {a : Addr} {xs : List V} {ds : List D} (h : SqT K G a xs) (r : Reps K G ds xs) : ItOk K (Iet K a) G (enumD ds) := fun i G1 H1 M e s => by
  have hq : SqT K H1 a xs := Same.seqT s.same (Same.seqT e h)
  refine ⟨fun d hd => ?_, fun hi => ⟨xs, hq, by rw [r.len, hi]; simp [enumD]⟩⟩
  unfold enumD at hd
  rw [List.getElem?_map, List.getElem?_zipIdx] at hd
  cases hc : ds[i]? with
  | none => rw [hc] at hd; cases hd
  | some c =>
    rw [hc] at hd
    have e1 : D.tup [.int ((0 + i : Nat) : Int), c] = d := by simpa using hd
    rw [Nat.zero_add] at e1
    subst e1
    obtain ⟨x, hx, rx⟩ := r.get hc
    refine ⟨⟨xs, x, hq, hx⟩, fun y H' hy => ?_⟩
    obtain ⟨T, x', rfl, nT, rfl, hy⟩ := hy
    have e2 : x = x' := Option.some.inj (hx.symm.trans (hy xs hq))
    subst e2
    obtain ⟨s2, st2, e3⟩ := s.frozen (o := .tup [.int (i : Nat), x]) nT
    exact ⟨_, s2, st2, rep_mk_tup (.inl (.inl upd_same)) (Reps.cons rep_of_int (Reps.one (Rep.mono (e.trans e3) _ _ rx)))⟩
def seqD : D → Option (List D)
  | .lst ds => some ds
  | .tup ds => some ds
  | _ => none
theorem ai_enum {ts : TA} (h : AA K ts δ M fun ds M1 => ∃ d es, ds = [d] ∧ seqD d = some es ∧ ki (enumD es) M1) : AI K (iEnS K ts) δ M ki := fun σ G H R rs s f =>
  h σ G H _ rs s fun ds M1 vs G1 H1 ⟨d, es, e, he, h1⟩ s1 st1 r1 => by
    subst e
    obtain ⟨x, r, rfl, rx, rr⟩ := r1.uncons
    unfold Reps at rr
    subst rr
    cases d <;> simp only [seqD, Option.some.injEq, reduceCtorEq] at he
    · subst he
      obtain ⟨a, xs, rfl, ha, rs2⟩ := rep_tup rx
      exact ⟨a, xs, rfl, .inr ⟨Same.seqT s1.same ha, f _ M1 G1 H1 _ h1 s1 st1 (itOk_enumT ha rs2)⟩⟩
    · subst he
      obtain ⟨a, xs, rfl, ha, rs2⟩ := rep_lst rx
      exact ⟨a, xs, rfl, .inl ⟨.inl (.inl (s1.same _ _ ha)), f _ M1 G1 H1 _ h1 s1 st1 (itOk_enum (.inl (.inl ha)) rs2)⟩⟩
theorem enumD_get {ds : List D} {i : Nat} {d : D} (h : (enumD ds)[i]? = some d) : ∃ c, ds[i]? = some c ∧ d = .tup [.int (i : Nat), c] := by
  unfold enumD at h
  rw [List.getElem?_map, List.getElem?_zipIdx] at h
  cases hc : ds[i]? with
  | none => rw [hc] at h; cases h
  | some c =>
    rw [hc] at h
    have e1 : D.tup [.int ((0 + i : Nat) : Int), c] = d := by simpa using h
    rw [Nat.zero_add] at e1
    exact ⟨c, rfl, e1.symm⟩
theorem enumD_len (ds : List D) : (enumD ds).length = ds.length := by simp [enumD]
end
section
variable {X : Cx} {K : PySem.W.Frag}
theorem enS_K {e : Expr} {ta : TA} {p pos tp : Pos} {es : List Expr} {n : Nat} (h0 : PI X (.Tuple es n tp) (.Call (.Name "enumerate" p) [e] [] pos) (iEnS X.K ta)) (h : X.K = K := by rfl) : PI X (.Tuple es n tp) (.Call (.Name "enumerate" p) [e] [] pos) (iEnS K ta) := h ▸ h0
end
end Tg
set_option Elab.async false
set_option linter.all false
set_option maxRecDepth 100000
set_option maxHeartbeats 1000000
namespace Tg
open PySem L2 PyProof.Rows
section
variable {K : PySem.W.Frag} {δ : DS} {M M1 M2 : Mu} {te : TE} {k : D → Mu → Prop} {kb : Bool → Mu → Prop} {a : Addr} {ds : List D} {x : Addr × MO}
/-- a list, some times over -/
theorem ar_rep {j : Int} (h0 : 0 ≤ j) (h1 : ds.length * j.toNat ≤ 16777216) (h2 : j < 16777217) (q : k (.lst (List.replicate j.toNat ds).flatten) M) : AR K rRep (.lst ds) (.int j) M k := fun vx vy G H Q rx ry s f => by
  obtain ⟨p, xs, rfl, hp, r1⟩ := rep_lst rx
  refine ⟨p, j, xs, rfl, rep_int ry, s.same _ _ hp, by omega, by omega, by rw [r1.len]; exact h1, fun l hl => ?_⟩
  obtain ⟨s2, st2, e2⟩ := s.frozen (o := .lst (List.replicate j.toNat xs).flatten) hl
  refine f _ M _ _ _ q s2 st2 (rep_mk_lst upd_same ?_)
  have go : ∀ n : Nat, Reps K (upd G l (.lst (List.replicate j.toNat xs).flatten)) (List.replicate n ds).flatten (List.replicate n xs).flatten := by
    intro n
    induction n with
    | zero => exact Reps.nil
    | succ n ih =>
      rw [List.replicate_succ, List.replicate_succ, List.flatten_cons, List.flatten_cons]
      exact (Reps.mono e2 _ _ r1).append ih
  exact go _
theorem reps_erase {G : Hp} : ∀ {ds : List D} {xs : List V} (n : Nat), Reps K G ds xs → Reps K G (ds.eraseIdx n) (xs.eraseIdx n)
  | [], _, n, h => by
    unfold Reps at h
    rw [h]
    simp only [List.eraseIdx_nil]
    exact Reps.nil
  | c :: ds, _, n, h => by
    obtain ⟨y, r, q, s, t⟩ := Reps.uncons h
    subst q
    cases n with
    | zero => exact t
    | succ n => exact Reps.cons s (reps_erase n t)
theorem am_popAt {i : Nat} {d : D} (e : M = M1 ++ (a, .lst ds) :: M2) (hi : ds[i]? = some d) (hz : ds.length ≤ 16777216) (q : k d (M1 ++ (a, .lst (ds.eraseIdx i)) :: M2)) : AM K rPopAt (.ref a) [.int i] M k := fun vx vs G H Q rx rxs s f => by
  subst e
  obtain ⟨v, r, rfl, r1, rr⟩ := rxs.uncons
  unfold Reps at rr
  subst rr
  obtain ⟨g0, o, ho, r⟩ := s.mu (a, .lst ds) (by simp)
  obtain ⟨xs, rfl, rs⟩ := r
  obtain ⟨y, hy, ry⟩ := rs.get hi
  have hl := (List.getElem?_eq_some_iff.mp hi).1
  obtain ⟨s2, st2⟩ := s.write (o := .lst (xs.eraseIdx i)) (m' := .lst (ds.eraseIdx i)) ⟨_, rfl, reps_erase i rs⟩
  refine ⟨a, xs, i, i, y, rep_ref rx, by rw [rep_int r1], ho, by omega, by omega, ?_, hy, f _ _ _ _ _ q s2 st2 ry⟩
  rw [rs.len]
  unfold seqIndex?
  have e1 : (if (i : Int) < 0 then (i : Int) + (ds.length : Int) else (i : Int)) = i := if_neg (by omega)
  simp only [e1]
  rw [if_pos (by simp; omega), Int.toNat_natCast]
theorem at_truM (h : AE K te δ M fun d M' => ∃ a ds N1 N2, d = .ref a ∧ M' = N1 ++ (a, MO.lst ds) :: N2 ∧ kb (!ds.isEmpty) M') : AT K (tTruU K te) δ M kb := fun σ G H Q rs s f =>
  h σ G H _ rs s fun d M1 vx G1 H1 ⟨a, ds, N1, N2, e1, e2, h1⟩ s1 st1 r1 => by
    subst e1
    obtain ⟨g0, o, ho, r⟩ := s1.mu (a, .lst ds) (by rw [e2]; simp)
    obtain ⟨xs, rfl, rx⟩ := r
    refine ⟨!ds.isEmpty, ?_, f _ M1 G1 H1 h1 s1 st1⟩
    rw [rep_ref r1]
    exact .inl ⟨xs, .inl (.inl ho), by rw [isEmpty_len rx.len]⟩
theorem ext1 {es : List D} (hz : ds.length + es.length ≤ sizeLine) (q : k .non (x :: (a, .lst (ds ++ es)) :: M2)) : AM K rExtend (.ref a) [.lst es] (x :: (a, .lst ds) :: M2) k := am_extend (M1 := [x]) rfl hz q
end
end Tg
set_option Elab.async false
set_option linter.all false
set_option maxRecDepth 100000
set_option maxHeartbeats 1000000
/-! Tg: what is raised: an own error with two fields. -/
namespace Tg
open PySem L2 PyProof.Rows
/-! ### the promise of a def that may raise an error of the class C -/
abbrev WtX := List D → Mu → (D → Mu → Prop) → (List (Str × D) → Mu → Prop) → Prop
def SpcX (K : PySem.W.Frag) (C : Addr) (W : WtX) : Sp := fun vs H Q E => ∃ G ds M k kx, Reps K G ds vs ∧ S K G H M ∧ W ds M k kx ∧
  (∀ d M' v G' H', k d M' → S K G' H' M' → Step (ads M) G H (ads M') G' H' → Rep K G' d v → Q v H') ∧
  ∀ fs M' d G' H', kx fs M' → S K G' H' (M' ++ [(d, .xd fs)]) → Step (ads M) G H (ads (M' ++ [(d, .xd fs)])) G' H' → E (.ref C) (some d) H'
section
variable {P : Program} {w : World} {K : PySem.W.Frag} {mg : Str → Option Value} {base : Heap}
theorem spc_okX {C : Addr} {W : WtX} {x qual : Str} {st : Stmt} {f : Addr} {fd : FuncData} {N ps : List Str} {k : Nat} (F : Fun K x qual st f fd) (Sc : FnScope N ps (defScope st)) (len : ∀ ds M kk kx, W ds M kk kx → ds.length = ps.length)
    (hbody : ∀ (cdv : Value) (A : Around) (outer : List Env) (s : Shared) (H : Hp) (E : XK), Room k (A.deeper (envOfC qual (defScope st) s.heap.objs.size f cdv)) →
      ∃ t, PSs (cxOf (L2.CX P w) P w K mg base N qual (defScope st) f cdv A outer s H E) (defBody st) t ∧
        ∀ ds M kk kx, W ds M kk kx → AS K t (startD N.length ds) M { nx := fun _ M' => kk .non M', rt := kk, xs := kx, W := fun d H' => E (.ref C) (some d) H' }) : FnOk P w K mg base (L2.CX P w) (k + 1) f fd ps (SpcX K C W) := by
  refine F.okX Sc (fun vs H Q E h => ?_) (fun cdv A outer s H vs Q E hr h => ?_)
  · obtain ⟨G, ds, M, kk, kx, r, _, hw, _⟩ := h
    rw [r.len]
    exact len ds M kk kx hw
  · obtain ⟨G, ds, M, kk, kx, r, hs, hw, q, qx⟩ := h
    obtain ⟨t, pt, ht⟩ := hbody cdv A outer s H E hr
    refine ⟨t, pt, ht ds M kk kx hw (start N vs) G H _ (relS_start r) hs ⟨?_, ?_, ?_, ?_, ?_, fun _ _ _ _ _ _ a => a.elim⟩⟩
    · intro δ' M' σ' G' H' a rs' s' st'
      exact q .non M' .non G' H' a s' st' rep_of_non
    · intro d M' v G' H' a s' st' rv
      exact q d M' v G' H' a s' st' rv
    · intro δ' M' σ' G' H' a
      exact a.elim
    · intro δ' M' σ' G' H' a
      exact a.elim
    · intro fs M' d G' H' a s' st'
      exact qx fs M' d G' H' a s' st'
end
/-! ### raising -/
/-- what __init__ of an error with two fields leaves -/
def spIni (K : PySem.W.Frag) (C : Addr) (f1 f2 : Str) : Sp := fun vs H Q _ => ∃ a y z, vs = [.ref a, y, z] ∧ H a = some (exo a C none) ∧
  ∀ dx, H dx = none → dx ≠ a → Q .non (upd (upd (upd H dx (exd dx [(f1, y)])) a (exo a C (some dx))) dx (exd dx [(f2, z), (f1, y)]))
/-- raise X(e1, e2) -/
def tRaiseO (K : PySem.W.Frag) (C : Addr) (f1 f2 : Str) (E : XK) (ta : TA) : TS := fun _ σ H => tMkO C (spIni K C f1 f2) [] ta σ H fun cls d H' => E cls d H'
section
variable {K : PySem.W.Frag} {δ : DS} {M : Mu} {A : AEnds} {C : Addr} {f1 f2 : Str} {E : XK} {ta : TA}
theorem upd_swap {H : Hp} {a b : Addr} {o u : HO} (h : a ≠ b) : upd (upd H a o) b u = upd (upd H b u) a o := by
  funext c
  by_cases h1 : c = b
  · subst h1
    rw [upd_same, upd_ne (Ne.symm h), upd_same]
  · rw [upd_ne h1]
    by_cases h2 : c = a
    · subst h2
      rw [upd_same, upd_same]
    · rw [upd_ne h2, upd_ne h2, upd_ne h1]
theorem as_raise (hA : A.W = fun d H' => E (.ref C) (some d) H') (h : AA K ta δ M fun ds M1 => ∃ y z, ds = [y, z] ∧ A.xs [(f2, z), (f1, y)] M1) : AS K (tRaiseO K C f1 f2 E ta) δ M A := fun σ G H E' rs s f =>
  h σ G H _ rs s fun ds M1 vs G1 H1 ⟨y, z, e, hx⟩ s1 st1 r1 => by
    subst e
    obtain ⟨vy, r, rfl, ry, rr⟩ := r1.uncons
    obtain ⟨vz, r, rfl, rz, rr⟩ := rr.uncons
    unfold Reps at rr
    subst rr
    refine ⟨by show 2 ≤ 1000; decide, fun a ha => ⟨a, vy, vz, rfl, upd_same, fun dx hdx hne => ⟨rfl, dx, [(f2, vz), (f1, vy)], ?_, upd_same, ?_, ?_⟩⟩⟩
    · rw [upd_ne (Ne.symm hne), upd_same]
    · have h0 := hdx
      rw [upd_ne hne] at h0
      exact h0
    · have hd1 : H1 dx = none := by
        have h0 := hdx
        rw [upd_ne hne] at h0
        exact h0
      have e : upd (del (upd (upd (upd (upd H1 a (exo a C none)) dx (exd dx [(f1, vy)])) a (exo a C (some dx))) dx (exd dx [(f2, vz), (f1, vy)])) a) dx (.xd [(f2, vz), (f1, vy)]) = upd H1 dx (.xd [(f2, vz), (f1, vy)]) := by
        funext b
        by_cases h1 : b = dx
        · subst h1
          rw [upd_same, upd_same]
        · rw [upd_ne h1, upd_ne h1]
          by_cases h2 : b = a
          · subst h2
            rw [del_same, ha]
          · rw [del_ne h2, upd_ne h1, upd_ne h2, upd_ne h1, upd_ne h2]
      rw [e]
      obtain ⟨s2, st2⟩ := s1.fresh (o := .xd [(f2, vz), (f1, vy)]) (m := .xd [(f2, z), (f1, y)]) hd1 ⟨_, rfl, by
        unfold RepKV
        refine ⟨vz, _, rfl, rz, ?_⟩
        unfold RepKV
        exact ⟨vy, [], rfl, ry, by unfold RepKV; rfl⟩⟩
      have q := f.xs _ M1 dx G1 _ hx s2 (st1.trans st2)
      rw [hA] at q
      exact q
end
section
variable {X : Cx} {K : PySem.W.Frag} {C fI : Addr} {k : Nat} {fd : FuncData} {f1 f2 x : Str} {e e2 : Expr} {es : List Expr} {ta : TA} {p pos pos2 : Pos} {CX : CXT} {E : XK}
theorem ps_raiseO (hc : X.calm = true) (tk : Takes X (fun cls d _ H => E cls d H)) (T : OexC X.K C) (iC : PySem.W.findIn X.K (.ref C) "__init__" = some (some (.ref fI))) (tI : PySem.W.typeIn X.K (.ref fI) = some (.type "function"))
    (F1 : FnOk X.prog X.w X.K X.mg X.base CX k fI fd ["self", f1, f2] (spIni X.K C f1 f2)) (hr : Room (k + 1) X.A) (hb : Binds X.K fd ["self", f1, f2] []) (hx : Passes CX X (fun _ _ _ => False)) (hg : Gl X x) (hm : X.mg x = some (.ref C)) (ha : PA X (e :: es) ta)
    (hdb : (x == ("__debug__" : Str)) = false := by decide) (he : starEach (e :: es) X.env = (false, eval e X.env) :: starEach es X.env := by rfl) (hpl : (backTo pos (starEach es X.env)).any (·.1) = false := by rfl) :
    PS X (.Raise (some (.Call (.Name x p) (e :: es) [] pos)) none pos2) (tRaiseO X.K C f1 f2 E ta) := ps_raise hc tk (pmk_oex T iC tI F1 hr hb .nil hx hg hm ha hdb he hpl)
end
/-! ### an error caught -/
section
variable {K : PySem.W.Frag} {δ : DS} {M : Mu} {A : AEnds} {C : Addr} {W : WtX} {ta : TA} {ib i : Nat} {ts : Addr → Value → Option Addr → TS}
/-- try: x = f(..) except X as n: suite -/
def tTryX (K : PySem.W.Frag) (C : Addr) (W : WtX) (ta : TA) (ib i : Nat) (ts : Addr → Value → Option Addr → TS) : TS := fun D σ H => tAsg (tCallS (SpcX K C W) (WE (wAs K (.ref C) i ts (fun _ _ _ _ => False) D)) ta) (gName ib) D σ H
theorem as_tryX (te : PySem.W.exmOne K (.ref C) (.ref C) = some true) (h : AA K ta δ M fun ds M1 => ∃ Mc R kc kx, M1 = Mc ++ R ∧ W ds Mc kc kx ∧ (∀ d Mc', kc d Mc' → A.nx (δ.set ib (some d)) (Mc' ++ R)) ∧
      ∀ fs Mc' a d, kx fs Mc' → AS K (ts a (.ref C) (some d)) (δ.set i (some (.ref a))) ((Mc' ++ [(d, .xd fs)]) ++ R) { A with nx := fun δ' M' => A.nx (δ'.set i none) M', bk := fun δ' M' => A.bk (δ'.set i none) M', ct := fun δ' M' => A.ct (δ'.set i none) M', ps := fun _ _ _ => False }) :
    AS K (tTryX K C W ta ib i ts) δ M A := fun σ G H E rs s f =>
  h σ G H _ rs s fun ds M1 vs G1 H1 ⟨Mc, R, kc, kx, e, hw, hn, hx⟩ s1 st1 r1 => by
    subst e
    refine ⟨G1, ds, Mc, kc, kx, r1, s1.sub, hw, fun d M' v G' H' hd s' st' rv => ?_, fun fs M' d G' H' hk s' st' => ?_⟩
    · obtain ⟨s2, st2⟩ := s1.join s' st'
      exact f.nx _ _ _ G' H' (hn d M' hd) ((rs.mono (st1.trans st2).gg).set ib rv) s2 (st1.trans st2)
    · obtain ⟨s2, st2⟩ := s1.join s' st'
      have st := st1.trans st2
      have fg := f.go st
      refine ⟨true, te, fun _ a ha => ?_, fun q => nomatch q⟩
      refine hx fs M' a d hk (σ.set i (some (.ref a))) G' H' _ ((rs.mono st.gg).set i rep_of_ref) s2 ⟨?_, fg.rt, ?_, ?_, fg.xs, fun C δ' M2 σ' G2 H2 q => q.elim⟩
      · intro δ' M2 σ' G2 H2 q r s3 st3
        exact fg.nx _ M2 _ G2 H2 q (r.drop i) s3 st3
      · intro δ' M2 σ' G2 H2 q r s3 st3
        exact fg.bk _ M2 _ G2 H2 q (r.drop i) s3 st3
      · intro δ' M2 σ' G2 H2 q r s3 st3
        exact fg.ct _ M2 _ G2 H2 q (r.drop i) s3 st3
theorem repKV_look {G : Hp} {f : Str} {d : D} : ∀ {ds : List (Str × D)} {xs : List (Str × V)}, RepKV K G ds xs → ds.lookup f = some d → ∃ v, xs.lookup f = some v ∧ Rep K G d v
  | [], _, _, e => nomatch e
  | (q, d') :: ds, _, h, e => by
    unfold RepKV at h
    obtain ⟨x, r, rfl, rx, t⟩ := h
    rw [List.lookup_cons] at e ⊢
    cases hq : f == q with
    | true =>
      rw [hq] at e
      cases e
      exact ⟨x, rfl, rx⟩
    | false =>
      rw [hq] at e
      exact repKV_look t e
variable {a d : Addr} {f : Str} {te : TE} {k : D → Mu → Prop}
theorem ae_xf (h : AE K te δ M fun x M1 => x = .ref a ∧ ∃ fs y N1 N2, M1 = N1 ++ (d, .xd fs) :: N2 ∧ fs.lookup f = some y ∧ k y M1) : AE K (tXf a (.ref C) (some d) C f te) δ M k := fun σ G H Q rs s f' =>
  h σ G H _ rs s fun x M1 v G1 H1 ⟨e1, fs, y, N1, N2, e2, hl, q⟩ s1 st1 r1 => by
    subst e1
    obtain ⟨g0, o, ho, r⟩ := s1.mu (d, .xd fs) (by rw [e2]; simp)
    obtain ⟨ps, rfl, rp⟩ := r
    obtain ⟨v, hv, rv⟩ := repKV_look rp hl
    exact ⟨rep_ref r1, rfl, d, ps, v, rfl, ho, hv, f' y M1 v G1 H1 q s1 st1 rv⟩
end
/-! ### isinstance of the error that is caught -/
/-- e the error at a of the class D with its dict -/
def rIsX (K : PySem.W.Frag) (D a : Addr) (cls : Value) (d : Option Addr) : List V → Hp → VK → Prop := fun xs H Q => ∃ (dd : Addr) (c : V) (cv : Value) (b : Bool) (fs : List (Str × V)), cls = .ref D ∧ d = some dd ∧ xs = [.ref a, c] ∧ H dd = some (.xd fs) ∧ (∀ u, RelV c u → u = cv) ∧ PySem.W.kitOne K (.ref D) cv = some b ∧ Q (.bl b) H
theorem call_isX {X : Cx} {a D : Addr} {cls : Value} {d : Option Addr} {oe : Obj} {pn : List (Addr × Obj)} (C : ExcC X.K D) (hz : Zc cls d oe) (hf : ∃ vs, oe.data = .fields vs) : CallR (X.suite a ((a, oe) :: pn)) (.builtin "isinstance") (rIsX X.K D a cls d) := by
  rintro pins s σ H xs us Q I r ⟨dd, c, cv, b, fs, ec1, ed1, rfl, hdd, hcv, e, q⟩
  subst ec1 ed1
  obtain ⟨u1, u2, rfl, r1, r2⟩ : ∃ u1 u2, us = [u1, u2] ∧ RelV (.ref a) u1 ∧ RelV c u2 := by
    cases r with
    | cons rx rr =>
      cases rr with
      | cons rt rr =>
        cases rr
        exact ⟨_, _, rfl, rx, rt⟩
  cases r1
  have ec := hcv _ r2
  subst ec
  have at_a := (I.pin (a, oe) (List.mem_append_left _ (List.mem_cons_self ..))).1
  obtain ⟨mA, hns, _⟩ : ObjOk X.prog X.w H s.heap dd (.xd fs) := I.hok dd _ hdd
  obtain ⟨od, ho, _⟩ := lookIn_ns hns
  obtain ⟨vs, hv⟩ := hf
  have J : PySem.W.InstAt s.heap a oe D (some od) := ⟨at_a, hz.1, by unfold PySem.W.notCls; rw [hv] <;> rfl, by rw [hz.2]; exact ho⟩
  have hcl : (PySem.W.clsIn X.K D).isSome = true := by
    obtain ⟨cd, h1, _⟩ := PySem.W.any_some C.hd
    rw [h1]
    rfl
  exact PySem.W.kia_one (PySem.W.kitx_exc hcl C.hg C.hk C.hs C.ha C.hn C.ht C.hm) I.kIn J e (fun z => nomatch z) fun tk => ⟨.bl b, H, I.kept (t' := tk) fun _ _ z => z, rfl, q⟩
section
variable {K : PySem.W.Frag} {M : Mu} {k : D → Mu → Prop} {a d C : Addr}
theorem ac_isXref {Cx : Addr} {b : Bool} {fs : List (Str × D)} (N1 N2 : Mu) (hM : M = N1 ++ (d, .xd fs) :: N2) (hk : PySem.W.kitOne K (.ref C) (.ref Cx) = some b) (q : k (.bl b) M) : AC K (rIsX K C a (.ref C) (some d)) [.ref a, .ref Cx] M k := fun vs G H Q rx s f => by
  obtain ⟨v, r, rfl, r1, rr⟩ := rx.uncons
  obtain ⟨u, r, rfl, r2, rr⟩ := rr.uncons
  unfold Reps at rr
  subst rr
  obtain ⟨g0, o, ho, r⟩ := s.mu (d, .xd fs) (by rw [hM]; simp)
  obtain ⟨ps, rfl, _⟩ := r
  exact ⟨d, u, .ref Cx, b, ps, rfl, rfl, by rw [rep_ref r1], ho, fun z hz => by rw [rep_ref r2] at hz; exact hz, hk, f _ M _ G H q s Step.refl rep_of_bl⟩
theorem ac_isXty {n : String} {b : Bool} {fs : List (Str × D)} (N1 N2 : Mu) (hM : M = N1 ++ (d, .xd fs) :: N2) (hk : PySem.W.kitOne K (.ref C) (.type n) = some b) (q : k (.bl b) M) : AC K (rIsX K C a (.ref C) (some d)) [.ref a, .ty n] M k := fun vs G H Q rx s f => by
  obtain ⟨v, r, rfl, r1, rr⟩ := rx.uncons
  obtain ⟨u, r, rfl, r2, rr⟩ := rr.uncons
  unfold Reps at rr
  subst rr
  obtain ⟨g0, o, ho, r⟩ := s.mu (d, .xd fs) (by rw [hM]; simp)
  obtain ⟨ps, rfl, _⟩ := r
  exact ⟨d, u, .type n, b, ps, rfl, rfl, by rw [rep_ref r1], ho, fun z hz => by rw [rep_ty r2] at hz; exact hz, hk, f _ M _ G H q s Step.refl rep_of_bl⟩
end
/-! ### what the written part says of an own error's class -/
structure ErrC (K : PySem.W.Frag) (mg : Str → Option Value) (x qual : Str) (st : Stmt) (f1 f2 : Str) (C : Addr) : Prop where
  o : OexC K C
  m : mg x = some (.ref C)
  i : ∃ fI fd, PySem.W.findIn K (.ref C) "__init__" = some (some (.ref fI)) ∧ PySem.W.typeIn K (.ref fI) = some (.type "function") ∧ Fun K "__init__" qual st fI fd ∧ Binds K fd ["self", f1, f2] []
  n1 : PySem.W.findIn K (.ref C) f1 = some none
  n2 : PySem.W.findIn K (.ref C) f2 = some none
  xf : XfC K C
  self : PySem.W.exmOne K (.ref C) (.ref C) = some true
  ec : ExcC K C
/-- a def that may raise, by its name -/
structure CalX (P : Program) (w : World) (K : PySem.W.Frag) (mg : Str → Option Value) (base : Heap) (k : Nat) (x : Str) (sp : Sp) : Prop where
  ex : ∃ (f : Addr) (fd : FuncData) (ps : List Str), FnOk P w K mg base (L2.CX P w) k f fd ps sp ∧ mg x = some (.ref f) ∧ PySem.W.keepIn K (.ref f) = true ∧ Binds K fd ps []
section
variable {X : Cx} {k j : Nat} {x : Str} {sp : Sp} {W : WX} {e : Expr} {es : List Expr} {t : TA} {p pos : Pos}
theorem pe_cX (tk : Takes X W) (c : CalX X.prog X.w X.K X.mg X.base k x sp) (hr : Room j X.A) (hk : k ≤ j) (hg : Gl X x) (ha : PA X (e :: es) t)
    (hdb : (x == ("__debug__" : Str)) = false := by decide) (he : starEach (e :: es) X.env = (false, eval e X.env) :: starEach es X.env := by rfl) (hpl : (backTo pos (starEach es X.env)).any (·.1) = false := by rfl) :
    PE X (.Call (.Name x p) (e :: es) [] pos) (tCallS sp (WE W) t) := by
  obtain ⟨f, fd, ps, F, hm, kp, b⟩ := c.ex
  exact pe_callS F (hr.mono hk) hg hm kp b (fun σ => passAt tk σ) ha hdb he hpl
end
/-! ### what is known of a class by its name -/
theorem ae_refC {K : PySem.W.Frag} {δ : DS} {M : Mu} {k : D → Mu → Prop} {a : Addr} (q : k (.ref a) M) : AE K (tC (.ref a)) δ M k := fun σ G H Q rs s f => f _ M _ G H q s Step.refl rep_of_ref
/-- what may change is forgotten -/
theorem ae_forget {K : PySem.W.Frag} {δ : DS} {M : Mu} {k : D → Mu → Prop} {te : TE} (h : AE K te δ M fun d _ => k d []) : AE K te δ M k := fun σ G H Q rs s f =>
  h σ G H Q rs s fun d M' v G' H' q s' st r => f d [] v G' H' q ⟨s'.same, (fun _ h => nomatch h), List.nodup_nil⟩ ⟨st.gg, st.fr, st.keep, st.alive, (fun _ h => nomatch h)⟩ r
/-! ### facts of classes -/
theorem exm_self {K : PySem.W.Frag} {S : Addr} (h1 : PySem.W.subIn K (.ref S) (.type "BaseException") = some true) (h2 : PySem.W.isClsIn K S = true) (h3 : PySem.W.typeIn K (.ref S) = some (.type "type")) (h4 : PySem.W.subIn K (.ref S) (.ref S) = some true) :
    PySem.W.exmOne K (.ref S) (.ref S) = some true := by
  have h2' : (PySem.W.clsIn K S).isSome = true := h2
  unfold PySem.W.exmOne PySem.W.kitCls
  rw [h1, if_pos (by decide)]
  show (if ((PySem.W.clsIn K S).isSome && PySem.W.typeIn K (.ref S) == some (.type "type")) = true then PySem.W.subIn K (.ref S) (.ref S) else none) = some true
  rw [h2', h3, if_pos (by decide), h4]
theorem kit_ref {K : PySem.W.Frag} {S : Addr} {t : Value} (h2 : PySem.W.isClsIn K S = true) (h3 : PySem.W.typeIn K (.ref S) = some (.type "type")) (h4 : PySem.W.subIn K t (.ref S) = some true) : PySem.W.kitOne K t (.ref S) = some true := by
  have h2' : (PySem.W.clsIn K S).isSome = true := h2
  unfold PySem.W.kitOne
  split
  · rfl
  · show (if ((PySem.W.clsIn K S).isSome && PySem.W.typeIn K (.ref S) == some (.type "type")) = true then PySem.W.subIn K t (.ref S) else none) = some true
    rw [h2', h3, if_pos (by decide), h4]
theorem kit_ty {K : PySem.W.Frag} {T : String} {t : Value} (h2 : PySem.W.kitMeta T = true) (h4 : PySem.W.subIn K t (.type T) = some true) : PySem.W.kitOne K t (.type T) = some true := by
  unfold PySem.W.kitOne
  split
  · rfl
  · show (if PySem.W.kitMeta T = true then PySem.W.subIn K t (.type T) else none) = some true
    rw [if_pos h2, h4]
end Tg
set_option Elab.async false
set_option linter.all false
set_option maxRecDepth 100000
set_option maxHeartbeats 1000000
/-! Tg: the text of deep data. -/
namespace Tg
open PySem L2 PyProof.Rows
mutual
def toPy : D → PyData
  | .non => .none
  | .bl b => .bool b
  | .int i => .int i
  | .str z => .str z
  | .tup ds => .tuple (toPys ds)
  | .lst ds => .list (toPys ds)
  | .lsk ds => .list (toPys ds)
  | .ty _ => .none
  | .ref _ => .none
def toPys : List D → List PyData
  | [] => []
  | d :: ds => toPy d :: toPys ds
end
mutual
/-- data that can be shown: plain, small ints, signs that are signs -/
def Sho : D → Prop
  | .non => True
  | .bl _ => True
  | .int i => i.natAbs < 1000000
  | .str z => ∀ c ∈ z.cps.toList, c < 128
  | .tup ds => Shos ds
  | .lst ds => Shos ds
  | .lsk ds => Shos ds
  | .ty _ => False
  | .ref _ => False
def Shos : List D → Prop
  | [] => True
  | d :: ds => Sho d ∧ Shos ds
end
mutual
/-- no text of it is longer -/
def wt : D → Nat
  | .non => 4
  | .bl _ => 5
  | .int _ => 4000
  | .str z => 10 * z.length + 2
  | .tup ds => wts ds + 3
  | .lst ds => wts ds + 3
  | .lsk ds => wts ds + 3
  | .ty _ => 4
  | .ref _ => 4
def wts : List D → Nat
  | [] => 0
  | d :: ds => wt d + 2 + wts ds
end
theorem log_small {i : Int} (h : i.natAbs < 1000000) : i.natAbs.log2 < 1920 := by
  by_cases e : i.natAbs = 0
  · rw [e]
    decide
  · rw [Nat.log2_lt e]
    exact Nat.lt_of_lt_of_le h (Nat.le_trans (by decide : 1000000 ≤ 2 ^ 20) (Nat.pow_le_pow_right (by decide) (by decide)))
mutual
theorem show_ok : ∀ d : D, Sho d → (toPy d).showable = true ∧ (toPy d).hasDict = false ∧ (toPy d).shown.length ≤ wt d
  | .non, _ => ⟨rfl, rfl, by decide +kernel⟩
  | .bl true, _ => ⟨rfl, rfl, by decide +kernel⟩
  | .bl false, _ => ⟨rfl, rfl, by decide +kernel⟩
  | .int i, h => by
    unfold Sho at h
    have hl := log_small h
    refine ⟨decide_eq_true hl, rfl, ?_⟩
    have e := int_text_length_le (k := 1920) (by decide) hl
    show (Str.ofString (toString i)).length ≤ 4000
    rw [PySem.ofString_length]
    omega
  | .str z, h => by
    unfold Sho at h
    exact ⟨rfl, rfl, StrLaws.reprText_len z fun c hc => Nat.lt_trans (h c hc) (by decide)⟩
  | .tup ds, h => by
    unfold Sho at h
    obtain ⟨h1, h2, h3, h4⟩ := show_oks ds h
    refine ⟨h1, h2, ?_⟩
    have e := tupleText_len_le (PyData.shownAll (toPys ds))
    show (tupleText (PyData.shownAll (toPys ds))).length ≤ wts ds + 3
    omega
  | .lst ds, h => by
    unfold Sho at h
    obtain ⟨h1, h2, h3, h4⟩ := show_oks ds h
    refine ⟨h1, h2, ?_⟩
    have e := listText_len_le (PyData.shownAll (toPys ds))
    show (listText (PyData.shownAll (toPys ds))).length ≤ wts ds + 3
    omega
  | .lsk ds, h => by
    unfold Sho at h
    obtain ⟨h1, h2, h3, h4⟩ := show_oks ds h
    refine ⟨h1, h2, ?_⟩
    have e := listText_len_le (PyData.shownAll (toPys ds))
    show (listText (PyData.shownAll (toPys ds))).length ≤ wts ds + 3
    omega
  | .ty _, h => by
    unfold Sho at h
    exact h.elim
  | .ref _, h => by
    unfold Sho at h
    exact h.elim
theorem show_oks : ∀ ds : List D, Shos ds → PyData.showableAll (toPys ds) = true ∧ PyData.hasDictAll (toPys ds) = false ∧ ((PyData.shownAll (toPys ds)).map (·.length)).sum + 2 * (PyData.shownAll (toPys ds)).length ≤ wts ds ∧ True
  | [], _ => ⟨rfl, rfl, Nat.le_refl _, True.intro⟩
  | d :: ds, h => by
    unfold Shos at h
    obtain ⟨a1, a2, a3⟩ := show_ok d h.1
    obtain ⟨b1, b2, b3, _⟩ := show_oks ds h.2
    refine ⟨?_, ?_, ?_, True.intro⟩
    · show ((toPy d).showable && PyData.showableAll (toPys ds)) = true
      rw [a1, b1]
      rfl
    · show ((toPy d).hasDict || PyData.hasDictAll (toPys ds)) = false
      rw [a2, b2]
      rfl
    · show (((toPy d).shown :: PyData.shownAll (toPys ds)).map (·.length)).sum + 2 * ((toPy d).shown :: PyData.shownAll (toPys ds)).length ≤ wt d + 2 + wts ds
      rw [List.map_cons, List.sum_cons, List.length_cons]
      omega
end
section
variable {K : PySem.W.Frag} {G H : Hp}
mutual
theorem dp_of (e : Same G H) : ∀ (d : D) (v : V), Sho d → Rep K G d v → Dp K H v (toPy d)
  | .non, _, _, r => by
    rw [rep_non r]
    exact .non
  | .bl b, _, _, r => by
    rw [rep_bl r]
    exact .bl b
  | .int i, _, _, r => by
    rw [rep_int r]
    exact .int i
  | .str z, _, _, r => by
    rw [rep_str r]
    exact .str z
  | .tup ds, _, h, r => by
    unfold Sho at h
    obtain ⟨a, xs, rfl, q, rs⟩ := rep_tup r
    exact .tup (Same.seqT e q) (dps_of e ds xs h rs)
  | .lst ds, _, h, r => by
    unfold Sho at h
    obtain ⟨a, xs, rfl, q, rs⟩ := rep_lst r
    exact .lst (.inl (.inl (e _ _ q))) (dps_of e ds xs h rs)
  | .lsk ds, _, h, r => by
    unfold Sho at h
    obtain ⟨a, xs, rfl, q, rs⟩ := rep_lsk r
    exact .lst (e.seq q) (dps_of e ds xs h rs)
  | .ty _, _, h, _ => by
    unfold Sho at h
    exact h.elim
  | .ref _, _, h, _ => by
    unfold Sho at h
    exact h.elim
theorem dps_of (e : Same G H) : ∀ (ds : List D) (vs : List V), Shos ds → Reps K G ds vs → DpAll K H vs (toPys ds)
  | [], _, _, r => by
    unfold Reps at r
    rw [r]
    exact .nil
  | d :: ds, _, h, r => by
    unfold Shos at h
    obtain ⟨x, xs, rfl, r1, r2⟩ := r.uncons
    exact .cons (dp_of e d x h.1 r1) (dps_of e ds xs h.2 r2)
end
end
/-! ### repr -/
def rRepr (K : PySem.W.Frag) : List V → Hp → VK → Prop := fun xs H Q => ∃ a d, xs = [.ref a] ∧ Dp K H (.ref a) d ∧ d.showable = true ∧ d.hasDict = false ∧ d.depth ≤ 40 ∧ d.shown.length ≤ sizeLine ∧ Q (.str d.shown) H
theorem call_reprD {X : Cx} (hg : X.A.guards = some []) (hu : X.A.units + 64 < cLine) : CallR X (.builtin "repr") (rRepr X.K) := by
  rintro pins s σ H xs us Q I r ⟨a, d, rfl, hd, h1, h2, h3, h4, q⟩
  obtain ⟨u, rfl, ru⟩ : ∃ u, us = [u] ∧ RelV (.ref a) u := by
    cases r with
    | cons rx rr =>
      cases rr
      exact ⟨_, rfl, rx⟩
  obtain rfl : u = Value.ref a := ru
  obtain ⟨as, rd⟩ := Dp.reads I d (.ref a) _ hd rfl
  exact repr_of_reads' rd h1 (fun z => absurd (h2.symm.trans z) Bool.false_ne_true) hg (by omega) (fun _ _ e => e) (fun h' u tk hk => ⟨.str d.shown, H, I.kept (t' := tk) hk, ⟨_, rfl⟩, q⟩) h4
section
variable {K : PySem.W.Frag} {M : Mu} {k : D → Mu → Prop}
theorem ac_repr {ds : List D} (hs : Sho (.tup ds)) (hw : wt (.tup ds) ≤ 16777216) (hd : (toPy (.tup ds)).depth ≤ 40) (q : k (.str (toPy (.tup ds)).shown) M) : AC K (rRepr K) [.tup ds] M k := fun vs G H Q rx s f => by
  obtain ⟨v, r, rfl, r1, rr⟩ := rx.uncons
  unfold Reps at rr
  subst rr
  obtain ⟨h1, h2, h3⟩ := show_ok _ hs
  have hsz := sizeLine_eq
  have dp := dp_of s.same _ v hs r1
  obtain ⟨a, xs, rfl, _⟩ := rep_tup r1
  exact ⟨a, _, rfl, dp, h1, h2, hd, by omega, f _ M _ G H q s Step.refl rep_of_str⟩
end
end Tg
set_option Elab.async false
set_option linter.all false
set_option maxRecDepth 100000
set_option maxHeartbeats 2000000
/-! Tg: the law's own call, where it is known that nothing is being shown. -/
namespace Tg
open PySem L2 PySem.Spec PyProof.Rows
/-- one call of a def, around which A stands -/
theorem run_at {P : Program} {w : World} {K : PySem.W.Frag} {mg : Str → Option Value} {base : Heap} {k : Nat} {x qual : Str} {st : Stmt} {f : Addr} {fd : FuncData} {N ps : List Str} {A : Around} {outer : List Env} {s : Shared} {H : Hp} {args : Args} {us : List Value} {vs : List V} {Q : VK} {E : XK}
    (F : Fun K x qual st f fd) (Sc : FnScope N ps (defScope st)) (hl : vs.length = ps.length) (hr : Room (k + 1) A) (e0 : Env0 P w K mg base A outer s H) (hb : BindsTo s fd args (ps.zip us)) (r : Vals vs us)
    (body : ∀ cdv : Value, Room k (A.deeper (envOfC qual (defScope st) s.heap.objs.size f cdv)) → ∃ t, PSs (cxOf CX0 P w K mg base N qual (defScope st) f cdv A outer s H E) (defBody st) t ∧ t { nx := fun _ H' => Q .non H', rt := Q } (start N vs) H) :
    codeAny (model P w) A (.call (.ref f) args) (CR CX0 outer P w H s Q E) s := by
  obtain ⟨oc, od, kV, doc, pm, an, cdv, ct, osl, rfl, lk, hcd⟩ := F.ex
  have kin : K.In s.heap := e0.mod.kin.keeps fun b o q => (e0.bs b o q).1
  have kinds : ∀ y ∈ ps.zip us, (defScope st).names.lookup y.1 = some .local ∨ ((defScope st).names.lookup y.1 = some .cell ∧ ((cellsFrom (s.heap.objs.size + 1) (defScope st).names []).lookup y.1).isSome = true) := by
    rintro ⟨n, v⟩ hy
    rcases Sc.par n (List.of_mem_zip hy).1 with z | z
    · exact .inl z
    · exact .inr ⟨z, PySem.W.cellsFrom_some _ _ _ (.inl z)⟩
  refine codeAny_call_function hr.depth (kin _ _ lk) rfl Sc.co Sc.gen rfl (PySem.W.codeRec_of kin hcd) (hb _ _ _ _ (wpAny_newFunctionEnv_cells Sc.kind kinds fun env he s1 ic => ?_))
  subst he
  refine ⟨(e0.mod.nolimit.keeps fun b o q => (e0.bs b o q).1).keeps ic.toInCall.keep, codeAny_func ?_⟩
  obtain ⟨t, ht, hq⟩ := body cdv (hr.deeper _)
  refine wpAny_mono (ht.run [] s1 (start N vs) H _ (inv_start Sc hr.hd e0 hl r ic) hq) ?_ fun e s' z => z
  intro fl s' z
  cases fl with
  | ret u =>
    obtain ⟨v, σ', H', J, rv, q⟩ := z
    exact ⟨v, H', J.os, J.bare, J.base, J.hok, rv, q⟩
  | next =>
    obtain ⟨σ', H', J, q⟩ := z
    exact ⟨V.non, H', J.os, J.bare, J.base, J.hok, rfl, q⟩
  | brk =>
    obtain ⟨_, _, _, q⟩ := z
    exact q.elim
  | cont =>
    obtain ⟨_, _, _, q⟩ := z
    exact q.elim
/-- the law's call behind the top -/
theorem law_at {P : Program} {w : World} {K : PySem.W.Frag} {mg mb : Str → Option Value} {fa a : Addr} {s : Shared} {vs : List Value} {ns : List Int}
    (kin : K.In s.heap) (hns : s.heap.Ns mainGlobals mg) (hb : s.heap.Ns builtinsNs mb) (hbb : ∀ x : Str, x ≠ "__name__" → mb x = bootBuiltins x) (hlim : s.heap.NoLimit) (hg : s.gens = #[])
    (ha : s.heap.get? a = some { cls := .type "list", data := .seq vs.toArray }) (hi : IntsAre vs ns) (hl : ns.length ≤ sizeLine)
    (run : ∀ (base : Heap) (H : Hp), K.In base → base.Ns mainGlobals mg → SqL K H a (ns.map V.int) → Env0 P w K mg base callerA [] s H → codeAny (model P w) callerA (.call (.ref fa) ⟨[.ref a], []⟩) (CR CX0 [] P w H s (fun v _ => v = .bl true) fun _ _ _ => False) s) :
    codeAny (model P w) callerA (.call (.ref fa) ⟨[.ref a], []⟩) (fun r s' => r = .ok (.ret (.bool true)) ∧ OldK s.heap s'.heap ∧ s'.os = s.os ∧ AllBare s'.gens) s := by
  have lenV := hi.length
  have main : ∀ H : Hp, Only H → SqL K H a (ns.map V.int) → HOk P w H s.heap → (∀ b, H b ≠ none → b = a ∧ K.lookup a = none) →
      codeAny (model P w) callerA (.call (.ref fa) ⟨[.ref a], []⟩) (fun r s' => r = .ok (.ret (.bool true)) ∧ OldK s.heap s'.heap ∧ s'.os = s.os ∧ AllBare s'.gens) s := by
    intro H only sq hok at_a
    have hid : ∀ {b : Addr} {o : Obj}, s.heap.get? b = some o → H b = none → (hidT s.heap H).get? b = some o := hidT_get
    have free : ∀ {b : Addr} {m : Str → Option Value}, s.heap.Ns b m → H b = none := by
      rintro b m ⟨o, es, ep, e, d, _⟩
      by_cases z : H b = none
      · exact z
      · obtain ⟨e1, _⟩ := at_a b z
        subst e1
        rw [ha] at e
        cases e
        exact nomatch (show Data.seq vs.toArray _ = Data.dict es ep from d)
    have ns2 : ∀ {b : Addr} {m : Str → Option Value}, s.heap.Ns b m → (hidT s.heap H).Ns b m := fun {b m} n => by
      have z := free n
      obtain ⟨o, es, ep, e, d, r⟩ := n
      exact ⟨o, es, ep, hid e z, d, r⟩
    have kin2 : K.In (hidT s.heap H) := fun b o e => by
      refine hid (kin b o e) ?_
      by_cases z : H b = none
      · exact z
      · obtain ⟨e1, e2⟩ := at_a b z
        subst e1
        rw [e2] at e
        cases e
    have mod : Mod K mg (hidT s.heap H) := by
      obtain ⟨mc, h1, h2⟩ := hlim
      exact ⟨kin2, ns2 hns, ⟨mb, ns2 hb, hbb⟩, mc, ns2 h1, h2⟩
    have none_in : ∀ b : Addr, b ∉ ([] : List Addr) := fun b z => nomatch z
    refine codeAny_mono (run _ H kin2 (ns2 hns) sq ⟨rfl, mod, fun b o e => of_hidT e, Nat.le_of_eq (hidT_size _ _), trivial, fun b z => absurd z (none_in b), hok, .of_eq hg⟩) ?_
    intro r s' h
    rcases r with e | fl
    · exact False.elim h
    · cases fl with
      | next => exact False.elim h
      | brk => exact False.elim h
      | cont => exact False.elim h
      | ret u =>
        obtain ⟨v, H', os, bare, un, hok2, rv, q⟩ := h
        cases (show v = .bl true from q)
        cases (show u = Value.bool true from rv)
        refine ⟨rfl, OldK.of_keep fun b o e => ?_, os, bare⟩
        by_cases z : H b = none
        · exact un.keep b o e z (none_in b) (by simp)
        · rcases only b with z2 | ⟨ob, xs, z2⟩
          · exact absurd z2 z
          · obtain ⟨e1, _⟩ := hok b _ z2
            obtain ⟨e2, _⟩ := hok2 b _ (un.frzs b ob _ z2)
            rw [e] at e1
            cases e1
            exact e2
  have rv := vals_ints hi
  by_cases hk : K.lookup a = none
  · refine main (fun b => if b = a then some (.frz { cls := .type "list", data := .seq vs.toArray } (.lst (ns.map V.int))) else none) (fun b => ?_) (.inl (.inr ⟨_, if_pos rfl⟩)) (fun b u z => ?_) fun b z => ?_
    · by_cases e : b = a
      · exact .inr ⟨_, _, if_pos e⟩
      · exact .inl (if_neg e)
    · by_cases e : b = a
      · subst e
        cases (if_pos rfl).symm.trans z
        exact ⟨ha, by rw [List.length_map]; exact hl, vs, _, rv, ha⟩
      · cases (if_neg e).symm.trans z
    · by_cases e : b = a
      · exact ⟨e, hk⟩
      · exact absurd (if_neg e) z
  · obtain ⟨o, ho⟩ := Option.ne_none_iff_exists'.mp hk
    have e := kin a o ho
    rw [ha] at e
    cases e
    exact main (fun _ => none) (fun _ => .inl rfl) (.inr ⟨_, vs.toArray, _, ho, rfl, rfl, rfl, by rw [List.size_toArray, lenV]; exact hl, by simpa using rv⟩) (fun b u z => nomatch z) fun b z => absurd rfl z
/-- the end of a law row, by what its call comes to -/
theorem walk_at_law {l : PySem.W.OpenLaw} {n : Nat} {q : Program} {loose : List Str} {XP : (Str → Option Value) → Heap → Prop} {YP : World → Heap → Prop} {d : DefRec} {K : Params → PySem.W.Frag}
    (hn : l.most = some n) (hn2 : n ≤ sizeLine) (hdf : d.params.defaults = []) (hY : ∀ (w : World) (h : Heap), YP w h → (K w.params).In h)
    (run : ∀ (w : World) (mg : Str → Option Value) (fa a : Addr) (h : Heap) (ns : List Int) (s : Shared) (base : Heap) (H : Hp), (K w.params).In h → h.Ns mainGlobals mg → mg d.name = some (.ref fa) → ns.length ≤ n → (K w.params).In base → base.Ns mainGlobals mg →
      SqL (K w.params) H a (ns.map V.int) → Env0 l.prog w (K w.params) mg base callerA [] s H → codeAny (model l.prog w) callerA (.call (.ref fa) ⟨[.ref a], []⟩) (CR CX0 [] l.prog w H s (fun v _ => v = .bl true) fun _ _ _ => False) s) :
    PySem.W.WalkO q loose XP YP l.row.toRowW d [] (fun f vs => PySem.call f vs) := by
  refine Att.attach_call hn hdf fun w s₀ s1 mg mb fa o pm cd doc a vs ns G Y ho hd hcd hmg hobj hints hlen hg => ?_
  have kin := hY w _ Y
  exact law_at kin G.T.g G.T.b G.T.builtins G.T.nolimit hg hobj hints (Nat.le_trans hlen hn2) fun base H k2 n2 sq e0 => run w mg fa a _ ns s1 base H kin G.T.g hmg hlen k2 n2 sq e0
end Tg
set_option Elab.async false
set_option linter.all false
set_option maxRecDepth 100000
set_option maxHeartbeats 1000000
/-! Tg, objects: fields, methods, making; written dicts; further words. -/
namespace Tg
open PySem L2 PyProof.Rows
section
variable {K : PySem.W.Frag} {G G' H H' : Hp} {M M1 M2 R : Mu}
def putFD (f : Str) (v : D) : List (Str × D) → List (Str × D)
  | [] => [(f, v)]
  | (g, x) :: r => if g = f then (g, v) :: r else (g, x) :: putFD f v r
theorem repKV_putF {f : Str} {d : D} {v : V} (hv : Rep K G d v) : ∀ {ds : List (Str × D)} {xs : List (Str × V)}, RepKV K G ds xs → RepKV K G (putFD f d ds) (putF f v xs)
  | [], _, h => by
    unfold RepKV at h
    rw [h]
    show RepKV K G [(f, d)] [(f, v)]
    unfold RepKV
    exact ⟨v, [], rfl, hv, by unfold RepKV; rfl⟩
  | (g, e) :: ds, _, h => by
    unfold RepKV at h
    obtain ⟨x, r, q, s, t⟩ := h
    subst q
    show RepKV K G (if g = f then (g, d) :: ds else (g, e) :: putFD f d ds) (if g = f then (g, v) :: r else (g, x) :: putF f v r)
    by_cases c : g = f
    · rw [if_pos c, if_pos c]
      unfold RepKV
      exact ⟨v, r, rfl, hv, t⟩
    · rw [if_neg c, if_neg c]
      unfold RepKV
      exact ⟨x, _, rfl, s, repKV_putF hv t⟩
theorem repKV_no {f : Str} : ∀ {ds : List (Str × D)} {xs : List (Str × V)}, RepKV K G ds xs → ds.lookup f = none → xs.lookup f = none
  | [], _, h, _ => by
    unfold RepKV at h
    rw [h]
    rfl
  | (g, e) :: ds, _, h, l => by
    unfold RepKV at h
    obtain ⟨x, r, q, s, t⟩ := h
    subst q
    unfold List.lookup at l ⊢
    cases c : (f == g) with
    | true => rw [c] at l; cases l
    | false =>
      rw [c] at l
      exact repKV_no t l
/-- an object that nobody speaks of -/
theorem S.junk (s : S K G H M) {p : Addr} {o : HO} (hp : H p = none) : S K G (upd H p o) M ∧ Step (ads M) G H (ads M) G (upd H p o) := by
  have gp : G p = none := s.same.free hp
  refine ⟨⟨fun b u e => ?_, fun q hq => ?_, s.nd⟩, ⟨Same.refl G, fun b hb _ => rfl, fun b u _ e => ?_, fun b e => ?_, fun b hb => .inl hb⟩⟩
  · rw [upd_ne (ne_of_none e gp)]
    exact s.same b u e
  · obtain ⟨g1, o1, h1, r1⟩ := s.mu q hq
    exact ⟨g1, o1, by rw [upd_ne (ne_of_none h1 hp)]; exact h1, r1⟩
  · rw [upd_ne (ne_of_none e hp)]
    exact e
  · by_cases hb : b = p
    · subst hb
      rw [upd_same]
      exact fun z => nomatch z
    · rw [upd_ne hb]
      exact e
theorem S.perm (s : S K G H M) (h : M.Perm M') : S K G H M' := ⟨s.same, fun p hp => s.mu p (h.mem_iff.mpr hp), (h.map (·.1)).nodup_iff.mp s.nd⟩
theorem Step.perm {A B A' B' : List Addr} (st : Step A G H A' G' H') (h : ∀ b, b ∈ A ↔ b ∈ B) (h' : ∀ b, b ∈ A' ↔ b ∈ B') : Step B G H B' G' H' :=
  ⟨st.gg, fun b hb n => st.fr b hb fun z => n ((h b).mp z), fun b o n e => st.keep b o (fun z => n ((h b).mp z)) e, st.alive, fun b hb => by
    rcases st.own b ((h' b).mpr hb) with q | q
    · exact .inl ((h b).mp q)
    · exact .inr q⟩
theorem ads_perm {M M' : Mu} (h : M.Perm M') : ∀ b, b ∈ ads M ↔ b ∈ ads M' := fun b => (h.map (·.1)).mem_iff
end
section
variable {K : PySem.W.Frag} {δ : DS} {M : Mu} {ta tb te to ti tv : TE} {k : D → Mu → Prop} {i : Nat} {d x y : D} {A : AEnds} {t u : TS} {f m : Str} {C : Addr}
/-! ### fields -/
theorem ae_fld (h : AE K te δ M fun x M1 => ∃ a C dx fs d N1 N2, x = .ref a ∧ M1 = N1 ++ (a, MO.ins C dx fs) :: N2 ∧ Cls K C ∧ NoAttr K C f ∧ fs.lookup f = some d ∧ k d M1) : AE K (tFld K te f) δ M k := fun σ G H Q rs s f' =>
  h σ G H _ rs s fun x M1 vx G1 H1 ⟨a, C, dx, fs, d, N1, N2, e1, e2, c, n, l, q⟩ s1 st1 r1 => by
    subst e1
    obtain ⟨g0, o, ho, ps, rfl, rk⟩ := s1.mu (a, .ins C dx fs) (by rw [e2]; simp)
    obtain ⟨v, lv, rv⟩ := repKV_look rk l
    exact ⟨a, C, dx, ps, v, rep_ref r1, ho, c, n, lv, f' d M1 v G1 H1 q s1 st1 rv⟩
theorem as_sfld (h : AE K tv δ M fun y M1 => AE K te δ M1 fun x M2 => ∃ a C dx fs N1 N2, x = .ref a ∧ M2 = N1 ++ (a, MO.ins C dx fs) :: N2 ∧ Cls K C ∧ NoAttr K C f ∧ fs.length < 1000 ∧ A.nx δ (N1 ++ (a, MO.ins C dx (putFD f y fs)) :: N2)) : AS K (sFld K te tv f) δ M A := fun σ G H E rs s ft =>
  h σ G H _ rs s fun y M1 vy G1 H1 h1 s1 st1 r1 => h1 σ G1 H1 _ (rs.mono st1.gg) s1 fun x M2 vx G2 H2 ⟨a, C, dx, fs, N1, N2, e1, e2, c, n, l, q⟩ s2 st2 r2 => by
    subst e1 e2
    obtain ⟨g0, o, ho, ps, rfl, rk⟩ := s2.mu (a, .ins C dx fs) (by simp)
    obtain ⟨s3, st3⟩ := s2.write (o := .ins C dx (putF f vy ps)) (m' := .ins C dx (putFD f y fs)) ⟨_, rfl, repKV_putF (Rep.mono st2.gg _ _ r1) rk⟩
    exact ⟨a, C, dx, ps, rep_ref r2, ho, c, n, by rw [repKV_len rk]; exact l, ft.nx _ _ _ _ _ q (rs.mono (st1.trans st2).gg) s3 ((st1.trans st2).trans st3)⟩
/-- self.f += e, of ints -/
theorem as_sfldaug (h : AE K te δ M fun x M1 => ∃ a C dx fs j, x = .ref a ∧ (∃ N1 N2, M1 = N1 ++ (a, MO.ins C dx fs) :: N2) ∧ Cls K C ∧ NoAttr K C f ∧ fs.lookup f = some (.int j) ∧
      AE K tv δ M1 fun y M2 => ∃ b fs' N1 N2, y = .int b ∧ M2 = N1 ++ (a, MO.ins C dx fs') :: N2 ∧ fs'.length < 1000 ∧ A.nx δ (N1 ++ (a, MO.ins C dx (putFD f (.int (j + b)) fs')) :: N2)) : AS K (sFldAug K te tv rAdd f) δ M A := fun σ G H E rs s ft =>
  h σ G H _ rs s fun x M1 vx G1 H1 ⟨a, C, dx, fs, j, e1, ⟨N1, N2, e2⟩, c, n, l, h1⟩ s1 st1 r1 => by
    subst e1
    obtain ⟨g0, o, ho, ps, rfl, rk⟩ := s1.mu (a, .ins C dx fs) (by rw [e2]; simp)
    obtain ⟨v, lv, rv⟩ := repKV_look rk l
    refine ⟨a, C, dx, ps, v, rep_ref r1, ho, c, n, lv, h1 σ G1 H1 _ (rs.mono st1.gg) s1 ?_⟩
    rintro y M2 vy G2 H2 ⟨b, fs', P1, P2, rfl, rfl, l', q⟩ s2 st2 r2
    obtain ⟨g0', o', ho', ps', rfl, rk'⟩ := s2.mu (a, .ins C dx fs') (by simp)
    obtain ⟨s3, st3⟩ := s2.write (o := .ins C dx (putF f (.int (j + b)) ps')) (m' := .ins C dx (putFD f (.int (j + b)) fs')) ⟨_, rfl, repKV_putF rep_of_int rk'⟩
    exact ⟨j, b, rep_int rv, rep_int r2, dx, ps', ho', by rw [repKV_len rk']; exact l', ft.nx _ _ _ _ _ q (rs.mono (st1.trans st2).gg) s3 ((st1.trans st2).trans st3)⟩
/-! ### methods -/
theorem ae_meth {W : Wt} {E : XK} {ts : TA} (h : AE K te δ M fun x M1 => ∃ a dx fs, x = .ref a ∧ (∃ N1 N2, M1 = N1 ++ (a, MO.ins C dx fs) :: N2) ∧ fs.lookup m = none ∧
      AA K ts δ M1 fun ds M2 => ∃ Mc R kc, M2 = Mc ++ R ∧ W (.ref a :: ds) Mc kc ∧ ∀ d Mc', kc d Mc' → k d (Mc' ++ R)) : AE K (tMeth C m (Spc K W) [] E te ts) δ M k := fun σ G H Q rs s f' =>
  h σ G H _ rs s fun x M1 vx G1 H1 ⟨a, dx, fs, e1, ⟨N1, N2, e2⟩, l, h1⟩ s1 st1 r1 => by
    subst e1
    obtain ⟨g0, o, ho, ps, rfl, rk⟩ := s1.mu (a, .ins C dx fs) (by rw [e2]; simp)
    refine ⟨a, dx, ps, rep_ref r1, ho, repKV_no rk l, h1 σ G1 H1 _ (rs.mono st1.gg) s1 ?_⟩
    rintro ds M2 vs G2 H2 ⟨Mc, R, kc, rfl, hw, hk⟩ s2 st2 r2
    rw [rep_ref r1, List.append_nil]
    refine ⟨G2, _, Mc, kc, Reps.cons rep_of_ref r2, s2.sub, hw, fun d M' v G' H' hd s' st' rv => ?_⟩
    obtain ⟨s3, st3⟩ := s2.join s' st'
    exact f' d _ v G' H' (hk d M' hd) s3 ((st1.trans st2).trans st3) rv
/-- C(..): the new object stands first -/
theorem ae_make {W : Wt} {E : XK} {ts : TA} (h : AA K ts δ M fun ds M1 => ∀ x dx, ∃ kc, W (.ref x :: ds) [(x, MO.ins C dx [])] kc ∧ ∀ d Mc', kc d Mc' → d = .non ∧ k (.ref x) (Mc' ++ M1)) : AE K (tMake C (Spc K W) [] E ts) δ M k := fun σ G H Q rs s f' =>
  h σ G H _ rs s fun ds M1 vs G1 H1 h1 s1 st1 r1 x dx nx nd ne => by
    obtain ⟨kc, hw, hk⟩ := h1 x dx
    obtain ⟨s2, st2⟩ := s1.junk (o := .own x) nd
    have nx' : upd H1 dx (.own x) x = none := by rw [upd_ne (Ne.symm ne)]; exact nx
    obtain ⟨s3, st3⟩ := s2.fresh (m := .ins C dx []) (o := .ins C dx []) nx' ⟨[], rfl, by unfold RepKV; rfl⟩
    have hp : (M1 ++ [(x, MO.ins C dx [])]).Perm ([(x, MO.ins C dx [])] ++ M1) := List.perm_append_comm
    have s4 := s3.perm hp
    rw [List.append_nil]
    refine ⟨G1, _, [(x, .ins C dx [])], kc, Reps.cons rep_of_ref r1, s4.sub, hw, fun d M' v G' H' hd s' st' rv => ?_⟩
    obtain ⟨e, q⟩ := hk d M' hd
    subst e
    obtain ⟨s5, st5⟩ := s4.join s' st'
    have st35 := (st3.perm (fun _ => Iff.rfl) (ads_perm hp)).trans st5
    exact ⟨rep_non rv, f' _ _ _ G' H' q s5 ((st1.trans st2).trans st35) rep_of_ref⟩
end
/-! ### the same with K as it stands -/
section
variable {X : Cx} {K : PySem.W.Frag} {o e value : Expr} {f : Str} {pos pos' tpos : Pos} {ta tv : TE}
theorem fld_K (he : PE X o ta) (h : X.K = K := by rfl) (hb : attributeBase o f X.env (eval o X.env) = eval o X.env := by rfl) : PE X (.Attribute o f pos) (tFld K ta f) := h ▸ pe_fld he hb
theorem sfld_K (ha : PE X o ta) (hv : PE X value tv) (h : X.K = K := by rfl) (hs : swapsWith value (some (.Attribute o f pos')) pos.line X.env = pure false := by rfl) : PS X (.Assign [.Attribute o f pos'] value pos) (sFld K ta tv f) := h ▸ ps_fld ha hv hs
theorem sfldaug_K (ha : PE X o ta) (hv : PE X value tv) (h : X.K = K := by rfl) : PS X (.AugAssign (.Attribute o f tpos) .Add value pos) (sFldAug K ta tv rAdd f) := h ▸ ps_fldaug ha hv in_add
end
/-! ### further words -/
/-- x in y: a sign in a text, a text in a text, an item in a list or tuple -/
def rInU (K : PySem.W.Frag) : R2 := fun x y H Q => (∃ (c : Nat) (z : Str), x = .str ⟨#[c]⟩ ∧ y = .str z ∧ Q (.bl (decide (c ∈ z.cps.toList))) H) ∨ ((∃ i j, x = .str i ∧ y = .str j ∧ Q (.bl (!(Builtin.Str.occurrences j i 0 j.length 1).isEmpty)) H) ∨ rIn K false x y H Q)
def rNotInU (K : PySem.W.Frag) : R2 := fun x y H Q => (∃ (c : Nat) (z : Str), x = .str ⟨#[c]⟩ ∧ y = .str z ∧ Q (.bl (!decide (c ∈ z.cps.toList))) H) ∨ ((∃ i j, x = .str i ∧ y = .str j ∧ Q (.bl (!(!(Builtin.Str.occurrences j i 0 j.length 1).isEmpty))) H) ∨ rIn K true x y H Q)
/-- int(x) of a bool -/
def rMulS : R2 := fun x y H Q => ∃ (z : Str) (n : Int), x = .str z ∧ y = .int n ∧ MulOk z n ∧ Q (.str (Txt.mul z n)) H
section
variable {X : Cx} {K : PySem.W.Frag}
theorem in_K (h : X.K = K := by rfl) : OpR X (compareOp .In) (rInU K) := h ▸ op_in_sign.or (op_in_str.or op_in_seq)
theorem notin_K (h : X.K = K := by rfl) : OpR X (compareOp .NotIn) (rNotInU K) := h ▸ op_notIn_sign.or (op_notIn_str.or op_notIn_seq)
theorem op_mulS : OpR X (binaryOp .Mult) rMulS := by
  intro pins s σ H x y v u Q I rx ry h
  obtain ⟨z, n, rfl, rfl, ok, q⟩ := h
  obtain ⟨t, rfl⟩ := rx
  obtain ⟨t', rfl⟩ := ry
  exact SB.mul ok fun t'' k => ⟨.str (Txt.mul z n), H, I.tok _, ⟨_, rfl⟩, q⟩
/-- an item of a list, to be changed in place -/
theorem get_list (h : X.K = K := by rfl) : PGet X (rIxL K) := by
  subst h
  intro pins s σ H x y v u Q I rx ry h
  obtain ⟨p, xs, i, z, rfl, rfl, hq, he, q⟩ := h
  cases rx
  obtain ⟨t, rfl⟩ := ry
  obtain ⟨its, r, pl, hz⟩ := I.list hq
  obtain ⟨j, h1, h2, h3, h4, h5⟩ := atI_get he
  obtain ⟨w, ew, rw'⟩ := r.get h2
  have hl := r.length
  have hn := line63
  have fin : EP X pins σ Q w s := ⟨z, H, I, rw', q⟩
  by_cases h0 : 0 ≤ i
  · have hj : i.toNat = j := by
      rw [seqIndex_of h0 h5] at h1
      exact Option.some.inj h1
    exact wpAny_getItem_list pl.isList h0 (by omega) (by rw [hj]; simpa using ew) fin
  · have hj : (i + (its.toArray.size : Int)).toNat = j := by
      rw [seqIndex_neg (by omega) h4] at h1
      rw [List.size_toArray, ← hl]
      exact Option.some.inj h1
    exact wpAny_getItem_list_neg pl.isList (by omega) (by rw [List.size_toArray] <;> omega) (by omega) (by rw [hj]; simpa using ew) fin
end
/-! ### written dicts: texts by texts -/
def Ents : List DictEntry → List (Str × Str) → Prop
  | [], kvs => kvs = []
  | e :: r, kvs => ∃ k v s t u, kvs = (k, v) :: s ∧ e.key = .str k t ∧ e.val = .str v u ∧ Ents r s
structure KTab (K : PySem.W.Frag) (w : World) (a : Addr) (kvs : List (Str × Str)) : Prop where
  ex : ∃ es n, K.lookup a = some ⟨.type "dict", none, .dict es n, #[]⟩ ∧ PySem.W.KeysLit w.params es.toList ∧ Ents es.toList kvs
  low : (a == sysModules) = false
theorem Ents.look : ∀ {es : List DictEntry} {kvs : List (Str × Str)}, Ents es kvs → ∀ z : Str, es.any (·.refKey) = false ∧ ((kvs.lookup z = none ∧ es.find? (·.key.isStr z) = none) ∨ ∃ e v u, kvs.lookup z = some v ∧ es.find? (·.key.isStr z) = some e ∧ e.val = .str v u)
  | [], _, h, z => by
    unfold Ents at h
    subst h
    exact ⟨rfl, .inl ⟨rfl, rfl⟩⟩
  | e :: r, _, h, z => by
    unfold Ents at h
    obtain ⟨k, v, s, t, u, rfl, e1, e2, h⟩ := h
    obtain ⟨i1, i2⟩ := Ents.look h z
    have r1 : e.refKey = false := by
      unfold DictEntry.refKey
      rw [e1]
    refine ⟨by rw [List.any_cons, r1, i1]; rfl, ?_⟩
    have r2 : e.key.isStr z = (k == z) := by rw [e1]; rfl
    by_cases c : k = z
    · subst c
      have hb : (k == k) = true := beq_self_eq_true k
      exact .inr ⟨e, v, u, by simp [List.lookup, hb], by rw [List.find?_cons, r2, hb], e2⟩
    · have hb : (k == z) = false := beq_eq_false_iff_ne.mpr c
      have hb' : (z == k) = false := beq_eq_false_iff_ne.mpr (Ne.symm c)
      rcases i2 with ⟨i3, i4⟩ | ⟨e', v', u', i3, i4, i5⟩
      · exact .inl ⟨by simp [List.lookup, hb', i3], by rw [List.find?_cons, r2, hb]; exact i4⟩
      · exact .inr ⟨e', v', u', by simp [List.lookup, hb', i3], by rw [List.find?_cons, r2, hb]; exact i4, i5⟩
theorem KTab.ns {K : PySem.W.Frag} {w : World} {a : Addr} {kvs : List (Str × Str)} (h : KTab K w a kvs) (z : Str) : ∃ es n, K.lookup a = some ⟨.type "dict", none, .dict es n, #[]⟩ ∧ PySem.W.KeysLit w.params es.toList ∧
    ((kvs.lookup z = none ∧ PySem.W.nsIn K a z = some none) ∨ ∃ v u, kvs.lookup z = some v ∧ PySem.W.nsIn K a z = some (some (.str v u))) := by
  obtain ⟨es, n, h1, h2, h3⟩ := h.ex
  refine ⟨es, n, h1, h2, ?_⟩
  obtain ⟨g1, g2⟩ := h3.look z
  unfold PySem.W.nsIn
  rw [h1]
  dsimp only
  rcases g2 with ⟨g2, g3⟩ | ⟨e, v, u, g2, g3, g4⟩
  · rw [g3]
    dsimp only
    rw [g1]
    exact .inl ⟨g2, rfl⟩
  · rw [g3]
    dsimp only
    rw [g4]
    exact .inr ⟨v, u, g2, rfl⟩
def optS : Option Str → D
  | none => .non
  | some z => .str z
/-- d.get(z) -/
def tKGet1 (K : PySem.W.Frag) (w : World) (td ty : TE) : TE := fun σ H Q => td σ H fun x H1 => ∃ a kvs, x = .ref a ∧ KTab K w a kvs ∧ ty σ H1 fun y H2 => ∃ z, y = .str z ∧ Q (match kvs.lookup z with | none => .non | some v => .str v) H2
section
variable {X : Cx} {K : PySem.W.Frag} {w : World} {o e : Expr} {apos cpos : Pos} {td ty : TE}
theorem kget1 (ho : PE X o td) (he : PE X e ty) (m : M1 X o "get" apos e cpos) : PE X (.Call (.Attribute o "get" apos) [e] [] cpos) (tKGet1 X.K X.w td ty) := by
  refine ⟨fun pins s σ H Q I h => ?_⟩
  refine wpAny_Call_method m.base m.few m.line PySem.F.plainAttrs_dict PySem.F.slot_dict_get PySem.F.type_dict_get (thn (ho.run pins s σ H _ I h) fun u s1 ⟨x, H1, I1, rx, a, kvs, ex, d, q1⟩ => ?_)
  subst ex
  obtain rfl : u = Value.ref a := rx
  have low := d.low
  obtain ⟨es, n, h1, h2, _⟩ := d.ex
  have hm1 := PySem.W.mapOf_K (prog := X.prog) (w := X.w) I1.kIn h1 h2
  refine ⟨hm1.typeIs, fun b q => ?_, ?_⟩
  · cases q
    exact ⟨_, I1.kIn _ _ h1, rfl⟩
  rw [m.trees]
  refine Calls.callWith_builtin rfl (Calls.evalArgs_plain (Calls.spliced_cons (thn (he.run pins s1 σ H1 _ I1 q1) fun iv s2 ⟨y, H2, I2, ry, z, ey, q2⟩ => Calls.spliced_nil ?_)))
  subst ey
  obtain ⟨t, rfl⟩ := (show ∃ t, iv = Value.str z t from ry)
  obtain ⟨es', n', h1', h2', hz⟩ := d.ns z
  have hm := PySem.W.mapOf_K (prog := X.prog) (w := X.w) I2.kIn h1' h2'
  refine call_meetsIn PySem.F.slot_dict_get hm.typeIs PySem.F.entry_dict_get (PySem.F.args_dict_get_2 _ _) (meets_dict_get (strKind X.prog X.w) a (strKind_is X.prog X.w z t) low) ⟨_, hm, ?_⟩
  rcases hz with ⟨z1, z2⟩ | ⟨v, u, z1, z2⟩
  · rw [z1] at q2
    rw [PySem.W.find_K h1' z2]
    exact ⟨.non, H2, I2.tok _, rfl, q2⟩
  · rw [z1] at q2
    rw [PySem.W.find_K h1' z2]
    exact ⟨.str v, H2, I2.tok _, ⟨_, rfl⟩, q2⟩
theorem kget1_K (ho : PE X o td) (he : PE X e ty) (m : M1 X o "get" apos e cpos) (h : X.K = K := by rfl) (h2 : X.w = w := by rfl) : PE X (.Call (.Attribute o "get" apos) [e] [] cpos) (tKGet1 K w td ty) := h ▸ h2 ▸ kget1 ho he m
theorem kix_K (h : X.K = K := by rfl) (h2 : X.w = w := by rfl) : IxR X (rIxD K w) := h ▸ h2 ▸ ix_kdict
end
section
variable {K : PySem.W.Frag} {w : World} {δ : DS} {M : Mu} {ta tb te to ti tv : TE} {k : D → Mu → Prop} {i : Nat} {d x y : D}
theorem ae_kget1 {td ty : TE} (h : AE K td δ M fun x M1 => ∃ a kvs, x = .ref a ∧ KTab K w a kvs ∧ AE K ty δ M1 fun y M2 => ∃ z, y = .str z ∧ k (optS (kvs.lookup z)) M2) : AE K (tKGet1 K w td ty) δ M k := fun σ G H Q rs s f =>
  h σ G H _ rs s fun x M1 vx G1 H1 ⟨a, kvs, e1, tab, h1⟩ s1 st1 r1 => by
    subst e1
    refine ⟨a, kvs, rep_ref r1, tab, h1 σ G1 H1 _ (rs.mono st1.gg) s1 ?_⟩
    rintro y M2 vy G2 H2 ⟨z, rfl, q⟩ s2 st2 r2
    refine ⟨z, rep_str r2, ?_⟩
    cases e : kvs.lookup z with
    | none =>
      rw [e] at q
      exact f _ M2 _ G2 H2 q s2 (st1.trans st2) rep_of_non
    | some v =>
      rw [e] at q
      exact f _ M2 _ G2 H2 q s2 (st1.trans st2) rep_of_str
theorem ar_kix {a : Addr} {kvs : List (Str × Str)} {z v : Str} (tab : KTab K w a kvs) (h : kvs.lookup z = some v) (q : k (.str v) M) : AR K (rIxD K w) (.ref a) (.str z) M k := fun vx vy G H Q rx ry s f => by
  obtain ⟨es, n, h1, h2, hz⟩ := tab.ns z
  rcases hz with ⟨z1, _⟩ | ⟨v', u, z1, z2⟩
  · rw [h] at z1; cases z1
  · rw [h] at z1
    cases z1
    exact ⟨a, z, .str v, rep_ref rx, rep_str ry, ⟨es, n, _, h1, h2, z2, ⟨_, rfl⟩⟩, f _ M _ G H q s Step.refl rep_of_str⟩
/-! ### in -/
theorem ain_sign {c : Nat} {l : List Nat} (q : k (.bl (decide (c ∈ l))) M) : AR K (rInU K) (.str (tx [c])) (.str (tx l)) M k := fun vx vy G H Q rx ry s f => .inl ⟨c, tx l, rep_str rx, rep_str ry, f _ M _ G H (by rw [tx_cps]; exact q) s Step.refl rep_of_bl⟩
theorem anin_sign {c : Nat} {l : List Nat} (q : k (.bl (!decide (c ∈ l))) M) : AR K (rNotInU K) (.str (tx [c])) (.str (tx l)) M k := fun vx vy G H Q rx ry s f => .inl ⟨c, tx l, rep_str rx, rep_str ry, f _ M _ G H (by rw [tx_cps]; exact q) s Step.refl rep_of_bl⟩
theorem ain_text {a b : Str} (q : k (.bl (!(Builtin.Str.occurrences b a 0 b.length 1).isEmpty)) M) : AR K (rInU K) (.str a) (.str b) M k := fun vx vy G H Q rx ry s f => .inr (.inl ⟨a, b, rep_str rx, rep_str ry, f _ M _ G H q s Step.refl rep_of_bl⟩)
theorem inV_strs {z : Str} : ∀ {ss : List Str}, inV (.str z) (ss.map V.str) = decide (z ∈ ss)
  | [] => rfl
  | a :: ss => by
    have ih := inV_strs (z := z) (ss := ss)
    unfold inV at ih ⊢
    rw [List.map_cons, List.any_cons, ih]
    show (a == z || decide (z ∈ ss)) = _
    by_cases c : a = z
    · subst c; simp
    · have hb : (a == z) = false := beq_eq_false_iff_ne.mpr c
      rw [hb]
      simp [Ne.symm c]
theorem flat_strs : ∀ {ss : List Str}, (ss.map V.str).all flatV = true
  | [] => rfl
  | a :: ss => by
    rw [List.map_cons, List.all_cons, flat_strs]
    rfl
theorem ain_tup {z : Str} {ss : List Str} (q : k (.bl (decide (z ∈ ss))) M) : AR K (rInU K) (.str z) (.tup (ss.map D.str)) M k := fun vx vy G H Q rx ry s f => by
  obtain ⟨a, xs, rfl, ha, rx'⟩ := rep_tup ry
  have e := rx'.strs
  subst e
  refine .inr (.inr ⟨a, _, rfl, .inr (Same.seqT s.same ha), by rw [rep_str rx]; rfl, flat_strs, ?_⟩)
  rw [rep_str rx, if_neg Bool.false_ne_true, inV_strs]
  exact f _ M _ G H q s Step.refl rep_of_bl
theorem anin_tup {z : Str} {ss : List Str} (q : k (.bl (!decide (z ∈ ss))) M) : AR K (rNotInU K) (.str z) (.tup (ss.map D.str)) M k := fun vx vy G H Q rx ry s f => by
  obtain ⟨a, xs, rfl, ha, rx'⟩ := rep_tup ry
  have e := rx'.strs
  subst e
  refine .inr (.inr ⟨a, _, rfl, .inr (Same.seqT s.same ha), by rw [rep_str rx]; rfl, flat_strs, ?_⟩)
  rw [rep_str rx, if_pos rfl, inV_strs]
  exact f _ M _ G H q s Step.refl rep_of_bl
/-! ### texts -/
/-- a text, many times -/
def repL (n : Nat) (l : List Nat) : List Nat := (List.replicate n l).flatten
theorem foldl_app : ∀ (n : Nat) (l : List Nat) (acc : Array Nat), ((List.replicate n l.toArray).foldl (· ++ ·) acc) = acc ++ (repL n l).toArray
  | 0, l, acc => by simp [repL]
  | n + 1, l, acc => by
    rw [List.replicate_succ, List.foldl_cons, foldl_app n l]
    simp [repL, List.replicate_succ]
theorem mul_tx (l : List Nat) (n : Nat) : Txt.mul (tx l) (n : Int) = tx (repL n l) := by
  unfold Txt.mul
  by_cases h : (n : Int) < 1
  · have e : n = 0 := by omega
    subst e
    rfl
  · rw [if_neg h]
    split
    · rename_i c
      rw [Bool.or_eq_true] at c
      rcases c with c | c
      · have e : (n : Int) = 1 := by simpa using c
        have e' : n = 1 := by omega
        subst e'
        simp [repL]
      · have e : (tx l).length = 0 := by simpa using c
        rw [tx_len] at e
        have e' : l = [] := List.length_eq_zero_iff.mp e
        subst e'
        have : repL n ([] : List Nat) = [] := by simp [repL]
        rw [this]
    · show (⟨(List.replicate (n : Int).toNat (tx l).cps).foldl (· ++ ·) #[]⟩ : Str) = _
      have e : (tx l).cps = l.toArray := rfl
      rw [e, Int.toNat_natCast, foldl_app]
      simp [tx]
theorem ar_mulS {l : List Nat} {n : Nat} (hl : l.length ≤ 1000) (hn : n ≤ 1000) (q : k (.str (tx (repL n l))) M) : AR K rMulS (.str (tx l)) (.int n) M k := fun vx vy G H Q rx ry s f => by
  refine ⟨tx l, (n : Nat), rep_str rx, rep_int ry, ⟨?_, ?_, ?_⟩, ?_⟩
  · rw [Bool.or_eq_false_iff]
    exact ⟨decide_eq_false (by omega), decide_eq_false (by omega)⟩
  · intro h1 _
    rw [tx_len]
    have h2 : (1000 : Int) ≤ (2 ^ 63 - 1) / (n : Int) := by
      rw [Int.le_ediv_iff_mul_le (by omega)]
      omega
    omega
  · intro h1 _
    rw [tx_len, Int.toNat_natCast]
    have h3 : l.length * n ≤ 1000 * 1000 := Nat.mul_le_mul hl hn
    have hsz := sizeLine_eq
    exact decide_eq_false (by omega)
  · rw [mul_tx]
    exact f _ M _ G H q s Step.refl rep_of_str
/-- int(flag) -/
theorem ac_intB {b : Bool} (q : k (.int (if b then 1 else 0)) M) : AC K rIntU [.bl b] M k := fun vs G H Q rx s f => by
  obtain ⟨v, r, rfl, r1, r2⟩ := rx.uncons
  unfold Reps at r2
  subst r2
  exact .inr ⟨b, by rw [rep_bl r1], f _ M _ G H q s Step.refl rep_of_int⟩
/-- sep.join of texts -/
def joinL (a : List Nat) : List (List Nat) → List Nat
  | [] => []
  | [l] => l
  | l :: m :: r => l ++ a ++ joinL a (m :: r)
theorem repl_E : True := True.intro
end
end Tg
set_option Elab.async false
set_option linter.all false
set_option maxRecDepth 100000
set_option maxHeartbeats 1000000
/-! Tg, further words: join with a separator, extend by a tuple, insert, index, an item changed in place, a written display. -/
namespace Tg
open PySem L2 PyProof.Rows
section
variable {K : PySem.W.Frag} {w : World} {δ : DS} {M : Mu} {ta tb te to ti tv : TE} {k : D → Mu → Prop} {i : Nat} {d x y : D} {A : AEnds}
theorem tx_joinS (a : List Nat) : ∀ ls : List (List Nat), Str.join (tx a) (ls.map tx) = tx (joinL a ls)
  | [] => rfl
  | [l] => rfl
  | l :: m :: r => by
    show tx l ++ tx a ++ Str.join (tx a) ((m :: r).map tx) = _
    rw [tx_joinS a (m :: r), tx_app, tx_app]
    rfl
theorem am_joinS {a : List Nat} {ls : List (List Nat)} (hz : (ls.map (·.length)).sum + ls.length * a.length ≤ 16777216) (q : k (.str (tx (joinL a ls))) M) : AM K (rJoin K) (.str (tx a)) [.lst (ls.map fun l => .str (tx l))] M k := fun vx vs G H Q rx rxs s f => by
  obtain ⟨v, r, rfl, r1, rr⟩ := rxs.uncons
  unfold Reps at rr
  subst rr
  obtain ⟨b, ys, rfl, hb, r2⟩ := rep_lst r1
  have e : ys = (ls.map tx).map V.str := by
    have h2 : ls.map (fun l => D.str (tx l)) = (ls.map tx).map D.str := by simp
    rw [h2] at r2
    exact r2.strs
  refine ⟨tx a, b, ls.map tx, rep_str rx, rfl, .inl (.inl (.inl (by rw [← e]; exact s.same _ _ hb))), ?_, ?_⟩
  · have h1 : ((ls.map tx).map (·.length)) = ls.map (·.length) := by
      rw [List.map_map]
      exact List.map_congr_left fun l _ => tx_len l
    rw [h1, tx_len, List.length_map]
    exact hz
  · have e2 : Txt.join (tx a) (ls.map tx) = tx (joinL a ls) := by rw [TL.join_eq, tx_joinS]
    rw [e2]
    exact f _ M _ G H q s Step.refl rep_of_str
/-! ### extend by a tuple -/
def rExtendT (K : PySem.W.Frag) : V → List V → Hp → VK → Prop := fun x vs H Q => ∃ l b xs zs, x = .ref l ∧ vs = [.ref b] ∧ H l = some (.lst xs) ∧ SqT K H b zs ∧ xs.length + zs.length ≤ sizeLine ∧ Q .non (upd H l (.lst (xs ++ zs)))
def rExtendU (K : PySem.W.Frag) : V → List V → Hp → VK → Prop := fun x vs H Q => rExtend x vs H Q ∨ rExtendT K x vs H Q
end
section
variable {X : Cx} {K : PySem.W.Frag}
theorem list_extend_tup (l : Addr) (items : Array Value) (n : Nat) (b : Addr) (items2 : Array Value) (n2 : Nat) (dd : Option Addr) (sl : Array (Option Value)) (hs0 : ¬(!items.isEmpty && Builtin.List.listTooLong (items.size + items2.size)) = true) (hs1 : items.size ≤ sizeLine) (hs2 : items.size + items2.size ≤ sizeLine + 1) :
    Meets (Builtin.«list.extend» ⟨[.ref l, .ref b], []⟩) (fun _ R s => s.heap.get? l = some { cls := .type "list", dict := none, data := .seq items n, slots := #[] } ∧ s.heap.get? b = some { cls := .type "tuple", dict := dd, data := .seq items2 n2, slots := sl } ∧ R (.ok (.ret Value.none)) { s with heap := s.heap.update l (Obj.mapSeq fun x => x ++ items2), toks := s.toks }) :=
  .of_wp fun prog w A R s h => by
    obtain ⟨hp, g, d, tk, os⟩ := s; obtain ⟨hl, hb, h⟩ := h; have f1 := AutoSeq1.idx_int; have f2 := AutoSeq1.sub_tuple_tuple; have f3 := AutoSeq1.sub_list_list; have f4 := AutoSeq1.sub_tuple_list; have f5 := AutoSeq1.sub_list_tuple;
    have hz' : (items ++ items2).size ≤ sizeLine + 1 := by rw [Array.size_append]; exact hs2
    wp_walk using (wpAny_updateSeq hl rfl (hz := hs1) (_hz' := hz')), wpAny_loadPart' hl, wpAny_loadPart' hb; exact ⟨_, rfl, h⟩
theorem mt_extendT : MtM X "list.extend" (rExtendT X.K) := by
  intro pins s σ H x vs v us Q I rx rv h
  obtain ⟨l, b, xs, zs, rfl, rfl, hH, hB, hz, q⟩ := h
  cases rx
  obtain ⟨u, rfl, ru⟩ := rv.one
  cases ru
  obtain ⟨z, its, n, r, hl, e⟩ := I.lstM hH
  obtain ⟨its2, r2, ⟨o2, e2, c2, n2, e3⟩, hz2⟩ := I.tuple hB
  obtain ⟨cl, dd, dt, sl⟩ := o2
  cases c2
  cases e3
  have l1 := r.length
  have l2 := r2.length
  have hsz : its.toArray.size + its2.toArray.size ≤ sizeLine := by rw [List.size_toArray, List.size_toArray]; omega
  have hlong : ¬ (!its.toArray.isEmpty && Builtin.List.listTooLong (its.toArray.size + its2.toArray.size)) = true := by
    rw [notLongL hsz, Bool.and_false]
    exact Bool.false_ne_true
  refine call_meets F.slot_list_extend ⟨_, e, rfl⟩ F.entry_list_extend (F.args_list_extend_2 _ _)
    (list_extend_tup l its.toArray n b its2.toArray n2 dd sl hlong (by rw [List.size_toArray]; omega) (by omega)) ⟨e, e2, ?_⟩
  refine ⟨.non, _, I.lset (its' := its ++ its2) hH e (by simp) (r.append r2) ?_, rfl, q⟩
  rw [List.length_append]
  omega
theorem mt_extendU (h : X.K = K := by rfl) : MtM X "list.extend" (rExtendU K) := by
  subst h
  intro pins s σ H x vs v us Q I rx rv h
  rcases h with h | h
  · exact mt_extend pins s σ H x vs v us Q I rx rv h
  · exact mt_extendT pins s σ H x vs v us Q I rx rv h
def rInsert : V → List V → Hp → VK → Prop := fun x vs H Q => ∃ (l : Addr) (xs : List V) (i : Int) (y : V), x = .ref l ∧ vs = [.int i, y] ∧ H l = some (.lst xs) ∧ xs.length < sizeLine ∧ 0 ≤ i ∧ i < 2 ^ 63 ∧ Q .non (upd H l (.lst (xs.take i.toNat ++ [y] ++ xs.drop i.toNat)))
theorem mt_insertU : MtR X "list.insert" rInsert := mt_insert
def rIndex : V → List V → Hp → VK → Prop := fun x xs H Q => ∃ a b i rest, x = .str a ∧ xs = [.str b] ∧ Builtin.Str.occurrences a b 0 a.length 1 = i :: rest ∧ Q (.int (i : Nat)) H
theorem mt_indexU : MtR X "str.index" rIndex := mt_sindex
end
section
variable {K : PySem.W.Frag} {w : World} {δ : DS} {M M1 M2 : Mu} {ta tb te to ti tv : TE} {k : D → Mu → Prop} {i : Nat} {d x y : D} {A : AEnds}
theorem am_extU {a : Addr} {ds es : List D} (e : M = M1 ++ (a, .lst ds) :: M2) (hz : ds.length + es.length ≤ sizeLine) (hx : x = .lst es ∨ x = .tup es) (q : k .non (M1 ++ (a, .lst (ds ++ es)) :: M2)) : AM K (rExtendU K) (.ref a) [x] M k := fun vx vs G H Q rx rxs s f => by
  rcases hx with hx | hx
  · subst hx
    exact .inl (am_extend e hz q vx vs G H Q rx rxs s f)
  · subst hx
    subst e
    obtain ⟨v, r, rfl, r1, rr⟩ := rxs.uncons
    unfold Reps at rr
    subst rr
    obtain ⟨b, ys, rfl, hb, r2⟩ := rep_tup r1
    obtain ⟨g0, o, ho, r⟩ := s.mu (a, .lst ds) (by simp)
    obtain ⟨xs, rfl, rs⟩ := r
    obtain ⟨s2, st2⟩ := s.write (o := .lst (xs ++ ys)) (m' := .lst (ds ++ es)) ⟨_, rfl, rs.append r2⟩
    exact .inr ⟨a, b, xs, ys, rep_ref rx, rfl, ho, Same.seqT s.same hb, by rw [rs.len, r2.len]; exact hz, f _ _ _ _ _ q s2 st2 rep_of_non⟩
theorem am_insert {a : Addr} {ds : List D} {j : Nat} (e : M = M1 ++ (a, .lst ds) :: M2) (hz : ds.length < sizeLine) (hj : j ≤ ds.length) (q : k .non (M1 ++ (a, .lst (ds.take j ++ [d] ++ ds.drop j)) :: M2)) : AM K rInsert (.ref a) [.int j, d] M k := fun vx vs G H Q rx rxs s f => by
  subst e
  obtain ⟨v, r, rfl, r1, rr⟩ := rxs.uncons
  obtain ⟨v2, r', rfl, r2, rr'⟩ := rr.uncons
  unfold Reps at rr'
  subst rr'
  obtain ⟨g0, o, ho, r⟩ := s.mu (a, .lst ds) (by simp)
  obtain ⟨xs, rfl, rs⟩ := r
  have hsz := sizeLine_eq
  obtain ⟨s2, st2⟩ := s.write (o := .lst (xs.take (j : Int).toNat ++ [v2] ++ xs.drop (j : Int).toNat)) (m' := .lst (ds.take j ++ [d] ++ ds.drop j)) ⟨_, rfl, by
    rw [Int.toNat_natCast]
    exact ((Reps.take j rs).append (Reps.one r2)).append (Reps.drop j rs)⟩
  exact ⟨a, xs, j, v2, rep_ref rx, by rw [rep_int r1], ho, by rw [rs.len]; exact hz, by omega, by omega, f _ _ _ _ _ q s2 st2 rep_of_non⟩
theorem am_index {a b : Str} {j : Nat} {rest : List Nat} (h : Builtin.Str.occurrences a b 0 a.length 1 = j :: rest) (q : k (.int (j : Nat)) M) : AM K rIndex (.str a) [.str b] M k := fun vx vs G H Q rx rxs s f => by
  obtain ⟨v, r, rfl, r1, rr⟩ := rxs.uncons
  unfold Reps at rr
  subst rr
  exact ⟨a, b, j, rest, rep_str rx, by rw [rep_str r1], h, f _ M _ G H q s Step.refl rep_of_int⟩
/-- xs[j] op= e -/
theorem as_augL {r : TIp} (h : AE K to δ M fun o M1 => AE K ti δ M1 fun j M2 => ∃ a ds N1 N2 jj n x, o = .ref a ∧ j = .int jj ∧ M2 = N1 ++ (a, MO.lst ds) :: N2 ∧ ixN ds.length jj = some n ∧ ds[n]? = some x ∧
      AE K te δ M2 fun y M3 => AR K r x y M3 fun z M4 => ∃ ds' P1 P2 n', M4 = P1 ++ (a, MO.lst ds') :: P2 ∧ ixN ds'.length jj = some n' ∧ A.nx δ (P1 ++ (a, MO.lst (ds'.set n' z)) :: P2)) : AS K (tAugS to ti te (rIxL K) r rSetL) δ M A := fun σ G H E rs s ft =>
  h σ G H _ rs s fun o M1 vo G1 H1 h1 s1 st1 r1 => h1 σ G1 H1 _ (rs.mono st1.gg) s1 fun j M2 vj G2 H2 h2 s2 st2 r2 => by
    obtain ⟨a, ds, N1, N2, jj, n, x, rfl, rfl, e2, hn, hx, h3⟩ := h2
    obtain ⟨g0, oo, ho, r⟩ := s2.mu (a, .lst ds) (by rw [e2]; simp)
    obtain ⟨xs, rfl, rx⟩ := r
    obtain ⟨vx, ex, rvx⟩ := rx.get hx
    have st12 := st1.trans st2
    refine ⟨a, xs, jj, vx, rep_ref (Rep.mono st2.gg _ _ r1), rep_int r2, .inl (.inl ho), by unfold atI; rw [rx.len, hn]; exact ex, h3 σ G2 H2 _ (rs.mono st12.gg) s2 ?_⟩
    intro y M3 vy G3 H3 h4 s3 st3 r3
    refine h4 vx vy G3 H3 _ (Rep.mono st3.gg _ _ rvx) r3 s3 ?_
    rintro z M4 vz G4 H4 ⟨ds', P1, P2, n', rfl, hn', q⟩ s4 st4 r4
    obtain ⟨g0', oo', ho', r'⟩ := s4.mu (a, .lst ds') (by simp)
    obtain ⟨xs', rfl, rx'⟩ := r'
    obtain ⟨s5, st5⟩ := s4.write (o := .lst (xs'.set n' vz)) (m' := .lst (ds'.set n' z)) ⟨_, rfl, Reps.set rx' r4⟩
    have st := ((st12.trans st3).trans st4).trans st5
    exact ⟨a, xs', jj, n', rep_ref r1, rep_int r2, ho', by rw [rx'.len]; exact hn', ft.nx _ _ _ _ _ q (rs.mono st.gg) s5 st⟩
/-- {'a': 'b', ..}[z] -/
def tDispGet (trs : List (TE × TE)) (ty : TE) : TE := tDGet (tDisp trs) ty
theorem ae_dispGet {kvs : List (Str × Str)} {ty : TE} (hk : kvs.length ≤ 15) (h : AE K ty δ M fun y M2 => ∃ z v, y = .str z ∧ valV (mergeK [] (kvs.map fun p => ((Sum.inr p.1 : Key), V.str p.2))) (Sum.inr z) = some (.str v) ∧ k (.str v) M2) : AE K (tDispGet (kvs.map fun p => (tC (.str p.1), tC (.str p.2))) ty) δ M k := fun σ G H Q rs s f p hp => by
  have all : ∀ (l : List (Str × Str)) (H' : Hp) (R : List (V × V) → Hp → Prop), R (l.map fun p => (V.str p.1, V.str p.2)) H' → tPairs (l.map fun p => (tC (.str p.1), tC (.str p.2))) σ H' R := by
    intro l
    induction l with
    | nil => intro H' R h; exact h
    | cons a l ih => intro H' R h; exact ih H' _ h
  refine all kvs _ _ ⟨upd_same, kvs.map fun p => ((Sum.inr p.1 : Key), V.str p.2), by rw [List.map_map]; rfl, by rw [List.length_map]; exact hk, ?_⟩
  have eH : ∀ o, upd (upd H p (HO.dK [])) p o = upd H p o := fun o => by
    funext b
    by_cases hb : b = p
    · subst hb; rw [upd_same, upd_same]
    · rw [upd_ne hb, upd_ne hb, upd_ne hb]
  rw [eH]
  have hpM : p ∉ ads M := fun z => by
    obtain ⟨q, hq, e⟩ := List.mem_map.mp z
    obtain ⟨_, o, ho, _⟩ := s.mu q hq
    rw [e, hp] at ho
    cases ho
  obtain ⟨s2, st2⟩ := s.junk (o := .dK (mergeK [] (kvs.map fun p => ((Sum.inr p.1 : Key), V.str p.2)))) hp
  refine h σ G _ _ rs s2 ?_
  rintro y M2 vy G2 H2 ⟨z, v, rfl, hv, q⟩ s3 st3 r3
  have hd := st3.keep p _ hpM upd_same
  refine ⟨p, .str v, rfl, ?_, f _ _ _ _ _ q s3 (st2.trans st3) rep_of_str⟩
  rw [rep_str r3, ← hv]
  exact DGet.k (k := Sum.inr z) hd
end
section
variable {X : Cx} {K : PySem.W.Frag}
theorem extU_K {o e : Expr} {es : List Expr} {to : TE} {t : TA} {apos cpos : Pos} (h0 : PE X (.Call (.Attribute o "extend" apos) (e :: es) [] cpos) (tBM X.K "list" (rExtendU X.K) to t)) (h : X.K = K := by rfl) : PE X (.Call (.Attribute o "extend" apos) (e :: es) [] cpos) (tBM K "list" (rExtendU K) to t) := h ▸ h0
theorem ins_K {o e : Expr} {es : List Expr} {to : TE} {t : TA} {apos cpos : Pos} (h0 : PE X (.Call (.Attribute o "insert" apos) (e :: es) [] cpos) (tBM X.K "list" rInsert to t)) (h : X.K = K := by rfl) : PE X (.Call (.Attribute o "insert" apos) (e :: es) [] cpos) (tBM K "list" rInsert to t) := h ▸ h0
theorem dispGet_K {o e : Expr} {trs : List (TE × TE)} {te : TE} {pos : Pos} (hu : X.A.units + 1 < cLine) (h0 : PE X o (tDisp trs)) (h1 : PE X e te) (hs : NoSl e := by exact fun _ _ => rfl) : PE X (.Subscript o e pos) (tDispGet trs te) := pe_dget hu h0 h1 hs
/-- a method of a class -/
structure DefM (K : PySem.W.Frag) (C : Addr) (m qual : Str) (st : Stmt) (ps : List Str) : Prop where
  ex : ∃ f fd, Fun K m qual st f fd ∧ Meth K C m f ∧ Binds K fd ps []
theorem met_of {P : Program} {w : World} {mg : Str → Option Value} {base : Heap} {C : Addr} {m qual : Str} {st : Stmt} {ps : List Str} {k : Nat} {sp : Sp} (c : Cls K C) (D : DefM K C m qual st ps)
    (ok : ∀ f fd, Fun K m qual st f fd → FnOk P w K mg base CX0 k f fd ps sp) : C8.Met P w K mg base k C m sp [] := by
  obtain ⟨f, fd, F, hm, b⟩ := D.ex
  exact ⟨f, fd, ps, [], c, hm, ok f fd F, b, .nil⟩
theorem mak_of {P : Program} {w : World} {mg : Str → Option Value} {base : Heap} {C : Addr} {x qual : Str} {st : Stmt} {ps : List Str} {k : Nat} {sp : Sp} (hm : mg x = some (.ref C)) (h1 : PySem.W.makesIn K C = true) (h2 : PySem.W.keepIn K (.ref C) = true) (D : DefM K C "__init__" qual st ps)
    (ok : ∀ f fd, Fun K "__init__" qual st f fd → FnOk P w K mg base CX0 k f fd ps sp) : C8.Mak P w K mg base k x C sp [] := by
  obtain ⟨f, fd, F, ⟨a1, a2, a3⟩, b⟩ := D.ex
  exact ⟨f, fd, ps, [], ⟨h1, a1, a2, h2⟩, ok f fd F, hm, b, .nil⟩
end
/-! ### constants of the top -/
def StrsV : List Value → List Str → Prop
  | [], ss => match ss with
    | [] => True
    | _ => False
  | v :: r, ss => match ss with
    | [] => False
    | z :: s => (∃ t, v = .str z t) ∧ StrsV r s
theorem StrsV.vals : ∀ {its : List Value} {ss : List Str}, StrsV its ss → Vals (ss.map V.str) its
  | [], [], _ => .nil
  | [], _ :: _, h => h.elim
  | _ :: _, [], h => h.elim
  | v :: r, z :: s, ⟨⟨t, e⟩, h⟩ => .cons ⟨t, e⟩ (StrsV.vals h)
theorem reps_strs {K : PySem.W.Frag} {G : Hp} : ∀ ss : List Str, Reps K G (ss.map D.str) (ss.map V.str)
  | [] => Reps.nil
  | z :: s => Reps.cons rep_of_str (reps_strs s)
theorem rep_gtup {K : PySem.W.Frag} {a : Addr} {dd : Option Addr} {its : List Value} {n : Nat} {sl : Array (Option Value)} {ss : List Str} (hl : K.lookup a = some ⟨.type "tuple", dd, .seq its.toArray n, sl⟩) (hv : StrsV its ss) (hz : its.length ≤ sizeLine := by decide) : ∀ G : Hp, Rep K G (.tup (ss.map D.str)) (.ref a) := fun G =>
  rep_mk_tup (xs := ss.map V.str) (.inr ⟨_, its.toArray, n, hl, rfl, rfl, by simpa using hz, by simpa using hv.vals⟩) (reps_strs ss)
end Tg
set_option Elab.async false
set_option linter.all false
set_option maxRecDepth 100000
set_option maxHeartbeats 1000000
/-! Tg: expressions that may raise; an own error with one field. -/
namespace Tg
open PySem L2 PyProof.Rows
abbrev XS := List (Str × D) → Mu → Prop
/-- as AE, but an error may come out: its fields and what may change (xs), who takes it (W) -/
def AEX (K : PySem.W.Frag) (te : TE) (δ : DS) (M : Mu) (xs : XS) (W : Addr → Hp → Prop) (k : D → Mu → Prop) : Prop := ∀ σ G H Q, RelS K G δ σ → S K G H M →
  (∀ d M' v G' H', k d M' → S K G' H' M' → Step (ads M) G H (ads M') G' H' → Rep K G' d v → Q v H') →
  (∀ fs M' d G' H', xs fs M' → S K G' H' (M' ++ [(d, .xd fs)]) → Step (ads M) G H (ads (M' ++ [(d, .xd fs)])) G' H' → W d H') → te σ H Q
def AAX (K : PySem.W.Frag) (ta : TA) (δ : DS) (M : Mu) (xs : XS) (W : Addr → Hp → Prop) (k : List D → Mu → Prop) : Prop := ∀ σ G H Q, RelS K G δ σ → S K G H M →
  (∀ ds M' vs G' H', k ds M' → S K G' H' M' → Step (ads M) G H (ads M') G' H' → Reps K G' ds vs → Q vs H') →
  (∀ fs M' d G' H', xs fs M' → S K G' H' (M' ++ [(d, .xd fs)]) → Step (ads M) G H (ads (M' ++ [(d, .xd fs)])) G' H' → W d H') → ta σ H Q
section
variable {K : PySem.W.Frag} {δ : DS} {M : Mu} {ta tb te to ti tv : TE} {ts : TA} {k : D → Mu → Prop} {ka : List D → Mu → Prop} {i : Nat} {d x y : D} {A : AEnds} {xs : XS} {W : Addr → Hp → Prop} {C Ce : Addr} {m : Str} {E : XK}
theorem aex_ae (h : AE K te δ M k) : AEX K te δ M xs W k := fun σ G H Q rs s f _ => h σ G H Q rs s f
theorem aax_aa (h : AA K ts δ M ka) : AAX K ts δ M xs W ka := fun σ G H Q rs s f _ => h σ G H Q rs s f
/-- a method that may raise -/
theorem aex_meth {Wx : WtX} (hW : W = fun d H' => E (.ref Ce) (some d) H') (h : AE K te δ M fun x M1 => ∃ a dx fs, x = .ref a ∧ (∃ N1 N2, M1 = N1 ++ (a, MO.ins C dx fs) :: N2) ∧ fs.lookup m = none ∧
      AA K ts δ M1 fun ds M2 => ∃ Mc R kc kx, M2 = Mc ++ R ∧ Wx (.ref a :: ds) Mc kc kx ∧ (∀ d Mc', kc d Mc' → k d (Mc' ++ R)) ∧ ∀ fs Mc', kx fs Mc' → xs fs (Mc' ++ R)) : AEX K (tMeth C m (SpcX K Ce Wx) [] E te ts) δ M xs W k := fun σ G H Q rs s f' fx =>
  h σ G H _ rs s fun x M1 vx G1 H1 ⟨a, dx, fs, e1, ⟨N1, N2, e2⟩, l, h1⟩ s1 st1 r1 => by
    subst e1 hW
    obtain ⟨g0, o, ho, ps, rfl, rk⟩ := s1.mu (a, .ins C dx fs) (by rw [e2]; simp)
    refine ⟨a, dx, ps, rep_ref r1, ho, repKV_no rk l, h1 σ G1 H1 _ (rs.mono st1.gg) s1 ?_⟩
    rintro ds M2 vs G2 H2 ⟨Mc, R, kc, kx, rfl, hw, hk, hx⟩ s2 st2 r2
    rw [rep_ref r1, List.append_nil]
    refine ⟨G2, _, Mc, kc, kx, Reps.cons rep_of_ref r2, s2.sub, hw, fun d M' v G' H' hd s' st' rv => ?_, fun fs' M' d G' H' hk' s' st' => ?_⟩
    · obtain ⟨s3, st3⟩ := s2.join s' st'
      exact f' d _ v G' H' (hk d M' hd) s3 ((st1.trans st2).trans st3) rv
    · obtain ⟨s3, st3⟩ := s2.join s' st'
      have hp : ((M' ++ [(d, MO.xd fs')]) ++ R).Perm ((M' ++ R) ++ [(d, MO.xd fs')]) := by
        rw [List.append_assoc, List.append_assoc]
        exact List.Perm.append_left M' List.perm_append_comm
      exact fx fs' (M' ++ R) d G' H' (hx fs' M' hk') (s3.perm hp) (((st1.trans st2).trans st3).perm (fun _ => Iff.rfl) (ads_perm hp))
theorem aax_one (h : AEX K te δ M xs W fun d M1 => ka [d] M1) : AAX K (tCons te tNil) δ M xs W ka := fun σ G H Q rs s f fx =>
  h σ G H _ rs s (fun d M1 v G1 H1 h1 s1 st1 r1 => f [d] M1 [v] G1 H1 h1 s1 st1 (Reps.one r1)) fx
theorem aax_cons (h : AE K te δ M fun d M1 => AAX K ts δ M1 xs W fun ds M2 => ka (d :: ds) M2) : AAX K (tCons te ts) δ M xs W ka := fun σ G H Q rs s f fx =>
  h σ G H _ rs s fun d M1 v G1 H1 h1 s1 st1 r1 => h1 σ G1 H1 _ (rs.mono st1.gg) s1 (fun ds M2 vs G2 H2 h2 s2 st2 r2 => f (d :: ds) M2 (v :: vs) G2 H2 h2 s2 (st1.trans st2) (Reps.cons (Rep.mono st2.gg _ _ r1) r2))
    fun fs M' d' G' H' a s' st' => fx fs M' d' G' H' a s' (st1.trans st')
theorem aex_tup (h : AAX K ts δ M xs W fun ds M1 => ds.length ≤ sizeLine ∧ k (.tup ds) M1) : AEX K (tTup ts) δ M xs W k := fun σ G H Q rs s f fx =>
  h σ G H _ rs s (fun ds M1 vs G1 H1 ⟨hl, h1⟩ s1 st1 r1 => ⟨by rw [r1.len]; exact hl, fun p hp => by
    obtain ⟨s2, st2, e2⟩ := s1.frozen (o := .tup vs) hp
    exact f _ M1 _ _ _ h1 s2 (st1.trans st2) (rep_mk_tup (.inl (.inl upd_same)) (Reps.mono e2 _ _ r1))⟩) fx
theorem aex_lstM (h : AAX K ts δ M xs W fun ds M1 => ds.length ≤ sizeLine ∧ ∀ a, k (.ref a) (M1 ++ [(a, .lst ds)])) : AEX K (tLstM ts) δ M xs W k := fun σ G H Q rs s f fx =>
  h σ G H _ rs s (fun ds M1 vs G1 H1 ⟨hl, h1⟩ s1 st1 r1 => ⟨by rw [r1.len]; exact hl, fun p hp => by
    obtain ⟨s2, st2⟩ := s1.fresh (m := .lst ds) (o := .lst vs) hp ⟨vs, rfl, r1⟩
    exact f _ _ _ _ _ (h1 p) s2 (st1.trans st2) rep_of_ref⟩) fx
theorem aex_lm {r : V → List V → Hp → VK → Prop} (h : AE K to δ M fun x M1 => LstM x M1 ∧ AAX K ts δ M1 xs W fun zs M2 => AM K r x zs M2 k) : AEX K (tBM K "list" r to ts) δ M xs W k := fun σ G H Q rs s f fx =>
  h σ G H _ rs s fun x M1 v G1 H1 ⟨ht, h1⟩ s1 st1 r1 => by
    refine ⟨?_, h1 σ G1 H1 _ (rs.mono st1.gg) s1 (fun xs M2 vs G2 H2 h2 s2 st2 r2 => h2 v vs G2 H2 Q (Rep.mono st2.gg _ _ r1) r2 s2 fun d M3 v3 G3 H3 q s3 st3 r3 => f d M3 v3 G3 H3 q s3 ((st1.trans st2).trans st3) r3)
      fun fs M' d' G' H' a s' st' => fx fs M' d' G' H' a s' (st1.trans st')⟩
    rcases ht with ⟨ds, e⟩ | ⟨ds, e⟩ | ⟨a, ds, N1, N2, e, e2⟩
    · subst e
      obtain ⟨a, xs, rfl, ha, _⟩ := rep_lst r1
      exact .inl ⟨rfl, xs, .inl (.inl (s1.same _ _ ha))⟩
    · subst e
      obtain ⟨a, xs, rfl, ha, _⟩ := rep_lsk r1
      exact .inl ⟨rfl, xs, s1.same.seq ha⟩
    · subst e
      rw [rep_ref r1]
      obtain ⟨_, o, ho, r⟩ := s1.mu (a, .lst ds) (by rw [e2]; simp)
      obtain ⟨xs, rfl, rs⟩ := r
      exact .inl ⟨rfl, xs, .inl (.inl ho)⟩
/-! ### statements -/
theorem as_asgX {g : TG} (h : AEX K te δ M A.xs A.W fun d M1 => AG K g d δ M1 A.nx) : AS K (tAsg te g) δ M A := fun σ G H E rs s f =>
  h σ G H _ rs s (fun d M1 v G1 H1 h1 s1 st1 r1 => h1 v σ G1 H1 E.nx r1 (rs.mono st1.gg) s1 fun δ' M' σ' G' H' a rs' s' st => f.nx δ' M' σ' G' H' a rs' s' (st1.trans st)) f.xs
theorem as_setX (h : AEX K te δ M A.xs A.W fun d M1 => A.nx (δ.set i (some d)) M1) : AS K (tAsg te (gName i)) δ M A := as_asgX fun σ G H Q rs s f fx => h σ G H Q rs s (fun d M' v G' H' q => f d M' v G' H' (ag_name q)) fx
theorem as_retX (h : AEX K te δ M A.xs A.W A.rt) : AS K (tRet te) δ M A := fun σ G H E rs s f => h σ G H E.rt rs s (fun d M1 v G1 H1 h1 s1 st1 r1 => f.rt d M1 v G1 H1 h1 s1 st1 r1) f.xs
theorem as_dropX (h : AEX K te δ M A.xs A.W fun _ M1 => A.nx δ M1) : AS K (tDrop te) δ M A := fun σ G H E rs s f => h σ G H _ rs s (fun d M1 v G1 H1 h1 s1 st1 r1 => f.nx δ M1 σ G1 H1 h1 (rs.mono st1.gg) s1 st1) f.xs
theorem as_augX {r : TIp} {x : D} (hx : δ[i]? = some (some x)) (h : AEX K te δ M A.xs A.W fun y M1 => AR K r x y M1 fun z M2 => A.nx (δ.set i (some z)) M2) : AS K (tAug i te r) δ M A := fun σ G H E rs s f => by
  obtain ⟨v, e, rv⟩ := rs.at_ i x hx
  exact ⟨v, e, h σ G H _ rs s (fun y M1 vy G1 H1 h1 s1 st1 r1 => h1 v vy G1 H1 _ (Rep.mono st1.gg _ _ rv) r1 s1 fun z M2 vz G2 H2 h2 s2 st2 r2 =>
    f.nx _ M2 _ G2 H2 h2 ((rs.mono (st1.trans st2).gg).set i r2) s2 (st1.trans st2)) f.xs⟩
end
/-! ### an own error with one field -/
def spIni1 (K : PySem.W.Frag) (C : Addr) (f1 : Str) : Sp := fun vs H Q _ => ∃ a y, vs = [.ref a, y] ∧ H a = some (exo a C none) ∧
  ∀ dx, H dx = none → dx ≠ a → Q .non (upd (upd H dx (exd dx [(f1, y)])) a (exo a C (some dx)))
def tRaise1 (K : PySem.W.Frag) (C : Addr) (f1 : Str) (E : XK) (ta : TA) : TS := fun _ σ H => tMkO C (spIni1 K C f1) [] ta σ H fun cls d H' => E cls d H'
section
variable {K : PySem.W.Frag} {δ : DS} {M : Mu} {A : AEnds} {C : Addr} {f1 : Str} {E : XK} {ta : TA}
theorem as_raise1 (hA : A.W = fun d H' => E (.ref C) (some d) H') (h : AA K ta δ M fun ds M1 => ∃ y, ds = [y] ∧ A.xs [(f1, y)] M1) : AS K (tRaise1 K C f1 E ta) δ M A := fun σ G H E' rs s f =>
  h σ G H _ rs s fun ds M1 vs G1 H1 ⟨y, e, hx⟩ s1 st1 r1 => by
    subst e
    obtain ⟨vy, r, rfl, ry, rr⟩ := r1.uncons
    unfold Reps at rr
    subst rr
    refine ⟨by show 1 ≤ 1000; decide, fun a ha => ⟨a, vy, rfl, upd_same, fun dx hdx hne => ⟨rfl, dx, [(f1, vy)], upd_same, ?_, ?_, ?_⟩⟩⟩
    · rw [upd_ne hne, upd_same]
    · have h0 := hdx
      rw [upd_ne hne] at h0
      exact h0
    · have hd1 : H1 dx = none := by
        have h0 := hdx
        rw [upd_ne hne] at h0
        exact h0
      have e : upd (del (upd (upd (upd H1 a (exo a C none)) dx (exd dx [(f1, vy)])) a (exo a C (some dx))) a) dx (.xd [(f1, vy)]) = upd H1 dx (.xd [(f1, vy)]) := by
        funext b
        by_cases h1 : b = dx
        · subst h1
          rw [upd_same, upd_same]
        · rw [upd_ne h1, upd_ne h1]
          by_cases h2 : b = a
          · subst h2
            rw [del_same, ha]
          · rw [del_ne h2, upd_ne h2, upd_ne h1, upd_ne h2]
      rw [e]
      obtain ⟨s2, st2⟩ := s1.fresh (o := .xd [(f1, vy)]) (m := .xd [(f1, y)]) hd1 ⟨_, rfl, by
        unfold RepKV
        exact ⟨vy, [], rfl, ry, by unfold RepKV; rfl⟩⟩
      have q := f.xs _ M1 dx G1 _ hx s2 (st1.trans st2)
      rw [hA] at q
      exact q
end
section
variable {X : Cx} {K : PySem.W.Frag} {C fI : Addr} {k : Nat} {fd : FuncData} {f1 x : Str} {e : Expr} {es : List Expr} {ta : TA} {p pos pos2 : Pos} {CX : CXT} {E : XK}
theorem ps_raise1 (hc : X.calm = true) (tk : Takes X (fun cls d _ H => E cls d H)) (T : OexC X.K C) (iC : PySem.W.findIn X.K (.ref C) "__init__" = some (some (.ref fI))) (tI : PySem.W.typeIn X.K (.ref fI) = some (.type "function"))
    (F1 : FnOk X.prog X.w X.K X.mg X.base CX k fI fd ["self", f1] (spIni1 X.K C f1)) (hr : Room (k + 1) X.A) (hb : Binds X.K fd ["self", f1] []) (hx : Passes CX X (fun _ _ _ => False)) (hg : Gl X x) (hm : X.mg x = some (.ref C)) (ha : PA X (e :: es) ta)
    (hdb : (x == ("__debug__" : Str)) = false := by decide) (he : starEach (e :: es) X.env = (false, eval e X.env) :: starEach es X.env := by rfl) (hpl : (backTo pos (starEach es X.env)).any (·.1) = false := by rfl) :
    PS X (.Raise (some (.Call (.Name x p) (e :: es) [] pos)) none pos2) (tRaise1 X.K C f1 E ta) := ps_raise hc tk (pmk_oex T iC tI F1 hr hb .nil hx hg hm ha hdb he hpl)
end
structure ErrC1 (K : PySem.W.Frag) (mg : Str → Option Value) (x qual : Str) (st : Stmt) (f1 : Str) (C : Addr) : Prop where
  o : OexC K C
  m : mg x = some (.ref C)
  i : ∃ fI fd, PySem.W.findIn K (.ref C) "__init__" = some (some (.ref fI)) ∧ PySem.W.typeIn K (.ref fI) = some (.type "function") ∧ Fun K "__init__" qual st fI fd ∧ Binds K fd ["self", f1] []
  n1 : PySem.W.findIn K (.ref C) f1 = some none
  xf : XfC K C
  self : PySem.W.exmOne K (.ref C) (.ref C) = some true
  ec : ExcC K C
/-- a method that may raise -/
structure MetX (P : Program) (w : World) (K : PySem.W.Frag) (mg : Str → Option Value) (base : Heap) (k : Nat) (C : Addr) (m : Str) (sp : Sp) : Prop where
  ex : ∃ (f : Addr) (fd : FuncData) (ps : List Str), Cls K C ∧ Meth K C m f ∧ FnOk P w K mg base (L2.CX P w) k f fd ps sp ∧ Binds K fd ps []
section
variable {X : Cx} {K : PySem.W.Frag} {C : Addr} {k j : Nat} {m : Str} {sp : Sp} {o : Expr} {ta : TE} {apos pos : Pos} {E : XK}
theorem pe_mtX0 {pl : Sem Bool} (tk : Takes X (fun cls d _ H => E cls d H)) (c : MetX X.prog X.w X.K X.mg X.base k C m sp) (hr : Room j X.A) (hk : k ≤ j) (he : PE X o ta)
    (ht : eval (.Call (.Attribute o m apos) [] [] pos) X.env = (do
      let ov ← eval o X.env
      standAt apos.atName
      let (f, first) ← holding [ov] (getMethod ov m pl)
      callWith pos f first (backTo pos (starEach [] X.env)) (backToKw pos (keywordEach [] X.env))) := by rfl) :
    PE X (.Call (.Attribute o m apos) [] [] pos) (tMeth C m sp [] E ta tNil) := by
  obtain ⟨f, fd, ps, hc, hm, F, b⟩ := c.ex
  exact pe_meth0 (pl := pl) he hc hm F (hr.mono hk) b .nil (passes_call tk fun _ _ _ _ h => h) ht
theorem metX_of {P : Program} {w : World} {mg : Str → Option Value} {base : Heap} {C : Addr} {m qual : Str} {st : Stmt} {ps : List Str} {k : Nat} {sp : Sp} (c : Cls K C) (D : DefM K C m qual st ps)
    (ok : ∀ f fd, Fun K m qual st f fd → FnOk P w K mg base (L2.CX P w) k f fd ps sp) : MetX P w K mg base k C m sp := by
  obtain ⟨f, fd, F, hm, b⟩ := D.ex
  exact ⟨f, fd, ps, c, hm, ok f fd F, b⟩
end
section
variable {K : PySem.W.Frag} {δ : DS} {M : Mu} {A : AEnds} {C : Addr} {W : WtX} {ta : TA} {i : Nat} {ts : Addr → Value → Option Addr → TS}
/-- try: f(..) except X as n: suite -/
def tTryD (K : PySem.W.Frag) (C : Addr) (W : WtX) (ta : TA) (i : Nat) (ts : Addr → Value → Option Addr → TS) : TS := fun D σ H => tDrop (tCallS (SpcX K C W) (WE (wAs K (.ref C) i ts (fun _ _ _ _ => False) D)) ta) D σ H
theorem as_tryD (te : PySem.W.exmOne K (.ref C) (.ref C) = some true) (h : AA K ta δ M fun ds M1 => ∃ Mc R kc kx, M1 = Mc ++ R ∧ W ds Mc kc kx ∧ (∀ d Mc', kc d Mc' → A.nx δ (Mc' ++ R)) ∧
      ∀ fs Mc' a d, kx fs Mc' → AS K (ts a (.ref C) (some d)) (δ.set i (some (.ref a))) ((Mc' ++ [(d, .xd fs)]) ++ R) { A with nx := fun δ' M' => A.nx (δ'.set i none) M', bk := fun δ' M' => A.bk (δ'.set i none) M', ct := fun δ' M' => A.ct (δ'.set i none) M', ps := fun _ _ _ => False }) :
    AS K (tTryD K C W ta i ts) δ M A := fun σ G H E rs s f =>
  h σ G H _ rs s fun ds M1 vs G1 H1 ⟨Mc, R, kc, kx, e, hw, hn, hx⟩ s1 st1 r1 => by
    subst e
    refine ⟨G1, ds, Mc, kc, kx, r1, s1.sub, hw, fun d M' v G' H' hd s' st' rv => ?_, fun fs M' d G' H' hk s' st' => ?_⟩
    · obtain ⟨s2, st2⟩ := s1.join s' st'
      exact f.nx _ _ _ G' H' (hn d M' hd) (rs.mono (st1.trans st2).gg) s2 (st1.trans st2)
    · obtain ⟨s2, st2⟩ := s1.join s' st'
      have st := st1.trans st2
      have fg := f.go st
      refine ⟨true, te, fun _ a ha => ?_, fun q => nomatch q⟩
      refine hx fs M' a d hk (σ.set i (some (.ref a))) G' H' _ ((rs.mono st.gg).set i rep_of_ref) s2 ⟨?_, fg.rt, ?_, ?_, fg.xs, fun C δ' M2 σ' G2 H2 q => q.elim⟩
      · intro δ' M2 σ' G2 H2 q r s3 st3
        exact fg.nx _ M2 _ G2 H2 q (r.drop i) s3 st3
      · intro δ' M2 σ' G2 H2 q r s3 st3
        exact fg.bk _ M2 _ G2 H2 q (r.drop i) s3 st3
      · intro δ' M2 σ' G2 H2 q r s3 st3
        exact fg.ct _ M2 _ G2 H2 q (r.drop i) s3 st3
end
end Tg
set_option Elab.async false
set_option linter.all false
set_option maxRecDepth 100000
set_option maxHeartbeats 1000000
/-! Tg: sorted lists of ints, ints in lists. -/
namespace Tg
open PySem L2 PyProof.Rows
section
variable {X : Cx} {K : PySem.W.Frag}
theorem sorted_K (h : X.K = K := by rfl) : CallR X (.builtin "sorted") (rSortedI K) := h ▸ cr_sortedI
end
section
variable {K : PySem.W.Frag} {δ : DS} {M M1 M2 : Mu} {k : D → Mu → Prop} {x : D}
theorem ac_sorted {ns : List Int} (h : x = .lst (ns.map D.int) ∨ x = .lsk (ns.map D.int)) (q : ∀ ms : List Int, ms.Perm ns → ms.Pairwise (· ≤ ·) → k (.lst (ms.map D.int)) M) : AC K (rSortedI K) [x] M k := fun vs G H Q rx s f => by
  obtain ⟨v, r, rfl, r1, rr⟩ := rx.uncons
  unfold Reps at rr
  subst rr
  have go : ∀ (a : Addr) (xs : List V), v = .ref a → SqL K H a xs → Reps K G (ns.map D.int) xs → rSortedI K [v] H Q := fun a xs e h1 h2 => by
    rw [h2.ints] at h1
    refine ⟨a, ns, by rw [e], h1, fun ms p hp hs hn => ?_⟩
    obtain ⟨s2, st2, e2⟩ := s.frozen (o := .lst (ms.map V.int)) hn
    exact f _ M _ _ _ (q ms hp hs) s2 st2 (rep_mk_lst upd_same Reps.ofInts)
  rcases h with rfl | rfl
  · obtain ⟨a, xs, e, ha, rs⟩ := rep_lst r1
    exact go a xs e (.inl (.inl (s.same _ _ ha))) rs
  · obtain ⟨a, xs, e, ha, rs⟩ := rep_lsk r1
    exact go a xs e (s.same.seq ha) rs
theorem ac_sortedM {a : Addr} {ns : List Int} (e : M = M1 ++ (a, .lst (ns.map D.int)) :: M2) (q : ∀ ms : List Int, ms.Perm ns → ms.Pairwise (· ≤ ·) → k (.lst (ms.map D.int)) M) : AC K (rSortedI K) [.ref a] M k := fun vs G H Q rx s f => by
  obtain ⟨v, r, rfl, r1, rr⟩ := rx.uncons
  unfold Reps at rr
  subst rr
  obtain ⟨g0, o, ho, rs⟩ := s.mu (a, .lst (ns.map D.int)) (by rw [e]; simp)
  obtain ⟨xs, rfl, rs⟩ := rs
  rw [rs.ints] at ho
  refine ⟨a, ns, by rw [rep_ref r1], .inl (.inl ho), fun ms p hp hs hn => ?_⟩
  obtain ⟨s2, st2, e2⟩ := s.frozen (o := .lst (ms.map V.int)) hn
  exact f _ M _ _ _ (q ms hp hs) s2 st2 (rep_mk_lst upd_same Reps.ofInts)
theorem inV_ints {z : Int} : ∀ {ss : List Int}, inV (.int z) (ss.map V.int) = decide (z ∈ ss)
  | [] => rfl
  | a :: ss => by
    have ih := inV_ints (z := z) (ss := ss)
    unfold inV at ih ⊢
    rw [List.map_cons, List.any_cons, ih]
    show (a == z || decide (z ∈ ss)) = _
    by_cases c : a = z
    · subst c; simp
    · have hb : (a == z) = false := beq_eq_false_iff_ne.mpr c
      rw [hb]
      simp [Ne.symm c]
theorem flat_ints : ∀ {ss : List Int}, (ss.map V.int).all flatV = true
  | [] => rfl
  | a :: ss => by
    rw [List.map_cons, List.all_cons, flat_ints]
    rfl
theorem ain_ints {z : Int} {ns : List Int} (q : k (.bl (decide (z ∈ ns))) M) : AR K (rInU K) (.int z) (.lst (ns.map D.int)) M k := fun vx vy G H Q rx ry s f => by
  obtain ⟨a, xs, rfl, ha, rx'⟩ := rep_lst ry
  have e := rx'.ints
  subst e
  refine .inr (.inr ⟨a, _, rfl, .inl (.inl (.inl (s.same _ _ ha))), by rw [rep_int rx]; rfl, flat_ints, ?_⟩)
  rw [rep_int rx, if_neg Bool.false_ne_true, inV_ints]
  exact f _ M _ G H q s Step.refl rep_of_bl
theorem anin_ints {z : Int} {ns : List Int} (q : k (.bl (!decide (z ∈ ns))) M) : AR K (rNotInU K) (.int z) (.lst (ns.map D.int)) M k := fun vx vy G H Q rx ry s f => by
  obtain ⟨a, xs, rfl, ha, rx'⟩ := rep_lst ry
  have e := rx'.ints
  subst e
  refine .inr (.inr ⟨a, _, rfl, .inl (.inl (.inl (s.same _ _ ha))), by rw [rep_int rx]; rfl, flat_ints, ?_⟩)
  rw [rep_int rx, if_pos rfl, inV_ints]
  exact f _ M _ G H q s Step.refl rep_of_bl
theorem anin_intsM {z : Int} {a : Addr} {ns : List Int} (e : M = M1 ++ (a, .lst (ns.map D.int)) :: M2) (q : k (.bl (!decide (z ∈ ns))) M) : AR K (rNotInU K) (.int z) (.ref a) M k := fun vx vy G H Q rx ry s f => by
  obtain ⟨g0, o, ho, rs⟩ := s.mu (a, .lst (ns.map D.int)) (by rw [e]; simp)
  obtain ⟨xs, rfl, rs⟩ := rs
  have e := rs.ints
  subst e
  refine .inr (.inr ⟨a, _, rep_ref ry, .inl (.inl (.inl ho)), by rw [rep_int rx]; rfl, flat_ints, ?_⟩)
  rw [rep_int rx, if_pos rfl, inV_ints]
  exact f _ M _ G H q s Step.refl rep_of_bl
end
end Tg
set_option Elab.async false
set_option linter.all false
set_option maxRecDepth 100000
set_option maxHeartbeats 4000000
namespace Tg
open PySem PySem.W PySem.Calls PySem.NumText PyProof.Rows
/-! Tg: ints of texts of any length, deep equality, stars, written dicts, comprehensions of two clauses. -/
/-- nothing is said of how many digits an int may have -/
def DigFree (h : Heap) : Prop := ∀ (M : Model) (A : Around) (E : Value → Shared → Prop) (s : Shared) (Q : Nat → Shared → Prop), s.heap = h → Q 4300 s → wpAny M A Builtin.intMaxStrDigits Q E s
theorem long_text {M : Model} {A : Around} {E : Value → Shared → Prop} {s : Shared} {Q : Value → Shared → Prop} {v : Value} {text : List Nat} {n : Int} (hd : DigFree s.heap)
    (hs : ¬ (text.takeWhile (· != 0)).length ≤ 640) (hr : (int_private% "readNumeral") 4300 10 (text.takeWhile (· != 0)) = (int_private% "Numeral.value") n)
    (ha : ((text.takeWhile (· != 0)).length == text.length) = true) (h : Q (.int n s.toks) { s with toks := s.toks + 1 }) :
    wpAny M A ((int_private% "intFromText") v text 10) Q E s := by
  have hd' := fun Q' q => hd M A E s Q' rfl q
  obtain ⟨hp, g, d, tk, os⟩ := s
  repeat (any_goals (first
    | assumption
    | (with_reducible refine wpAny_ite_false (decide_eq_false hs) ?_)
    | (with_reducible refine wpAny_ite_true (decide_eq_true ha) ?_)
    | (with_reducible refine hd' _ ?_)
    | wp_step))
  all_goals (try rw [hr])
  all_goals (try dsimp only)
  repeat (any_goals (first
    | assumption
    | (with_reducible refine wpAny_ite_true (decide_eq_true ha) ?_)
    | wp_step))
theorem digFree_of {K : Frag} {h : Heap} (x : K.In h) (e : nsIn K cStatics "sys.int_max_str_digits" = some none) : DigFree h := fun M A E s Q hh q => by
  unfold Builtin.intMaxStrDigits
  refine wpAny_bind (looks_nsIn (M := M) x e A _ E s (fun b o z => by rw [hh]; exact z) ?_)
  exact wpAny_pure q
theorem long_new {x : PySem.Str} {u : Tok} {n : Int} (hl : ¬ (numSeenOf x).length ≤ 640) (hz : x.length ≤ sizeLine) (hn : PySem.intText? x = some n) :
    Meets (Builtin.«int.__new__» ⟨[.type "int", .str x u], []⟩) (fun A R s => DigFree s.heap ∧ R (.ok (.ret (.int n s.toks))) { s with toks := s.toks + 1 }) :=
  .of_wp fun prog w A R s ⟨hd, h⟩ => by
    obtain ⟨hp, g, d, tk, os⟩ := s
    have f1 := F.conv_sub_int
    have f2 := F.madeHere_int
    have f3 := KIN.str_int
    have f4 := KIN.str_idx
    have f5 := KIN.str_trunc
    have f6 : typeOf (.str x u) = pure (.type "str") := rfl
    have hr : (int_private% "readNumeral") 4300 10 (numSeenOf x) = (int_private% "Numeral.value") n ∧ ((numSeenOf x).length == (numTextOf x).length) = true := by
      rcases read4300 x hz with ⟨m, h1, h2, h3⟩ | ⟨h1, _⟩
      · rw [hn] at h1
        injection h1 with h1
        subst h1
        exact ⟨h3, h2⟩
      · rw [hn] at h1
        cases h1
    have hk := KIN.Hid.mk (And.intro hl (And.intro hr hd))
    clear hl hr hn hd hz
    repeat (any_goals (first
      | assumption
      | ((with_reducible show wpAny _ _ ((int_private% "intFromText") _ _ _) _ _ _); refine long_text hk.out.2.2 hk.out.1 hk.out.2.1.1 hk.out.2.1.2 ?_)
      | wp_step))
    all_goals first | exact ⟨_, rfl, h⟩ | skip
open L2
/-- int(text of digits) -/
def rIntT : List V → Hp → VK → Prop := fun xs H Q => ∃ a n, xs = [.str a] ∧ PySem.intText? a = some n ∧ a.length ≤ sizeLine ∧ a.cps.all (· < 128) = true ∧ Q (.int n) H
theorem cr_intT {X : Cx} (e : nsIn X.K cStatics "sys.int_max_str_digits" = some none) : CallR X (.type "int") rIntT := by
  intro pins s σ H xs us Q I rs h
  obtain ⟨a, n, rfl, hn, hl, ha, h⟩ := h
  cases rs with
  | cons r1 rs =>
    cases rs
    obtain ⟨t, rfl⟩ := r1
    by_cases hs : (numSeenOf a).length ≤ 640
    · have hd := digFree_of I.kIn e
      by_cases h6 : a.length ≤ 640
      · exact KIN.call_text hn h6 ⟨.int n, H, I.tok _, ⟨_, rfl⟩, h⟩
      · exact False.elim (h6 (by
          have e2 : (numSeenOf a).length = (numTextOf a).length := by
            rcases read0 a hs with ⟨m, h1, h2, h3⟩ | ⟨h1, _⟩
            · exact eq_of_beq h2
            · rw [hn] at h1
              cases h1
          have e3 : (numTextOf a).length = a.length := by
            show (if a.cps.all (· < 128) then a.cps.toList else _).length = _
            rw [if_pos ha]
            exact Array.length_toList
          omega))
    · exact call_int_1 (long_new hs hl hn) ⟨digFree_of I.kIn e, rfl, ⟨.int n, H, I.tok _, ⟨_, rfl⟩, h⟩⟩
end Tg
set_option Elab.async false
set_option linter.all false
set_option maxRecDepth 100000
set_option maxHeartbeats 1000000
namespace Tg
open PySem L2 PyProof.Rows PySem.NumText
/-! ### deep equality -/
mutual
/-- data that == can go through: plain, signs below 128 -/
def Pln : D → Prop
  | .non => True
  | .bl _ => True
  | .int _ => True
  | .str z => ∀ c ∈ z.cps.toList, c < 128
  | .tup ds => Plns ds
  | .lst ds => Plns ds
  | .lsk ds => Plns ds
  | .ty _ => False
  | .ref _ => False
def Plns : List D → Prop
  | [] => True
  | d :: ds => Pln d ∧ Plns ds
end
theorem plns_all {ds : List D} : Plns ds ↔ ∀ d ∈ ds, Pln d := by
  induction ds with
  | nil => simp [Plns]
  | cons d ds ih => simp [Plns, ih]
mutual
theorem pln_lay : ∀ d : D, Pln d → (toPy d).canLay0 = true
  | .non, _ => rfl
  | .bl _, _ => rfl
  | .int _, _ => rfl
  | .str z, h => by
    unfold toPy PyData.canLay0
    unfold Pln at h
    show z.cps.all (· < 0x110000) = true
    rw [← Array.all_toList, List.all_eq_true]
    intro c hc
    have := h c hc
    exact decide_eq_true (by omega)
  | .tup ds, h => by
    unfold toPy PyData.canLay0
    unfold Pln at h
    exact plns_lay ds h
  | .lst ds, h => by
    unfold toPy PyData.canLay0
    unfold Pln at h
    exact plns_lay ds h
  | .lsk ds, h => by
    unfold toPy PyData.canLay0
    unfold Pln at h
    exact plns_lay ds h
  | .ty _, h => by unfold Pln at h; exact h.elim
  | .ref _, h => by unfold Pln at h; exact h.elim
theorem plns_lay : ∀ ds : List D, Plns ds → PyData.canLayAll0 (toPys ds) = true
  | [], _ => rfl
  | d :: ds, h => by
    unfold toPys PyData.canLayAll0
    unfold Plns at h
    rw [pln_lay d h.1, plns_lay ds h.2]
    rfl
end
section
variable {K : PySem.W.Frag} {G H : Hp}
mutual
theorem dpl_of (e : Same G H) : ∀ (d : D) (v : V), Pln d → Rep K G d v → Dp K H v (toPy d)
  | .non, _, _, r => by rw [rep_non r]; exact .non
  | .bl b, _, _, r => by rw [rep_bl r]; exact .bl b
  | .int i, _, _, r => by rw [rep_int r]; exact .int i
  | .str z, _, _, r => by rw [rep_str r]; exact .str z
  | .tup ds, _, h, r => by
    unfold Pln at h
    obtain ⟨a, xs, rfl, ha, rs⟩ := rep_tup r
    exact .tup (Same.seqT e ha) (dpls_of e ds xs h rs)
  | .lst ds, _, h, r => by
    unfold Pln at h
    obtain ⟨a, xs, rfl, ha, rs⟩ := rep_lst r
    exact .lst (.inl (.inl (e _ _ ha))) (dpls_of e ds xs h rs)
  | .lsk ds, _, h, r => by
    unfold Pln at h
    obtain ⟨a, xs, rfl, ha, rs⟩ := rep_lsk r
    exact .lst (e.seq ha) (dpls_of e ds xs h rs)
  | .ty _, _, h, _ => by unfold Pln at h; exact h.elim
  | .ref _, _, h, _ => by unfold Pln at h; exact h.elim
theorem dpls_of (e : Same G H) : ∀ (ds : List D) (vs : List V), Plns ds → Reps K G ds vs → DpAll K H vs (toPys ds)
  | [], _, _, r => by
    unfold Reps at r
    rw [r]
    exact .nil
  | d :: ds, _, h, r => by
    unfold Plns at h
    obtain ⟨x, xs, rfl, r1, r2⟩ := r.uncons
    exact .cons (dpl_of e d x h.1 r1) (dpls_of e ds xs h.2 r2)
end
end
/-- deep, and flat enough -/
def Eqb (d : D) : Prop := Pln d ∧ (toPy d).depth ≤ 64
theorem Eqb.shaped {d : D} (h : Eqb d) : SeqAt.shaped (toPy d) = true := by
  unfold SeqAt.shaped
  rw [pln_lay d h.1, decide_eq_true h.2]
  rfl
theorem eqv_self {d : D} (h : Pln d) : PyData.eqv (toPy d) (toPy d) = true := by
  have := pln_lay d h
  exact SeqAt.eqv_refl _ this
def eqD (x y : D) : Bool := PyData.eqv (toPy x) (toPy y)
def rEqU (K : PySem.W.Frag) : R2 := fun x y H Q => rEq x y H Q ∨ rEqD K x y H Q
def rNeU (K : PySem.W.Frag) : R2 := fun x y H Q => rNe x y H Q ∨ rNeD K x y H Q
section
variable {X : Cx} {K : PySem.W.Frag} {k' : Nat}
theorem hu64 (hr : Room k' X.A) : X.A.units + 64 < cLine := by have := hr.un; omega
theorem hu65 (hr : Room k' X.A) : X.A.units + 65 < cLine := by have := hr.un; omega
theorem eqU_K (hr : Room k' X.A) (h : X.K = K := by rfl) : OpR X (compareOp .Eq) (rEqU K) := h ▸ op_eq.or (op_eqD (hu64 hr))
theorem neU_K (hr : Room k' X.A) (h : X.K = K := by rfl) : OpR X (compareOp .NotEq) (rNeU K) := h ▸ op_ne.or (op_neD (hu64 hr))
theorem inD_K (hr : Room k' X.A) (h : X.K = K := by rfl) : OpR X (compareOp .In) (rInD K) := h ▸ op_inD (hu65 hr)
end
section
variable {K : PySem.W.Frag} {δ : DS} {M M1 M2 : Mu} {ta tb te to ti tv : TE} {ts : TA} {k : D → Mu → Prop} {i : Nat} {d x y : D} {A : AEnds} {t : TS}
theorem ar_eqD' (hx : Eqb x) (hy : Eqb y) (q : k (.bl (eqD x y)) M) : AR K (rEqD K) x y M k := fun vx vy G H Q rx ry s f =>
  ⟨toPy x, toPy y, dpl_of s.same _ _ hx.1 rx, dpl_of s.same _ _ hy.1 ry, hx.shaped, hy.shaped, f _ M _ G H q s Step.refl rep_of_bl⟩
theorem ar_neD' (hx : Eqb x) (hy : Eqb y) (q : k (.bl (!eqD x y)) M) : AR K (rNeD K) x y M k := fun vx vy G H Q rx ry s f =>
  ⟨toPy x, toPy y, dpl_of s.same _ _ hx.1 rx, dpl_of s.same _ _ hy.1 ry, hx.shaped, hy.shaped, f _ M _ G H q s Step.refl rep_of_bl⟩
theorem ar_eqS {b : Bool} (h : sclD x y = some b) (q : k (.bl b) M) : AR K (rEqU K) x y M k := ar_or1 (ar_eqD h q)
theorem ar_neS {b : Bool} (h : sclD x y = some b) (q : k (.bl (!b)) M) : AR K (rNeU K) x y M k := ar_or1 (ar_neD h q)
theorem ar_eqT (hx : Eqb x) (hy : Eqb y) (q : k (.bl (eqD x y)) M) : AR K (rEqU K) x y M k := ar_or2 (ar_eqD' hx hy q)
theorem ar_neT (hx : Eqb x) (hy : Eqb y) (q : k (.bl (!eqD x y)) M) : AR K (rNeU K) x y M k := ar_or2 (ar_neD' hx hy q)
theorem toPys_map : ∀ ds : List D, toPys ds = ds.map toPy
  | [] => rfl
  | d :: ds => by
    show toPy d :: toPys ds = _
    rw [toPys_map ds]
    rfl
theorem ar_inD {ds : List D} (hx : Eqb x) (hy : Eqb (.lst ds)) (q : k (.bl (ds.any fun z => eqD z x)) M) : AR K (rInD K) x (.lst ds) M k := fun vx vy G H Q rx ry s f => by
  have h2 := dpl_of s.same _ _ hy.1 ry
  have sh := hy.shaped
  unfold toPy at h2 sh
  refine ⟨toPy x, toPys ds, dpl_of s.same _ _ hx.1 rx, h2, hx.shaped, sh, ?_⟩
  rw [toPys_map, List.any_map]
  exact f _ M _ G H q s Step.refl rep_of_bl
/-! ### ints and texts -/
def rAbs : List V → Hp → VK → Prop := fun xs H Q => ∃ i, xs = [.int i] ∧ Q (.int (if i < 0 then -i else i)) H
theorem call_absU {X : Cx} : CallR X (.builtin "abs") rAbs := call_abs
theorem ac_abs {i : Int} (q : k (.int (if i < 0 then -i else i)) M) : AC K rAbs [.int i] M k := fun vs G H Q rx s f => by
  obtain ⟨v, r, rfl, r1, r2⟩ := rx.uncons
  unfold Reps at r2
  subst r2
  exact ⟨i, by rw [rep_int r1], f _ M _ G H q s Step.refl rep_of_int⟩
def rStrI : List V → Hp → VK → Prop := fun xs H Q => ∃ i, xs = [.int i] ∧ i.natAbs.log2 < 1920 ∧ Q (.str (toString i)) H
theorem call_strU {X : Cx} : CallR X (.type "str") rStrI := call_str_int
/-- the signs of a number -/
def shI (i : Int) : List Nat := (Str.ofString (toString i)).cps.toList
theorem ac_strI {i : Int} (h : i.natAbs.log2 < 1920) (q : k (.str (tx (shI i))) M) : AC K rStrI [.int i] M k := fun vs G H Q rx s f => by
  obtain ⟨v, r, rfl, r1, r2⟩ := rx.uncons
  unfold Reps at r2
  subst r2
  unfold shI at q
  rw [tx_codes] at q
  exact ⟨i, by rw [rep_int r1], h, f _ M _ G H q s Step.refl rep_of_str⟩
theorem sum_K {X : Cx} (hc : X.calm = true) (h : X.K = K := by rfl) : CallR X (.builtin "sum") (rSum K) := h ▸ cr_sum hc
theorem ac_sum {ns : List Int} (q : k (.int ns.sum) M) : AC K (rSum K) [.lst (ns.map D.int)] M k := fun vs G H Q rx s f => by
  obtain ⟨v, r, rfl, r1, rr⟩ := rx.uncons
  unfold Reps at rr
  subst rr
  obtain ⟨a, xs, rfl, ha, rs⟩ := rep_lst r1
  rw [rs.ints] at ha
  exact ⟨a, ns, rfl, .inl (.inl (s.same _ _ ha)), f _ M _ G H q s Step.refl rep_of_int⟩
theorem ac_intT {l : List Nat} (h : AllDigits l) (h0 : l ≠ []) (hl : l.length ≤ 4300) (q : k (.int (digitsVal l : Nat)) M) : AC K rIntT [.str (tx l)] M k := fun vs G H Q rx s f => by
  obtain ⟨v, r, rfl, r1, rr⟩ := rx.uncons
  unfold Reps at rr
  subst rr
  have e : (tx l).cps.toList = l := tx_cps l
  have hsz := sizeLine_eq
  refine ⟨tx l, (digitsVal l : Nat), by rw [rep_str r1], ?_, by rw [tx_len]; omega, ?_, f _ M _ G H q s Step.refl rep_of_int⟩
  · have := intText_digits (x := tx l) (by rw [e]; exact h) (by rw [e]; exact h0) (by rw [tx_len]; exact hl)
    rw [e] at this
    exact this
  · rw [← Array.all_toList, e, List.all_eq_true]
    intro c hc
    have := h c hc
    exact decide_eq_true (by omega)
theorem asl_tup {ds : List D} {lo hi : Option Int} (q : k (.tup (cutD ds lo hi)) M) : ASl K (rSlU K) (.tup ds) lo hi M k := fun vx G H Q rx s f => by
  obtain ⟨a, xs, rfl, ha, rs⟩ := rep_tup rx
  refine .inr (.inr ⟨a, xs, rfl, Same.seqT s.same ha, ?_⟩)
  have e1 : cutD ds lo hi = (ds.drop (HT.sIx xs.length 0 lo)).take (HT.sIx xs.length xs.length hi - HT.sIx xs.length 0 lo) := by
    unfold cutD
    rw [rs.len]
  refine ⟨fun ⟨h1, h2⟩ => ?_, fun _ p hp => ?_⟩
  · have e2 : cutD ds lo hi = ds := by
      rw [e1, h1, h2, rs.len]
      simp
    rw [e2] at q
    exact f _ M _ G H q s Step.refl (rep_mk_tup ha rs)
  · obtain ⟨s2, st2, e2⟩ := s.frozen (o := .tup (cutV xs lo hi)) hp
    exact f _ M _ _ _ q s2 st2 (rep_mk_tup (.inl (.inl upd_same)) (Reps.mono e2 _ _ (reps_cut rs lo hi)))
/-- a text, many times -/
theorem ar_mulW {l : List Nat} {n : Nat} (hl : l.length ≤ 1000) (hn : n ≤ 4000) (q : k (.str (tx (repL n l))) M) : AR K rMulS (.str (tx l)) (.int n) M k := fun vx vy G H Q rx ry s f => by
  refine ⟨tx l, (n : Nat), rep_str rx, rep_int ry, ⟨?_, ?_, ?_⟩, ?_⟩
  · rw [Bool.or_eq_false_iff]
    exact ⟨decide_eq_false (by omega), decide_eq_false (by omega)⟩
  · intro h1 _
    rw [tx_len]
    have h2 : (1000 : Int) ≤ (2 ^ 63 - 1) / (n : Int) := by
      rw [Int.le_ediv_iff_mul_le (by omega)]
      omega
    omega
  · intro h1 _
    rw [tx_len, Int.toNat_natCast]
    have h3 : l.length * n ≤ 1000 * 4000 := Nat.mul_le_mul hl hn
    have hsz := sizeLine_eq
    exact decide_eq_false (by omega)
  · rw [mul_tx]
    exact f _ M _ G H q s Step.refl rep_of_str
end
/-! ### a def in a slot, called with a starred list -/
def tCallV (P : Program) (w : World) (K : PySem.W.Frag) (mg : Str → Option Value) (base : Heap) (j i : Nat) (t : TA) : TE := fun σ H Q => ∃ f sp, σ[i]? = some (some (.ref f)) ∧ Held P w K mg base j f sp ∧ t σ H fun vs H1 => sp vs H1 Q (fun _ _ _ => False)
section
variable {X : Cx} {k j i : Nat} {x : Str} {p sp_ pos : Pos} {e : Expr} {te : TE}
theorem pe_callV (hr : Room k X.A) (hk : j ≤ k) (hN : X.N[i]? = some x) (hv : Vis X.env.scope x) (he : PE X e te)
    (hdb : (x == ("__debug__" : Str)) = false := by decide) (hcd : (x == ("__classdict__" : Str)) = false := by decide) (hst : starEach [.Starred e sp_] X.env = [(true, eval e X.env)] := by rfl) :
    PE X (.Call (.Name x p) [.Starred e sp_] [] pos) (tCallV X.prog X.w X.K X.mg X.base j i fun σ H Q => te σ H fun y H1 => ∃ a xs, y = V.ref a ∧ (SqT X.K H1 a xs ∨ SqL X.K H1 a xs) ∧ Q xs H1) := by
  refine ⟨fun pins s σ H Q I h => ?_⟩
  obtain ⟨f, sp, hs, A, ht⟩ := h
  obtain ⟨fd, ps, F, kp, hb⟩ := A.ex
  refine wpAny_Call_Name_kw (thn ((pe_var (pos := p) hN hv hdb hcd).run pins s σ H (fun v H1 => v = .ref f ∧ H1 = H) I ⟨.ref f, hs, rfl, rfl⟩) fun u s1 ⟨v, H1, I1, r1, q1⟩ => ?_)
  obtain ⟨rfl, rfl⟩ := q1
  cases r1
  refine PySem.W.callWith_S (h₀ := X.base) I.ok.mod.kin kp (thn (he.run pins s1 σ _ _ I1 ht) fun v s2 ⟨y, H2, I2, ry, a, xs, ey, hxs, q⟩ => ?_) hst
  subst ey
  obtain rfl : v = Value.ref a := ry
  refine StX.star_any I2 hxs fun us s3 I3 rv => ⟨I3.kIn, ?_⟩
  exact run_fn (E := fun _ _ _ => False) (dvs := []) (ds := []) F (hr.mono hk) hb .nil (fun _ _ _ _ _ _ _ z => z.elim) I3 rv (by rw [List.append_nil]; exact q)
end
section
variable {K : PySem.W.Frag} {P : Program} {w : World} {mg : Str → Option Value} {base : Heap} {j i : Nat} {δ : DS} {M : Mu} {te : TE} {k : D → Mu → Prop}
theorem ae_callV {f : Addr} {W : Wt} (hi : δ[i]? = some (some (.ref f))) (A : Held P w K mg base j f (Spc K W)) (h : AE K te δ M fun d M1 => ∃ ds, (d = .lst ds ∨ d = .tup ds) ∧ ∃ Mc R kc, M1 = Mc ++ R ∧ W ds Mc kc ∧ ∀ d Mc', kc d Mc' → k d (Mc' ++ R)) :
    AE K (tCallV P w K mg base j i fun σ H Q => te σ H fun y H1 => ∃ a xs, y = V.ref a ∧ (SqT K H1 a xs ∨ SqL K H1 a xs) ∧ Q xs H1) δ M k := fun σ G H Q rs s f' => by
  obtain ⟨v, hv, rv⟩ := rs.at_ i _ hi
  rw [rep_ref rv] at hv
  refine ⟨f, _, hv, A, h σ G H _ rs s ?_⟩
  rintro d M1 vx G1 H1 ⟨ds, hd, Mc, R, kc, rfl, hw, hk⟩ s1 st1 r1
  have fin : ∀ (a : Addr) (xs : List V), Reps K G1 ds xs → Spc K W xs H1 Q (fun _ _ _ => False) := fun a xs rx => by
    refine ⟨G1, ds, Mc, kc, rx, s1.sub, hw, fun d' M' v' G' H' hd s' st' rv => ?_⟩
    obtain ⟨s3, st3⟩ := s1.join s' st'
    exact f' d' _ v' G' H' (hk d' M' hd) s3 (st1.trans st3) rv
  rcases hd with rfl | rfl
  · obtain ⟨a, xs, rfl, ha, rx⟩ := rep_lst r1
    exact ⟨a, xs, rfl, .inr (.inl (.inl (s1.same _ _ ha))), fin a xs rx⟩
  · obtain ⟨a, xs, rfl, ha, rx⟩ := rep_tup r1
    exact ⟨a, xs, rfl, .inl (Same.seqT s1.same ha), fin a xs rx⟩
end
end Tg
set_option Elab.async false
set_option linter.all false
set_option maxRecDepth 100000
set_option maxHeartbeats 1000000
namespace Tg
open PySem L2 PyProof.Rows
/-! ### written dicts: texts by anything -/
def EntsV : List DictEntry → List (Str × V) → Prop
  | [], kvs => kvs = []
  | e :: r, kvs => ∃ k v s t, kvs = (k, v) :: s ∧ e.key = .str k t ∧ RelV v e.val ∧ EntsV r s
structure KTabV (K : PySem.W.Frag) (w : World) (a : Addr) (kvs : List (Str × V)) : Prop where
  ex : ∃ es n, K.lookup a = some ⟨.type "dict", none, .dict es n, #[]⟩ ∧ PySem.W.KeysLit w.params es.toList ∧ EntsV es.toList kvs
  low : (a == sysModules) = false
theorem EntsV.look : ∀ {es : List DictEntry} {kvs : List (Str × V)}, EntsV es kvs → ∀ z : Str, es.any (·.refKey) = false ∧ ((kvs.lookup z = none ∧ es.find? (·.key.isStr z) = none) ∨ ∃ e v, kvs.lookup z = some v ∧ es.find? (·.key.isStr z) = some e ∧ RelV v e.val)
  | [], _, h, z => by
    unfold EntsV at h
    subst h
    exact ⟨rfl, .inl ⟨rfl, rfl⟩⟩
  | e :: r, _, h, z => by
    unfold EntsV at h
    obtain ⟨k, v, s, t, rfl, e1, e2, h⟩ := h
    obtain ⟨i1, i2⟩ := EntsV.look h z
    have r1 : e.refKey = false := by
      unfold DictEntry.refKey
      rw [e1]
    refine ⟨by rw [List.any_cons, r1, i1]; rfl, ?_⟩
    have r2 : e.key.isStr z = (k == z) := by rw [e1]; rfl
    by_cases c : k = z
    · subst c
      have hb : (k == k) = true := beq_self_eq_true k
      exact .inr ⟨e, v, by simp [List.lookup, hb], by rw [List.find?_cons, r2, hb], e2⟩
    · have hb : (k == z) = false := beq_eq_false_iff_ne.mpr c
      have hb' : (z == k) = false := beq_eq_false_iff_ne.mpr (Ne.symm c)
      rcases i2 with ⟨i3, i4⟩ | ⟨e', v', i3, i4, i5⟩
      · exact .inl ⟨by simp [List.lookup, hb', i3], by rw [List.find?_cons, r2, hb]; exact i4⟩
      · exact .inr ⟨e', v', by simp [List.lookup, hb', i3], by rw [List.find?_cons, r2, hb]; exact i4, i5⟩
section
variable {K : PySem.W.Frag} {w : World} {δ : DS} {M M1 M2 : Mu} {ta tb te to ti tv : TE} {ts : TA} {k : D → Mu → Prop} {i : Nat} {d x y : D} {A : AEnds} {t : TS}
theorem ar_kixV {a : Addr} {kvs : List (Str × V)} {z : Str} {v : V} (tab : KTabV K w a kvs) (h : kvs.lookup z = some v) (r : ∀ G, Rep K G d v) (q : k d M) : AR K (rIxD K w) (.ref a) (.str z) M k := fun vx vy G H Q rx ry s f => by
  obtain ⟨es, n, h1, h2, h3⟩ := tab.ex
  obtain ⟨g1, g2⟩ := h3.look z
  rcases g2 with ⟨g2, _⟩ | ⟨e, v', g2, g3, g4⟩
  · rw [h] at g2; cases g2
  · rw [h] at g2
    cases g2
    refine ⟨a, z, v, rep_ref rx, rep_str ry, ⟨es, n, e.val, h1, h2, ?_, g4⟩, f _ M _ G H q s Step.refl (r G)⟩
    unfold PySem.W.nsIn
    rw [h1]
    dsimp only
    rw [g3]
/-! ### comprehensions: the list that is made stands beside -/
structure Bes (K : PySem.W.Frag) (Dl : Addr) (G1 H1 : Hp) (M1 : Mu) (acc : List D) (M' : Mu) (G' H' : Hp) : Prop where
  xs : ∃ xs, H' Dl = some (.lst xs) ∧ Reps K G' acc xs
  gn : G' Dl = none
  nm : Dl ∉ ads M'
  s : S K G' H' M'
  st : Step (ads M1) G1 H1 (ads M') G' H'
variable {Dl : Addr} {G1 H1 G' H' G2 H2 : Hp} {M' : Mu} {acc : List D}
theorem Bes.start (s1 : S K G1 H1 M1) (nD : H1 Dl = none) : Bes K Dl G1 H1 M1 [] M1 G1 (upd H1 Dl (.lst [])) := by
  have gD : G1 Dl = none := s1.same.free nD
  have nM : ∀ p ∈ M1, p.1 ≠ Dl := fun p hp => by
    obtain ⟨_, o, ho, _⟩ := s1.mu p hp
    exact ne_of_none ho nD
  refine ⟨⟨[], upd_same, Reps.nil⟩, gD, fun z => ?_, ⟨fun b u e => ?_, fun p hp => ?_, s1.nd⟩, ⟨Same.refl _, fun _ _ _ => rfl, fun b o _ e => ?_, fun b e => ?_, fun b hb => .inl hb⟩⟩
  · obtain ⟨p, hp, e⟩ := List.mem_map.mp z
    exact nM p hp e
  · rw [upd_ne (ne_of_none e gD)]
    exact s1.same b u e
  · obtain ⟨g1, o, ho, r⟩ := s1.mu p hp
    exact ⟨g1, o, by rw [upd_ne (nM p hp)]; exact ho, r⟩
  · rw [upd_ne (ne_of_none e nD)]
    exact e
  · by_cases hb : b = Dl
    · subst hb
      rw [upd_same]
      exact fun z => nomatch z
    · rw [upd_ne hb]
      exact e
theorem Bes.go (b : Bes K Dl G1 H1 M1 acc M' G' H') (s2 : S K G2 H2 M2) (st : Step (ads M') G' H' (ads M2) G2 H2) : Bes K Dl G1 H1 M1 acc M2 G2 H2 := by
  obtain ⟨xs, h1, h2⟩ := b.xs
  refine ⟨⟨xs, st.keep _ _ b.nm h1, Reps.mono st.gg _ _ h2⟩, ?_, fun z => ?_, s2, b.st.trans st⟩
  · rw [st.fr Dl (by rw [h1]; exact fun z => nomatch z) b.nm]
    exact b.gn
  · rcases st.own _ z with q | q
    · exact b.nm q
    · rw [h1] at q
      cases q
theorem Bes.app {vy : V} (b : Bes K Dl G1 H1 M1 acc M' G' H') (nD : H1 Dl = none) (r : Rep K G' y vy) : ∃ xs, H' Dl = some (.lst xs) ∧ xs.length = acc.length ∧ Bes K Dl G1 H1 M1 (acc ++ [y]) M' G' (upd H' Dl (.lst (xs ++ [vy]))) := by
  obtain ⟨xs, h1, h2⟩ := b.xs
  refine ⟨xs, h1, h2.len, ⟨xs ++ [vy], upd_same, h2.append (Reps.one r)⟩, b.gn, b.nm, ⟨fun c u e => ?_, fun p hp => ?_, b.s.nd⟩, ⟨b.st.gg, b.st.fr, fun c o hc e => ?_, fun c e => ?_, b.st.own⟩⟩
  · rw [upd_ne (ne_of_none e b.gn)]
    exact b.s.same c u e
  · obtain ⟨g1, o, ho, r⟩ := b.s.mu p hp
    exact ⟨g1, o, by rw [upd_ne (fun z => b.nm (List.mem_map.mpr ⟨p, hp, z⟩))]; exact ho, r⟩
  · rw [upd_ne (ne_of_none e nD)]
    exact b.st.keep c o hc e
  · by_cases hc : c = Dl
    · subst hc
      rw [upd_same]
      exact fun z => nomatch z
    · rw [upd_ne hc]
      exact b.st.alive c e
theorem Bes.mut (b : Bes K Dl G1 H1 M1 acc M' G' H') (nD : H1 Dl = none) : S K G' H' (M' ++ [(Dl, .lst acc)]) ∧ Step (ads M1) G1 H1 (ads (M' ++ [(Dl, .lst acc)])) G' H' := by
  obtain ⟨xs, h1, h2⟩ := b.xs
  refine ⟨⟨b.s.same, fun p hp => ?_, ?_⟩, ⟨b.st.gg, b.st.fr, b.st.keep, b.st.alive, fun c hc => ?_⟩⟩
  · rcases List.mem_append.mp hp with hp | hp
    · exact b.s.mu p hp
    · have e : p = (Dl, .lst acc) := by simpa using hp
      subst e
      exact ⟨b.gn, _, h1, xs, rfl, h2⟩
  · rw [List.map_append, List.nodup_append]
    refine ⟨b.s.nd, by simp, fun c hc e he => ?_⟩
    have e1 : e = Dl := by simpa using he
    subst e1
    exact fun z => b.nm (by rw [← z]; exact hc)
  · simp only [ads, List.map_append, List.mem_append, List.map_cons, List.map_nil, List.mem_singleton] at hc
    rcases hc with hc | hc
    · exact b.st.own c hc
    · rw [hc]
      exact .inr nD
theorem Bes.fin (b : Bes K Dl G1 H1 M1 acc M' G' H') (nD : H1 Dl = none) : ∃ G'', S K G'' H' M' ∧ Step (ads M1) G1 H1 (ads M') G'' H' ∧ Rep K G'' (.lst acc) (.ref Dl) := by
  obtain ⟨xs, h1, h2⟩ := b.xs
  have sD : S K G' H' ([] ++ (Dl, .lst acc) :: M') := ⟨b.s.same, fun p hp => by
    rcases List.mem_cons.mp hp with e | hp
    · subst e
      exact ⟨b.gn, _, h1, xs, rfl, h2⟩
    · exact b.s.mu p hp, by
    show ((Dl, MO.lst acc) :: M' |>.map (·.1)).Nodup
    rw [List.map_cons, List.nodup_cons]
    exact ⟨b.nm, b.s.nd⟩⟩
  obtain ⟨ys, s5, st5, e5, r5⟩ := sD.freeze
  refine ⟨_, s5, ⟨b.st.gg.trans e5, fun c hb hn => ?_, b.st.keep, b.st.alive, b.st.own⟩, r5⟩
  rw [upd_ne (fun z => by rw [z] at hb; exact hb nD)]
  exact b.st.fr c hb hn
/-- one clause, with what is done at the end left open -/
theorem lc_gen {wi : TI} {g : TG} {tt : TT} {vs : List Nat} (og : OwnG vs g) {kk : List D → Mu → Prop}
    (h : AI K wi δ M fun ds M1 => ds.length < sizeLine ∧ ∃ I : Nat → List D → Mu → Prop, I 0 [] M1 ∧
      (∀ i d acc M', ds[i]? = some d → I i acc M' → AG K g d (wipeD δ vs) M' fun δ2 M2 => AT K tt δ2 M2 fun b M3 => (b = true → AE K te δ2 M3 fun y M4 => I (i + 1) (acc ++ [y]) M4) ∧ (b = false → I (i + 1) acc M3)) ∧
      (∀ acc M', I ds.length acc M' → kk acc M')) {σ : L2.St} {G H : Hp} {Q : VK} (rs : RelS K G δ σ) (s : S K G H M)
    (f : ∀ acc M' M1 G1 H1 Dl G' H', kk acc M' → H1 Dl = none → Step (ads M) G H (ads M1) G1 H1 → Bes K Dl G1 H1 M1 acc M' G' H' → Q (.ref Dl) H') : tLc wi g tt te vs σ H Q :=
  h σ G H _ rs s fun ds M1 G1 H1 J ⟨hz, I, h0, hs, he⟩ s1 st1 ok Dl nD => by
    refine ⟨fun i m H' => m = ds.length - i ∧ i ≤ ds.length ∧ ∃ acc M' G', acc.length ≤ i ∧ I i acc M' ∧ Bes K Dl G1 H1 M1 acc M' G' H',
      ⟨ds.length, by simp, Nat.zero_le _, [], M1, G1, Nat.le_refl _, h0, Bes.start s1 nD⟩, ?_⟩
    rintro i m H' ⟨rfl, hi, acc, M', G', hal, hI, b⟩
    obtain ⟨o1, o2⟩ := ok i G' H' M' b.st.gg b.s
    by_cases hl : i < ds.length
    · obtain ⟨hgo, hy⟩ := o1 ds[i] (List.getElem?_eq_getElem hl)
      refine .inr ⟨hgo, fun H2 => ∃ acc M' G', acc.length ≤ i + 1 ∧ I (i + 1) acc M' ∧ Bes K Dl G1 H1 M1 acc M' G' H2, fun H2 q => ⟨ds.length - (i + 1), by omega, rfl, hl, q⟩, fun x H2 y => ?_⟩
      obtain ⟨G2, s2, st2, r2⟩ := hy x H2 y
      have rsw : RelS K G2 (wipeD δ vs) (wipe σ vs) := relS_wipe (rs.mono (st1.gg.trans (b.st.gg.trans st2.gg))) vs
      have body := hs i ds[i] acc M' (List.getElem?_eq_getElem hl) hI x (wipe σ vs) G2 H2 (fun σ2 H3 => tt σ2 H3 fun b' H4 =>
        if b' = true then te σ2 H4 fun y H5 => ∃ acc, H5 Dl = some (.lst acc) ∧ acc.length < sizeLine ∧ (fun H2 => ∃ acc M' G', acc.length ≤ i + 1 ∧ I (i + 1) acc M' ∧ Bes K Dl G1 H1 M1 acc M' G' H2) (upd H5 Dl (.lst (acc ++ [y])))
        else (fun H2 => ∃ acc M' G', acc.length ≤ i + 1 ∧ I (i + 1) acc M' ∧ Bes K Dl G1 H1 M1 acc M' G' H2) H4) r2 rsw s2 ?_
      · have fin := og.run x (wipe σ vs) H2 _ body
        rw [wipe_wipe] at fin
        exact fin
      · intro δ3 M3 σ3 G3 H3 h3 rs3 s3 st3
        refine h3 σ3 G3 H3 _ rs3 s3 fun b' M4 G4 H4 ⟨h4, h5⟩ s4 st4 => ?_
        have b4 := ((b.go s2 st2).go s3 st3).go s4 st4
        cases b' with
        | true =>
          rw [if_pos rfl]
          refine h4 rfl σ3 G4 H4 _ (rs3.mono st4.gg) s4 fun y M5 vy G5 H5 q5 s5 st5 r5 => ?_
          obtain ⟨xs, e1, e2, b5⟩ := (b4.go s5 st5).app nD r5
          exact ⟨xs, e1, by rw [e2]; omega, acc ++ [y], M5, G5, by rw [List.length_append]; exact Nat.succ_le_succ hal, q5, b5⟩
        | false =>
          rw [if_neg Bool.false_ne_true]
          exact ⟨acc, M4, G4, Nat.le_succ_of_le hal, h5 rfl, b4⟩
    · have e : i = ds.length := by omega
      subst e
      exact .inl ⟨o2 rfl, f acc M' M1 G1 H1 Dl G' H' (he acc M' hI) nD st1 b⟩
/-- a comprehension whose list will be changed -/
theorem ae_lcM {wi : TI} {g : TG} {tt : TT} {vs : List Nat} (og : OwnG vs g) (h : AI K wi δ M fun ds M1 => ds.length < sizeLine ∧ ∃ I : Nat → List D → Mu → Prop, I 0 [] M1 ∧
      (∀ i d acc M', ds[i]? = some d → I i acc M' → AG K g d (wipeD δ vs) M' fun δ2 M2 => AT K tt δ2 M2 fun b M3 => (b = true → AE K te δ2 M3 fun y M4 => I (i + 1) (acc ++ [y]) M4) ∧ (b = false → I (i + 1) acc M3)) ∧
      (∀ acc M', I ds.length acc M' → ∀ a, k (.ref a) (M' ++ [(a, .lst acc)]))) : AE K (tLc wi g tt te vs) δ M k := fun σ G H Q rs s f =>
  lc_gen og h rs s fun acc M' M1 G1 H1 Dl G' H' hk nD st1 b => by
    obtain ⟨s2, st2⟩ := b.mut nD
    exact f _ _ _ G' H' (hk Dl) s2 (st1.trans st2) rep_of_ref
/-- two clauses -/
theorem ae_lc2 {wi wi1 : TI} {g g1 : TG} {tt tt1 : TT} {vs vs1 : List Nat} (og : OwnG vs g) (og1 : OwnG vs1 g1)
    (h : AI K wi δ M fun ds M1 => ∃ I : Nat → List D → Mu → Prop, I 0 [] M1 ∧
      (∀ i d acc M', ds[i]? = some d → I i acc M' → AG K g d (wipeD δ vs) M' fun δ2 M2 => AT K tt δ2 M2 fun b M3 => (b = true → AI K wi1 δ2 M3 fun es M4 => ∃ I1 : Nat → List D → Mu → Prop, I1 0 acc M4 ∧
          (∀ j e acc1 M5, es[j]? = some e → I1 j acc1 M5 → acc1.length < sizeLine ∧ AG K g1 e (wipeD δ2 vs1) M5 fun δ3 M6 => AT K tt1 δ3 M6 fun b1 M7 => (b1 = true → AE K te δ3 M7 fun y M8 => I1 (j + 1) (acc1 ++ [y]) M8) ∧ (b1 = false → I1 (j + 1) acc1 M7)) ∧
          (∀ acc1 M5, I1 es.length acc1 M5 → I (i + 1) acc1 M5)) ∧ (b = false → I (i + 1) acc M3)) ∧
      (∀ acc M', I ds.length acc M' → k (.lst acc) M')) : AE K (tLc2 wi g tt wi1 g1 tt1 te vs vs1) δ M k := fun σ G H Q rs s f =>
  h σ G H _ rs s fun ds M1 G1 H1 J ⟨I, h0, hs, he⟩ s1 st1 ok Dl nD => by
    refine ⟨fun i m H' => m = ds.length - i ∧ i ≤ ds.length ∧ ∃ acc M' G', I i acc M' ∧ Bes K Dl G1 H1 M1 acc M' G' H',
      ⟨ds.length, by simp, Nat.zero_le _, [], M1, G1, h0, Bes.start s1 nD⟩, ?_⟩
    rintro i m H' ⟨rfl, hi, acc, M', G', hI, b⟩
    obtain ⟨o1, o2⟩ := ok i G' H' M' b.st.gg b.s
    by_cases hl : i < ds.length
    · obtain ⟨hgo, hy⟩ := o1 ds[i] (List.getElem?_eq_getElem hl)
      generalize hN : (fun H2 => ∃ acc M' G', I (i + 1) acc M' ∧ Bes K Dl G1 H1 M1 acc M' G' H2 : Hp → Prop) = Nx
      refine .inr ⟨hgo, Nx, fun H2 q => ⟨ds.length - (i + 1), by omega, rfl, hl, by rw [← hN] at q; exact q⟩, fun x H2 y => ?_⟩
      obtain ⟨G2, s2, st2, r2⟩ := hy x H2 y
      have rsw : RelS K G2 (wipeD δ vs) (wipe σ vs) := relS_wipe (rs.mono (st1.gg.trans (b.st.gg.trans st2.gg))) vs
      have body := hs i ds[i] acc M' (List.getElem?_eq_getElem hl) hI x (wipe σ vs) G2 H2 (fun σ2 H3 => tt σ2 H3 fun b' H4 =>
        if b' = true then wi1 σ2 H4 fun J1 H4 => ∃ W1 : Nat → Nat → Hp → Prop, (∃ m, W1 0 m H4) ∧ ∀ j k H, W1 j k H →
          (J1.stop j H ∧ Nx H) ∨ (J1.go j H ∧ ∃ Nx1 : Hp → Prop, (∀ H', Nx1 H' → ∃ k', k' < k ∧ W1 (j + 1) k' H') ∧ ∀ x H', J1.yld j H x H' → g1 x (wipe σ2 vs1) H' fun σ3 H5 => wipe σ3 vs1 = wipe σ2 vs1 ∧ tt1 σ3 H5 fun b H6 =>
            if b = true then te σ3 H6 fun y H7 => ∃ acc, H7 Dl = some (.lst acc) ∧ acc.length < sizeLine ∧ Nx1 (upd H7 Dl (.lst (acc ++ [y]))) else Nx1 H6)
        else Nx H4) r2 rsw s2 ?_
      · have fin := og.run x (wipe σ vs) H2 _ body
        rw [wipe_wipe] at fin
        exact fin
      · intro δ3 M3 σ3 G3 H3 h3 rs3 s3 st3
        refine h3 σ3 G3 H3 _ rs3 s3 fun b' M4 G4 H4 ⟨h4, h5⟩ s4 st4 => ?_
        have b4 := ((b.go s2 st2).go s3 st3).go s4 st4
        cases b' with
        | false =>
          rw [if_neg Bool.false_ne_true, ← hN]
          exact ⟨acc, M4, G4, h5 rfl, b4⟩
        | true =>
          rw [if_pos rfl]
          refine h4 rfl σ3 G4 H4 _ (rs3.mono st4.gg) s4 fun es M5 G5 H5 J1 ⟨I1, h10, h1s, h1e⟩ s5 st5 ok1 => ?_
          have b5 := b4.go s5 st5
          refine ⟨fun j m H' => m = es.length - j ∧ j ≤ es.length ∧ ∃ acc M' G', I1 j acc M' ∧ Same G5 G' ∧ Bes K Dl G1 H1 M1 acc M' G' H', ⟨es.length, by simp, Nat.zero_le _, acc, M5, G5, h10, Same.refl _, b5⟩, ?_⟩
          rintro j m H6 ⟨rfl, hj, acc1, M6, G6, hI1, e6, b6⟩
          obtain ⟨p1, p2⟩ := ok1 j G6 H6 M6 e6 b6.s
          by_cases hl1 : j < es.length
          · obtain ⟨hgo1, hy1⟩ := p1 es[j] (List.getElem?_eq_getElem hl1)
            generalize hN1 : (fun H2 => ∃ acc M' G', I1 (j + 1) acc M' ∧ Same G5 G' ∧ Bes K Dl G1 H1 M1 acc M' G' H2 : Hp → Prop) = Nx1
            refine .inr ⟨hgo1, Nx1, fun H2 q => ⟨es.length - (j + 1), by omega, rfl, hl1, by rw [← hN1] at q; exact q⟩, fun x H7 y => ?_⟩
            obtain ⟨G7, s7, st7, r7⟩ := hy1 x H7 y
            have e7 := e6.trans st7.gg
            have rsw1 : RelS K G7 (wipeD δ3 vs1) (wipe σ3 vs1) := relS_wipe (rs3.mono ((st4.gg.trans st5.gg).trans e7)) vs1
            obtain ⟨hsz, hb⟩ := h1s j es[j] acc1 M6 (List.getElem?_eq_getElem hl1) hI1
            have body1 := hb x (wipe σ3 vs1) G7 H7 (fun σ3 H5 => tt1 σ3 H5 fun b H6 =>
              if b = true then te σ3 H6 fun y H7 => ∃ acc, H7 Dl = some (.lst acc) ∧ acc.length < sizeLine ∧ Nx1 (upd H7 Dl (.lst (acc ++ [y]))) else Nx1 H6) r7 rsw1 s7 ?_
            · have fin := og1.run x (wipe σ3 vs1) H7 _ body1
              rw [wipe_wipe] at fin
              exact fin
            · intro δ8 M8 σ8 G8 H8 h8 rs8 s8 st8
              refine h8 σ8 G8 H8 _ rs8 s8 fun b9 M9 G9 H9 ⟨h9, h10'⟩ s9 st9 => ?_
              have bb := ((b6.go s7 st7).go s8 st8).go s9 st9
              have e9 := e7.trans (st8.gg.trans st9.gg)
              cases b9 with
              | true =>
                rw [if_pos rfl]
                refine h9 rfl σ8 G9 H9 _ (rs8.mono st9.gg) s9 fun y M10 vy G10 H10 q10 s10 st10 r10 => ?_
                obtain ⟨xs, x1, x2, b11⟩ := (bb.go s10 st10).app nD r10
                rw [← hN1]
                exact ⟨xs, x1, by rw [x2]; exact hsz, acc1 ++ [y], M10, G10, q10, e9.trans st10.gg, b11⟩
              | false =>
                rw [if_neg Bool.false_ne_true, ← hN1]
                exact ⟨acc1, M9, G9, h10' rfl, e9, bb⟩
          · have e : j = es.length := by omega
            subst e
            refine .inl ⟨p2 rfl, ?_⟩
            rw [← hN]
            exact ⟨acc1, M6, G6, h1e acc1 M6 hI1, b6⟩
    · have e : i = ds.length := by omega
      subst e
      obtain ⟨G'', s2, st2, r2⟩ := b.fin nD
      exact .inl ⟨o2 rfl, f _ M' _ G'' H' (he acc M' hI) s2 (st1.trans st2) r2⟩
end
end Tg
set_option Elab.async false
set_option linter.all false
set_option maxRecDepth 100000
set_option maxHeartbeats 1000000
namespace Tg
open PySem L2 PyProof.Rows
section
variable {K : PySem.W.Frag} {w : World} {δ : DS} {M M1 M2 : Mu} {ta tb te td ty to ti tv : TE} {ts : TA} {k : D → Mu → Prop} {i : Nat} {d x y : D} {A : AEnds} {t : TS}
/-- the pairs of a display -/
def APs (K : PySem.W.Frag) (δ : DS) : List (TE × TE) → Mu → (List (D × D) → Mu → Prop) → Prop
  | [], M, k => k [] M
  | (tk, tv) :: r, M, k => AE K tk δ M fun x M1 => AE K tv δ M1 fun y M2 => APs K δ r M2 fun ps M3 => k ((x, y) :: ps) M3
def RepPs (K : PySem.W.Frag) (G : Hp) : List (D × D) → List (V × V) → Prop
  | [], xs => xs = []
  | (a, b) :: ds, xs => ∃ x y r, xs = (x, y) :: r ∧ Rep K G a x ∧ Rep K G b y ∧ RepPs K G ds r
theorem aps_run : ∀ {trs : List (TE × TE)} {M : Mu} {k : List (D × D) → Mu → Prop} {σ : L2.St} {G H : Hp} {Q : List (V × V) → Hp → Prop}, APs K δ trs M k → RelS K G δ σ → S K G H M →
    (∀ ps M' vs G' H', k ps M' → S K G' H' M' → Step (ads M) G H (ads M') G' H' → RepPs K G' ps vs → Q vs H') → tPairs trs σ H Q
  | [], M, k, σ, G, H, Q, h, rs, s, f => f [] M [] G H h s Step.refl rfl
  | (tk, tv) :: r, M, k, σ, G, H, Q, h, rs, s, f => by
    unfold APs at h
    unfold tPairs
    refine h σ G H _ rs s fun x M1 vx G1 H1 h1 s1 st1 r1 => h1 σ G1 H1 _ (rs.mono st1.gg) s1 fun y M2 vy G2 H2 h2 s2 st2 r2 => ?_
    refine aps_run h2 (rs.mono (st1.trans st2).gg) s2 fun ps M3 vs G3 H3 h3 s3 st3 r3 => ?_
    refine f _ M3 _ G3 H3 h3 s3 ((st1.trans st2).trans st3) ?_
    unfold RepPs
    exact ⟨vx, vy, vs, rfl, Rep.mono (st2.trans st3).gg _ _ r1, Rep.mono st3.gg _ _ r2, r3⟩
def mergeD (kvs more : List (Key × D)) : List (Key × D) := more.foldl (fun acc kv => putD acc kv.1 kv.2) kvs
theorem repPs_key {G : Hp} : ∀ {kvs : List (Key × D)} {vs : List (V × V)}, RepPs K G (kvs.map fun p => (keyD p.1, p.2)) vs → ∃ xs : List (Key × V), vs = xs.map (fun kv => (kV kv.1, kv.2)) ∧ RepKV K G kvs xs
  | [], vs, h => by
    unfold RepPs at h
    rw [List.map_nil] at h
    exact ⟨[], h, by unfold RepKV; rfl⟩
  | (q, d) :: r, vs, h => by
    rw [List.map_cons] at h
    unfold RepPs at h
    obtain ⟨x, y, r', rfl, h1, h2, h3⟩ := h
    obtain ⟨xs, rfl, h4⟩ := repPs_key h3
    exact ⟨(q, y) :: xs, by rw [rep_key h1]; rfl, by unfold RepKV; exact ⟨y, xs, rfl, h2, h4⟩⟩
theorem repKV_merge {G : Hp} : ∀ {more : List (Key × D)} {ms : List (Key × V)} {kvs : List (Key × D)} {xs : List (Key × V)}, RepKV K G more ms → RepKV K G kvs xs → RepKV K G (mergeD kvs more) (mergeK xs ms)
  | [], _, kvs, xs, h, g => by
    unfold RepKV at h
    rw [h]
    exact g
  | (q, d) :: r, _, kvs, xs, h, g => by
    unfold RepKV at h
    obtain ⟨x, r', rfl, h1, h2⟩ := h
    show RepKV K G (mergeD (putD kvs q d) r) (mergeK (putK xs q x) r')
    exact repKV_merge h2 (repKV_put h1 g)
theorem mergeD_len : ∀ (more kvs : List (Key × D)), (mergeD kvs more).length ≤ kvs.length + more.length
  | [], kvs => by show kvs.length ≤ kvs.length + 0; omega
  | p :: r, kvs => by
    have h1 := mergeD_len r (putD kvs p.1 p.2)
    have h2 := put_len (kvs := kvs) (q := p.1) (v := p.2)
    show (mergeD (putD kvs p.1 p.2) r).length ≤ _
    rw [List.length_cons]; omega
/-- a display that may be changed later -/
theorem ae_disp {trs : List (TE × TE)} (h : APs K δ trs M fun ps M' => ∃ kvs : List (Key × D), ps = kvs.map (fun p => (keyD p.1, p.2)) ∧ kvs.length ≤ 15 ∧ ∀ a, k (.ref a) (M' ++ [(a, .dK (mergeD [] kvs))])) : AE K (tDisp trs) δ M k := fun σ G H Q rs s f p hp => by
  have hpM : p ∉ ads M := fun z => by
    obtain ⟨q, hq, e⟩ := List.mem_map.mp z
    obtain ⟨_, o, ho, _⟩ := s.mu q hq
    rw [e, hp] at ho
    cases ho
  obtain ⟨s2, st2⟩ := s.junk (o := .dK []) hp
  refine aps_run h rs s2 ?_
  rintro ps M' vs G' H' ⟨kvs, rfl, hl, q⟩ s3 st3 r3
  have hd := st3.keep p _ hpM upd_same
  have st := st2.trans st3
  obtain ⟨xs, rfl, rk⟩ := repPs_key r3
  have gp : G' p = none := by
    rw [st3.fr p (by rw [upd_same]; exact fun z => nomatch z) hpM]
    exact s.same.free hp
  have nM : ∀ q ∈ M', q.1 ≠ p := fun q hq e => by
    rcases st3.own p (List.mem_map.mpr ⟨q, hq, e⟩) with z | z
    · exact hpM z
    · rw [upd_same] at z
      cases z
  have rm : RepKV K G' (mergeD [] kvs) (mergeK [] xs) := repKV_merge rk (by unfold RepKV; rfl)
  refine ⟨hd, xs, rfl, by rw [repKV_len rk]; exact hl, f _ _ _ _ _ (q p) ⟨fun b u e => ?_, fun q hq => ?_, ?_⟩ ⟨st.gg, st.fr, fun b o hb e => ?_, fun b e => ?_, fun b hb => ?_⟩ rep_of_ref⟩
  · rw [upd_ne (ne_of_none e gp)]
    exact s3.same b u e
  · rcases List.mem_append.mp hq with hq | hq
    · obtain ⟨g1, o1, h1, r1⟩ := s3.mu q hq
      exact ⟨g1, o1, by rw [upd_ne (nM q hq)]; exact h1, r1⟩
    · have e : q = (p, .dK (mergeD [] kvs)) := by simpa using hq
      subst e
      exact ⟨gp, _, upd_same, _, rfl, rm⟩
  · rw [List.map_append, List.nodup_append]
    refine ⟨s3.nd, by simp, fun c hc e he => ?_⟩
    have e1 : e = p := by simpa using he
    subst e1
    obtain ⟨q, hq, rfl⟩ := List.mem_map.mp hc
    exact nM q hq
  · rw [upd_ne (ne_of_none e hp)]
    exact st.keep b o hb e
  · by_cases hb : b = p
    · subst hb
      rw [upd_same]
      exact fun z => nomatch z
    · rw [upd_ne hb]
      exact st.alive b e
  · simp only [ads, List.map_append, List.mem_append, List.map_cons, List.map_nil, List.mem_singleton] at hb
    rcases hb with hb | hb
    · exact st.own b hb
    · rw [hb]
      exact .inr hp
/-- a dict that may change, read -/
theorem ae_dgetM (h : AE K td δ M fun o M1 => AE K ty δ M1 fun j M2 => ∃ a kvs N1 N2 key v, o = .ref a ∧ j = keyD key ∧ M2 = N1 ++ (a, MO.dK kvs) :: N2 ∧ valD kvs key = some v ∧ k v M2) : AE K (tDGet td ty) δ M k := fun σ G H Q rs s f =>
  h σ G H _ rs s fun o M1 vo G1 H1 h1 s1 st1 r1 => h1 σ G1 H1 _ (rs.mono st1.gg) s1 fun j M2 vj G2 H2 ⟨a, kvs, N1, N2, key, v, e1, e2, e3, e4, q⟩ s2 st2 r2 => by
    subst e1 e2
    obtain ⟨g0, o, ho, r⟩ := s2.mu (a, .dK kvs) (by rw [e3]; simp)
    obtain ⟨xs, rfl, rx⟩ := r
    obtain ⟨v', hv, rv⟩ := (repKV_get (q := key) rx).1 v e4
    refine ⟨a, v', rep_ref r1, ?_, f v M2 v' G2 H2 q s2 (st1.trans st2) rv⟩
    rw [rep_key r2, ← hv]
    exact DGet.k ho
/-- what may change, sorted otherwise -/
theorem ae_perm {M' : Mu} (hp : M.Perm M') (h : AE K te δ M' k) : AE K te δ M k := fun σ G H Q rs s f =>
  h σ G H Q rs (s.perm hp) fun d M2 v G2 H2 q s2 st2 r2 => f d M2 v G2 H2 q s2 (st2.perm (fun b => (ads_perm hp b).symm) fun _ => Iff.rfl) r2
theorem as_perm {M' : Mu} (hp : M.Perm M') (h : AS K t δ M' A) : AS K t δ M A := fun σ G H E rs s f =>
  h σ G H E rs (s.perm hp) ⟨fun δ2 M2 σ2 G2 H2 q r s2 st2 => f.nx δ2 M2 σ2 G2 H2 q r s2 (st2.perm (fun b => (ads_perm hp b).symm) fun _ => Iff.rfl),
    fun d M2 v G2 H2 q s2 st2 r2 => f.rt d M2 v G2 H2 q s2 (st2.perm (fun b => (ads_perm hp b).symm) fun _ => Iff.rfl) r2,
    fun δ2 M2 σ2 G2 H2 q r s2 st2 => f.bk δ2 M2 σ2 G2 H2 q r s2 (st2.perm (fun b => (ads_perm hp b).symm) fun _ => Iff.rfl),
    fun δ2 M2 σ2 G2 H2 q r s2 st2 => f.ct δ2 M2 σ2 G2 H2 q r s2 (st2.perm (fun b => (ads_perm hp b).symm) fun _ => Iff.rfl),
    fun fs M2 d G2 H2 q s2 st2 => f.xs fs M2 d G2 H2 q s2 (st2.perm (fun b => (ads_perm hp b).symm) fun _ => Iff.rfl),
    fun C δ2 M2 σ2 G2 H2 q r s2 st2 => f.ps C δ2 M2 σ2 G2 H2 q r s2 (st2.perm (fun b => (ads_perm hp b).symm) fun _ => Iff.rfl)⟩
end
end Tg
namespace Tg
open PySem L2 PyProof.Rows
/-! ### constants of the top -/
inductive CAll (K : PySem.W.Frag) (G : Hp) : List Value → List D → Prop
  | nil : CAll K G [] []
  | cons {u : Value} {us : List Value} {d : D} {ds : List D} : (∃ v, RelV v u ∧ Rep K G d v) → CAll K G us ds → CAll K G (u :: us) (d :: ds)
theorem CAll.vals {K : PySem.W.Frag} {G : Hp} : ∀ {us : List Value} {ds : List D}, CAll K G us ds → ∃ vs, Vals vs us ∧ Reps K G ds vs
  | _, _, .nil => ⟨[], .nil, Reps.nil⟩
  | _, _, .cons ⟨v, h1, h2⟩ t => by
    obtain ⟨vs, h3, h4⟩ := CAll.vals t
    exact ⟨v :: vs, .cons h1 h3, Reps.cons h2 h4⟩
theorem rep_ctup {K : PySem.W.Frag} {G : Hp} {a : Addr} {dd : Option Addr} {its : List Value} {ds : List D} {n : Nat} {sl : Array (Option Value)} (hl : K.lookup a = some ⟨.type "tuple", dd, .seq its.toArray n, sl⟩) (hz : its.length ≤ sizeLine) (h : CAll K G its ds) : Rep K G (.tup ds) (.ref a) := by
  obtain ⟨vs, h1, h2⟩ := h.vals
  exact rep_mk_tup (xs := vs) (.inr ⟨_, its.toArray, n, hl, rfl, rfl, by simpa using hz, by simpa using h1⟩) h2
/-- a def's promise, by its address -/
theorem held_of {P : Program} {w : World} {K : PySem.W.Frag} {mg : Str → Option Value} {base : Heap} {k : Nat} {x : Str} {sp : Sp} {f : Addr} (c : C8.Cal P w K mg base k x sp []) (hm : mg x = some (.ref f)) : Held P w K mg base k f sp := by
  obtain ⟨f', fd, ps, ds, F, hm', kp, b, v⟩ := c.ex
  have e : f' = f := by
    have := hm'.symm.trans hm
    injection this with this
    injection this
  subst e
  cases v
  exact ⟨fd, ps, F, kp, b⟩
end Tg
set_option Elab.async false
set_option linter.all false
set_option maxRecDepth 100000
set_option maxHeartbeats 2000000
/-! TgT: all(test for x in text), the test reads a module's name. -/
namespace Tg
open PySem PySem.Spec PyProof.Rows L2 GxR
/-- an element that may read the module's names -/
def EltG (prog : Program) (w : World) (mg : Str → Option Value) (sc : Scope) (x : Str) (elt : Expr) (pb : Nat → Bool) : Prop :=
  ∀ (env : Env) (B : Around) (EE : Value → Shared → Prop) (c : Nat) (t : Tok) (z : Shared) (m : Str → Option Value),
    env.scope = sc → env.globals = mainGlobals → z.heap.Ns mainGlobals mg → z.heap.Ns env.locals m → m x = some (.str ⟨#[c]⟩ t) →
    wpAny (model prog w) B (eval elt env) (fun y z' => y = .bool (pb c) ∧ Keeps z z') EE z
/-- x in NAME, NAME a module's text -/
theorem elt_in {prog : Program} {w : World} {mg : Str → Option Value} {sc : Scope} {x g zs : Str} {tk : Tok} {p1 p2 p3 : Pos} (hk : sc.kind = .function) (hl : sc.names.lookup x = some .local) (hg : sc.names.lookup g = some .globalImplicit)
    (hm : mg g = some (.str zs tk)) (hd : (x == ("__debug__" : Str)) = false := by decide) (hd2 : (g == ("__debug__" : Str)) = false := by decide) :
    EltG prog w mg sc x (.Compare (.Name x p1) [.In] [.Name g p2] p3) (fun c => Txt.contains zs ⟨#[c]⟩) := fun env B EE c t z m e1 e2 gN lN mx => by
  refine wpAny_Compare1 (wpAny_Name (wpAny_loadName_local (by rw [e1]; exact hk) (show env.scope.names.lookup x = some .local by rw [e1]; exact hl) lN mx ?_) hd)
  refine Calls.Name_function_global (by rw [e1]; exact hk) (show env.scope.names.lookup g = some .globalImplicit by rw [e1]; exact hg) (Calls.loadGlobal_global (by rw [e2]; exact gN) hm ?_) hd2
  exact PySem.SB.contains ⟨rfl, keeps_refl _⟩
/-- the code object of the generator: found, or made anew -/
theorem gen_code {M : Model} {A : Around} {env : Env} {c P : Addr} {ps : Array Value} {gp : Pos} {nm : Str} {sc : Scope} {u : Shared} {E : Value → Shared → Prop} {Qc : Value → Shared → Prop}
    (hcode : env.code = .ref c) (CH : PySem.W.CodeHd u.heap c P) (tab : u.heap.get? P = some { cls := .none, data := .fields ps }) (hT : TriplesOk ps.toList)
    (k : ∀ (cv : Value) (h3 : Heap) (n : Nat) (more : Array Value), Heap.ExtBut P u.heap h3 → u.heap.objs.size ≤ h3.objs.size → h3.get? P = some { cls := .none, data := .fields (ps ++ more) } → TriplesOk (ps ++ more).toList →
      Qc cv { u with heap := h3, toks := n }) : wpAny M A (genexprCode env gp nm sc) Qc E u := by
  cases hf : codeAmong gp ps.toList with
  | some cv =>
    have e := k cv u.heap u.toks #[] (Heap.ExtBut.refl _ _) (Nat.le_refl _) (by rw [Array.append_empty]; exact tab) (by rw [Array.append_empty]; exact hT)
    exact wpAny_genexprCode_hit hcode (CH.code tab hT) hf e
  | none =>
    refine wpAny_genexprCodeX hcode (CH.code tab hT) (CH.tab tab) hf fun c' h' n ex ge lt isC _ isT _ => ?_
    obtain ⟨_, _, _, _, _, _, _, _, _, _, _, _, _, _, _, _, _, _, _, tr, _⟩ := isC
    exact k _ h' n _ ex (Nat.le_trans ge (Nat.le_of_lt lt)) isT.2 tr
section
variable {X : Cx} {pins : List (Addr × Obj)} {σ : L2.St} {H : Hp} {s : Shared}
/-- the generator of such tests over the signs of a text -/
theorem gen_txt {c P : Addr} {elt iter : Expr} {x : Str} {px gp : Pos} {sc : Scope} {pb : Nat → Bool} {te : TE} {k : Nat} {QQ : Value → Shared → Prop} {R : Str → Hp → Prop}
    (hr : Room k X.A) (TB : TabB X.base X.mg c P) (hcode : X.env.code = .ref c) (GS : GenS X.env sc x) (hi : PE X iter te) (hel : EltG X.prog X.w X.mg sc x elt pb) (hs : ∀ v, genFold iter X.env v = pure v)
    (I : Inv X pins σ H s) (h : te σ H fun v H1 => ∃ a : Str, v = .str a ∧ TabG H1 P ∧ R a H1) (hQ : ∀ a H1 g z, R a H1 → Ready X pins σ H1 P a pb g z → QQ (.ref g) z) :
    wpAny (model X.prog X.w) X.A (eval (.GeneratorExp elt [⟨.Name x px, iter, [], 0⟩] sc gp) X.env) QQ X.xe s := by
  refine wpAny_GeneratorExp_walksQ hr.hd GS.co (closure_ok GS.free) GS.cell GS.dot GS.loc GS.kind (by have := hr.dp; omega) ?_ hs
  refine thn (hi.run pins s σ H _ I h) ?_
  rintro xv u ⟨v, H1, J, rv, a, rfl, ⟨ps, hP, hT⟩, hR⟩
  obtain ⟨tk, rfl⟩ := _root_.id rv
  refine wpAny_pyIter_str fun o St W w0 => ?_
  -- what stands in the heap, with the iterator on top
  have tabU := J.hok P _ hP
  have ltP := Heap.lt_size tabU
  have tabO := Heap.get?_push_of_some o tabU
  have gU : u.heap.Ns mainGlobals X.mg := J.mod.glob.keeps J.bk
  have lim := J.nolimit.push o
  have CH : PySem.W.CodeHd (u.heap.push o) c P := TB.code.keeps fun b y e => Heap.get?_push_of_some o (J.bk b y e)
  have ltS : cStatics < u.heap.objs.size := let ⟨_, z, _⟩ := J.nolimit; z.lt
  have neS : cStatics ≠ P := fun e => by
    obtain ⟨_, ⟨_, _, _, q, qd, _⟩, _⟩ := J.nolimit
    rw [e, tabU] at q
    cases q
    cases qd
  have szO : (u.heap.push o).objs.size = u.heap.objs.size + 1 := Heap.size_push ..
  refine ⟨lim, gen_code hcode CH tabO hT fun cv h3 n more ex sz3 tab3 tr3 => ?_⟩
  have old3 : ∀ b y, b ≠ P → u.heap.get? b = some y → h3.get? b = some y := fun b y ne e => ex b y ne (Heap.get?_push_of_some o e)
  have g3 : h3.Ns mainGlobals X.mg := (gU.push o).extBut ex TB.gP
  have sz4 : u.heap.objs.size < h3.objs.size := by
    have sz3' : (u.heap.push o).objs.size ≤ h3.objs.size := sz3
    omega
  obtain ⟨bm, ob, b1, b2, b3, b4, b5, b6, b7, b8⟩ := TB.bm
  refine wpAny_builtinsFor (m := X.mg) (by rw [J.ok.glob]; exact g3) b1 b2 (old3 _ _ b4 (J.bk _ _ b5)) b6 b7 b8 ?_
  refine ⟨u.heap.objs.size, [u.heap.objs.size], [u.heap.objs.size], a.cps.size, SignAt a, St, (fun _ => true), (fun i y => ∃ d, a.cps[i]? = some d ∧ y = .bool (pb d)), rfl, W, ?_, ?_, lim.extBut ex neS, ?_, ?_, ?_⟩
  · exact (W X.A hr.hd).frame _ _ _ w0 fun b hb y e => ex b y (by rw [List.mem_singleton.mp hb]; exact Nat.ne_of_gt ltP) e
  · intro b hb
    rw [List.mem_singleton.mp hb]
    exact sz4
  · intro z
    exact Nat.ne_of_lt ltS (List.mem_singleton.mp z)
  · refine fun hr2 ext => ⟨fun B EE i v z m hB hv hn hm hk => ?_, fun B EE i v z m hB hv hp hn hm hk => ?_⟩
    · simp only [List.forIn_nil]
      exact wpAny_pure ⟨rfl, keeps_refl _⟩
    · obtain ⟨d, t, hd, rfl⟩ := hv
      obtain ⟨og, es, ep, eg, rest⟩ := g3
      have gz : z.heap.Ns mainGlobals X.mg := ⟨og, es, ep, hk _ (List.mem_range.mpr (Heap.lt_size eg)) (fun q => Nat.ne_of_lt gU.lt (List.mem_singleton.mp q)) _ (ext _ _ eg), rest⟩
      exact wpAny_mono (hel _ B EE d t z m rfl J.ok.glob gz hn hm) (fun y z' r => ⟨⟨d, hd, r.1⟩, r.2⟩) fun _ _ e => e
  · intro g h5 n5 gs bare lt5 sz5 keep5 W5 at5
    simp only [GxR.passing_true, List.length_range] at W5
    refine hQ a H1 g _ hR ⟨_, _, _, _, _, W5.in4_1, at5, ?_, fun s' mv => ?_⟩
    · rintro j y sj Qj Ej ⟨i, hij, d, hd, rfl⟩ hQj
      obtain ⟨hj, ej⟩ := List.getElem?_eq_some_iff.mp hij
      rw [List.getElem_range] at ej
      subst ej
      have e9 : trF pb a.cps.toList j = pb d := trF_some (by rw [Array.getElem?_toList]; exact hd)
      rw [e9] at hQj
      exact wpAny_truthy_bool hQj
    · have notW : ∀ b y, u.heap.get? b = some y → b ∉ h3.objs.size :: [u.heap.objs.size] := fun b y e hb => by
        have l1 := Heap.lt_size e
        rcases List.mem_cons.mp hb with z | z
        · have l2 : (h3.objs.size : Nat) < u.heap.objs.size := by rw [← z]; exact l1
          omega
        · rw [List.mem_singleton.mp z] at l1
          exact Nat.lt_irrefl _ l1
      have K5 := inv_tab (more := more) (h' := s'.heap) (g' := s'.gens) (d' := s'.drawn) (t' := s'.toks) J hP (fun b y ne e => mv.heap b y (notW b y e) (keep5 b y (old3 b y ne e)))
        (mv.heap P _ (notW P _ tabU) (keep5 P _ tab3)) (AllBare.movedS (J.bare.push bare) mv)
      rw [sh_eta u s' mv.os] at K5
      exact ⟨_, ⟨⟨_, upd_same, tr3⟩, fun b ne => upd_ne ne⟩, K5⟩
/-- all(test for x in text) -/
theorem pe_allG {c P : Addr} {elt iter : Expr} {x : Str} {px p pos gp : Pos} {sc : Scope} {pb : Nat → Bool} {te : TE} {k : Nat}
    (hr : Room k X.A) (hg : Gl X "all") (hm : X.mg "all" = none) (hb : bootBuiltins "all" = some (.builtin "all")) (TB : TabB X.base X.mg c P) (hcode : X.env.code = .ref c) (GS : GenS X.env sc x) (hi : PE X iter te)
    (hel : EltG X.prog X.w X.mg sc x elt pb) (hs : ∀ v, genFold iter X.env v = pure v)
    (he : starEach [.GeneratorExp elt [⟨.Name x px, iter, [], 0⟩] sc gp] X.env = (false, eval (.GeneratorExp elt [⟨.Name x px, iter, [], 0⟩] sc gp) X.env) :: starEach [] X.env := by rfl) :
    PE X (.Call (.Name "all" p) [.GeneratorExp elt [⟨.Name x px, iter, [], 0⟩] sc gp] [] pos) (tAllS P pb te) := ⟨fun pins s σ H Q I h => by
  refine wpAny_Call_Name_kw (ld_blt I hg hm hb (PyProof.Rows.callWith_builtin1 ?_ he (by rfl)))
  rw [he]
  show wpAny _ _ (spliced ((false, eval (.GeneratorExp elt [⟨.Name x px, iter, [], 0⟩] sc gp) X.env) :: backTo pos (starEach [] X.env))) _ _ s
  refine Calls.spliced_cons (gen_txt (R := fun a H1 => ∀ H2, Tabbed P H1 H2 → Q (.bl (a.cps.toList.all pb)) H2) hr TB hcode GS hi hel hs I h ?_)
  rintro a H1 g z R0 ⟨fp, wr, G, F, St, W, w0, tr, back⟩
  refine Calls.spliced_nil (call_all_walkS (W.self 0 _ _ _ w0 ⟨g, fp, wr, G, _, F, St, _, rfl, W, w0, tr, fun s' mv => ?_⟩))
  obtain ⟨H2, tb, J⟩ := back s' mv
  exact ⟨.bl _, H2, J, rfl, by rw [all_signs a pb]; exact R0 H2 tb⟩⟩
end
section
variable {K : PySem.W.Frag} {δ : DS} {M : Mu} {k : D → Mu → Prop} {te : TE} {P : Addr} {pb : Nat → Bool}
/-- .. read: the table stands among what may change -/
theorem ae_allS (h : AE K te δ M fun d M1 => ∃ l N1 N2, d = .str (tx l) ∧ M1 = N1 ++ (P, .tb) :: N2 ∧ k (.bl (l.all pb)) M1) : AE K (tAllS P pb te) δ M k := fun σ G H Q rs s f =>
  h σ G H _ rs s fun d M1 v G1 H1 ⟨l, N1, N2, e1, e2, q⟩ s1 st1 r1 => by
    subst e1 e2
    obtain ⟨g0, o, ho, ps, rfl, tr⟩ := s1.mu (P, .tb) (by simp)
    refine ⟨tx l, rep_str r1, ⟨ps, ho, tr⟩, fun H2 ⟨⟨ps2, h2, tr2⟩, hk⟩ => ?_⟩
    have e : H2 = upd H1 P (.tbl ps2) := by
      funext b
      by_cases hb : b = P
      · rw [hb, h2, upd_same]
      · rw [hk b hb, upd_ne hb]
    subst e
    obtain ⟨s2, st2⟩ := s1.write (o := .tbl ps2) (m' := .tb) ⟨ps2, rfl, tr2⟩
    have e3 : (tx l).cps.toList = l := tx_cps l
    rw [e3]
    exact f _ _ _ _ _ q s2 (st1.trans st2) rep_of_bl
end
/-- a look at a generator's scope -/
def genC (sc : Scope) (x : Str) : Bool := decide (sc.kind = .function) && !sc.isCoroutine && sc.names.all (fun y => !decide (y.2 = .cell) && !decide (y.2 = .free)) && decide (sc.names.lookup (".0" : Str) = some NameKind.local) && decide (sc.names.lookup x = some .local)
theorem genS_by {env : Env} {sc : Scope} {x : Str} (h : genC sc x = true) : GenS env sc x := by
  unfold genC at h
  simp only [Bool.and_eq_true, decide_eq_true_eq, Bool.not_eq_true', List.all_eq_true, decide_eq_false_iff_not] at h
  obtain ⟨⟨⟨⟨h1, h2⟩, h3⟩, h4⟩, h5⟩ := h
  exact ⟨h1, h2, fun y hy => (h3 y hy).1, h4, h5, fun y hy e => absurd e (h3 y hy).2⟩
/-! ### a def whose code object is told -/
structure FunB (K : PySem.W.Frag) (x qual : Str) (st : Stmt) (f : Addr) (fd : FuncData) (c : Addr) : Prop where
  ex : ∃ (oc : Value) (od : Option Addr) (kV doc pm : Value) (an : Option Addr) (ct : Value) (osl : Array (Option Value)),
    fd = PySem.W.fnOf x qual (defArgs st) (defBody st) (defScope st) .none kV doc pm an (.ref c) ct ∧ K.lookup f = some ⟨oc, od, .func fd, osl⟩ ∧ PySem.W.codeIn K (.ref c) qual = true
section
variable {P : Program} {w : World} {K : PySem.W.Frag} {mg : Str → Option Value} {base : Heap}
theorem spc_okB {W : Wt} {x qual : Str} {st : Stmt} {f c : Addr} {fd : FuncData} {N ps : List Str} {k : Nat} (F : FunB K x qual st f fd c) (Sc : FnScope N ps (defScope st)) (len : ∀ ds M kk, W ds M kk → ds.length = ps.length)
    (hbody : ∀ (A : Around) (outer : List Env) (s : Shared) (H : Hp) (E : XK), Room k (A.deeper (envOfC qual (defScope st) s.heap.objs.size f (.ref c))) →
      ∃ t, PSs (cxOf CX0 P w K mg base N qual (defScope st) f (.ref c) A outer s H E).nox (defBody st) t ∧ ∀ ds M kk, W ds M kk → AS K t (startD N.length ds) M { nx := fun _ M' => kk .non M', rt := kk }) : FnOk P w K mg base CX0 (k + 1) f fd ps (Spc K W) := by
  obtain ⟨oc, od, kV, doc, pm, an, ct, osl, rfl, lk, hcd⟩ := F.ex
  refine fn_of lk hcd Sc ?_ ?_
  · rintro vs H Q E ⟨G, ds, M, kk, r, _, hw, _⟩
    rw [r.len]
    exact len ds M kk hw
  · rintro A outer s H vs Q E hr ⟨G, ds, M, kk, r, hs, hw, q⟩
    obtain ⟨t, pt, ht⟩ := hbody A outer s H E hr
    exact ⟨t, pt.nox, ht ds M kk hw (start N vs) G H _ (relS_start r) hs
      ⟨fun _ M' _ G' H' a _ s' st' => q .non M' .non G' H' a s' st' rep_of_non, fun d M' v G' H' a s' st' rv => q d M' v G' H' a s' st' rv, fun _ _ _ _ _ a => a.elim, fun _ _ _ _ _ a => a.elim, fun _ _ _ _ _ a => a.elim, fun _ _ _ _ _ _ a => a.elim⟩⟩
end
/-- a def of the top whose table of code objects is at P -/
structure DefB (K : PySem.W.Frag) (mg : Str → Option Value) (base : Heap) (x : Str) (st : Stmt) (ps : List Str) (P : Addr) : Prop where
  ex : ∃ f fd c, FunB K x x st f fd c ∧ mg x = some (.ref f) ∧ Binds K fd ps [] ∧ PySem.W.keepIn K (.ref f) = true ∧ TabB base mg c P
theorem cal_ofB {Pr : Program} {w : World} {K : PySem.W.Frag} {mg : Str → Option Value} {base : Heap} {x : Str} {st : Stmt} {ps : List Str} {k : Nat} {sp : Sp} {P : Addr} (D : DefB K mg base x st ps P)
    (ok : ∀ f fd c, FunB K x x st f fd c → TabB base mg c P → FnOk Pr w K mg base CX0 k f fd ps sp) : C8.Cal Pr w K mg base k x sp [] := by
  obtain ⟨f, fd, c, F, m, b, kp, tb⟩ := D.ex
  exact ⟨f, fd, ps, [], ok f fd c F tb, m, kp, b, .nil⟩
/-- a law's question where one table may grow -/
theorem asks_tab {K : PySem.W.Frag} {H : Hp} {a P : Addr} {ns : List Int} {W : Wt} (hT : H P = some (.tbl #[])) (hS : SqL K H a (ns.map V.int)) (hw : W [.lsk (ns.map D.int)] [(P, .tb)] fun d _ => d = .bl true) : Spc K W [.ref a] H (fun v _ => v = .bl true) (fun _ _ _ => False) := by
  have other : ∀ b y, H b = some y → (∀ q, y ≠ .tbl q) → (if b = P then none else H b) = some y := fun b y e n => by
    rw [if_neg, e]
    intro z
    rw [z, hT] at e
    exact n _ (Option.some.inj e).symm
  have hS2 : SqL K (fun b => if b = P then none else H b) a (ns.map V.int) := by
    rcases hS with (h | ⟨o, h⟩) | h
    · exact .inl (.inl (other _ _ h fun q z => by cases z))
    · exact .inl (.inr ⟨o, other _ _ h fun q z => by cases z⟩)
    · exact .inr h
  refine ⟨_, [.lsk (ns.map D.int)], [(P, .tb)], fun d _ => d = .bl true, Reps.one (rep_mk_lsk hS2 Reps.ofInts), ⟨fun b y e => ?_, fun q hq => ?_, by simp⟩, hw, ?_⟩
  · by_cases z : b = P
    · rw [if_pos z] at e
      cases e
    · rw [if_neg z] at e
      exact e
  · rw [List.mem_singleton.mp hq]
    exact ⟨if_pos rfl, _, hT, _, rfl, trivial⟩
  · rintro d M' v G' H' rfl _ _ r
    exact rep_bl r
/-- the end of a law with one table: nm, the def that has it -/
theorem walk_tab {l : PySem.W.OpenLaw} {n k : Nat} {q : Program} {loose : List Str} {XP : (Str → Option Value) → Heap → Prop} {YP : World → Heap → Prop} {d : DefRec} {K : Params → PySem.W.Frag} {x nm : Str} {W : Addr → Wt}
    (hn : l.most = some n) (hn2 : n ≤ sizeLine) (hdf : d.params.defaults = []) (hr : Room k callerA) (hY : ∀ (w : World) (h : Heap), YP w h → (K w.params).In h)
    (hrec : ∃ e, (recsOf q).find? (fun e => e.name == nm) = some e)
    (F : ∀ (w : World) (mg : Str → Option Value) (fa : Addr) (h : Heap), (K w.params).In h → h.Ns mainGlobals mg → mg d.name = some (.ref fa) → ∃ (fd : FuncData) (c P : Addr), PySem.W.tabIn (K w.params) nm = some (c, P) ∧ (K w.params).lookup P = none ∧
      (∀ (s : Shared) (u : Value), BindsTo s fd ⟨[u], []⟩ [(x, u)]) ∧ ∀ base : Heap, (K w.params).In base → base.Ns mainGlobals mg → TabB base mg c P → FnOk l.prog w (K w.params) mg base CX0 k fa fd [x] (Spc (K w.params) (W P)))
    (hW : ∀ (P : Addr) (ns : List Int), ns.length ≤ n → W P [.lsk (ns.map D.int)] [(P, .tb)] fun d _ => d = .bl true) :
    PySem.W.WalkO q loose XP YP l.row.toRowW d [] (fun f vs => PySem.call f vs) := by
  refine Att.attach_callB hn hdf fun w s₀ s₁ mg mb fa o pm cd doc a vs ns G Y ho hd hcd hmg hobj hints hlen hbits hg => ?_
  have KX := hY w _ Y
  obtain ⟨e, he⟩ := hrec
  obtain ⟨fd, c, P, ht, nT, hb, hF⟩ := F w mg fa _ KX G.T.g hmg
  obtain ⟨CH, tab⟩ := PySem.W.tab_of G.T KX he ht
  refine LamX.law_callTs (cs := [(c, P)]) (sp := Spc (K w.params) (W P)) (CX := CX0) KX G.T.g G.T.b G.T.builtins G.T.nolimit hg (fun p hp => ?_) (fun p hp => ?_) (fun p hp => ?_) G.T.bmain hobj hints (Nat.le_trans hlen hn2) hr
    (fun base h1 h2 h3 => hF base h1 h2 ⟨(h3 (c, P) (by simp)).code, (h3 (c, P) (by simp)).bm, (h3 (c, P) (by simp)).gP⟩) hb (fun H h1 h2 => asks_tab (h1 (c, P) (by simp)) h2 (hW P ns hlen)) fun H e s' h => h
  · rw [List.mem_singleton.mp hp]
    exact tab
  · rw [List.mem_singleton.mp hp]
    exact nT
  · rw [List.mem_singleton.mp hp]
    exact CH
end Tg
set_option Elab.async false
set_option linter.all false
set_option maxRecDepth 100000
set_option maxHeartbeats 1000000
/-! TgU: methods with arguments that may raise. -/
namespace Tg
open PySem L2 PyProof.Rows
section
variable {X : Cx} {k j : Nat} {C : Addr} {m : Str} {sp : Sp} {E : XK} {pos apos : Pos} {e o : Expr} {es : List Expr} {ta : TE} {t : TA}
theorem pe_mtX {pl : Sem Bool} (tk : Takes X (fun cls d _ H => E cls d H)) (c : MetX X.prog X.w X.K X.mg X.base k C m sp) (hr : Room j X.A) (hk : k ≤ j) (he : PE X o ta) (ha : PA X (e :: es) t)
    (hst : starEach (e :: es) X.env = (false, eval e X.env) :: starEach es X.env := by rfl) (hpl : (backTo pos (starEach es X.env)).any (·.1) = false := by rfl)
    (ht : eval (.Call (.Attribute o m apos) (e :: es) [] pos) X.env = (do
      let ov ← eval o X.env
      standAt apos.atName
      let (f, first) ← holding [ov] (getMethod ov m pl)
      callWith pos f first (backTo pos (starEach (e :: es) X.env)) (backToKw pos (keywordEach [] X.env))) := by rfl) :
    PE X (.Call (.Attribute o m apos) (e :: es) [] pos) (tMeth C m sp [] E ta t) := by
  obtain ⟨f, fd, ps, hc, hm, F, b⟩ := c.ex
  exact pe_meth (pl := pl) he hc hm F (hr.mono hk) b .nil (passes_call tk fun _ _ _ _ h => h) ha hst hpl ht
end
section
variable {K : PySem.W.Frag} {δ : DS} {M : Mu} {ta tb : TE} {k : D → Mu → Prop} {xs : XS} {W : Addr → Hp → Prop}
/-- the left side may raise -/
theorem aex_opL {r : R2} (h : AEX K ta δ M xs W fun x M1 => AE K tb δ M1 fun y M2 => AR K r x y M2 k) : AEX K (tOp r ta tb) δ M xs W k := fun σ G H Q rs s f fx =>
  h σ G H _ rs s (fun x M1 vx G1 H1 h1 s1 st1 r1 => h1 σ G1 H1 _ (rs.mono st1.gg) s1 fun y M2 vy G2 H2 h2 s2 st2 r2 =>
    h2 vx vy G2 H2 Q (Rep.mono st2.gg _ _ r1) r2 s2 fun d M3 v G3 H3 q s3 st3 r3 => f d M3 v G3 H3 q s3 ((st1.trans st2).trans st3) r3) fx
end
/-! ### is a text a key of a written dict -/
def rNotInT (K : PySem.W.Frag) (w : World) : R2 := fun x y H Q => ∃ z a kvs, x = .str z ∧ y = .ref a ∧ KTabV K w a kvs ∧ Q (.bl (!(kvs.lookup z).isSome)) H
theorem KTabV.ns {K : PySem.W.Frag} {w : World} {a : Addr} {kvs : List (Str × V)} (h : KTabV K w a kvs) (z : Str) : ∃ es n r, KDict K w a es n ∧ PySem.W.nsIn K a z = some r ∧ r.isSome = (kvs.lookup z).isSome ∧ ∀ v, kvs.lookup z = some v → ∃ u, r = some u ∧ RelV v u := by
  obtain ⟨es, n, h1, h2, h3⟩ := h.ex
  obtain ⟨g1, g2⟩ := h3.look z
  rcases g2 with ⟨g2, g3⟩ | ⟨e, v, g2, g3, g4⟩
  · refine ⟨es, n, none, ⟨h1, h2, h.low⟩, ?_, by rw [g2]; rfl, fun v hv => by rw [g2] at hv; cases hv⟩
    unfold PySem.W.nsIn
    rw [h1]
    dsimp only
    rw [g3]
    dsimp only
    rw [g1]
    rfl
  · refine ⟨es, n, some e.val, ⟨h1, h2, h.low⟩, ?_, by rw [g2]; rfl, fun v' hv => ⟨e.val, rfl, by rw [g2] at hv; cases hv; exact g4⟩⟩
    unfold PySem.W.nsIn
    rw [h1]
    dsimp only
    rw [g3]
theorem op_notInT {X : Cx} : OpR X (compareOp .NotIn) (rNotInT X.K X.w) := by
  rintro pins s σ H x y v u Q I rx ry ⟨z, a, kvs, rfl, rfl, tab, q⟩
  obtain ⟨es, n, r, D, hr, e, _⟩ := tab.ns z
  exact op_notIn_kd D pins s σ H _ _ v u Q I rx ry ⟨z, r, rfl, rfl, hr, by rw [e]; exact q⟩
theorem notinT_K {X : Cx} {K : PySem.W.Frag} {w : World} (h : X.K = K := by rfl) (h2 : X.w = w := by rfl) : OpR X (compareOp .NotIn) (rNotInT K w) := h ▸ h2 ▸ op_notInT
theorem anin_tab {K : PySem.W.Frag} {w : World} {M : Mu} {k : D → Mu → Prop} {a : Addr} {kvs : List (Str × V)} {z : Str} (tab : KTabV K w a kvs) (q : k (.bl (!(kvs.lookup z).isSome)) M) : AR K (rNotInT K w) (.str z) (.ref a) M k := fun vx vy G H Q rx ry s f =>
  ⟨z, a, kvs, rep_str rx, rep_ref ry, tab, f _ M _ G H q s Step.refl rep_of_bl⟩
/-! ### x.replace('..', '..') -/
def tRepC (y z : Str) (to : TE) : TE := fun σ H Q => to σ H fun v H1 => ∃ a : Str, v = .str a ∧ a.length + (a.length + 1) * z.length ≤ 16777216 ∧ Q (.str (Txt.replace a y z)) H1
section
variable {X : Cx} {o e : Expr} {to te : TE} {y z c : Str} {apos pos p1 p2 : Pos} {j1 j2 : Nat}
theorem pet_rep (ho : PET X o to) (m : M2 X o "replace" apos (.Constant (.str y) j1 p1) (.Constant (.str z) j2 p2) pos) (hyz : (y == z) = false) :
    PET X (.Call (.Attribute o "replace" apos) [.Constant (.str y) j1 p1, .Constant (.str z) j2 p2] [] pos) (tRepC y z to) := by
  intro pins s σ H Q h0 I h
  refine wpAny_Call_method m.base m.few m.line PySem.F.plainAttrs_str PySem.F.slot_str_replace PySem.F.type_str_replace (wpAny_mono (PySem.wpAny_toks (ho pins s σ H _ h0 I h)) (fun u s1 q => ?_) fun _ _ x => x.2)
  obtain ⟨hk, x, H1, I1, rx, a, rfl, hl, q1⟩ := q
  obtain ⟨t, rfl⟩ := (show ∃ t, u = Value.str a t from rx)
  refine ⟨typeIs_str _ _ _, (fun _ e => nomatch e), ?_⟩
  rw [m.trees]
  refine Calls.callWith_builtin rfl (Calls.evalArgs_plain (Calls.spliced_cons (Calls.Constant_str (Calls.spliced_cons (Calls.Constant_str (Calls.spliced_nil ?_))))))
  have hk2 : 1 ≤ s1.toks := Nat.le_trans h0 hk
  refine PySem.SC.replace (Nat.ne_of_gt hk2) (Nat.succ_ne_zero _) (Nat.ne_of_lt (Nat.lt_succ_self _)) hyz hl fun t' k => ?_
  exact ⟨.str _, H1, I1.tok _, ⟨t', rfl⟩, q1⟩
theorem PET.of (h : PE X e te) : PET X e te := fun pins s σ H Q _ I q => h.run pins s σ H Q I q
/-- 'c' + e: what stands on the right runs when a token is out -/
theorem pe_addC {j : Nat} {p : Pos} {K : PySem.W.Frag} (he : PET X e te) (hK : X.K = K := by rfl) : PE X (.BinOp (.Constant (.str c) j p) .Add e pos) (tOp (rAddU K) (tC (.str c)) te) := by
  subst hK
  refine ⟨fun pins s σ H Q I h => ?_⟩
  refine wpAny_BinOp (Calls.Constant_str ?_)
  refine wpAny_mono (he pins { s with toks := s.toks + 1 } σ H _ (Nat.succ_le_succ (Nat.zero_le _)) (I.tok _) h) (fun u s1 q => ?_) fun _ _ x => x
  obtain ⟨y, H2, I2, ry, q2⟩ := q
  have op : OpR X (binaryOp .Add) (rAddU X.K) := add_K
  exact op pins s1 σ H2 (V.str c) y _ u Q I2 ⟨_, rfl⟩ ry q2
end
theorem of_signs {x : Str} {l : List Nat} (h : x.cps.toList = l) : x = tx l := by
  obtain ⟨a⟩ := x
  subst h
  show _ = (⟨a.toList.toArray⟩ : Str)
  rw [Array.toArray_toList]
section
variable {K : PySem.W.Frag} {δ : DS} {M : Mu} {k : D → Mu → Prop} {to : TE} {y z : Str}
theorem ae_rep (hy : 1 ≤ y.length) (h : AE K to δ M fun d M1 => ∃ l : List Nat, d = .str (tx l) ∧ l.length + (l.length + 1) * z.length ≤ 16777216 ∧ k (.str (tx (PySem.StrLaws.replL y.cps.toList z.cps.toList l))) M1) : AE K (tRepC y z to) δ M k := fun σ G H Q rs s f =>
  h σ G H _ rs s fun d M1 v G1 H1 ⟨l, e1, e2, q⟩ s1 st1 r1 => by
    subst e1
    have e3 : (tx l).cps.toList = l := tx_cps l
    refine ⟨tx l, rep_str r1, by rw [tx_len]; exact e2, ?_⟩
    have e4 : Txt.replace (tx l) y z = tx (PySem.StrLaws.replL y.cps.toList z.cps.toList l) := by
      have h9 := PySem.StrLaws.replace_list (x := tx l) (y := y) (z := z) hy
      rw [e3] at h9
      exact of_signs h9
    rw [e4]
    exact f _ _ _ _ _ q s1 st1 rep_of_str
end
end Tg
set_option Elab.async false
set_option linter.all false
set_option maxRecDepth 100000
set_option maxHeartbeats 1000000
/-! TgV: displays of dicts with more than fifteen written pairs. -/
namespace Tg
open PySem L2 PyProof.Rows
section
variable {prog : Program} {w : World} {K : Type} [DecidableEq K] {knd : KeyKind prog w K} {A : Around} {E : Value → Shared → Prop} {s : Shared}

theorem dictPut_pairs {d : Addr} {kvs : List (K × Value)} {k : K} {key v : Value} {Q : Unit → Shared → Prop} (hkey : knd.is k key = true) (hm : s.heap.DictOf knd d kvs)
    (hQ : ∀ h', h'.DictOf knd d (stored kvs k v) → Heap.SameBut d s.heap h' → Q () { s with heap := h' }) (hsz : kvs.length ≤ sizeLine) :
    wpAny (model prog w) A (dictPut d (knd.hash k) key v) Q E s := by
  obtain ⟨o, es, ep, ho, hc, hd, hk, hp, hn⟩ := hm
  have hes : es.size ≤ sizeLine := by
    have e1 := hp.length
    have e2 : es.toList.length = es.size := by simp
    omega
  unfold dictPut
  refine wpAny_bind (wpAny_dictFind_of hkey ho hd hk ?_)
  have hidx : (es.findIdx? fun e => knd.is k e.key) = kvs.findIdx? fun kv => decide (kv.1 = k) := by
    rw [← hp.findIdx k]; obtain ⟨l⟩ := es; simp
  cases hi : es.findIdx? fun e => knd.is k e.key with
  | some i =>
    refine wpAny_updateDict ho hd (hQ _ ⟨_, _, ep, Heap.get?_update_self _ ho (Obj.isFreed_of_dict (Obj.data_mapDict hd _)),
      hc.mapDict _, Obj.data_mapDict hd _, hk.modify _ _, ?_, ?_⟩ (Heap.SameBut.update ..))
    · rw [stored, if_pos (any_of_findIdx_some (hidx ▸ hi))]
      have hl : (es.toList.findIdx? fun e => knd.is k e.key) = some i := by rw [← hi]; obtain ⟨l⟩ := es; simp
      have := hp.modify hn hl v
      obtain ⟨l⟩ := es
      simpa using this
    · rw [stored, if_pos (any_of_findIdx_some (hidx ▸ hi)), keys_map_store]; exact hn
  | none =>
    have hnot : k ∉ kvs.map (·.1) := not_mem_of_findIdx_none (hidx ▸ hi)
    have hany : ¬ (kvs.any fun kv => decide (kv.1 = k)) = true := by
      rw [List.any_eq_true]; rintro ⟨kv, hkv, he⟩
      exact hnot (List.mem_map.mpr ⟨kv, hkv, of_decide_eq_true he⟩)
    refine wpAny_updateDictKeys (hz := hes) ho hd (hQ _ ⟨_, _, ep + 1, Heap.get?_update_self _ ho (Obj.isFreed_of_dict (Obj.data_mapDictKeys hd _)),
      hc.mapDictKeys _, Obj.data_mapDictKeys hd _, hk.push hkey _, ?_, ?_⟩ (Heap.SameBut.update ..))
    · rw [stored, if_neg hany]
      have := hp.append hkey (knd.hash k) v
      obtain ⟨l⟩ := es
      simpa using this
    · rw [stored, if_neg hany, List.map_append, List.nodup_append]
      refine ⟨hn, by simp, ?_⟩
      intro a ha b hb
      simp only [List.map_cons, List.map_nil, List.mem_singleton] at hb
      subst hb
      exact fun e => hnot (e ▸ ha)

theorem mergeMapping_dict {d o : Addr} {kvs more : List (K × Value)} {Q : Unit → Shared → Prop} (hdo : d ≠ o) (hoS : (o == sysModules) = false)
    (hd : s.heap.DictOf knd d kvs) (h0 : kvs ≠ []) (ho : s.heap.DictOf knd o more)
    (hQ : ∀ h', h'.DictOf knd d (merged kvs more) → Heap.SameBut d s.heap h' → Q () { s with heap := h' })
    (hsz : kvs.length + more.length ≤ sizeLine) :
    wpAny (model prog w) A (mergeMapping d (.ref o) false) Q E s := by
  obtain ⟨od, esd, epd, hod, hcd, hdd, hkd, hpd, hnd⟩ := id hd
  obtain ⟨oo, eso, epo, hoo, hco, hdo', hko, hpo, hno⟩ := id ho
  have hlen : more.length = eso.size := by rw [← hpo.length]; simp
  have hne : esd.isEmpty = false := by
    cases he : esd.isEmpty with
    | false => rfl
    | true =>
      have e0 : esd = #[] := Array.isEmpty_iff.mp he
      have := hpd.length
      rw [e0] at this
      exact absurd (List.length_eq_zero_iff.mp (by simpa using this.symm)) h0
  unfold mergeMapping
  refine wpAny_bind (wpAny_isInstance ho.typeIs isSubtype_dict_dict ?_)
  rw [if_pos rfl]
  refine wpAny_bind (wpAny_specialOf ho.typeIs F.slot_dict_iter.lookup ?_)
  refine wpAny_bind (wpAny_pure ?_)
  simp only [beq_self_eq_true]
  rw [if_neg (by rw [hoS]; exact Bool.false_ne_true)]
  refine wpAny_bind (wpAny_dictEntries hod hdd ?_)
  rw [if_neg (by rw [hne]; exact Bool.false_ne_true)]
  refine wpAny_bind (wpAny_dictEntries hoo hdo' ?_)
  refine wpAny_bind (wpAny_dictEpoch hoo hdo' ?_)
  refine wpAny_bind ?_
  refine wpAny_forIn_list _
      (fun rest _ s' => ∃ h' i, s' = { s with heap := h' } ∧ rest = List.range' i (eso.size - i) ∧ i ≤ eso.size ∧ h'.DictOf knd d (merged kvs (more.take i)) ∧ h'.get? o = some oo ∧ Heap.SameBut d s.heap h')
      _ ?_ ?_ _ _ ⟨s.heap, 0, rfl, by simp [List.range_eq_range'], Nat.zero_le _, by simpa [merged] using hd, hoo, Heap.SameBut.refl _ _⟩
  · rintro x rest b s' ⟨h', i, rfl, hr, hi, hd', hoo', hs'⟩
    have hlt : i < eso.size := by
      rcases Nat.lt_or_ge i eso.size with h | h
      · exact h
      · rw [Nat.sub_eq_zero_of_le h] at hr; simp at hr
    obtain ⟨rfl, hrest⟩ : x = i ∧ rest = List.range' (i + 1) (eso.size - (i + 1)) := by
      have e : eso.size - i = (eso.size - (i + 1)) + 1 := by omega
      rw [e, List.range'_succ] at hr
      injection hr with h1 h2
      exact ⟨h1, h2⟩
    refine wpAny_bind (wpAny_dictEntries hoo' hdo' ?_)
    rw [Array.getElem?_eq_getElem hlt]
    obtain ⟨kv, hkv⟩ : ∃ kv, more[x]? = some kv := ⟨more[x]'(by rw [hlen]; exact hlt), List.getElem?_eq_getElem _⟩
    obtain ⟨k, v⟩ := kv
    obtain ⟨hkey, hval⟩ := hpo.get? (e := eso[x]) (by simp [hlt]) hkv
    obtain ⟨k', hkey', hhash⟩ := hko eso[x] (Array.getElem_mem hlt)
    obtain rfl : k' = k := knd.inj _ _ _ hkey' hkey
    show wpAny _ _ (holding [eso[x].key, eso[x].val] (dictPut d eso[x].hash eso[x].key eso[x].val) >>= _) _ _ _
    rw [hhash, hval]
    have hmx : (merged kvs (more.take x)).length ≤ sizeLine := by
      have e1 := merged_length_le kvs (more.take x)
      have e2 : (more.take x).length ≤ more.length := by rw [List.length_take]; omega
      omega
    refine wpAny_bind (wpAny_holding (dictPut_pairs (hsz := hmx) hkey hd' fun h'' hd'' hs'' => ?_))
    have hoo'' : h''.get? o = some oo := (hs''.2 o (Ne.symm hdo)).trans hoo'
    refine wpAny_bind (wpAny_dictEpoch hoo'' hdo' ?_)
    rw [if_neg (by simp)]
    exact wpAny_pure ⟨h'', x + 1, rfl, hrest, hlt, by rw [merged_take_succ kvs more x (k', v) hkv]; exact hd'', hoo'', hs'.trans hs''⟩
  · rintro b s' ⟨h', i, rfl, hr, hi, hd', hoo', hs'⟩
    have hin : i = eso.size := by
      rcases Nat.lt_or_ge i eso.size with h | h
      · have e : eso.size - i = (eso.size - (i + 1)) + 1 := by omega
        rw [e, List.range'_succ] at hr; exact nomatch hr
      · exact Nat.le_antisymm hi h
    refine wpAny_pure (hQ h' ?_ hs')
    rw [hin, ← hlen, List.take_length] at hd'; exact hd'
end
/-! ### the display -/
section
variable {X : Cx}
/-- a tree that gives a text and changes nothing -/
def Cst (X : Cx) (m : Sem Value) (y : V) : Prop := ∀ (A : Around) (E : Value → Shared → Prop) (s : Shared) (Q : Value → Shared → Prop), (∀ u tk, RelV y u → Q u { s with toks := tk }) → wpAny (model X.prog X.w) A m Q E s
def CstP (X : Cx) : List (Sem Value × Sem Value) → List (Key × V) → Prop
  | [], [] => True
  | p :: ps, q :: qs => Cst X p.1 (kV q.1) ∧ Cst X p.2 q.2 ∧ CstP X ps qs
  | _, _ => False
theorem cstP_app : ∀ {ps rs : List (Sem Value × Sem Value)} {qs us : List (Key × V)}, CstP X ps qs → CstP X rs us → CstP X (ps ++ rs) (qs ++ us)
  | [], _, [], _, _, h => h
  | _ :: _, _, _ :: _, _, h, h2 => ⟨h.1, h.2.1, cstP_app h.2.2 h2⟩
  | [], _, _ :: _, _, h, _ => h.elim
  | _ :: _, _, [], _, h, _ => h.elim
theorem cstP_len : ∀ {ps : List (Sem Value × Sem Value)} {qs : List (Key × V)}, CstP X ps qs → ps.length = qs.length
  | [], [], _ => rfl
  | _ :: _, _ :: _, h => by rw [List.length_cons, List.length_cons, cstP_len h.2.2]
  | [], _ :: _, h => h.elim
  | _ :: _, [], h => h.elim
theorem kv_app {a b : List (Key × V)} {rs us : List (Key × Value)} (h : KV a rs) (h2 : KV b us) : KV (a ++ b) (rs ++ us) := by
  unfold KV at *
  induction h with
  | nil => exact h2
  | cons p q ih => exact .cons p ih
theorem kv_keys {a : List (Key × V)} {rs : List (Key × Value)} (h : KV a rs) : rs.map (·.1) = a.map (·.1) := by
  unfold KV at h
  induction h with
  | nil => rfl
  | cons p q ih => rw [List.map_cons, List.map_cons, ih, p.1]
theorem stored_new {K : Type} [DecidableEq K] {rs : List (K × Value)} {k : K} {v : Value} (h : k ∉ rs.map (·.1)) : stored rs k v = rs ++ [(k, v)] := by
  unfold stored
  rw [if_neg]
  rw [List.any_eq_true]
  rintro ⟨kv, hkv, he⟩
  exact h (List.mem_map.mpr ⟨kv, hkv, of_decide_eq_true he⟩)
/-- pairs of constants -/
theorem evalPairs_cst {A : Around} {E : Value → Shared → Prop} : ∀ {ps : List (Sem Value × Sem Value)} {qs : List (Key × V)} (s : Shared) (Q : List (Value × Value) → Shared → Prop), CstP X ps qs →
    (∀ vs rs tk, Carries (mixKind X.prog X.w) vs rs → KV qs rs → Q vs { s with toks := tk }) → wpAny (model X.prog X.w) A (evalPairs ps) Q E s
  | [], [], s, Q, _, h => evalPairs_nil (h [] [] s.toks True.intro .nil)
  | p :: ps, q :: qs, s, Q, c, h => by
    obtain ⟨k, v⟩ := p
    refine evalPairs_cons (c.1 A E s _ fun u tk ru => c.2.1 A E _ _ fun u2 tk2 ru2 => evalPairs_cst _ _ c.2.2 fun vs rs tk3 h1 h2 => ?_)
    exact h _ ((q.1, u2) :: rs) tk3 ⟨kV_is ru, rfl, h1⟩ (.cons ⟨rfl, ru2⟩ h2)
  | [], _ :: _, _, _, c, _ => c.elim
  | _ :: _, [], _, _, c, _ => c.elim
/-- a new dict of constants, however many -/
theorem subDict_cst {A : Around} {E : Value → Shared → Prop} {ps : List (Sem Value × Sem Value)} {qs : List (Key × V)} {s : Shared} {Q : Addr → Shared → Prop} (c : CstP X ps qs) (hn : (qs.map (·.1)).Nodup) (hz : qs.length ≤ 100)
    (h : ∀ h' rs tk, KV qs rs → h'.DictOf (mixKind X.prog X.w) s.heap.objs.size rs → (∀ b o, s.heap.get? b = some o → h'.get? b = some o) → s.heap.objs.size < h'.objs.size → Q s.heap.objs.size { s with heap := h', toks := tk }) :
    wpAny (model X.prog X.w) A (subDict ps) Q E s := by
  have hk : ∀ {h' : Heap}, Heap.SameBut s.heap.objs.size (s.heap.push { cls := .type "dict", data := .dict #[] }) h' → ∀ b o, s.heap.get? b = some o → h'.get? b = some o := fun hs b o e => by
    rw [hs.2 b (fun z => absurd (Heap.lt_size e) (by rw [z]; exact Nat.lt_irrefl _))]
    exact Heap.get?_push_of_some _ e
  have hsz := sizeLine_eq
  by_cases h15 : ps.length ≤ 15
  · refine wpAny_subDict (knd := mixKind X.prog X.w) h15 (evalPairs_cst _ _ c fun vs rs tk h1 h2 => ⟨rs, h1, Heap.DictOf.new _, fun h' hd hs => ?_⟩)
    rw [merged_nil_of_nodup rs (by rw [kv_keys h2]; exact hn)] at hd
    refine h h' rs _ h2 hd (hk hs) ?_
    obtain ⟨o, es, ep, ho, _⟩ := hd
    exact Heap.lt_size ho
  · unfold subDict
    refine wpAny_bind (wpAny_alloc ?_)
    refine wpAny_bind (wpAny_holding ?_)
    rw [if_neg h15]
    refine wpAny_bind (wpAny_rule ?_)
    have loop : ∀ (ps : List (Sem Value × Sem Value)) (qs done : List (Key × V)) (rs : List (Key × Value)) (h1 : Heap) (tk : Nat) (Q2 : PUnit → Shared → Prop), CstP X ps qs → KV done rs → ((done ++ qs).map (·.1)).Nodup → (done ++ qs).length ≤ 100 →
        h1.DictOf (mixKind X.prog X.w) s.heap.objs.size rs → Heap.SameBut s.heap.objs.size (s.heap.push { cls := .type "dict", data := .dict #[] }) h1 →
        (∀ h' rs' tk', KV (done ++ qs) rs' → h'.DictOf (mixKind X.prog X.w) s.heap.objs.size rs' → Heap.SameBut s.heap.objs.size (s.heap.push { cls := .type "dict", data := .dict #[] }) h' → Q2 PUnit.unit { s with heap := h', toks := tk' }) →
        wpAny (model X.prog X.w) A (forIn ps PUnit.unit fun (x : Sem Value × Sem Value) (_ : PUnit) => (do
          let kv ← x.1
          let vv ← holding [kv] x.2
          holding [kv, vv] (dictSet s.heap.objs.size kv vv)
          pure (ForInStep.yield PUnit.unit) : Sem (ForInStep PUnit))) Q2 E { s with heap := h1, toks := tk } := by
      intro ps
      induction ps with
      | nil =>
        intro qs done rs h1 tk Q2 c kv hn hz hd hs hQ
        cases qs with
        | nil =>
          rw [List.forIn_nil]
          rw [List.append_nil] at hQ
          exact wpAny_pure (hQ h1 rs tk kv hd hs)
        | cons _ _ => exact c.elim
      | cons p ps ih =>
        intro qs done rs h1 tk Q2 c kv hn hz hd hs hQ
        cases qs with
        | nil => exact c.elim
        | cons q qs =>
          obtain ⟨c1, c2, c3⟩ := c
          rw [List.forIn_cons]
          refine wpAny_bind (wpAny_bind (c1 A E _ _ fun u tk1 ru => wpAny_bind (wpAny_holding (c2 A E _ _ fun u2 tk2 ru2 => wpAny_bind (wpAny_holding ?_)))))
          have hlen : rs.length ≤ sizeLine := by
            have e1 := KV.length kv
            rw [List.length_append] at hz
            omega
          refine wpAny_dictSet_pairs (knd := mixKind X.prog X.w) (s := { s with heap := h1, toks := tk2 }) (hsz := hlen) (kV_is ru) hd fun h' hd' hs' => wpAny_pure ?_
          have hfresh : q.1 ∉ rs.map (·.1) := by
            rw [kv_keys kv]
            intro z
            rw [List.map_append, List.map_cons, List.nodup_append] at hn
            exact hn.2.2 q.1 z q.1 (by simp) rfl
          rw [stored_new hfresh] at hd'
          refine ih qs (done ++ [q]) (rs ++ [(q.1, u2)]) h' _ Q2 c3 (kv_app kv (.cons ⟨rfl, ru2⟩ .nil)) (by simpa using hn) (by simpa using hz) hd' (hs.trans hs') fun h'' rs' tk' k1 k2 k3 => ?_
          exact hQ h'' rs' tk' (by simpa using k1) k2 k3
    refine wpAny_bind ?_
    refine loop ps qs [] [] _ _ _ c .nil (by simpa using hn) (by simpa using hz) (Heap.DictOf.new _) (Heap.SameBut.refl _ _) fun h' rs' tk' k1 k2 k3 => wpAny_pure (wpAny_pure ?_)
    rw [List.nil_append] at k1
    refine h h' rs' tk' k1 k2 (hk k3) ?_
    obtain ⟨o, es, ep, ho, _⟩ := k2
    exact Heap.lt_size ho
/-- what stands behind some flushes -/
def DJ (X : Cx) (h0 : Heap) (main : Option Addr) (done : List (Key × V)) (h : Heap) : Prop := (∀ b o, h0.get? b = some o → h.get? b = some o) ∧ h0.objs.size ≤ h.objs.size ∧
  ((main = none ∧ done = []) ∨ ∃ d rs, main = some d ∧ done ≠ [] ∧ KV done rs ∧ h.DictOf (mixKind X.prog X.w) d rs ∧ h0.objs.size ≤ d)
theorem nodup_right {a b : List (Key × V)} (h : ((a ++ b).map (·.1)).Nodup) : (b.map (·.1)).Nodup := by
  rw [List.map_append, List.nodup_append] at h
  exact h.2.1
theorem flush_cst {A : Around} {E : Value → Shared → Prop} {h0 : Heap} {run : List (Sem Value × Sem Value)} {kr done : List (Key × V)} {d : Addr} {s : Shared} {Q : Unit → Shared → Prop} (hb : sysModules < h0.objs.size) (c : CstP X run kr) (j : DJ X h0 (some d) done s.heap)
    (hn : ((done ++ kr).map (·.1)).Nodup) (hz : (done ++ kr).length ≤ 100) (h : ∀ h' tk, DJ X h0 (some d) (done ++ kr) h' → Q () { s with heap := h', toks := tk }) :
    wpAny (model X.prog X.w) A (subDict run) (fun sub s' => wpAny (model X.prog X.w) A (mergeMapping d (.ref sub) false) Q (fun _ _ => False) s') E s := by
  obtain ⟨j1, j2, j3⟩ := j
  rcases j3 with ⟨z, _⟩ | ⟨d', rs, z, hne, kv, hd, hge⟩
  · cases z
  cases z
  have hz2 : done.length + kr.length ≤ 100 := by rw [← List.length_append]; exact hz
  refine subDict_cst c (nodup_right hn) (by omega) fun h1 rs1 tk k1 k2 k3 k4 => ?_
  obtain ⟨od, es, ep, hod, rest⟩ := hd
  have hlt : d < s.heap.objs.size := Heap.lt_size hod
  have hd1 : h1.DictOf (mixKind X.prog X.w) d rs := ⟨od, es, ep, k3 _ _ hod, rest⟩
  have e1 := KV.length kv
  have e2 := KV.length k1
  have hsz := sizeLine_eq
  have hrs : rs ≠ [] := fun z => by
    rw [z, List.length_nil] at e1
    exact hne (List.length_eq_zero_iff.mp e1)
  refine mergeMapping_dict (knd := mixKind X.prog X.w) (s := { s with heap := h1, toks := tk }) (Nat.ne_of_lt hlt) (beq_eq_false_iff_ne.mpr (Nat.ne_of_gt (Nat.lt_of_lt_of_le hb j2))) hd1 hrs k2 (fun h2 m1 m2 => ?_) (by omega)
  rw [merged_append_of_fresh rs rs1 (by rw [List.map_append, kv_keys kv, kv_keys k1, ← List.map_append]; exact hn)] at m1
  have hg : h2.objs.size = h2.objs.size := rfl
  refine h h2 tk ⟨fun b o e => ?_, ?_, .inr ⟨d, rs ++ rs1, rfl, fun z => hne (List.append_eq_nil_iff.mp z).1, kv_app kv k1, m1, hge⟩⟩
  · rw [m2.2 b fun z => absurd (Heap.lt_size e) (by rw [z]; exact Nat.not_lt.mpr hge)]
    exact k3 b o (j1 b o e)
  · have e9 : h2.objs.size = h1.objs.size := m2.1
    omega
theorem fresh_dj {h0 h1 h' : Heap} {rs : List (Key × Value)} {kr : List (Key × V)} (j : DJ X h0 none [] h1) (hne : kr ≠ []) (k1 : KV kr rs) (k2 : h'.DictOf (mixKind X.prog X.w) h1.objs.size rs) (k3 : ∀ b o, h1.get? b = some o → h'.get? b = some o) (k4 : h1.objs.size < h'.objs.size) : DJ X h0 (some h1.objs.size) kr h' :=
  ⟨fun b o e => k3 b o (j.1 b o e), Nat.le_trans j.2.1 (Nat.le_of_lt k4), .inr ⟨_, rs, rfl, hne, k1, k2, j.2.1⟩⟩
theorem dj_none {h0 h : Heap} {done : List (Key × V)} (j : DJ X h0 none done h) : done = [] := by
  rcases j.2.2 with ⟨_, e⟩ | ⟨_, _, z, _⟩
  · exact e
  · cases z
theorem disp_loop {A : Around} {E : Value → Shared → Prop} {h0 : Heap} {f : (Option (Sem Value) × Sem Value) → (Option Addr × List (Sem Value × Sem Value)) → Sem (ForInStep (Option Addr × List (Sem Value × Sem Value)))}
    (hstep : ∀ (p : Sem Value × Sem Value) (q : Key × V) (run : List (Sem Value × Sem Value)) (kr done : List (Key × V)) (main : Option Addr) (s : Shared) (Q : ForInStep (Option Addr × List (Sem Value × Sem Value)) → Shared → Prop),
      Cst X p.1 (kV q.1) → Cst X p.2 q.2 → CstP X run kr → run.length < 17 → DJ X h0 main done s.heap → ((done ++ (kr ++ [q])).map (·.1)).Nodup → (done ++ (kr ++ [q])).length ≤ 100 →
      (∀ main' run' kr' done' h' tk, CstP X run' kr' → run'.length < 17 → DJ X h0 main' done' h' → done' ++ kr' = done ++ (kr ++ [q]) → Q (.yield (main', run')) { s with heap := h', toks := tk }) →
      wpAny (model X.prog X.w) A (f (some p.1, p.2) (main, run)) Q E s) :
    ∀ (ps : List (Sem Value × Sem Value)) (qs : List (Key × V)) (run : List (Sem Value × Sem Value)) (kr done : List (Key × V)) (main : Option Addr) (s : Shared) (Q : (Option Addr × List (Sem Value × Sem Value)) → Shared → Prop),
      CstP X ps qs → CstP X run kr → run.length < 17 → DJ X h0 main done s.heap → ((done ++ (kr ++ qs)).map (·.1)).Nodup → (done ++ (kr ++ qs)).length ≤ 100 →
      (∀ main' run' kr' done' h' tk, CstP X run' kr' → run'.length < 17 → DJ X h0 main' done' h' → done' ++ kr' = done ++ (kr ++ qs) → Q (main', run') { s with heap := h', toks := tk }) →
      wpAny (model X.prog X.w) A (forIn (ps.map fun p => (some p.1, p.2)) (main, run) f) Q E s
  | [], [], run, kr, done, main, s, Q, _, c, hr, j, _, _, h => by
    rw [List.map_nil, List.forIn_nil]
    exact wpAny_pure (h main run kr done s.heap s.toks c hr j (by rw [List.append_nil]))
  | p :: ps, q :: qs, run, kr, done, main, s, Q, cp, c, hr, j, hn, hz, h => by
    rw [List.map_cons, List.forIn_cons]
    have ea : done ++ (kr ++ q :: qs) = (done ++ (kr ++ [q])) ++ qs := by simp
    rw [ea] at hn hz
    refine wpAny_bind (hstep p q run kr done main s _ cp.1 cp.2.1 c hr j (by rw [List.map_append, List.nodup_append] at hn; exact hn.1) (by rw [List.length_append] at hz; omega) fun main' run' kr' done' h' tk c' hr' j' e => ?_)
    have eb : done' ++ (kr' ++ qs) = (done ++ (kr ++ [q])) ++ qs := by rw [← List.append_assoc, e]
    exact disp_loop hstep ps qs run' kr' done' main' _ Q cp.2.2 c' hr' j' (by rw [eb]; exact hn) (by rw [eb]; exact hz) fun m2 r2 k2 d2 h2 tk2 c2 hr2 j2 e2 => h m2 r2 k2 d2 h2 tk2 c2 hr2 j2 (by rw [e2, eb, ea])
  | [], _ :: _, _, _, _, _, _, _, c, _, _, _, _, _, _ => c.elim
  | _ :: _, [], _, _, _, _, _, _, c, _, _, _, _, _, _ => c.elim
theorem display_cst {A : Around} {E : Value → Shared → Prop} {ps : List (Sem Value × Sem Value)} {qs : List (Key × V)} {s : Shared} {Q : Value → Shared → Prop} (hb : sysModules < s.heap.objs.size) (c : CstP X ps qs) (h0 : ps ≠ []) (hn : (qs.map (·.1)).Nodup) (hz : qs.length ≤ 100)
    (h : ∀ d rs h' tk, KV qs rs → h'.DictOf (mixKind X.prog X.w) d rs → s.heap.objs.size ≤ d → (∀ b o, s.heap.get? b = some o → h'.get? b = some o) → Q (.ref d) { s with heap := h', toks := tk }) :
    wpAny (model X.prog X.w) A (dictDisplay (ps.map fun p => (some p.1, p.2))) Q E s := by
  have hq0 : qs ≠ [] := fun z => h0 (List.length_eq_zero_iff.mp (by rw [cstP_len c, z]; rfl))
  unfold dictDisplay
  dsimp only
  refine wpAny_bind (disp_loop (X := X) (h0 := s.heap) ?_ ps qs [] [] [] none s _ c True.intro (by decide) ⟨fun _ _ e => e, Nat.le_refl _, .inl ⟨rfl, rfl⟩⟩ (by simpa using hn) (by simpa using hz) fun main run kr done h1 tk1 c1 hr1 j1 e1 => ?_)
  · intro p q run kr done main s1 Q1 c1 c2 cr hr j hn1 hz1 h1
    have cr1 : CstP X (run ++ [p]) (kr ++ [q]) := cstP_app cr ⟨c1, c2, True.intro⟩
    have hb1 : sysModules < s1.heap.objs.size := Nat.lt_of_lt_of_le hb j.2.1
    by_cases h17 : ((run ++ [(p.1, p.2)]).length == 17) = true
    · simp only [h17, if_true]
      have hne : (run ++ [(p.1, p.2)]).isEmpty = false := by simp
      simp only [hne, Bool.false_eq_true, if_false]
      cases main with
      | none =>
        obtain rfl := dj_none j
        have hz2 : (kr ++ [q]).length ≤ 100 := hz1
        refine wpAny_bind (wpAny_bind (subDict_cst cr1 hn1 hz2 fun h' rs tk k1 k2 k3 k4 => wpAny_pure (wpAny_pure ?_)))
        exact h1 _ [] [] (kr ++ [q]) h' tk True.intro (by decide) (fresh_dj j (by simp) k1 k2 k3 k4) (by simp)
      | some d =>
        refine wpAny_bind (wpAny_bind (wpAny_holding (wpAny_mono (flush_cst (Q := fun _ s' => Q1 (.yield (some d, [])) s') (E := E) hb cr1 j hn1 hz1 fun h' tk k1 => ?_) (fun sub s2 hq => ?_) fun _ _ e => e)))
        · exact h1 _ [] [] (done ++ (kr ++ [q])) h' tk True.intro (by decide) k1 (by simp)
        · exact wpAny_bind (wpAny_onRaise (wpAny_mono (wpAny_holding hq) (fun _ _ hq2 => wpAny_pure (wpAny_pure hq2)) fun _ _ e => e.elim))
    · simp only [h17, if_false]
      have hl : (run ++ [p]).length < 17 := by
        rw [List.length_append] at h17 ⊢
        simp at h17 ⊢
        omega
      exact wpAny_pure (h1 main (run ++ [p]) (kr ++ [q]) done s1.heap s1.toks cr1 hl j rfl)
  · have e1' : done ++ kr = qs := by simpa using e1
    dsimp only
    cases run with
    | nil =>
      cases kr with
      | nil =>
        rw [List.append_nil] at e1'
        subst e1'
        obtain ⟨j1', j2', j3'⟩ := j1
        rcases j3' with ⟨_, z⟩ | ⟨d, rs, rfl, _, kv, hd, hge⟩
        · exact absurd z hq0
        · rw [List.isEmpty_nil, if_pos rfl]
          refine wpAny_bind (wpAny_pure ?_)
          exact wpAny_pure (h d rs h1 tk1 kv hd hge j1')
      | cons _ _ => exact c1.elim
    | cons p run =>
      have hkr : kr ≠ [] := fun z => by
        rw [z] at c1
        exact c1.elim
      rw [List.isEmpty_cons, if_neg Bool.false_ne_true]
      cases main with
      | none =>
        obtain rfl := dj_none j1
        rw [List.nil_append] at e1'
        subst e1'
        refine wpAny_bind (wpAny_bind (subDict_cst (s := { s with heap := h1, toks := tk1 }) c1 hn hz fun h' rs tk k1 k2 k3 k4 => wpAny_pure ?_))
        exact wpAny_pure (h _ rs h' tk k1 k2 j1.2.1 fun b o e => k3 b o (j1.1 b o e))
      | some d =>
        subst e1'
        refine wpAny_bind (wpAny_bind (wpAny_holding (wpAny_mono (flush_cst (Q := fun _ s' => Q (.ref d) s') (E := E) (s := { s with heap := h1, toks := tk1 }) hb c1 j1 hn hz fun h' tk k1 => ?_) (fun sub s2 hq => ?_) fun _ _ e => e)))
        · obtain ⟨j1', j2', j3'⟩ := k1
          rcases j3' with ⟨z, _⟩ | ⟨d', rs, z, _, kv, hd, hge⟩
          · cases z
          · cases z
            exact h d rs h' tk kv hd hge j1'
        · exact wpAny_bind (wpAny_onRaise (wpAny_mono (wpAny_holding hq) (fun _ _ hq2 => wpAny_pure (wpAny_pure hq2)) fun _ _ e => e.elim))
end
section
variable {X : Cx}
theorem cst_str {x : Str} {j : Nat} {pos : Pos} : Cst X (eval (.Constant (.str x) j pos) X.env) (.str x) := fun _ _ s Q h => Calls.Constant_str (h _ _ ⟨_, rfl⟩)
theorem cst_val {m : Sem Value} {y : V} {pos : Pos} (h : Cst X m y) : Cst X (do let x ← m; standAt pos; pure x) y := fun A E s Q q => wpAny_bind (h A E s _ fun u tk r => wpAny_bind (wpAny_standAt (wpAny_pure (q u tk r))))
/-- the written pairs of texts -/
def cse : List (Option Expr) → List Expr → List (Str × Str)
  | some (.Constant (.str x) _ _) :: ks, .Constant (.str y) _ _ :: vs => (x, y) :: cse ks vs
  | _, _ => []
def cseOk : List (Option Expr) → List Expr → Bool
  | some (.Constant (.str _) _ _) :: ks, .Constant (.str _) _ _ :: vs => cseOk ks vs
  | [], [] => true
  | _, _ => false
def csK (l : List (Str × Str)) : List (Key × V) := l.map fun p => (.inr p.1, .str p.2)
theorem cse_tree {pos : Pos} : ∀ {ks : List (Option Expr)} {vs : List Expr}, cseOk ks vs = true → ks.all (·.isSome) = true ∧ ks.length = vs.length ∧ CstP X (pairTrees ks vs X.env pos) (csK (cse ks vs)) := by
  intro ks vs
  induction ks, vs using cseOk.induct with
  | case1 x j p ks y j' p' vs ih =>
    intro h
    obtain ⟨h1, h2, h3⟩ := ih h
    refine ⟨by rw [List.all_cons, h1]; rfl, by rw [List.length_cons, List.length_cons, h2], cst_str (j := j) (pos := p), cst_val (cst_str (j := j') (pos := p')), h3⟩
  | case2 => exact fun _ => ⟨rfl, rfl, True.intro⟩
  | case3 ks vs h1 h2 =>
    intro h
    unfold cseOk at h
    split at h
    · exact absurd rfl (h1 _ _ _ _ _ _ _ _ rfl)
    · exact absurd rfl (h2 rfl)
    · cases h
/-- a display of written texts, however many -/
def tDispC (l : List (Str × Str)) : TE := fun _ H Q => (l.map (·.1)).Nodup ∧ l.length ≤ 100 ∧ ∀ p, H p = none → Q (.ref p) (upd H p (.dK (csK l)))
theorem pe_dispC {pos : Pos} {ks : List (Option Expr)} {vs : List Expr} (h : cseOk ks vs = true) (h0 : ks ≠ []) : PE X (.Dict ks vs pos) (tDispC (cse ks vs)) := by
  refine ⟨fun pins s σ H Q I q => ?_⟩
  obtain ⟨hn, hz, q⟩ := q
  obtain ⟨hall, hl, c⟩ := cse_tree (X := X) (pos := pos) h
  have hp0 : pairTrees ks vs X.env pos ≠ [] := fun e => by
    have hl2 := pairTrees_length ks vs X.env pos hall hl
    rw [e] at hl2
    exact h0 (List.length_eq_zero_iff.mp hl2.symm)
  rw [arm_eval_Dict, zip_pairTrees ks vs X.env pos hall hl]
  refine wpAny_bind (wpAny_standAt ?_)
  refine display_cst (X := X) I.big c hp0 ?_ (by unfold csK; rw [List.length_map]; exact hz) fun d rs h' tk kv dd hge hk => ?_
  · have e : (csK (cse ks vs)).map (·.1) = ((cse ks vs).map (·.1)).map Sum.inr := by
      unfold csK
      rw [List.map_map, List.map_map]
      rfl
    rw [e]
    exact hn.map _ fun _ _ hne z => hne (Sum.inr.inj z)
  · refine ⟨.ref d, _, I.laid hk hge (dk_new ?_ (beq_eq_false_iff_ne.mpr (Nat.ne_of_gt (Nat.lt_of_lt_of_le I.big hge))) kv dd), rfl, q d (I.hok.fresh hge)⟩
    unfold csK
    rw [List.length_map, sizeLine_eq]
    omega
end
end Tg
set_option Elab.async false
set_option linter.all false
set_option maxRecDepth 100000
set_option maxHeartbeats 1000000
/-! TgW: long displays, zip of tuples, get of a dict of the module, sorted dicts, what may change is forgotten. -/
namespace Tg
open PySem L2 PyProof.Rows
section
variable {K : PySem.W.Frag} {δ : DS} {M M1 M2 : Mu} {k : D → Mu → Prop} {ki : List D → Mu → Prop} {te : TE} {t : TS} {A : AEnds} {x : D} {td ty tx : TE} {ts : TA}
theorem Step.wide {A A' A2 : List Addr} {G H G' H' : Hp} (s : Step A G H A2 G' H') (h : ∀ b ∈ A, b ∈ A') : Step A' G H A2 G' H' :=
  ⟨s.gg, fun b e n => s.fr b e fun z => n (h b z), fun b o n e => s.keep b o (fun z => n (h b z)) e, s.alive, fun b hb => (s.own b hb).imp (h b) id⟩
theorem as_lose {M' J : Mu} (hp : M.Perm (M' ++ J)) (h : AS K t δ M' A) : AS K t δ M A := as_perm hp fun σ G H E rs s f =>
  have w : ∀ b ∈ ads M', b ∈ ads (M' ++ J) := fun b hb => by
    show b ∈ (M' ++ J).map (·.1)
    rw [List.map_append]
    exact List.mem_append_left _ hb
  h σ G H E rs s.sub ⟨fun δ2 M2 σ2 G2 H2 q r s2 st2 => f.nx δ2 M2 σ2 G2 H2 q r s2 (st2.wide w), fun d M2 v G2 H2 q s2 st2 r2 => f.rt d M2 v G2 H2 q s2 (st2.wide w) r2,
    fun δ2 M2 σ2 G2 H2 q r s2 st2 => f.bk δ2 M2 σ2 G2 H2 q r s2 (st2.wide w), fun δ2 M2 σ2 G2 H2 q r s2 st2 => f.ct δ2 M2 σ2 G2 H2 q r s2 (st2.wide w), fun fs M2 d G2 H2 q s2 st2 => f.xs fs M2 d G2 H2 q s2 (st2.wide w), fun C δ2 M2 σ2 G2 H2 q r s2 st2 => f.ps C δ2 M2 σ2 G2 H2 q r s2 (st2.wide w)⟩
/-- a long display -/
def csD (l : List (Str × Str)) : List (Key × D) := l.map fun p => (.inr p.1, .str p.2)
theorem repKV_cs {G : Hp} : ∀ {l : List (Str × Str)}, RepKV K G (csD l) (csK l)
  | [] => by unfold csD csK RepKV; rfl
  | p :: l => by
    have ih := repKV_cs (G := G) (l := l)
    show RepKV K G ((.inr p.1, .str p.2) :: csD l) ((.inr p.1, .str p.2) :: csK l)
    unfold RepKV
    exact ⟨_, _, rfl, rep_of_str, ih⟩
theorem ae_dispC {l : List (Str × Str)} (hn : (l.map (·.1)).Nodup) (hz : l.length ≤ 100) (q : ∀ a, k (.ref a) (M ++ [(a, .dK (csD l))])) : AE K (tDispC l) δ M k := fun σ G H Q rs s f => ⟨hn, hz, fun p hp => by
  have gp : G p = none := s.same.free hp
  have nM : ∀ q ∈ M, q.1 ≠ p := fun q hq e => by
    obtain ⟨_, o, ho, _⟩ := s.mu q hq
    rw [e, hp] at ho
    cases ho
  obtain ⟨s2, st2⟩ := s.junk (o := .dK (csK l)) hp
  refine f _ _ _ G _ (q p) ⟨s2.same, fun q hq => ?_, ?_⟩ ⟨st2.gg, st2.fr, st2.keep, st2.alive, fun b hb => ?_⟩ rep_of_ref
  · rcases List.mem_append.mp hq with hq | hq
    · exact s2.mu q hq
    · have e : q = (p, .dK (csD l)) := by simpa using hq
      subst e
      exact ⟨gp, _, upd_same, _, rfl, repKV_cs⟩
  · rw [List.map_append, List.nodup_append]
    refine ⟨s.nd, by simp, fun c hc e he => ?_⟩
    have e1 : e = p := by simpa using he
    subst e1
    obtain ⟨q, hq, rfl⟩ := List.mem_map.mp hc
    exact nM q hq
  · simp only [ads, List.map_append, List.mem_append, List.map_cons, List.map_nil, List.mem_singleton] at hb
    rcases hb with hb | hb
    · exact .inl hb
    · rw [hb]
      exact .inr hp⟩
theorem ae_dispE {l0 l : List (Str × Str)} (e : l0 = l) (hn : (l.map (·.1)).Nodup) (hz : l.length ≤ 100) (q : ∀ a, k (.ref a) (M ++ [(a, .dK (csD l))])) : AE K (tDispC l0) δ M k := by subst e; exact ae_dispC hn hz q
/-- a sum of lists that may change later -/
theorem au_lstN {a : Addr} {xs ys : List D} (e : M = M1 ++ (a, .lst xs) :: M2) (h : xs.length + ys.length ≤ sizeLine) (q : ∀ p, k (.ref p) (M ++ [(p, .lst (xs ++ ys))])) : AR K (rAddU K) (.ref a) (.lst ys) M k := ar_or2 (ar_or2 (ar_or1 fun vx vy G H Q rx ry s f => by
  obtain ⟨g0, o, ho, rs⟩ := s.mu (a, .lst xs) (by rw [e]; simp)
  obtain ⟨vs, rfl, r1⟩ := rs
  obtain ⟨q', us, rfl, hq, r2⟩ := rep_lst ry
  refine ⟨a, q', vs, us, rep_ref rx, rfl, ho, s.same _ _ hq, by rw [r1.len, r2.len]; exact h, fun l hl => ?_⟩
  obtain ⟨s2, st2⟩ := s.fresh (m := .lst (xs ++ ys)) (o := .lst (vs ++ us)) hl ⟨_, rfl, r1.append r2⟩
  exact f _ _ _ _ _ (q l) s2 st2 rep_of_ref))
/-! ### zip -/
def zipD (xs ys : List D) : List D := (xs.zip ys).map fun p => .tup [p.1, p.2]
theorem zipD_get {xs ys : List D} {i : Nat} {d : D} (h : (zipD xs ys)[i]? = some d) : ∃ x y, xs[i]? = some x ∧ ys[i]? = some y ∧ d = .tup [x, y] := by
  unfold zipD at h
  rw [List.getElem?_map] at h
  obtain ⟨p, hp, rfl⟩ := Option.map_eq_some_iff.mp h
  obtain ⟨h1, h2⟩ := List.getElem?_zip_eq_some.mp hp
  exact ⟨p.1, p.2, h1, h2, rfl⟩
theorem zipD_len (xs ys : List D) : (zipD xs ys).length = min xs.length ys.length := by
  unfold zipD
  rw [List.length_map, List.length_zip]
theorem itOk_zipT {G : Hp} {a b : Addr} {xs ys : List V} {ds es : List D} (ha : SqT K G a xs) (hb : SqT K G b ys) (r1 : Reps K G ds xs) (r2 : Reps K G es ys) : ItOk K (RZ.ItzT K a b) G (zipD ds es) := fun i G1 H1 M e s => by
  have hqa : SqT K H1 a xs := Same.seqT s.same (Same.seqT e ha)
  have hqb : SqT K H1 b ys := Same.seqT s.same (Same.seqT e hb)
  refine ⟨fun d hd => ?_, fun hi => ⟨xs, ys, hqa, hqb, by
    have l1 := r1.len
    have l2 := r2.len
    rw [zipD_len] at hi
    omega⟩⟩
  obtain ⟨c1, c2, h1, h2, rfl⟩ := zipD_get hd
  obtain ⟨x, hx, rx⟩ := r1.get h1
  obtain ⟨y, hy, ry⟩ := r2.get h2
  refine ⟨⟨xs, ys, x, y, hqa, hqb, hx, hy⟩, fun v H' hv => ?_⟩
  obtain ⟨T, x', y', rfl, nT, rfl, hx', hy'⟩ := hv
  have e1 : x = x' := Option.some.inj (hx.symm.trans (hx' xs hqa))
  have e2 : y = y' := Option.some.inj (hy.symm.trans (hy' ys hqb))
  subst e1 e2
  obtain ⟨s2, st2, e3⟩ := s.frozen (o := .tup [x, y]) nT
  exact ⟨_, s2, st2, rep_mk_tup (.inl (.inl upd_same)) (Reps.cons (Rep.mono (e.trans e3) _ _ rx) (Reps.one (Rep.mono (e.trans e3) _ _ ry)))⟩
theorem ai_zipT (h : AA K ts δ M fun ds M1 => ∃ xs ys, ds = [.tup xs, .tup ys] ∧ ki (zipD xs ys) M1) : AI K (RZ.iZipA K ts) δ M ki := fun σ G H R rs s f =>
  h σ G H _ rs s fun ds M1 vs G1 H1 ⟨es, fs, e, h1⟩ s1 st1 r1 => by
    subst e
    obtain ⟨x, r, rfl, rx, rr⟩ := r1.uncons
    obtain ⟨y, r', rfl, ry, rr'⟩ := rr.uncons
    unfold Reps at rr'
    subst rr'
    obtain ⟨a, xs, rfl, ha, rs2⟩ := rep_tup rx
    obtain ⟨b, ys, rfl, hb, rs3⟩ := rep_tup ry
    exact ⟨a, b, xs, ys, rfl, .inr ⟨Same.seqT s1.same ha, Same.seqT s1.same hb, f _ M1 G1 H1 _ h1 s1 st1 (itOk_zipT ha hb rs2 rs3)⟩⟩
/-! ### sorted dicts of texts, len of dicts -/
def rSortedD : List V → Hp → VK → Prop := fun xs H Q => ∃ (a : Addr) (kvs : List (Key × V)) (ks : List Str), xs = [.ref a] ∧ Rd H a (.dK kvs) ∧ kvs.map (·.1) = ks.map Sum.inr ∧ ks.length < 64 ∧
    ∀ ys p, ys.Perm ks → sortedS ys = true → H p = none → Q (.ref p) (upd H p (.lst (ys.map V.str)))
def rLenDk : List V → Hp → VK → Prop := fun xs H Q => ∃ a kvs, xs = [V.ref a] ∧ H a = some (.dK kvs) ∧ Q (.int kvs.length) H
theorem repKV_keys {κ : Type} {G : Hp} : ∀ {ds : List (κ × D)} {xs : List (κ × V)}, RepKV K G ds xs → xs.map (·.1) = ds.map (·.1)
  | [], _, h => by
    unfold RepKV at h
    subst h
    rfl
  | (q, d) :: ds, _, h => by
    unfold RepKV at h
    obtain ⟨x, r, rfl, _, t⟩ := h
    rw [List.map_cons, List.map_cons, repKV_keys t]
theorem ac_sortedD {a : Addr} {kvs : List (Key × D)} {ks : List Str} (e : M = M1 ++ (a, .dK kvs) :: M2) (hk : kvs.map (·.1) = ks.map Sum.inr) (hl : ks.length < 64) (q : ∀ ys : List Str, ys.Perm ks → sortedS ys = true → k (.lst (ys.map D.str)) M) : AC K rSortedD [.ref a] M k := fun vs G H Q rx s f => by
  obtain ⟨v, r, rfl, r1, rr⟩ := rx.uncons
  unfold Reps at rr
  subst rr
  obtain ⟨g0, o, ho, rs⟩ := s.mu (a, .dK kvs) (by rw [e]; simp)
  obtain ⟨xs, rfl, rs⟩ := rs
  refine ⟨a, xs, ks, by rw [rep_ref r1], .inl ho, by rw [repKV_keys rs]; exact hk, hl, fun ys p hp hs hn => ?_⟩
  obtain ⟨s2, st2, e2⟩ := s.frozen (o := .lst (ys.map V.str)) hn
  exact f _ M _ _ _ (q ys hp hs) s2 st2 (rep_mk_lst upd_same (reps_strs ys))
theorem ac_lenDk {a : Addr} {kvs : List (Key × D)} (e : M = M1 ++ (a, .dK kvs) :: M2) (q : k (.int (kvs.length : Nat)) M) : AC K rLenDk [.ref a] M k := fun vs G H Q rx s f => by
  obtain ⟨v, r, rfl, r1, rr⟩ := rx.uncons
  unfold Reps at rr
  subst rr
  obtain ⟨g0, o, ho, rs⟩ := s.mu (a, .dK kvs) (by rw [e]; simp)
  obtain ⟨xs, rfl, rs⟩ := rs
  refine ⟨a, xs, by rw [rep_ref r1], ho, ?_⟩
  rw [repKV_len rs]
  exact f _ M _ G H q s Step.refl rep_of_int
end
section
variable {X : Cx}
theorem sortedD_K (hc : X.calm = true) : CallR X (.builtin "sorted") rSortedD := call_sortedD hc
theorem lenDk_K : CallR X (.builtin "len") rLenDk := call_lenD
theorem zip_K {K : PySem.W.Frag} {es : List Expr} {n : Nat} {tp : Pos} {e : Expr} {ta : TA} (h0 : PI X (.Tuple es n tp) e (RZ.iZipA X.K ta)) (h : X.K = K := by rfl) : PI X (.Tuple es n tp) e (RZ.iZipA K ta) := h ▸ h0
end
section
variable {X : Cx} {k j : Nat} {x : Str} {sp : Sp} {dvs : List V} {p pos : Pos}
/-- a def without arguments -/
theorem pe_c0 (c : C8.Cal X.prog X.w X.K X.mg X.base k x sp dvs) (hr : Room j X.A) (hk : k ≤ j) (hg : Gl X x) (hdb : (x == ("__debug__" : Str)) = false := by decide) : PE X (.Call (.Name x p) [] [] pos) (tCall sp dvs C8.E0 tNil) := by
  obtain ⟨f, fd, ps, ds, F, hm, kp, b, d⟩ := c.ex
  exact pe_call0 F (hr.mono hk) hg hm kp b d C8.pass0 hdb
end
/-! ### get of a dict of the module -/
def tKGet2 (K : PySem.W.Frag) (w : World) (td ty tx : TE) : TE := fun σ H Q => td σ H fun x H1 => ∃ p es n, x = .ref p ∧ K.lookup p = some ⟨.type "dict", none, .dict es n, #[]⟩ ∧ PySem.W.KeysLit w.params es.toList ∧ (p == sysModules) = false ∧
  ty σ H1 fun y H2 => ∃ z, y = .str z ∧ tx σ H2 fun d H3 => (∃ v u, PySem.W.nsIn K p z = some (some u) ∧ RelV v u ∧ Q v H3) ∨ (PySem.W.nsIn K p z = some none ∧ Q d H3)
section
variable {X : Cx} {o e f : Expr} {apos cpos : Pos} {td ty tx : TE}
theorem pe_kget2 (ho : PE X o td) (he : PE X e ty) (hf : PE X f tx) (m : M2 X o "get" apos e f cpos) : PE X (.Call (.Attribute o "get" apos) [e, f] [] cpos) (tKGet2 X.K X.w td ty tx) := by
  refine ⟨fun pins s σ H Q I h => ?_⟩
  refine wpAny_Call_method m.base m.few m.line PySem.F.plainAttrs_dict PySem.F.slot_dict_get PySem.F.type_dict_get (thn (ho.run pins s σ H _ I h) fun u s1 ⟨x, H1, I1, rx, p, es, n, ex, hl, hk, low, q1⟩ => ?_)
  subst ex
  obtain rfl : u = Value.ref p := rx
  have hm1 := PySem.W.mapOf_K (prog := X.prog) (w := X.w) I1.kIn hl hk
  refine ⟨hm1.typeIs, fun b q => ?_, ?_⟩
  · cases q
    exact ⟨_, I1.kIn _ _ hl, rfl⟩
  rw [m.trees]
  refine Calls.callWith_builtin rfl (Calls.evalArgs_plain (Calls.spliced_cons (thn (he.run pins s1 σ H1 _ I1 q1) fun iv s2 ⟨y, H2, I2, ry, z, ey, q2⟩ =>
    Calls.spliced_cons (thn (hf.run pins s2 σ H2 _ I2 q2) fun fv s3 ⟨d, H3, I3, rd, q3⟩ => Calls.spliced_nil ?_))))
  subst ey
  obtain ⟨t, rfl⟩ := (show ∃ t, iv = Value.str z t from ry)
  have hm := PySem.W.mapOf_K (prog := X.prog) (w := X.w) I3.kIn hl hk
  refine call_meetsIn PySem.F.slot_dict_get hm.typeIs PySem.F.entry_dict_get (PySem.F.args_dict_get_3 _ _ _) (meets_dict_get_default (strKind X.prog X.w) p (strKind_is X.prog X.w z t) low fv) ⟨_, hm, ?_⟩
  rcases q3 with ⟨v, u, hn, ru, q3⟩ | ⟨hn, q3⟩
  · rw [PySem.W.find_K hl hn]
    exact ⟨v, H3, I3.tok _, ru, q3⟩
  · rw [PySem.W.find_K hl hn]
    exact ⟨d, H3, I3.tok _, rd, q3⟩
theorem kget2_K {K : PySem.W.Frag} {w : World} {e : Expr} (h0 : PE X e (tKGet2 X.K X.w td ty tx)) (h : X.K = K := by rfl) (hw : X.w = w := by rfl) : PE X e (tKGet2 K w td ty tx) := by subst h hw; exact h0
end
section
variable {K : PySem.W.Frag} {w : World} {δ : DS} {M : Mu} {k : D → Mu → Prop} {td ty tx : TE}
theorem ae_kget2 (h : AE K td δ M fun o M1 => ∃ a kvs, o = .ref a ∧ KTabV K w a kvs ∧ AE K ty δ M1 fun j M2 => ∃ z, j = .str z ∧ AE K tx δ M2 fun d M3 =>
      (∃ v dv, kvs.lookup z = some v ∧ (∀ G, Rep K G dv v) ∧ k dv M3) ∨ (kvs.lookup z = none ∧ k d M3)) : AE K (tKGet2 K w td ty tx) δ M k := fun σ G H Q rs s f =>
  h σ G H _ rs s fun o M1 vo G1 H1 ⟨a, kvs, e1, tab, h1⟩ s1 st1 r1 => by
    subst e1
    obtain ⟨es, n, g1, g2, g3⟩ := tab.ex
    refine ⟨a, es, n, rep_ref r1, g1, g2, tab.low, h1 σ G1 H1 _ (rs.mono st1.gg) s1 ?_⟩
    rintro j M2 vj G2 H2 ⟨z, rfl, h2⟩ s2 st2 r2
    refine ⟨z, rep_str r2, h2 σ G2 H2 _ (rs.mono (st1.gg.trans st2.gg)) s2 ?_⟩
    rintro d M3 vd G3 H3 h3 s3 st3 r3
    obtain ⟨g4, g5⟩ := g3.look z
    rcases h3 with ⟨v, dv, h3, h4, q⟩ | ⟨h3, q⟩
    · rcases g5 with ⟨g5, _⟩ | ⟨e, v', g5, g6, g7⟩
      · rw [h3] at g5; cases g5
      · rw [h3] at g5
        cases g5
        refine .inl ⟨v, e.val, ?_, g7, f _ _ _ _ _ q s3 ((st1.trans st2).trans st3) (h4 _)⟩
        unfold PySem.W.nsIn
        rw [g1]
        dsimp only
        rw [g6]
    · rcases g5 with ⟨_, g6⟩ | ⟨e, v', g5, _⟩
      · refine .inr ⟨?_, f _ _ _ _ _ q s3 ((st1.trans st2).trans st3) r3⟩
        unfold PySem.W.nsIn
        rw [g1]
        dsimp only
        rw [g6, g4]
        rfl
      · rw [h3] at g5; cases g5
end
end Tg
set_option Elab.async false
set_option linter.all false
set_option maxRecDepth 100000
set_option maxHeartbeats 1000000
/-! TgX: calls of what may raise, where it does not. -/
namespace Tg
open PySem L2 PyProof.Rows
theorem takes_none {X : Cx} : Takes X (fun _ _ _ _ => False) := fun u s' h => by
  obtain ⟨a, B, sI, pins, σ, H, cls, d, e, I, nb, up, sky, na, os, ag, w⟩ := h
  exact w.elim
section
variable {K : PySem.W.Frag} {δ : DS} {M : Mu} {k : D → Mu → Prop} {ts : TA} {C : Addr} {W : WtX}
theorem ae_callN (h : AA K ts δ M fun ds M1 => ∃ Mc R kc, M1 = Mc ++ R ∧ W ds Mc kc (fun _ _ => False) ∧ ∀ d Mc', kc d Mc' → k d (Mc' ++ R)) : AE K (tCallS (SpcX K C W) (WE fun _ _ _ _ => False) ts) δ M k := fun σ G H Q rs s f =>
  h σ G H _ rs s fun ds M1 vs G1 H1 ⟨Mc, R, kc, e, hw, hk⟩ s1 st1 r1 => by
    subst e
    refine ⟨G1, ds, Mc, kc, fun _ _ => False, r1, s1.sub, hw, fun d M' v G' H' hd s' st' rv => ?_, fun _ _ _ _ _ h => h.elim⟩
    obtain ⟨s2, st2⟩ := s1.join s' st'
    exact f d _ v G' H' (hk d M' hd) s2 (st1.trans st2) rv
theorem ae_lose {te : TE} {M' J : Mu} (hp : M.Perm (M' ++ J)) (h : AE K te δ M' k) : AE K te δ M k := ae_perm hp fun σ G H Q rs s f =>
  have w : ∀ b ∈ ads M', b ∈ ads (M' ++ J) := fun b hb => by
    show b ∈ (M' ++ J).map (·.1)
    rw [List.map_append]
    exact List.mem_append_left _ hb
  h σ G H Q rs s.sub fun d M2 v G2 H2 q s2 st2 r2 => f d M2 v G2 H2 q s2 (st2.wide w) r2
/-- the table ahead, what is beside it forgotten -/
theorem tb_perm {PT : Addr} {M' R : Mu} (h : (PT, MO.tb) ∈ M') : ∃ J, (M' ++ R).Perm (((PT, .tb) :: R) ++ J) := by
  obtain ⟨s, t, rfl⟩ := List.append_of_mem h
  refine ⟨s ++ t, ?_⟩
  refine (List.Perm.append_right R List.perm_middle).trans ?_
  show ((PT, MO.tb) :: ((s ++ t) ++ R)).Perm ((PT, MO.tb) :: (R ++ (s ++ t)))
  exact List.Perm.cons _ List.perm_append_comm
theorem ae_tb {te : TE} {PT : Addr} {M' R : Mu} (h : (PT, MO.tb) ∈ M') (q : AE K te δ ((PT, .tb) :: R) k) : AE K te δ (M' ++ R) k := by
  obtain ⟨J, hp⟩ := tb_perm (R := R) h
  exact ae_lose hp q
theorem as_tb {t : TS} {A : AEnds} {PT : Addr} {M' R : Mu} (h : (PT, MO.tb) ∈ M') (q : AS K t δ ((PT, .tb) :: R) A) : AS K t δ (M' ++ R) A := by
  obtain ⟨J, hp⟩ := tb_perm (R := R) h
  exact as_lose hp q
end
end Tg
set_option Elab.async false
set_option linter.all false
set_option maxRecDepth 100000
set_option maxHeartbeats 1000000
/-! TgY: own errors without fields: raised, passed on, caught by several clauses. -/
namespace Tg
open PySem L2 PyProof.Rows
/-! ### what is known of such a class -/
structure ErrP (K : PySem.W.Frag) (mg : Str → Option Value) (x : Str) (C : Addr) : Prop where
  m : mg x = some (.ref C)
  q : PySem.W.excIn K C [.type "ValueError", .type "Exception", .type "BaseException", .type "object"] "ValueError.__new__" = true
  k : PySem.W.keepIn K (.ref C) = true
  b : PySem.W.subIn K (.ref C) (.type "BaseException") = some true
  t : PySem.W.typeIn K (.ref C) = some (.type "type")
  c : PySem.W.isClsIn K C = true
theorem exm_pair {K : PySem.W.Frag} {T S : Addr} {b : Bool} (h1 : PySem.W.subIn K (.ref S) (.type "BaseException") = some true) (h2 : PySem.W.isClsIn K S = true) (h3 : PySem.W.typeIn K (.ref S) = some (.type "type")) (h4 : PySem.W.subIn K (.ref T) (.ref S) = some b) :
    PySem.W.exmOne K (.ref T) (.ref S) = some b := by
  have h2' : (PySem.W.clsIn K S).isSome = true := h2
  unfold PySem.W.exmOne PySem.W.kitCls
  rw [h1, if_pos (by decide)]
  show (if ((PySem.W.clsIn K S).isSome && PySem.W.typeIn K (.ref S) == some (.type "type")) = true then PySem.W.subIn K (.ref T) (.ref S) else none) = some b
  rw [h2', h3, if_pos (by decide), h4]
/-! ### promises of defs that may raise so -/
abbrev WtP := List D → Mu → (D → Mu → Prop) → (Addr → Mu → Prop) → Prop
def SpcP (K : PySem.W.Frag) (W : WtP) : Sp := fun vs H Q E => ∃ G ds M k kp, Reps K G ds vs ∧ S K G H M ∧ W ds M k kp ∧
  (∀ d M' v G' H', k d M' → S K G' H' M' → Step (ads M) G H (ads M') G' H' → Rep K G' d v → Q v H') ∧
  ∀ C M' G' H', kp C M' → S K G' H' M' → Step (ads M) G H (ads M') G' H' → E (.ref C) none H'
section
variable {P : Program} {w : World} {K : PySem.W.Frag} {mg : Str → Option Value} {base : Heap}
theorem spc_okP {W : WtP} {x qual : Str} {st : Stmt} {f : Addr} {fd : FuncData} {N ps : List Str} {k : Nat} (F : Fun K x qual st f fd) (Sc : FnScope N ps (defScope st)) (len : ∀ ds M kk kx, W ds M kk kx → ds.length = ps.length)
    (hbody : ∀ (cdv : Value) (A : Around) (outer : List Env) (s : Shared) (H : Hp) (E : XK), Room k (A.deeper (envOfC qual (defScope st) s.heap.objs.size f cdv)) →
      ∃ t, PSs (cxOf (L2.CX P w) P w K mg base N qual (defScope st) f cdv A outer s H E) (defBody st) t ∧
        ∀ ds M kk kp, W ds M kk kp → AS K t (startD N.length ds) M { nx := fun _ M' => kk .non M', rt := kk, ps := fun C _ M' => kp C M', P := fun C _ H' => E (.ref C) none H' }) : FnOk P w K mg base (L2.CX P w) (k + 1) f fd ps (SpcP K W) := by
  refine F.okX Sc (fun vs H Q E h => ?_) (fun cdv A outer s H vs Q E hr h => ?_)
  · obtain ⟨G, ds, M, kk, kx, r, _, hw, _⟩ := h
    rw [r.len]
    exact len ds M kk kx hw
  · obtain ⟨G, ds, M, kk, kx, r, hs, hw, q, qx⟩ := h
    obtain ⟨t, pt, ht⟩ := hbody cdv A outer s H E hr
    refine ⟨t, pt, ht ds M kk kx hw (start N vs) G H _ (relS_start r) hs ⟨?_, ?_, ?_, ?_, fun _ _ _ _ _ a => a.elim, ?_⟩⟩
    · intro δ' M' σ' G' H' a rs' s' st'
      exact q .non M' .non G' H' a s' st' rep_of_non
    · intro d M' v G' H' a s' st' rv
      exact q d M' v G' H' a s' st' rv
    · intro δ' M' σ' G' H' a
      exact a.elim
    · intro δ' M' σ' G' H' a
      exact a.elim
    · intro C δ' M' σ' G' H' a _ s' st'
      exact qx C M' G' H' a s' st'
end
/-! ### expressions -/
def AEP (K : PySem.W.Frag) (te : TE) (δ : DS) (M : Mu) (ps : Addr → Mu → Prop) (P : Addr → L2.St → Hp → Prop) (k : D → Mu → Prop) : Prop := ∀ σ G H Q, RelS K G δ σ → S K G H M →
  (∀ d M' v G' H', k d M' → S K G' H' M' → Step (ads M) G H (ads M') G' H' → Rep K G' d v → Q v H') →
  (∀ C M' G' H', ps C M' → S K G' H' M' → Step (ads M) G H (ads M') G' H' → P C σ H') → te σ H Q
/-- a method's call, what is wanted of its errors told at the slots -/
def tMethE (C : Addr) (m : Str) (sp : Sp) (E : L2.St → XK) (ta : TE) (t : TA) : TE := fun σ H Q => ta σ H fun x H1 => ∃ a dx fs, x = .ref a ∧ H1 a = some (.ins C dx fs) ∧ fs.lookup m = none ∧
  t σ H1 fun vs H2 => sp (x :: vs) H2 Q (E σ)
section
variable {X : Cx} {k j : Nat} {C : Addr} {m : Str} {sp : Sp} {W : WX} {pos apos : Pos} {e o : Expr} {es : List Expr} {ta : TE} {t : TA}
theorem pe_mtE {pl : Sem Bool} (tk : Takes X W) (c : MetX X.prog X.w X.K X.mg X.base k C m sp) (hr : Room j X.A) (hk : k ≤ j) (he : PE X o ta) (ha : PA X (e :: es) t)
    (hst : starEach (e :: es) X.env = (false, eval e X.env) :: starEach es X.env := by rfl) (hpl : (backTo pos (starEach es X.env)).any (·.1) = false := by rfl)
    (ht : eval (.Call (.Attribute o m apos) (e :: es) [] pos) X.env = (do
      let ov ← eval o X.env
      standAt apos.atName
      let (f, first) ← holding [ov] (getMethod ov m pl)
      callWith pos f first (backTo pos (starEach (e :: es) X.env)) (backToKw pos (keywordEach [] X.env))) := by rfl) :
    PE X (.Call (.Attribute o m apos) (e :: es) [] pos) (tMethE C m sp (WE W) ta t) := by
  obtain ⟨f, fd, ps, hc, hm, F, b⟩ := c.ex
  refine ⟨fun pins s σ H Q I h => ?_⟩
  refine PySem.W.methodCall_KW (pl := pl) (thn (he.run pins s σ H _ I h) fun u s1 ⟨x, H1, I1, rx, a, dx, fs, ex, ea, l, q⟩ => ?_) ht
  subst ex
  obtain rfl : u = Value.ref a := rx
  refine getmeth_ok I1 ea hc hm l ?_
  refine PySem.W.callWith_K (first := [.ref a]) (h₀ := X.base) I.ok.mod.kin hm.kp (thn (ha.run pos pins s1 σ H1 _ I1 q) fun us s2 ⟨vs, H2, I2, r, q2⟩ => ⟨I2.kIn, ?_⟩) hst hpl
  exact run_fnS (us := .ref a :: us) (vs := .ref a :: vs) F (hr.mono hk) b (passAt tk σ) I2 (.cons rfl r) q2
theorem pe_mtE0 {pl : Sem Bool} (tk : Takes X W) (c : MetX X.prog X.w X.K X.mg X.base k C m sp) (hr : Room j X.A) (hk : k ≤ j) (he : PE X o ta)
    (ht : eval (.Call (.Attribute o m apos) [] [] pos) X.env = (do
      let ov ← eval o X.env
      standAt apos.atName
      let (f, first) ← holding [ov] (getMethod ov m pl)
      callWith pos f first (backTo pos (starEach [] X.env)) (backToKw pos (keywordEach [] X.env))) := by rfl) :
    PE X (.Call (.Attribute o m apos) [] [] pos) (tMethE C m sp (WE W) ta tNil) := by
  obtain ⟨f, fd, ps, hc, hm, F, b⟩ := c.ex
  refine ⟨fun pins s σ H Q I h => ?_⟩
  refine PySem.W.methodCall_KW (pl := pl) (thn (he.run pins s σ H _ I h) fun u s1 ⟨x, H1, I1, rx, a, dx, fs, ex, ea, l, q⟩ => ?_) ht
  subst ex
  obtain rfl : u = Value.ref a := rx
  refine getmeth_ok I1 ea hc hm l ?_
  exact PySem.W.callWith_K0 (first := [.ref a]) I1.kIn hm.kp (run_fnS (us := [.ref a]) (vs := [.ref a]) F (hr.mono hk) b (passAt tk σ) I1 (.cons rfl .nil) q)
end
section
variable {K : PySem.W.Frag} {δ : DS} {M : Mu} {te : TE} {ts : TA} {k : D → Mu → Prop} {A : AEnds} {ps : Addr → Mu → Prop} {P : Addr → L2.St → Hp → Prop} {C : Addr} {m : Str} {W : WX} {Wx : WtP} {t : TS} {i : Nat}
theorem aep_meth (hP : P = fun C σ H' => W (.ref C) none σ H') (h : AE K te δ M fun x M1 => ∃ a dx fs, x = .ref a ∧ (∃ N1 N2, M1 = N1 ++ (a, MO.ins C dx fs) :: N2) ∧ fs.lookup m = none ∧
      AA K ts δ M1 fun ds M2 => ∃ Mc R kc kp, M2 = Mc ++ R ∧ Wx (.ref a :: ds) Mc kc kp ∧ (∀ d Mc', kc d Mc' → k d (Mc' ++ R)) ∧ ∀ C Mc', kp C Mc' → ps C (Mc' ++ R)) : AEP K (tMethE C m (SpcP K Wx) (WE W) te ts) δ M ps P k := fun σ G H Q rs s f' fx =>
  h σ G H _ rs s fun x M1 vx G1 H1 ⟨a, dx, fs, e1, ⟨N1, N2, e2⟩, l, h1⟩ s1 st1 r1 => by
    subst e1 hP
    obtain ⟨g0, o, ho, qs, rfl, rk⟩ := s1.mu (a, .ins C dx fs) (by rw [e2]; simp)
    refine ⟨a, dx, qs, rep_ref r1, ho, repKV_no rk l, h1 σ G1 H1 _ (rs.mono st1.gg) s1 ?_⟩
    rintro ds M2 vs G2 H2 ⟨Mc, R, kc, kp, rfl, hw, hk, hx⟩ s2 st2 r2
    rw [rep_ref r1]
    refine ⟨G2, _, Mc, kc, kp, Reps.cons rep_of_ref r2, s2.sub, hw, fun d M' v G' H' hd s' st' rv => ?_, fun C' M' G' H' hk' s' st' => ?_⟩
    · obtain ⟨s3, st3⟩ := s2.join s' st'
      exact f' d _ v G' H' (hk d M' hd) s3 ((st1.trans st2).trans st3) rv
    · obtain ⟨s3, st3⟩ := s2.join s' st'
      exact fx C' (M' ++ R) G' H' (hx C' M' hk') s3 ((st1.trans st2).trans st3)
/-- where it does not raise -/
theorem ae_mtN (h : AE K te δ M fun x M1 => ∃ a dx fs, x = .ref a ∧ (∃ N1 N2, M1 = N1 ++ (a, MO.ins C dx fs) :: N2) ∧ fs.lookup m = none ∧
      AA K ts δ M1 fun ds M2 => ∃ Mc R kc, M2 = Mc ++ R ∧ Wx (.ref a :: ds) Mc kc (fun _ _ => False) ∧ ∀ d Mc', kc d Mc' → k d (Mc' ++ R)) : AE K (tMethE C m (SpcP K Wx) (WE fun _ _ _ _ => False) te ts) δ M k := fun σ G H Q rs s f =>
  aep_meth (W := fun _ _ _ _ => False) (ps := fun _ _ => False) (P := fun _ _ _ => False) rfl (fun σ G H Q rs s f => h σ G H Q rs s fun x M1 v G1 H1 ⟨a, dx, fs, e1, e2, l, h1⟩ s1 st1 r1 => f x M1 v G1 H1 ⟨a, dx, fs, e1, e2, l, fun σ G H Q rs s f => h1 σ G H Q rs s fun ds M2 vs G2 H2 ⟨Mc, R, kc, e, hw, hk⟩ s2 st2 r2 =>
    f ds M2 vs G2 H2 ⟨Mc, R, kc, fun _ _ => False, e, hw, hk, fun _ _ z => z.elim⟩ s2 st2 r2⟩ s1 st1 r1) σ G H Q rs s f (fun _ _ _ _ z => z.elim)
theorem as_retP (h : AEP K te δ M (fun C M' => A.ps C δ M') A.P A.rt) : AS K (tRet te) δ M A := fun σ G H E rs s f =>
  h σ G H E.rt rs s (fun d M1 v G1 H1 h1 s1 st1 r1 => f.rt d M1 v G1 H1 h1 s1 st1 r1) fun C M' G' H' q s' st' => f.ps C δ M' σ G' H' q (rs.mono st'.gg) s' st'
theorem as_dropP (h : AEP K te δ M (fun C M' => A.ps C δ M') A.P fun _ M1 => A.nx δ M1) : AS K (tDrop te) δ M A := fun σ G H E rs s f =>
  h σ G H _ rs s (fun d M1 v G1 H1 h1 s1 st1 r1 => f.nx δ M1 σ G1 H1 h1 (rs.mono st1.gg) s1 st1) fun C M' G' H' q s' st' => f.ps C δ M' σ G' H' q (rs.mono st'.gg) s' st'
/-- raise X('..') -/
def tRaiseP (C : Addr) (W : WX) : TS := fun _ σ H => W (.ref C) none σ H
theorem as_raiseP (hA : A.P = fun C σ H => W (.ref C) none σ H) (q : A.ps C δ M) : AS K (tRaiseP C W) δ M A := fun σ G H E rs s f => by
  have h := f.ps C δ M σ G H q rs s Step.refl
  rw [hA] at h
  exact h
/-! ### caught -/
/-- the first clause that takes an error of the class C does what is wanted -/
def Hnd (K : PySem.W.Frag) (A : AEnds) (C : Addr) (δ : DS) (M : Mu) : List (Value × (Addr → Value → Option Addr → TS)) → Prop
  | [] => False
  | (c, ts) :: r => (PySem.W.exmOne K (.ref C) c = some true ∧ ∀ a, AS K (ts a (.ref C) none) δ M A) ∨ (PySem.W.exmOne K (.ref C) c = some false ∧ Hnd K A C δ M r)
theorem Hnd.many {Wout : WX} {σ : L2.St} {G H : Hp} {E : Ends} (rs : RelS K G δ σ) (s : S K G H M) (f : Fit K A M G H E) : ∀ {l : List (Value × (Addr → Value → Option Addr → TS))}, Hnd K A C δ M l → wMany K Wout E l (.ref C) none σ H
  | [], h => h.elim
  | (c, ts) :: r, h => by
    rcases h with ⟨e, h⟩ | ⟨e, h⟩
    · exact ⟨true, e, fun _ a _ => h a σ G H E rs s f, fun z => nomatch z⟩
    · exact ⟨false, e, fun z => (nomatch z), fun _ => Hnd.many rs s f h⟩
def tTryM (K : PySem.W.Frag) (tb : WX → TS) (Wout : WX) (l : List (Value × (Addr → Value → Option Addr → TS))) : TS := fun D σ H => tb (wMany K Wout D l) D σ H
theorem as_tryM {tb : WX → TS} {Wout : WX} {l : List (Value × (Addr → Value → Option Addr → TS))} (h : ∀ W : WX, AS K (tb W) δ M { nx := A.nx, rt := A.rt, bk := A.bk, ct := A.ct, ps := fun C δ' M' => Hnd K A C δ' M' l, P := fun C σ H => W (.ref C) none σ H }) : AS K (tTryM K tb Wout l) δ M A := fun σ G H E rs s f =>
  h (wMany K Wout E l) σ G H E rs s ⟨f.nx, f.rt, f.bk, f.ct, fun _ _ _ _ _ z => z.elim, fun C δ' M' σ' G' H' q rs' s' st' => Hnd.many rs' s' (f.go st') q⟩
end
section
variable {X : Cx} {W : WX} {C : Addr} {K : PySem.W.Frag}
theorem ps_raiseP {x m : Str} {j : Nat} {p p2 pos pos2 : Pos} (hc : X.calm = true) (tk : Takes X W) (e : ErrP X.K X.mg x C) (hg : Gl X x) (hdb : (x == ("__debug__" : Str)) = false := by decide) :
    PS X (.Raise (some (.Call (.Name x p) [.Constant (.str m) j p2] [] pos)) none pos2) (tRaiseP C W) := ps_raise hc tk (pmk_own PySem.F.excBase_ValueError e.q e.m e.k (raises_own e.b e.t) hg hdb)
theorem ps_tryM {body : List Stmt} {h₀ : ExceptHandler} {hds : List ExceptHandler} {l : List (Value × (Addr → Value → Option Addr → TS))} {pos : Pos} {tb : WX → TS} {Wout : WX} (hs : X.stack = X.env :: X.outer) (hf : X.env.frame = some X.env.locals) (tk : Takes X Wout)
    (hb : ∀ (W : WX) (pn : List (Addr × Obj)) (xe : Value → Shared → Prop), Takes (X.tr pn xe) W → PassesOwn (model X.prog X.w) X.A X.env xe → PSs (X.tr pn xe) body (tb W))
    (hh : HdsOk X (h₀ :: hds) l) (hK : X.K = K := by rfl) : PS X (.Try body (h₀ :: hds) [] [] pos) (tTryM K tb Wout l) := by
  subst hK
  exact ps_try_many hs hf tk hb hh
end
end Tg
set_option Elab.async false
set_option linter.all false
set_option maxRecDepth 100000
set_option maxHeartbeats 1000000
/-! TgZ: calls of defs that raise as statements; properties; dicts that may change: asked, reduced, looked up; errors with fields caught around a method. -/
namespace Tg
open PySem L2 PyProof.Rows
section
variable {K : PySem.W.Frag} {δ : DS} {M M1 M2 : Mu} {te td ty tx : TE} {ts : TA} {k : D → Mu → Prop} {A : AEnds} {xs : XS} {W : Addr → Hp → Prop} {C Ce : Addr} {m : Str} {E : XK} {ps : Addr → Mu → Prop} {P : Addr → L2.St → Hp → Prop} {V : WX} {i : Nat} {x y : D}
/-! ### calls -/
theorem aex_call {Wx : WtX} (hW : W = fun d H' => E (.ref Ce) (some d) H') (h : AA K ts δ M fun ds M1 => ∃ Mc R kc kx, M1 = Mc ++ R ∧ Wx ds Mc kc kx ∧ (∀ d Mc', kc d Mc' → k d (Mc' ++ R)) ∧ ∀ fs Mc', kx fs Mc' → xs fs (Mc' ++ R)) :
    AEX K (tCallS (SpcX K Ce Wx) (WE fun cls d _ H => E cls d H) ts) δ M xs W k := fun σ G H Q rs s f' fx =>
  h σ G H _ rs s fun ds M1 vs G1 H1 ⟨Mc, R, kc, kx, e, hw, hk, hx⟩ s1 st1 r1 => by
    subst e hW
    refine ⟨G1, ds, Mc, kc, kx, r1, s1.sub, hw, fun d M' v G' H' hd s' st' rv => ?_, fun fs' M' d G' H' hk' s' st' => ?_⟩
    · obtain ⟨s3, st3⟩ := s1.join s' st'
      exact f' d _ v G' H' (hk d M' hd) s3 (st1.trans st3) rv
    · obtain ⟨s3, st3⟩ := s1.join s' st'
      have hp : ((M' ++ [(d, MO.xd fs')]) ++ R).Perm ((M' ++ R) ++ [(d, MO.xd fs')]) := by
        rw [List.append_assoc, List.append_assoc]
        exact List.Perm.append_left M' List.perm_append_comm
      exact fx fs' (M' ++ R) d G' H' (hx fs' M' hk') (s3.perm hp) ((st1.trans st3).perm (fun _ => Iff.rfl) (ads_perm hp))
theorem aep_call {Wx : WtP} (hP : P = fun C σ H' => V (.ref C) none σ H') (h : AA K ts δ M fun ds M1 => ∃ Mc R kc kp, M1 = Mc ++ R ∧ Wx ds Mc kc kp ∧ (∀ d Mc', kc d Mc' → k d (Mc' ++ R)) ∧ ∀ C Mc', kp C Mc' → ps C (Mc' ++ R)) :
    AEP K (tCallS (SpcP K Wx) (WE V) ts) δ M ps P k := fun σ G H Q rs s f' fx =>
  h σ G H _ rs s fun ds M1 vs G1 H1 ⟨Mc, R, kc, kp, e, hw, hk, hx⟩ s1 st1 r1 => by
    subst e hP
    refine ⟨G1, ds, Mc, kc, kp, r1, s1.sub, hw, fun d M' v G' H' hd s' st' rv => ?_, fun C' M' G' H' hk' s' st' => ?_⟩
    · obtain ⟨s3, st3⟩ := s1.join s' st'
      exact f' d _ v G' H' (hk d M' hd) s3 (st1.trans st3) rv
    · obtain ⟨s3, st3⟩ := s1.join s' st'
      exact fx C' (M' ++ R) G' H' (hx C' M' hk') s3 (st1.trans st3)
theorem ae_callPN {Wx : WtP} (h : AA K ts δ M fun ds M1 => ∃ Mc R kc, M1 = Mc ++ R ∧ Wx ds Mc kc (fun _ _ => False) ∧ ∀ d Mc', kc d Mc' → k d (Mc' ++ R)) : AE K (tCallS (SpcP K Wx) (WE fun _ _ _ _ => False) ts) δ M k := fun σ G H Q rs s f =>
  aep_call (V := fun _ _ _ _ => False) (ps := fun _ _ => False) (P := fun _ _ _ => False) rfl (fun σ G H Q rs s f => h σ G H Q rs s fun ds M2 vs G2 H2 ⟨Mc, R, kc, e, hw, hk⟩ s2 st2 r2 =>
    f ds M2 vs G2 H2 ⟨Mc, R, kc, fun _ _ => False, e, hw, hk, fun _ _ z => z.elim⟩ s2 st2 r2) σ G H Q rs s f (fun _ _ _ _ z => z.elim)
/-- a method that may raise an error with fields -/
theorem aexe_meth {Wx : WtX} (hW : W = fun d H' => E (.ref Ce) (some d) H') (h : AE K te δ M fun x M1 => ∃ a dx fs, x = .ref a ∧ (∃ N1 N2, M1 = N1 ++ (a, MO.ins C dx fs) :: N2) ∧ fs.lookup m = none ∧
      AA K ts δ M1 fun ds M2 => ∃ Mc R kc kx, M2 = Mc ++ R ∧ Wx (.ref a :: ds) Mc kc kx ∧ (∀ d Mc', kc d Mc' → k d (Mc' ++ R)) ∧ ∀ fs Mc', kx fs Mc' → xs fs (Mc' ++ R)) : AEX K (tMethE C m (SpcX K Ce Wx) (WE fun cls d _ H => E cls d H) te ts) δ M xs W k := fun σ G H Q rs s f' fx =>
  h σ G H _ rs s fun x M1 vx G1 H1 ⟨a, dx, fs, e1, ⟨N1, N2, e2⟩, l, h1⟩ s1 st1 r1 => by
    subst e1 hW
    obtain ⟨g0, o, ho, qs, rfl, rk⟩ := s1.mu (a, .ins C dx fs) (by rw [e2]; simp)
    refine ⟨a, dx, qs, rep_ref r1, ho, repKV_no rk l, h1 σ G1 H1 _ (rs.mono st1.gg) s1 ?_⟩
    rintro ds M2 vs G2 H2 ⟨Mc, R, kc, kx, rfl, hw, hk, hx⟩ s2 st2 r2
    rw [rep_ref r1]
    refine ⟨G2, _, Mc, kc, kx, Reps.cons rep_of_ref r2, s2.sub, hw, fun d M' v G' H' hd s' st' rv => ?_, fun fs' M' d G' H' hk' s' st' => ?_⟩
    · obtain ⟨s3, st3⟩ := s2.join s' st'
      exact f' d _ v G' H' (hk d M' hd) s3 ((st1.trans st2).trans st3) rv
    · obtain ⟨s3, st3⟩ := s2.join s' st'
      have hp : ((M' ++ [(d, MO.xd fs')]) ++ R).Perm ((M' ++ R) ++ [(d, MO.xd fs')]) := by
        rw [List.append_assoc, List.append_assoc]
        exact List.Perm.append_left M' List.perm_append_comm
      exact fx fs' (M' ++ R) d G' H' (hx fs' M' hk') (s3.perm hp) (((st1.trans st2).trans st3).perm (fun _ => Iff.rfl) (ads_perm hp))
/-- try: o.f(..) except X as n: suite -/
def tTryDm (K : PySem.W.Frag) (C Ce : Addr) (m : Str) (W : WtX) (te : TE) (ta : TA) (i : Nat) (ts : Addr → Value → Option Addr → TS) : TS := fun D σ H => tDrop (tMethE C m (SpcX K Ce W) (WE (wAs K (.ref Ce) i ts (fun _ _ _ _ => False) D)) te ta) D σ H
theorem as_tryDm {Wx : WtX} {ta : TA} {tz : Addr → Value → Option Addr → TS} (te' : PySem.W.exmOne K (.ref Ce) (.ref Ce) = some true) (h : AE K te δ M fun x M1 => ∃ a dx fs, x = .ref a ∧ (∃ N1 N2, M1 = N1 ++ (a, MO.ins C dx fs) :: N2) ∧ fs.lookup m = none ∧
      AA K ta δ M1 fun ds M2 => ∃ Mc R kc kx, M2 = Mc ++ R ∧ Wx (.ref a :: ds) Mc kc kx ∧ (∀ d Mc', kc d Mc' → A.nx δ (Mc' ++ R)) ∧
      ∀ fs Mc' a d, kx fs Mc' → AS K (tz a (.ref Ce) (some d)) (δ.set i (some (.ref a))) ((Mc' ++ [(d, .xd fs)]) ++ R) { A with nx := fun δ' M' => A.nx (δ'.set i none) M', bk := fun δ' M' => A.bk (δ'.set i none) M', ct := fun δ' M' => A.ct (δ'.set i none) M', ps := fun _ _ _ => False }) :
    AS K (tTryDm K C Ce m Wx te ta i tz) δ M A := fun σ G H E rs s f =>
  h σ G H _ rs s fun x M1 vx G1 H1 ⟨a, dx, fs, e1, ⟨N1, N2, e2⟩, l, h1⟩ s1 st1 r1 => by
    subst e1
    obtain ⟨g0, o, ho, qs, rfl, rk⟩ := s1.mu (a, .ins C dx fs) (by rw [e2]; simp)
    refine ⟨a, dx, qs, rep_ref r1, ho, repKV_no rk l, h1 σ G1 H1 _ (rs.mono st1.gg) s1 ?_⟩
    rintro ds M2 vs G2 H2 ⟨Mc, R, kc, kx, rfl, hw, hn, hx⟩ s2 st2 r2
    rw [rep_ref r1]
    have st12 := st1.trans st2
    refine ⟨G2, _, Mc, kc, kx, Reps.cons rep_of_ref r2, s2.sub, hw, fun d M' v G' H' hd s' st' rv => ?_, fun fs M' d G' H' hk s' st' => ?_⟩
    · obtain ⟨s3, st3⟩ := s2.join s' st'
      exact f.nx _ _ _ G' H' (hn d M' hd) (rs.mono (st12.trans st3).gg) s3 (st12.trans st3)
    · obtain ⟨s3, st3⟩ := s2.join s' st'
      have st := st12.trans st3
      have fg := f.go st
      refine ⟨true, te', fun _ b hb => ?_, fun q => nomatch q⟩
      refine hx fs M' b d hk (σ.set i (some (.ref b))) G' H' _ ((rs.mono st.gg).set i rep_of_ref) s3 ⟨?_, fg.rt, ?_, ?_, fg.xs, fun C δ' M2 σ' G2 H2 q => q.elim⟩
      · intro δ' M2 σ' G2 H2 q r s4 st4
        exact fg.nx _ M2 _ G2 H2 q (r.drop i) s4 st4
      · intro δ' M2 σ' G2 H2 q r s4 st4
        exact fg.bk _ M2 _ G2 H2 q (r.drop i) s4 st4
      · intro δ' M2 σ' G2 H2 q r s4 st4
        exact fg.ct _ M2 _ G2 H2 q (r.drop i) s4 st4
/-! ### properties -/
theorem ae_prop {W : Wt} {sp : Sp} (e : sp = Spc K W) (h : AE K te δ M fun x M1 => ∃ a dx fs, x = .ref a ∧ (∃ N1 N2, M1 = N1 ++ (a, MO.ins C dx fs) :: N2) ∧ ∃ Mc R kc, M1 = Mc ++ R ∧ W [.ref a] Mc kc ∧ ∀ d Mc', kc d Mc' → k d (Mc' ++ R)) : AE K (tProp C sp [] E te) δ M k := fun σ G H Q rs s f' =>
  h σ G H _ rs s fun x M1 vx G1 H1 ⟨a, dx, fs, e1, ⟨N1, N2, e2⟩, Mc, R, kc, e3, hw, hk⟩ s1 st1 r1 => by
    subst e e1
    obtain ⟨g0, o, ho, qs, rfl, rk⟩ := s1.mu (a, .ins C dx fs) (by rw [e2]; simp)
    refine ⟨a, dx, qs, rep_ref r1, ho, ?_⟩
    subst e3
    refine ⟨G1, _, Mc, kc, Reps.one rep_of_ref, s1.sub, hw, fun d M' v G' H' hd s' st' rv => ?_⟩
    obtain ⟨s3, st3⟩ := s1.join s' st'
    exact f' d _ v G' H' (hk d M' hd) s3 (st1.trans st3) rv
/-! ### dicts that may change -/
theorem ae_dget1 (h : AE K td δ M fun o M1 => (∃ a kvs N1 N2, o = .ref a ∧ M1 = N1 ++ (a, MO.dK kvs) :: N2) ∧ AE K ty δ M1 fun j M2 => ∃ a kvs N1 N2 key, o = .ref a ∧ j = keyD key ∧ M2 = N1 ++ (a, MO.dK kvs) :: N2 ∧ k ((valD kvs key).getD .non) M2) : AE K (tDGet1 td ty) δ M k := fun σ G H Q rs s f =>
  h σ G H _ rs s fun o M1 vo G1 H1 ⟨⟨a, kvs, N1, N2, e1, e2⟩, h1⟩ s1 st1 r1 => by
    subst e1
    refine ⟨a, rep_ref r1, ?_, h1 σ G1 H1 _ (rs.mono st1.gg) s1 fun j M2 vj G2 H2 h2 s2 st2 r2 => ?_⟩
    · obtain ⟨g0, o, ho, r⟩ := s1.mu (a, .dK kvs) (by rw [e2]; simp)
      obtain ⟨xs, rfl, rx⟩ := r
      exact .inl ⟨xs, .inl ho⟩
    · obtain ⟨a', kvs, N1, N2, key, e3, e4, e5, q⟩ := h2
      cases e3
      subst e4
      obtain ⟨g0, o, ho, r⟩ := s2.mu (a, .dK kvs) (by rw [e5]; simp)
      obtain ⟨xs, rfl, rx⟩ := r
      have st := st1.trans st2
      rw [rep_key r2]
      refine ⟨valV xs key, DGet.k ho, ?_⟩
      obtain ⟨g1, g2⟩ := repKV_get (q := key) rx
      cases hv : valD kvs key with
      | none =>
        rw [hv] at q
        rw [g2 hv]
        exact f .non M2 .non G2 H2 q s2 st rep_of_non
      | some dv =>
        rw [hv] at q
        obtain ⟨v, e6, r6⟩ := g1 dv hv
        rw [e6]
        exact f dv M2 v G2 H2 q s2 st r6
/-- x in d, of a dict that may change -/
def rInDk : R2 := fun x y H Q => ∃ a o, y = .ref a ∧ DGet H a x o ∧ Q (.bl o.isSome) H
def rNotInDk : R2 := fun x y H Q => ∃ a o, y = .ref a ∧ DGet H a x o ∧ Q (.bl (!o.isSome)) H
theorem ar_notinDk {a : Addr} {kvs : List (Key × D)} {key : Key} (e : M = M1 ++ (a, .dK kvs) :: M2) (hx : x = keyD key) (q : k (.bl (!(valD kvs key).isSome)) M) : AR K rNotInDk x (.ref a) M k := fun vx vy G H Q rx ry s f => by
  subst hx
  obtain ⟨g0, o, ho, r⟩ := s.mu (a, .dK kvs) (by rw [e]; simp)
  obtain ⟨xs, rfl, rs⟩ := r
  obtain ⟨g1, g2⟩ := repKV_get (q := key) rs
  refine ⟨a, valV xs key, rep_ref ry, by rw [rep_key rx]; exact DGet.k ho, ?_⟩
  cases hv : valD kvs key with
  | none =>
    rw [hv] at q
    rw [g2 hv]
    exact f _ M _ G H q s Step.refl rep_of_bl
  | some dv =>
    rw [hv] at q
    obtain ⟨v, e6, r6⟩ := g1 dv hv
    rw [e6]
    exact f _ M _ G H q s Step.refl rep_of_bl
theorem ar_inDk {a : Addr} {kvs : List (Key × D)} {key : Key} (e : M = M1 ++ (a, .dK kvs) :: M2) (hx : x = keyD key) (q : k (.bl (valD kvs key).isSome) M) : AR K rInDk x (.ref a) M k := fun vx vy G H Q rx ry s f => by
  subst hx
  obtain ⟨g0, o, ho, r⟩ := s.mu (a, .dK kvs) (by rw [e]; simp)
  obtain ⟨xs, rfl, rs⟩ := r
  obtain ⟨g1, g2⟩ := repKV_get (q := key) rs
  refine ⟨a, valV xs key, rep_ref ry, by rw [rep_key rx]; exact DGet.k ho, ?_⟩
  cases hv : valD kvs key with
  | none =>
    rw [hv] at q
    rw [g2 hv]
    exact f _ M _ G H q s Step.refl rep_of_bl
  | some dv =>
    rw [hv] at q
    obtain ⟨v, e6, r6⟩ := g1 dv hv
    rw [e6]
    exact f _ M _ G H q s Step.refl rep_of_bl
/-- d.pop(x, y), of a dict without x -/
theorem ae_dpop2N (h : AE K td δ M fun o M1 => (∃ a kvs N1 N2, o = .ref a ∧ M1 = N1 ++ (a, MO.dK kvs) :: N2) ∧ AE K ty δ M1 fun j M2 => AE K tx δ M2 fun z M3 => ∃ a kvs N1 N2 key, o = .ref a ∧ j = keyD key ∧ M3 = N1 ++ (a, MO.dK kvs) :: N2 ∧ valD kvs key = none ∧ k z M3) : AE K (tDPop2 td ty tx) δ M k := fun σ G H Q rs s f =>
  h σ G H _ rs s fun o M1 vo G1 H1 ⟨⟨a, kvs, N1, N2, e1, e2⟩, h1⟩ s1 st1 r1 => by
    subst e1
    refine ⟨a, rep_ref r1, ?_, h1 σ G1 H1 _ (rs.mono st1.gg) s1 fun j M2 vj G2 H2 h2 s2 st2 r2 => h2 σ G2 H2 _ (rs.mono (st1.trans st2).gg) s2 fun z M3 vz G3 H3 h3 s3 st3 r3 => ?_⟩
    · obtain ⟨g0, o, ho, r⟩ := s1.mu (a, .dK kvs) (by rw [e2]; simp)
      obtain ⟨xs, rfl, rx⟩ := r
      exact .inl ⟨xs, .inl ho⟩
    · obtain ⟨a', kvs, N1, N2, key, e3, e4, e5, hv, q⟩ := h3
      cases e3
      subst e4
      obtain ⟨g0, o, ho, r⟩ := s3.mu (a, .dK kvs) (by rw [e5]; simp)
      obtain ⟨xs, rfl, rx⟩ := r
      obtain ⟨g1, g2⟩ := repKV_get (q := key) rx
      refine ⟨xs, key, ho, rep_key r2, fun v hv' => ?_, fun _ => f z M3 vz G3 H3 q s3 ((st1.trans st2).trans st3) r3⟩
      rw [g2 hv] at hv'
      cases hv'
/-! ### texts in a list that may change -/
theorem anin_strsM {z : Str} {a : Addr} {ss : List Str} (e : M = M1 ++ (a, .lst (ss.map D.str)) :: M2) (q : k (.bl (!decide (z ∈ ss))) M) : AR K (rNotInU K) (.str z) (.ref a) M k := fun vx vy G H Q rx ry s f => by
  obtain ⟨g0, o, ho, rs⟩ := s.mu (a, .lst (ss.map D.str)) (by rw [e]; simp)
  obtain ⟨xs, rfl, rs⟩ := rs
  have e := rs.strs
  subst e
  refine .inr (.inr ⟨a, _, rep_ref ry, .inl (.inl (.inl ho)), by rw [rep_str rx]; rfl, flat_strs, ?_⟩)
  rw [rep_str rx, if_pos rfl, inV_strs]
  exact f _ M _ G H q s Step.refl rep_of_bl
end
/-! ### a method of whom nothing is asked -/
theorem met_none {P : Program} {w : World} {K : PySem.W.Frag} {mg : Str → Option Value} {base : Heap} {C : Addr} {m qual : Str} {st : Stmt} {ps : List Str} {W : Wt} {n : Nat} (c : Cls K C) (D : DefM K C m qual st ps) (no : ∀ ds M k, ¬ W ds M k) : C8.Met P w K mg base n C m (Spc K W) [] :=
  met_of c D fun f fd F => ⟨fun vs H Q E h => by
    obtain ⟨_, ds, M, k, _, _, hw, _⟩ := h
    exact absurd hw (no ds M k), fun A outer s H args us vs Q E _ _ _ _ h => by
    obtain ⟨_, ds, M, k, _, _, hw, _⟩ := h
    exact absurd hw (no ds M k)⟩
/-! ### a property of a class -/
structure DefP (K : PySem.W.Frag) (C : Addr) (m qual : Str) (st : Stmt) (ps : List Str) : Prop where
  ex : ∃ p f fd, PropOf K C m p f ∧ Fun K m qual st f fd ∧ Binds K fd ps []
structure Prp (P : Program) (w : World) (K : PySem.W.Frag) (mg : Str → Option Value) (base : Heap) (k : Nat) (C : Addr) (m : Str) (sp : Sp) : Prop where
  ex : ∃ (p f : Addr) (fd : FuncData) (ps : List Str), Cls K C ∧ PropOf K C m p f ∧ FnOk P w K mg base C8.CX0 k f fd ps sp ∧ Binds K fd ps []
theorem prp_of {P : Program} {w : World} {K : PySem.W.Frag} {mg : Str → Option Value} {base : Heap} {C : Addr} {m qual : Str} {st : Stmt} {ps : List Str} {k : Nat} {sp : Sp} (c : Cls K C) (D : DefP K C m qual st ps)
    (ok : ∀ f fd, Fun K m qual st f fd → FnOk P w K mg base C8.CX0 k f fd ps sp) : Prp P w K mg base k C m sp := by
  obtain ⟨p, f, fd, hp, F, b⟩ := D.ex
  exact ⟨p, f, fd, ps, c, hp, ok f fd F, b⟩
section
variable {X : Cx} {K : PySem.W.Frag} {k j : Nat} {C : Addr} {m : Str} {sp : Sp} {pos : Pos} {o : Expr} {ta : TE}
theorem pe_prp (c : Prp X.prog X.w X.K X.mg X.base k C m sp) (hr : Room j X.A) (hk : k + 1 ≤ j) (he : PE X o ta) (hab : attributeBase o m X.env (eval o X.env) = eval o X.env := by rfl) : PE X (.Attribute o m pos) (tProp C sp [] C8.E0 ta) := by
  obtain ⟨p, f, fd, ps, hc, hp, F, b⟩ := c.ex
  exact pe_prop he hc hp F (hr.mono hk) b .nil C8.pass0 hab
theorem inDk_K (hu : X.A.units + 1 < cLine) : OpR X (compareOp .In) rInDk := by
  rintro pins s σ H x y v u Q I rx ry ⟨a, o, rfl, g, q⟩
  obtain rfl : u = Value.ref a := ry
  exact d_in hu I g rx fun s3 I3 => ⟨.bl o.isSome, H, I3, rfl, q⟩
theorem notinDk_K (hu : X.A.units + 1 < cLine) : OpR X (compareOp .NotIn) rNotInDk := by
  rintro pins s σ H x y v u Q I rx ry ⟨a, o, rfl, g, q⟩
  obtain rfl : u = Value.ref a := ry
  exact d_notIn hu I g rx fun s3 I3 => ⟨.bl (!o.isSome), H, I3, rfl, q⟩
end
end Tg
set_option maxRecDepth 100000
set_option maxHeartbeats 2000000
open PySem L2
namespace Tg
theorem dict_end_hot {prog : Program} {w : World} {K : Type} [DecidableEq K] {knd : KeyKind prog w K} {A : Around} {E : Value → Shared → Prop} {s : Shared} {it d x1 : Addr} {i ep : Nat} {kvs : List (K × Value)} {Q : Option Value → Shared → Prop}
    (hot : HotX.HotAt A x1 s.heap) (hne : x1 ≠ it) (hit : s.heap.IsKeyIter it d i kvs.length ep) (hm : Heap.DictAt knd s.heap d kvs ep) (hx : kvs[i]? = none)
    (hQ : ∀ h' : Heap, (∀ (b : Addr) (o : Obj), b ≠ it → s.heap.get? b = some o → h'.get? b = some o) → Q none { s with heap := h' }) : wpAny (model prog w) A (pyNext (.ref it)) Q E s := by
  obtain ⟨o, ho, hc, hd⟩ := id hit
  obtain ⟨od, es, hod, hcd, hdd, hk, hp, hn⟩ := id hm
  refine wpAny_bind (wpAny_attempt (wpAny_callSpecial?_slot hit.typeIs F.slot_dict_keyiterator_next (wpAny_call_entry F.slot_dict_keyiterator_next hit.typeIs F.entry_dict_keyiterator_next ?_)))
  refine wpAny_bind (wpAny_pure ?_)
  refine wpAny_bind (wpAny_bind (wpAny_bind (wpAny_typeNameOfWhole_keyiter hit.typeIs (wpAny_pure ?_))))
  refine wpAny_bind (wpAny_fieldsOf ho hd ?_)
  have hown : Builtin.Dict_items.ownsTuple "dict_keyiterator" = false := by decide +kernel
  simp only [hown, Bool.false_eq_true, if_false, List.drop_zero, List.take_succ_cons, List.take_zero]
  rw [if_neg (show ¬ ((Value.ref d == Value.none) = true) from fun h => Bool.false_ne_true h)]
  refine wpAny_bind (wpAny_pure ?_)
  refine wpAny_bind (wpAny_dictEntries hod hdd ?_)
  have hsz : es.size = kvs.length := by
    have e9 := Pairs.length hp
    rw [Array.length_toList] at e9
    exact e9
  rw [if_neg (show ¬ (((es.size : Int) != (kvs.length : Int)) = true) by rw [hsz]; simp)]
  refine wpAny_bind (wpAny_pure ?_)
  refine wpAny_bind (wpAny_dictEpoch hod hdd ?_)
  rw [if_neg (show ¬ (((ep : Int) != (ep : Int)) = true) by simp)]
  refine wpAny_pure ?_
  have hge : es.size ≤ i := by
    rw [hsz]
    exact List.getElem?_eq_none_iff.mp hx
  have hnone : (if ((i : Nat) : Int) < 0 then (none : Option DictEntry) else es[((i : Nat) : Int).toNat]?) = none := by
    rw [if_neg (by omega), Int.toNat_natCast]
    exact Array.getElem?_eq_none hge
  dsimp only
  rw [hnone]
  dsimp only
  refine wpAny_bind (wpAny_bind (wpAny_typeNameOfWhole_keyiter hit.typeIs (wpAny_pure ?_)))
  refine wpAny_bind (wpAny_setField ho hd (by rw [hown]; show 0 < 4; decide) ?_)
  obtain ⟨hh, o1, vs1, h1, d1, c1⟩ := hot
  generalize hH : s.heap.update it (Obj.mapFields fun x => x.setIfInBounds (if Builtin.Dict_items.ownsTuple "dict_keyiterator" = true then 2 else 0) Value.none) = H1
  have hk1 : ∀ (b : Addr) (o : Obj), b ≠ it → s.heap.get? b = some o → H1.get? b = some o := fun b o hb e => by
    rw [← hH, Heap.get?_update_other _ _ (Ne.symm hb)]
    exact e
  refine wpAny_bind (wpAny_bind (wpAny_newObj_type (wpAny_bind (wpAny_of_eq rfl (wpAny_newObj_type ?_)))))
  have lt1 : x1 < H1.objs.size := Heap.lt_size (hk1 x1 o1 hne h1)
  have lt2 : x1 < (H1.push { cls := Value.type "tuple", data := Data.seq #[] }).objs.size := Heap.lt_size (Heap.get?_push_of_some _ (hk1 x1 o1 hne h1))
  refine HotX.raiseNew_hot (x1 := x1) ⟨hh, o1, vs1, Heap.get?_push_of_some _ (Heap.get?_push_of_some _ (hk1 x1 o1 hne h1)), d1, c1⟩ (Nat.ne_of_lt lt2) (Heap.get?_push_size _ rfl) rfl (by rw [Array.size_append]; show 2 < 6 + _; omega) ?_
  refine wpAny_bind (wpAny_isInstance ⟨_, Heap.get?_update_self _ (Heap.get?_push_size _ rfl) rfl, rfl⟩ isSubtype_stop (wpAny_pure ?_))
  refine hQ _ fun b o hb e => ?_
  have e1 := hk1 b o hb e
  have e2 := Heap.get?_push_of_some { cls := Value.type "tuple", data := Data.seq #[] } e1
  rw [Heap.get?_update_other _ _ (Nat.ne_of_gt (Heap.lt_size e2))]
  exact Heap.get?_push_of_some _ e2
/-- the handled error stands as it is -/
def HotO (x1 : Addr) (h : Heap) : Prop := ∃ o vs, h.get? x1 = some o ∧ o.data = Data.fields vs ∧ vs[2]? = some Value.none
theorem HotO.keep {x1 : Addr} {h h' : Heap} (a : HotO x1 h) (k : ∀ o, h.get? x1 = some o → h'.get? x1 = some o) : HotO x1 h' := by
  obtain ⟨o, vs, h1, h2, h3⟩ := a
  exact ⟨o, vs, k o h1, h2, h3⟩
theorem walks_hot {prog : Program} {w : World} {K : Type} [DecidableEq K] {knd : KeyKind prog w K} {A : Around} {x1 : Addr} (hh : A.handled = some (.ref x1)) (I d : Addr) (hd : d ≠ I) (hx : x1 ≠ I) (kvs : List (K × Value)) (ep : Nat) :
    Walks prog w A I [I, d, x1] [I] kvs.length (fun i v => ∃ k x, kvs[i]? = some (k, x) ∧ knd.is k v = true) fun i h => (h.IsKeyIter I d i kvs.length ep ∧ Heap.DictAt knd h d kvs ep) ∧ HotO x1 h where
  sub b hb := by
    rw [List.mem_singleton.mp hb]
    exact List.mem_cons_self ..
  frame i h h' := by
    rintro ⟨⟨⟨o, h1, h2⟩, h3⟩, h4⟩ hk
    exact ⟨⟨⟨o, hk I (by simp) o h1, h2⟩, Heap.DictAt.at' h3 fun o e => hk d (by simp) o e⟩, h4.keep fun o e => hk x1 (by simp) o e⟩
  item i s Q E hi := by
    rintro ⟨⟨h1, h2⟩, h3⟩ hq
    obtain ⟨⟨k, v⟩, hkv⟩ : ∃ p, kvs[i]? = some p := ⟨kvs[i], List.getElem?_eq_getElem hi⟩
    refine wpAny_pyNext_dict_item h1 h2 hkv fun key h' hk hit hs => ?_
    have same : ∀ (b : Addr) (o : Obj), b ≠ I → s.heap.get? b = some o → h'.get? b = some o := fun b o hb e => by
      rw [hs.2 b hb]
      exact e
    refine hq key h' s.toks ⟨k, v, hkv, hk⟩ ⟨⟨hit, Heap.DictAt.at' h2 fun o e => same d o hd e⟩, h3.keep fun o e => same x1 o hx e⟩ fun b o hb e => same b o (fun z => hb (by rw [z]; exact List.mem_singleton_self _)) e
  done s Q E := by
    rintro ⟨⟨h1, h2⟩, o, vs, g1, g2, g3⟩ hq
    exact dict_end_hot ⟨hh, o, vs, g1, g2, g3⟩ hx h1 h2 (List.getElem?_eq_none_iff.mpr (Nat.le_refl _)) fun h' hk => hq h' s.toks fun b o hb e => hk b o (fun z => hb (by rw [z]; exact List.mem_singleton_self _)) e
  self i s Q E := by
    rintro ⟨⟨h1, h2⟩, h3⟩ hq
    exact wpAny_pyIter_keyiter h1 hq
theorem extend_hot {prog : Program} {w : World} {K : Type} [DecidableEq K] {knd : KeyKind prog w K} {A : Around} {s : Shared} {d x1 : Addr} {kvs : List (K × Value)} {ep : Nat} {R : Result → Shared → Prop}
    (hh : A.handled = some (.ref x1)) (hO : HotO x1 s.heap) (lo : (d == sysModules) = false) (hat : Heap.DictAt knd s.heap d kvs ep) (S : Addr) (hSd : S ≠ d) (hSx : S ≠ x1) (res : Value) (c₀ : Nat)
    (hS : s.heap.get? S = some { cls := .type "list", data := .seq #[] c₀ }) (hn : kvs.length ≤ sizeLine)
    (hR : ∀ (h' : Heap) (tk : Nat) (acc' : Array Value) (c' : Nat), (∀ (b : Addr) (o : Obj), b ≠ S → s.heap.get? b = some o → h'.get? b = some o) → h'.get? S = some { cls := .type "list", data := .seq acc' c' } →
      ItemsOf (fun i v => ∃ k x, kvs[i]? = some (k, x) ∧ knd.is k v = true) acc' kvs.length → R (.ok (.ret res)) { s with heap := h', toks := tk }) :
    wpAny (model prog w) A.in1 (Builtin.List.listExtendWith (.ref S) (.ref d) res) (fun fin s' => match fin with
      | .done f => R (.ok f) s'
      | .again c' => c'.quiet = true ∧ codeAny (model prog w) A c' R s') (fun e s' => R (.error e) s') s := by
  have K0 := W.kdl_dict (prog := prog) (w := w) (knd := knd) (d := d) (kvs := kvs) (ep := ep) lo
  have hltS : S < s.heap.objs.size := Heap.lt_size hS
  have hltd : d < s.heap.objs.size := hat.lt_size
  have hltx : x1 < s.heap.objs.size := by
    obtain ⟨o, vs, h1, _⟩ := hO
    exact Heap.lt_size h1
  refine wpAny_bind (wpAny_typeOf (K0.type s hat) ?_)
  have hSr : Builtin.List.listSameRef (.ref S) (.ref d) = false := by
    show (S == d) = false
    exact beq_eq_false_iff_ne.mpr hSd
  rw [if_neg (by rw [hSr, K0.notList, K0.notTuple]; decide)]
  refine wpAny_bind (wpAny_pyIter_dict lo hat ?_)
  have hW := walks_hot (prog := prog) (w := w) (knd := knd) (A := A.in1) (x1 := x1) hh s.heap.objs.size d (Nat.ne_of_lt hltd) (Nat.ne_of_lt hltx) kvs ep
  generalize hoI : ({ cls := .type "dict_keyiterator", data := .fields #[.ref d, .int 0 0, .int (kvs.length : Nat) 0, .int (ep : Nat) 0] } : Obj) = oI
  have hS1 : (s.heap.push oI).get? S = some { cls := .type "list", data := .seq #[] c₀ } := Heap.get?_push_of_some oI hS
  have hSf : ¬ S ∈ [s.heap.objs.size, d, x1] := by
    simp only [List.mem_cons, List.not_mem_nil, or_false, not_or]
    exact ⟨Nat.ne_of_lt hltS, hSd, hSx⟩
  have key : ∀ (h : Heap) (c₁ tk : Nat), ((h.IsKeyIter s.heap.objs.size d 0 kvs.length ep ∧ Heap.DictAt knd h d kvs ep) ∧ HotO x1 h) → (∀ (b : Addr) (o : Obj), b ≠ S → s.heap.get? b = some o → h.get? b = some o) →
      h.get? S = some { cls := .type "list", data := .seq #[] c₁ } → codeAny (model prog w) A (Code.builtin "list.extend.loop" { pos := [.ref S, .ref s.heap.objs.size, res] }) R { s with heap := h, toks := tk } := fun h c₁ tk hst hk hS₁ => by
    refine codeAny_extend_loopS (Walks.toS hW) hn S hSf res kvs.length 0 { s with heap := h, toks := tk } #[] c₁ rfl (Nat.zero_le _) hst hS₁ (ItemsOf.nil _) fun s' acc' c' hm hS' hacc => ?_
    rw [Moved.eq_with hm]
    refine hR s'.heap s'.toks acc' c' (fun b o hb e => hm.heap b o (fun hmem => ?_) (hk b o hb e)) hS' hacc
    rcases List.mem_cons.mp hmem with e' | hmem
    · exact hb e'
    · rw [List.mem_singleton.mp hmem] at e
      exact absurd (Heap.lt_size e) (Nat.lt_irrefl _)
  have hat1 : Heap.DictAt knd (s.heap.push oI) d kvs ep := hat.push oI
  have st0 : ((s.heap.push oI).IsKeyIter s.heap.objs.size d 0 kvs.length ep ∧ Heap.DictAt knd (s.heap.push oI) d kvs ep) ∧ HotO x1 (s.heap.push oI) :=
    ⟨⟨⟨oI, Heap.get?_push_size _ (by rw [← hoI]; rfl), by rw [← hoI], by rw [← hoI]; rfl⟩, hat1⟩, hO.keep fun o e => Heap.get?_push_of_some oI e⟩
  refine wpAny_bind (wpAny_holding (K0.hint A.in1 _ _ _ hat1 ?_))
  refine wpAny_ite_split (fun _ => ?_) (fun hb => ?_)
  · have hS2 := Heap.get?_update_self (Obj.mapSeq fun x => x.push Value.none) hS1 rfl
    have hS3 := Heap.get?_update_self (Obj.mapSeq fun x => x.pop) hS2 rfl
    refine wpAny_bind (wpAny_rule (wpAny_bind (wpAny_bind (wpAny_updateSeq hS1 rfl (wpAny_updateSeq hS2 rfl (wpAny_pure ⟨plainId_quiet F.plain_extend_loop _, ?_⟩) ?_ ?_) ?_ ?_))))
    · have up : ∀ (b : Addr) (o : Obj), b ≠ S → (s.heap.push oI).get? b = some o → (((s.heap.push oI).update S (Obj.mapSeq fun x => x.push Value.none)).update S (Obj.mapSeq fun x => x.pop)).get? b = some o := fun b o hb e => by
        rw [Heap.get?_update_other _ _ (Ne.symm hb), Heap.get?_update_other _ _ (Ne.symm hb)]
        exact e
      refine key _ _ s.toks ?_ (fun b o hb e => up b o hb (Heap.get?_push_of_some oI e)) hS3
      exact hW.frame 0 _ _ st0 fun b hb o e => up b o (fun z => hSf (z ▸ hb)) e
    · decide
    · decide
    · decide
    · decide
  · exact absurd (by decide) hb
theorem collect_hot {prog : Program} {w : World} {K : Type} [DecidableEq K] {knd : KeyKind prog w K} {A : Around} {s : Shared} {d x1 : Addr} {kvs : List (K × Value)} {ep : Nat} {Q : List Value → Shared → Prop} {E : Value → Shared → Prop}
    (hh : A.handled = some (.ref x1)) (hO : HotO x1 s.heap) (lo : (d == sysModules) = false) (hat : Heap.DictAt knd s.heap d kvs ep) (hn : kvs.length ≤ sizeLine)
    (h : ∀ (h' : Heap) (tk : Nat) (acc : Array Value), (∀ (b : Addr) (o : Obj), s.heap.get? b = some o → h'.get? b = some o) → ItemsOf (fun i v => ∃ k x, kvs[i]? = some (k, x) ∧ knd.is k v = true) acc kvs.length → Q acc.toList { s with heap := h', toks := tk }) :
    wpAny (model prog w) A (collect (.ref d)) Q E s := by
  have hltd : d < s.heap.objs.size := hat.lt_size
  have hltx : x1 < s.heap.objs.size := by
    obtain ⟨o, vs, h1, _⟩ := hO
    exact Heap.lt_size h1
  refine wpAny_bind (wpAny_runValue (codeAny_builtin PyProof.Rows.entry_proto_collect' ?_))
  rw [Around.under_plainId F.plain_proto_collect]
  refine wpAny_bind (wpAny_newObj_type (wpAny_pure ⟨plainId_quiet F.plain_list_iadd _, codeAny_builtin PyProof.Rows.entry_list_iadd' ?_⟩))
  rw [Around.under_plainId F.plain_list_iadd]
  have hS : (s.heap.push { cls := .type "list", data := .seq #[] }).get? s.heap.objs.size = some { cls := .type "list", data := .seq #[] } := Heap.get?_push_size s.heap rfl
  have key := extend_hot (prog := prog) (w := w) (knd := knd) (A := A) (s := { s with heap := s.heap.push { cls := .type "list", data := .seq #[] } }) (d := d) (x1 := x1) (kvs := kvs) (ep := ep)
    (R := fun r s' => ∃ h' tk acc' c', r = .ok (.ret (.ref s.heap.objs.size)) ∧ s' = { s with heap := h', toks := tk } ∧ (∀ (b : Addr) (o : Obj), s.heap.get? b = some o → h'.get? b = some o) ∧ h'.get? s.heap.objs.size = some { cls := .type "list", data := .seq acc' c' } ∧ ItemsOf (fun i v => ∃ k x, kvs[i]? = some (k, x) ∧ knd.is k v = true) acc' kvs.length)
    hh (hO.keep fun o e => Heap.get?_push_of_some _ e) lo (hat.push _) s.heap.objs.size (Nat.ne_of_gt hltd) (Nat.ne_of_gt hltx) (.ref s.heap.objs.size) 0 hS hn
    (fun h' tk acc' c' hk hS' hacc => ⟨h', tk, acc', c', rfl, rfl, fun b o e => hk b o (Nat.ne_of_lt (Heap.lt_size e)) (Heap.get?_push_of_some _ e), hS', hacc⟩)
  refine wpAny_mono key (fun fin s' q => ?_) (fun e s' q => ?_)
  · cases fin with
    | done f =>
      obtain ⟨h', tk, acc', c', e1, rfl, hk, hS', hacc⟩ := q
      injection e1 with e1
      subst e1
      refine wpAny_bind (wpAny_load hS' ?_)
      exact wpAny_pure (h h' tk acc' hk hacc)
    | again c' =>
      refine ⟨q.1, codeAny_mono q.2 fun r s' q => ?_⟩
      obtain ⟨h', tk, acc', c', rfl, rfl, hk, hS', hacc⟩ := q
      refine wpAny_bind (wpAny_load hS' ?_)
      exact wpAny_pure (h h' tk acc' hk hacc)
  · obtain ⟨_, _, _, _, q, _⟩ := q
    cases q
theorem call_sortedH {X : Cx} (hot : L2H.HotC X) : CallR X (.builtin "sorted") rSortedD := by
  rintro pins s σ H xs us Q I r ⟨a, kvs, ks, rfl, hd, hks, h64, q⟩
  obtain ⟨u, rfl, rx⟩ := vals1 r
  obtain rfl : u = Value.ref a := rx
  obtain ⟨z, lo, vs, rel, dd⟩ := dk_rd I.hok hd
  obtain ⟨ep, hat⟩ := dd.dictAt
  obtain ⟨x1, hh, hO⟩ := hot.at I
  have hkeys : vs.map (·.1) = ks.map Sum.inr := (KV.keys rel).symm.trans hks
  have hl : vs.length = ks.length := by
    have := congrArg List.length hkeys
    simpa using this
  have hsz := sizeLine_eq
  refine Calls.call_function_entry PyProof.Rows.kind_sorted PyProof.Rows.plain_sorted PyProof.Rows.entry_sorted (PyProof.Rows.args_sorted1 (.ref a)) ?_
  refine wpAny_bind (wpAny_pure (wpAny_bind (collect_hot (x1 := x1) hh hO lo hat (by omega) fun h' tk acc hk hacc => ?_)))
  have hal : acc.toList.length = ks.length := by
    rw [Array.length_toList, hacc.1, hl]
  have hS : PyProof.Rows.StrsAre acc.toList ks := L2.strs_at hal fun j v e => by
    obtain ⟨k, x, e1, e2⟩ := hacc.2 j v (by rw [← Array.getElem?_toList]; exact e)
    have e3 : (vs.map (·.1))[j]? = some k := by
      rw [List.getElem?_map, e1]
      rfl
    rw [hkeys, List.getElem?_map] at e3
    obtain ⟨y, hy, rfl⟩ := Option.map_eq_some_iff.mp e3
    obtain ⟨t, ev⟩ := Value.isStrOf_shape e2
    exact ⟨y, t, hy, ev⟩
  have I1 := Inv.kept (t' := tk) I hk
  refine wpAny_bind (wpAny_newList ?_)
  have hoL := Heap.get?_push_size h' (o := PyProof.Rows.seqObj "list" acc.toList.toArray 0) rfl
  refine wpAny_bind (wpAny_holding (wpAny_call_entry PyProof.Rows.slot_list_sort ⟨_, hoL, rfl⟩ PyProof.Rows.entry_list_sort (PyProof.Rows.list_sort_treeK PyProof.Rows.strKind_oneLt hoL hS.keysOf (fun v₁ v₂ rest e => PyProof.Rows.keyKind_strs (by rw [← e]; exact hS)) (by omega) fun st' hp hs => ⟨.none, rfl, ?_⟩)))
  obtain ⟨ys, g1, g2, g3⟩ := PyProof.Rows.sorted_out_str hS hp hs
  obtain ⟨e', he'⟩ := PyProof.Rows.sortedHeap_at (out := Array.map (fun x => x.snd) (PyProof.Rows.arrOf st')) hoL
  refine wpAny_pure ⟨_, rfl, .ref h'.objs.size, upd H h'.objs.size (.lst (ys.map V.str)), Inv.laid (s := { s with heap := h', toks := tk }) I1 (fun b u e => ?_) (Nat.le_refl _) ?_, rfl, q ys _ g2 g3 ?_⟩
  · have hb := Heap.lt_size e
    rw [PyProof.Rows.sortedHeap_old (Nat.ne_of_lt hb) (by rw [PyProof.Rows.size_push']; exact Nat.lt_succ_of_lt hb)]
    exact Heap.get?_push_of_some _ e
  · refine ⟨?_, _, e', vals_of_strs g1, ?_⟩
    · rw [List.length_map, g2.length_eq]
      omega
    · rw [Array.toArray_toList] at he' ⊢
      exact he'
  · exact HOk.fresh I1.hok (Nat.le_refl _)
end Tg
set_option Elab.async false
set_option linter.all false
set_option maxRecDepth 100000
set_option maxHeartbeats 1000000
/-! Tgb: exceptions whose context is known to be None (a second family of the promises of defs that raise), and defs called within an except suite. -/
namespace Tg
open PySem L2 PyProof.Rows
/-! ### promises -/
structure CalN (P : Program) (w : World) (K : PySem.W.Frag) (mg : Str → Option Value) (base : Heap) (k : Nat) (x : Str) (sp : Sp) : Prop where
  ex : ∃ (f : Addr) (fd : FuncData) (ps : List Str), FnOk P w K mg base (L2N.CX P w) k f fd ps sp ∧ mg x = some (.ref f) ∧ PySem.W.keepIn K (.ref f) = true ∧ Binds K fd ps []
structure MetN (P : Program) (w : World) (K : PySem.W.Frag) (mg : Str → Option Value) (base : Heap) (k : Nat) (C : Addr) (m : Str) (sp : Sp) : Prop where
  ex : ∃ (f : Addr) (fd : FuncData) (ps : List Str), Cls K C ∧ Meth K C m f ∧ FnOk P w K mg base (L2N.CX P w) k f fd ps sp ∧ Binds K fd ps []
structure MetH (P : Program) (w : World) (K : PySem.W.Frag) (mg : Str → Option Value) (base : Heap) (k : Nat) (C : Addr) (m : Str) (sp : Sp) : Prop where
  ex : ∃ (f : Addr) (fd : FuncData) (ps : List Str), Cls K C ∧ Meth K C m f ∧ L2H.FnH P w K mg base C8.CX0 k f fd ps sp ∧ Binds K fd ps []
structure PrpH (P : Program) (w : World) (K : PySem.W.Frag) (mg : Str → Option Value) (base : Heap) (k : Nat) (C : Addr) (m : Str) (sp : Sp) : Prop where
  ex : ∃ (p f : Addr) (fd : FuncData) (ps : List Str), Cls K C ∧ PropOf K C m p f ∧ L2H.FnH P w K mg base C8.CX0 k f fd ps sp ∧ Binds K fd ps []
section
variable {P : Program} {w : World} {K : PySem.W.Frag} {mg : Str → Option Value} {base : Heap}
theorem metN_of {C : Addr} {m qual : Str} {st : Stmt} {ps : List Str} {k : Nat} {sp : Sp} (c : Cls K C) (D : DefM K C m qual st ps)
    (ok : ∀ f fd, Fun K m qual st f fd → FnOk P w K mg base (L2N.CX P w) k f fd ps sp) : MetN P w K mg base k C m sp := by
  obtain ⟨f, fd, F, hm, b⟩ := D.ex
  exact ⟨f, fd, ps, c, hm, ok f fd F, b⟩
theorem metH_of {C : Addr} {m qual : Str} {st : Stmt} {ps : List Str} {k : Nat} {sp : Sp} (c : Cls K C) (D : DefM K C m qual st ps)
    (ok : ∀ f fd, Fun K m qual st f fd → L2H.FnH P w K mg base C8.CX0 k f fd ps sp) : MetH P w K mg base k C m sp := by
  obtain ⟨f, fd, F, hm, b⟩ := D.ex
  exact ⟨f, fd, ps, c, hm, ok f fd F, b⟩
theorem prpH_of {C : Addr} {m qual : Str} {st : Stmt} {ps : List Str} {k : Nat} {sp : Sp} (c : Cls K C) (D : DefP K C m qual st ps)
    (ok : ∀ f fd, Fun K m qual st f fd → L2H.FnH P w K mg base C8.CX0 k f fd ps sp) : PrpH P w K mg base k C m sp := by
  obtain ⟨p, f, fd, hp, F, b⟩ := D.ex
  exact ⟨p, f, fd, ps, c, hp, ok f fd F, b⟩
theorem metH_none {C : Addr} {m qual : Str} {st : Stmt} {ps : List Str} {W : Wt} {n : Nat} (c : Cls K C) (D : DefM K C m qual st ps) (no : ∀ ds M k, ¬ W ds M k) : MetH P w K mg base n C m (Spc K W) :=
  metH_of c D fun f fd F => ⟨fun vs H Q E h => by
    obtain ⟨_, ds, M, k, _, _, hw, _⟩ := h
    exact absurd hw (no ds M k), fun A outer s H args us vs Q E _ _ _ _ _ _ _ h => by
    obtain ⟨_, ds, M, k, _, _, hw, _⟩ := h
    exact absurd hw (no ds M k)⟩
/-! ### a def's body -/
theorem spc_okXN {C : Addr} {W : WtX} {x qual : Str} {st : Stmt} {f : Addr} {fd : FuncData} {N ps : List Str} {k : Nat} (F : Fun K x qual st f fd) (Sc : FnScope N ps (defScope st)) (len : ∀ ds M kk kx, W ds M kk kx → ds.length = ps.length)
    (hbody : ∀ (cdv : Value) (A : Around) (outer : List Env) (s : Shared) (H : Hp) (E : XK), Room k (A.deeper (envOfC qual (defScope st) s.heap.objs.size f cdv)) →
      ∃ t, PSs (cxOf (L2N.CX P w) P w K mg base N qual (defScope st) f cdv A outer s H E) (defBody st) t ∧
        ∀ ds M kk kx, W ds M kk kx → AS K t (startD N.length ds) M { nx := fun _ M' => kk .non M', rt := kk, xs := kx, W := fun d H' => E (.ref C) (some d) H' }) : FnOk P w K mg base (L2N.CX P w) (k + 1) f fd ps (SpcX K C W) := by
  obtain ⟨o1, o2, o3, o4, o5, o6, cdv, o8, o9, rfl, lk, hcd⟩ := F.ex
  refine fn_of lk hcd Sc (fun vs H Q E h => ?_) (fun A outer s H vs Q E hr h => ?_)
  · obtain ⟨G, ds, M, kk, kx, r, _, hw, _⟩ := h
    rw [r.len]
    exact len ds M kk kx hw
  · obtain ⟨G, ds, M, kk, kx, r, hs, hw, q, qx⟩ := h
    obtain ⟨t, pt, ht⟩ := hbody cdv A outer s H E hr
    refine ⟨t, pt, ht ds M kk kx hw (start N vs) G H _ (relS_start r) hs ⟨?_, ?_, ?_, ?_, ?_, fun _ _ _ _ _ _ a => a.elim⟩⟩
    · intro δ' M' σ' G' H' a rs' s' st'
      exact q .non M' .non G' H' a s' st' rep_of_non
    · intro d M' v G' H' a s' st' rv
      exact q d M' v G' H' a s' st' rv
    · intro δ' M' σ' G' H' a
      exact a.elim
    · intro δ' M' σ' G' H' a
      exact a.elim
    · intro fs M' d G' H' a s' st'
      exact qx fs M' d G' H' a s' st'
theorem spc_okPN {W : WtP} {x qual : Str} {st : Stmt} {f : Addr} {fd : FuncData} {N ps : List Str} {k : Nat} (F : Fun K x qual st f fd) (Sc : FnScope N ps (defScope st)) (len : ∀ ds M kk kx, W ds M kk kx → ds.length = ps.length)
    (hbody : ∀ (cdv : Value) (A : Around) (outer : List Env) (s : Shared) (H : Hp) (E : XK), Room k (A.deeper (envOfC qual (defScope st) s.heap.objs.size f cdv)) →
      ∃ t, PSs (cxOf (L2N.CX P w) P w K mg base N qual (defScope st) f cdv A outer s H E) (defBody st) t ∧
        ∀ ds M kk kp, W ds M kk kp → AS K t (startD N.length ds) M { nx := fun _ M' => kk .non M', rt := kk, ps := fun C _ M' => kp C M', P := fun C _ H' => E (.ref C) none H' }) : FnOk P w K mg base (L2N.CX P w) (k + 1) f fd ps (SpcP K W) := by
  obtain ⟨o1, o2, o3, o4, o5, o6, cdv, o8, o9, rfl, lk, hcd⟩ := F.ex
  refine fn_of lk hcd Sc (fun vs H Q E h => ?_) (fun A outer s H vs Q E hr h => ?_)
  · obtain ⟨G, ds, M, kk, kx, r, _, hw, _⟩ := h
    rw [r.len]
    exact len ds M kk kx hw
  · obtain ⟨G, ds, M, kk, kx, r, hs, hw, q, qx⟩ := h
    obtain ⟨t, pt, ht⟩ := hbody cdv A outer s H E hr
    refine ⟨t, pt, ht ds M kk kx hw (start N vs) G H _ (relS_start r) hs ⟨?_, ?_, ?_, ?_, fun _ _ _ _ _ a => a.elim, ?_⟩⟩
    · intro δ' M' σ' G' H' a rs' s' st'
      exact q .non M' .non G' H' a s' st' rep_of_non
    · intro d M' v G' H' a s' st' rv
      exact q d M' v G' H' a s' st' rv
    · intro δ' M' σ' G' H' a
      exact a.elim
    · intro δ' M' σ' G' H' a
      exact a.elim
    · intro C δ' M' σ' G' H' a rs' s' st'
      exact qx C M' G' H' a s' st'
/-- a def called within an except suite: it raises nothing -/
theorem spc_okH {W : Wt} {x qual : Str} {st : Stmt} {f : Addr} {fd : FuncData} {N ps : List Str} {k : Nat} (F : Fun K x qual st f fd) (Sc : FnScope N ps (defScope st)) (len : ∀ ds M kk, W ds M kk → ds.length = ps.length)
    (hbody : ∀ (cdv : Value) (A : Around) (outer : List Env) (s : Shared) (H : Hp) (E : XK) (p : Addr × Obj), L2H.HotC (L2H.cxH CX0 P w K mg base N qual (defScope st) f cdv A outer s H E p).nox → L2H.RoomH k (A.deeper (envOfC qual (defScope st) s.heap.objs.size f cdv)) →
      ∃ t, PSs (L2H.cxH CX0 P w K mg base N qual (defScope st) f cdv A outer s H E p).nox (defBody st) t ∧ ∀ ds M kk, W ds M kk → AS K t (startD N.length ds) M { nx := fun _ M' => kk .non M', rt := kk }) : L2H.FnH P w K mg base CX0 (k + 1) f fd ps (Spc K W) := by
  obtain ⟨o1, o2, o3, o4, o5, o6, cdv, o8, o9, rfl, lk, hcd⟩ := F.ex
  refine L2H.fn_ofH lk hcd Sc (fun vs H Q E h => ?_) (fun A outer s H vs Q E p hot hr h => ?_)
  · obtain ⟨G, ds, M, kk, r, _, hw, _⟩ := h
    rw [r.len]
    exact len ds M kk hw
  · obtain ⟨G, ds, M, kk, r, hs, hw, q⟩ := h
    obtain ⟨t, pt, ht⟩ := hbody cdv A outer s H E p ⟨p, ⟨hot.1, hot.2⟩, List.mem_singleton_self _⟩ hr
    refine ⟨t, pt.nox, ht ds M kk hw (start N vs) G H _ (relS_start r) hs ⟨?_, ?_, ?_, ?_, ?_, fun _ _ _ _ _ _ a => a.elim⟩⟩
    · intro δ' M' σ' G' H' a rs' s' st'
      exact q .non M' .non G' H' a s' st' rep_of_non
    · intro d M' v G' H' a s' st' rv
      exact q d M' v G' H' a s' st' rv
    · intro δ' M' σ' G' H' a
      exact a.elim
    · intro δ' M' σ' G' H' a
      exact a.elim
    · intro fs M' d G' H' a
      exact a.elim
end
/-! ### calls -/
theorem takes_noneN {X : Cx} : L2N.Takes X (fun _ _ _ _ => False) := fun u s' h => by
  obtain ⟨a, B, sI, pins, σ, H, cls, d, e, I, nb, up, sky, na, os, ag, w⟩ := h
  exact w.elim
section
variable {X : Cx} {k j : Nat} {x m : Str} {C : Addr} {sp : Sp} {W : WX} {e o : Expr} {es : List Expr} {ta : TE} {t : TA} {p pos apos : Pos} {E : XK}
theorem pe_cXN (tk : L2N.Takes X W) (c : CalN X.prog X.w X.K X.mg X.base k x sp) (hr : Room j X.A) (hk : k ≤ j) (hg : Gl X x) (ha : PA X (e :: es) t)
    (hdb : (x == ("__debug__" : Str)) = false := by decide) (he : starEach (e :: es) X.env = (false, eval e X.env) :: starEach es X.env := by rfl) (hpl : (backTo pos (starEach es X.env)).any (·.1) = false := by rfl) :
    PE X (.Call (.Name x p) (e :: es) [] pos) (tCallS sp (WE W) t) := by
  obtain ⟨f, fd, ps, F, hm, kp, b⟩ := c.ex
  exact pe_callS F (hr.mono hk) hg hm kp b (fun σ => L2N.passAt tk σ) ha hdb he hpl
theorem pe_mtEN {pl : Sem Bool} (tk : L2N.Takes X W) (c : MetN X.prog X.w X.K X.mg X.base k C m sp) (hr : Room j X.A) (hk : k ≤ j) (he : PE X o ta) (ha : PA X (e :: es) t)
    (hst : starEach (e :: es) X.env = (false, eval e X.env) :: starEach es X.env := by rfl) (hpl : (backTo pos (starEach es X.env)).any (·.1) = false := by rfl)
    (ht : eval (.Call (.Attribute o m apos) (e :: es) [] pos) X.env = (do
      let ov ← eval o X.env
      standAt apos.atName
      let (f, first) ← holding [ov] (getMethod ov m pl)
      callWith pos f first (backTo pos (starEach (e :: es) X.env)) (backToKw pos (keywordEach [] X.env))) := by rfl) :
    PE X (.Call (.Attribute o m apos) (e :: es) [] pos) (tMethE C m sp (WE W) ta t) := by
  obtain ⟨f, fd, ps, hc, hm, F, b⟩ := c.ex
  refine ⟨fun pins s σ H Q I h => ?_⟩
  refine PySem.W.methodCall_KW (pl := pl) (thn (he.run pins s σ H _ I h) fun u s1 ⟨x, H1, I1, rx, a, dx, fs, ex, ea, l, q⟩ => ?_) ht
  subst ex
  obtain rfl : u = Value.ref a := rx
  refine getmeth_ok I1 ea hc hm l ?_
  refine PySem.W.callWith_K (first := [.ref a]) (h₀ := X.base) I.ok.mod.kin hm.kp (thn (ha.run pos pins s1 σ H1 _ I1 q) fun us s2 ⟨vs, H2, I2, r, q2⟩ => ⟨I2.kIn, ?_⟩) hst hpl
  exact run_fnS (us := .ref a :: us) (vs := .ref a :: vs) F (hr.mono hk) b (L2N.passAt tk σ) I2 (.cons rfl r) q2
theorem pe_mtE0N {pl : Sem Bool} (tk : L2N.Takes X W) (c : MetN X.prog X.w X.K X.mg X.base k C m sp) (hr : Room j X.A) (hk : k ≤ j) (he : PE X o ta)
    (ht : eval (.Call (.Attribute o m apos) [] [] pos) X.env = (do
      let ov ← eval o X.env
      standAt apos.atName
      let (f, first) ← holding [ov] (getMethod ov m pl)
      callWith pos f first (backTo pos (starEach [] X.env)) (backToKw pos (keywordEach [] X.env))) := by rfl) :
    PE X (.Call (.Attribute o m apos) [] [] pos) (tMethE C m sp (WE W) ta tNil) := by
  obtain ⟨f, fd, ps, hc, hm, F, b⟩ := c.ex
  refine ⟨fun pins s σ H Q I h => ?_⟩
  refine PySem.W.methodCall_KW (pl := pl) (thn (he.run pins s σ H _ I h) fun u s1 ⟨x, H1, I1, rx, a, dx, fs, ex, ea, l, q⟩ => ?_) ht
  subst ex
  obtain rfl : u = Value.ref a := rx
  refine getmeth_ok I1 ea hc hm l ?_
  exact PySem.W.callWith_K0 (first := [.ref a]) I1.kIn hm.kp (run_fnS (us := [.ref a]) (vs := [.ref a]) F (hr.mono hk) b (L2N.passAt tk σ) I1 (.cons rfl .nil) q)
/-- a method within an except suite -/
theorem pe_mtH {pl : Sem Bool} (c : MetH X.prog X.w X.K X.mg X.base k C m sp) (hr : L2H.RoomH j X.A) (hk : k ≤ j) (hot : L2H.HotC X) (he : PE X o ta) (ha : PA X (e :: es) t)
    (hst : starEach (e :: es) X.env = (false, eval e X.env) :: starEach es X.env := by rfl) (hpl : (backTo pos (starEach es X.env)).any (·.1) = false := by rfl)
    (ht : eval (.Call (.Attribute o m apos) (e :: es) [] pos) X.env = (do
      let ov ← eval o X.env
      standAt apos.atName
      let (f, first) ← holding [ov] (getMethod ov m pl)
      callWith pos f first (backTo pos (starEach (e :: es) X.env)) (backToKw pos (keywordEach [] X.env))) := by rfl) :
    PE X (.Call (.Attribute o m apos) (e :: es) [] pos) (L2H.tMethH C m sp (fun _ => C8.E0) ta t) := by
  obtain ⟨f, fd, ps, hc, hm, F, b⟩ := c.ex
  exact L2H.pe_methH (pl := pl) he hc hm F (hr.mono hk) hot b (fun σ pins H s e s' _ q => q.elim) ha hst hpl ht
theorem pe_prpH (c : PrpH X.prog X.w X.K X.mg X.base k C m sp) (hr : L2H.RoomH j X.A) (hk : k + 1 ≤ j) (hot : L2H.HotC X) (he : PE X o ta) (hab : attributeBase o m X.env (eval o X.env) = eval o X.env := by rfl) : PE X (.Attribute o m pos) (tProp C sp [] C8.E0 ta) := by
  obtain ⟨pp, ff, fd, ps, hc, hp, F, b⟩ := c.ex
  refine ⟨fun pins s σ H Q I h => ?_⟩
  refine attr_of hab (thn (he.run pins s σ H _ I h) fun u s1 ⟨x, H1, I1, rx, a, dx, fs, ex, ea, q⟩ => ?_)
  subst ex
  obtain rfl : u = Value.ref a := rx
  obtain ⟨mA, O, _, _, _, _⟩ := ins_get I1.hok ea
  obtain ⟨od, J, _⟩ := O.look
  obtain ⟨rest, hrec⟩ := hp.rec_
  have I2 := I1.tok (s1.toks + 1)
  obtain ⟨p1, hot1, hp1⟩ := hot
  have e1 : ([V.ref a] : List V).length = ps.length := F.len _ _ _ _ q
  have b1 := b { s1 with toks := s1.toks + 1 } [.ref a] I2.kIn (by rw [List.append_nil]; exact e1)
  rw [List.append_nil] at b1
  have P1 := I2.pin p1 (List.mem_append_left _ hp1)
  have hpin : L2H.PinOk X.stack H1 { s1 with toks := s1.toks + 1 } p1 := ⟨P1.1, P1.2.1, fun z => (List.mem_cons.mp (I2.stkSub p1.1 z)).elim P1.2.2.1 P1.2.2.2.1, P1.2.2.2.2⟩
  have hC : (PySem.W.clsIn X.K C).isSome = true := by
    obtain ⟨cd, e2, _⟩ := PySem.W.any_some hc.hd
    rw [e2]
    rfl
  have hrA : L2H.RoomH k X.A.in1 := ⟨by have := hr.dp; show X.A.depth + 3 * k + 5 < _; omega, by have := hr.un; show X.A.units + 1 + 16 * k + 200 < _; omega⟩
  refine PySem.W.get_bind I1.kIn J (PySem.W.plainGet_of (hc.get m)).1 (PySem.W.findObj_data hC hp.at_ hp.get hp.tak) (PySem.W.plainGet_of (hc.get m)).2 (wpAny_call (PySem.W.prop_get (s := { s1 with toks := s1.toks + 1 }) I1.kIn hrec ?_))
  refine codeAny_mono (F.run X.A.in1 X.stack _ H1 ⟨[.ref a], []⟩ [.ref a] [.ref a] Q C8.E0 p1 hrA ⟨hot1.1, hot1.2⟩ hpin I2.env0.in1 b1 (.cons rfl .nil) q) fun r s' hq => ?_
  cases r with
  | error er => exact False.elim hq
  | ok fl =>
    cases fl with
    | ret u =>
      obtain ⟨v, H', I3, rv, q3⟩ := I2.after hq
      show wpAny _ _ (handedOut u) _ _ _
      rw [PySem.W.handedOut_of (handed_of rv)]
      exact wpAny_pure ⟨v, H', I3, rv, q3⟩
    | next => exact False.elim hq
    | brk => exact False.elim hq
    | cont => exact False.elim hq
end
theorem pe_mk0 {X : Cx} {k j : Nat} {C : Addr} {x : Str} {sp : Sp} {p pos : Pos} (c : C8.Mak X.prog X.w X.K X.mg X.base k x C sp []) (hr : Room j X.A) (hk : k + 1 ≤ j) (hg : Gl X x) (hdb : (x == ("__debug__" : Str)) = false := by decide) :
    PE X (.Call (.Name x p) [] [] pos) (tMake C sp [] C8.E0 tNil) := by
  obtain ⟨f, fd, ps, ds, M, F, hm, b, d⟩ := c.ex
  exact pe_make0 M F (hr.mono hk) hg hm b d C8.pass0 hdb
/-- within a suite -/
theorem hotS {X : Cx} {a : Addr} {oe : Obj} {cls : Value} {d : Option Addr} {pn : List (Addr × Obj)} (hz : L2N.Zn cls d oe) (hf : ∃ vs, oe.data = .fields vs) : L2H.HotC (X.suite a ((a, oe) :: pn)) := by
  obtain ⟨vs, e⟩ := hf
  exact ⟨(a, oe), ⟨rfl, vs, e, hz.2.2 vs e⟩, List.mem_cons_self⟩
theorem roomS {X : Cx} {a : Addr} {pn : List (Addr × Obj)} {k : Nat} (hr : Room k X.A) : L2H.RoomH k (X.suite a pn).A := ⟨hr.dp, hr.un⟩
theorem huH {A : Around} {k : Nat} (hr : L2H.RoomH k A) : A.units + 1 < cLine := by have := hr.un; omega
theorem eqH_K {X : Cx} {K : PySem.W.Frag} {k : Nat} (hr : L2H.RoomH k X.A) (h : X.K = K := by rfl) : OpR X (compareOp .Eq) (rEqU K) := h ▸ op_eq.or (op_eqD (by have := hr.un; omega))
theorem neH_K {X : Cx} {K : PySem.W.Frag} {k : Nat} (hr : L2H.RoomH k X.A) (h : X.K = K := by rfl) : OpR X (compareOp .NotEq) (rNeU K) := h ▸ op_ne.or (op_neD (by have := hr.un; omega))
theorem sortedH_K {X : Cx} (hot : L2H.HotC X) : CallR X (.builtin "sorted") rSortedD := call_sortedH hot
section
variable {K : PySem.W.Frag} {δ : DS} {M : Mu} {te : TE} {ts : TA} {k : D → Mu → Prop} {C : Addr} {m : Str}
/-- a call, what may change in any order -/
theorem ae_callP {W : Wt} {E : XK} (h : AA K ts δ M fun ds M1 => ∃ Mc R kc, M1.Perm (Mc ++ R) ∧ W ds Mc kc ∧ ∀ d Mc', kc d Mc' → k d (Mc' ++ R)) : AE K (tCall (Spc K W) [] E ts) δ M k := fun σ G H Q rs s f =>
  h σ G H _ rs s fun ds M1 vs G1 H1 ⟨Mc, R, kc, hp, hw, hk⟩ s1 st1 r1 => by
    have s2 := s1.perm hp
    refine ⟨G1, ds, Mc, kc, by rw [List.append_nil]; exact r1, s2.sub, hw, fun d M' v G' H' hd s' st' rv => ?_⟩
    obtain ⟨s3, st3⟩ := s2.join s' st'
    exact f d _ v G' H' (hk d M' hd) s3 ((st1.perm (fun _ => Iff.rfl) (ads_perm hp)).trans st3) rv
theorem ae_methH {W : Wt} {E : L2.St → XK} (h : AE K te δ M fun x M1 => ∃ a dx fs, x = .ref a ∧ (∃ N1 N2, M1 = N1 ++ (a, MO.ins C dx fs) :: N2) ∧ fs.lookup m = none ∧
      AA K ts δ M1 fun ds M2 => ∃ Mc R kc, M2 = Mc ++ R ∧ W (.ref a :: ds) Mc kc ∧ ∀ d Mc', kc d Mc' → k d (Mc' ++ R)) : AE K (L2H.tMethH C m (Spc K W) E te ts) δ M k := fun σ G H Q rs s f' =>
  h σ G H _ rs s fun x M1 vx G1 H1 ⟨a, dx, fs, e1, ⟨N1, N2, e2⟩, l, h1⟩ s1 st1 r1 => by
    subst e1
    obtain ⟨g0, o, ho, ps, rfl, rk⟩ := s1.mu (a, .ins C dx fs) (by rw [e2]; simp)
    refine ⟨a, dx, ps, rep_ref r1, ho, repKV_no rk l, h1 σ G1 H1 _ (rs.mono st1.gg) s1 ?_⟩
    rintro ds M2 vs G2 H2 ⟨Mc, R, kc, rfl, hw, hk⟩ s2 st2 r2
    rw [rep_ref r1]
    refine ⟨G2, _, Mc, kc, Reps.cons rep_of_ref r2, s2.sub, hw, fun d M' v G' H' hd s' st' rv => ?_⟩
    obtain ⟨s3, st3⟩ := s2.join s' st'
    exact f' d _ v G' H' (hk d M' hd) s3 ((st1.trans st2).trans st3) rv
end
/-! ### raising -/
/-- C(e, ..) of an own error with fields: its context is None -/
theorem pmk_oexN {X : Cx} {CX : CXT} {x : Str} {e : Expr} {es : List Expr} {ta : TA} {p pos : Pos} {C fI : Addr} {k : Nat} {fd : FuncData} {ps : List Str} {sp : Sp} (T : OexC X.K C) (iC : PySem.W.findIn X.K (.ref C) "__init__" = some (some (.ref fI)))
    (tI : PySem.W.typeIn X.K (.ref fI) = some (.type "function")) (F1 : FnOk X.prog X.w X.K X.mg X.base CX k fI fd ps sp) (hr : Room (k + 1) X.A) (hb : Binds X.K fd ps []) (hx : Passes CX X (fun _ _ _ => False)) (hg : Gl X x) (hm : X.mg x = some (.ref C))
    (ha : PA X (e :: es) ta) (hdb : (x == ("__debug__" : Str)) = false := by decide) (he : starEach (e :: es) X.env = (false, eval e X.env) :: starEach es X.env := by rfl) (hpl : (backTo pos (starEach es X.env)).any (·.1) = false := by rfl) :
    L2N.PMk X (.Call (.Name x p) (e :: es) [] pos) (tMkO C sp [] ta) := by
  intro pins s σ H Q I h
  obtain ⟨n1, n2, n3, n4, n5, n6, n7, n8, n9, n10, c0, c1, c2, c3, c5, lC, lb⟩ := T.cls
  refine wpAny_Call_Name_kw (ld_glob I hg hm ?_ hdb)
  refine PySem.W.callWith_K (h₀ := X.base) I.ok.mod.kin T.kC (thn (ha.run pos pins s σ H _ I h) fun us s1 ⟨vs, G, J1, rv1, sm, q1⟩ => ⟨J1.kIn, ?_⟩) he hpl
  show wpAny _ _ (call (.ref C) us) _ _ _
  obtain ⟨hh, gg, dr, tk, os⟩ := s1
  generalize hA : hh.objs.size + 1 = A
  have lA : hh.objs.size ≤ A := by omega
  have fr : G A = none := J1.hok.fresh lA
  have w1 := q1 A fr
  rw [List.append_nil] at w1
  generalize hN : (hh.push (PySem.W.kdv_tup us)).push (PySem.HandSPX.excO C hh.objs.size) = hn
  have up : ∀ b u, hh.get? b = some u → hn.get? b = some u := fun b u z => by
    rw [← hN]
    exact Heap.get?_push_of_some _ (Heap.get?_push_of_some _ z)
  have at1 : hn.get? A = some (PySem.HandSPX.excO C hh.objs.size) := by
    rw [← hN, ← hA]
    heap_get
  have J2 : Inv X pins σ (upd G A (exo A C none)) ⟨hn, gg, dr, tk, os⟩ := J1.laid (t' := tk) (a := A) (o := exo A C none) (h' := hn) up lA (exo_ok at1)
  have rv2 : Vals (V.ref A :: vs) (Value.ref A :: us) := .cons rfl rv1
  have lp : (Value.ref A :: us ++ []).length = ps.length := by
    have z := rv2.length
    rw [F1.len _ _ _ _ w1] at z
    rw [List.append_nil]
    exact z.symm
  have lu : us.length ≤ sizeLine := by
    rw [← Paired.length rv1, sizeLine_eq]
    omega
  have bd := hb _ (Value.ref A :: us) J2.kIn lp
  rw [List.append_nil] at bd
  have run := F1.run _ X.stack _ _ ⟨Value.ref A :: us, []⟩ (Value.ref A :: us) _ _ (fun _ _ _ => False) (hr.make C us []) (J2.env0.make C us []) bd rv2 w1
  subst hA hN
  refine wpAny_call (PySem.HandSPX.call_own F.excBase_ValueError (fun Z => PySem.HandSPX.refsVE_contains Z n5 lb) (J1.kIn _ _ lC) (PySem.W.looks_findIn J1.kIn iC) (fun z => PySem.W.bind_fn J1.kIn z tI) lu (codeAny_mono run fun r s' hq => ?_))
  cases r with
  | error er => exact hx pins σ _ _ er s' J2 hq
  | ok fl =>
    cases fl with
    | ret u =>
      obtain ⟨v, H2, os2, ag2, un2, ok2, rv, ev, d, fs, ea, ed, hd1, q2⟩ := hq
      subst ev
      obtain ⟨h2, g2, d2, t2, os'⟩ := s'
      obtain ⟨t0, hG, JG, kG, ge, ho, na⟩ := mk_end0 (d2 := d2) (t2 := t2) J1 lA up un2 ok2 os2 ag2 ea ed hd1
      exact ⟨rv, _, _, _, ⟨hG, g2, d2, t2, os'⟩, _, .ref C, some d, rfl, JG, kG, ge, ho, ⟨rfl, rfl, fun ws z => by cases z; rfl⟩, rfl, rfl, na, rfl, ag2, raises_own T.exC T.tyC, q2⟩
    | next => exact False.elim hq
    | brk => exact False.elim hq
    | cont => exact False.elim hq
section
variable {X : Cx} {K : PySem.W.Frag} {C fI : Addr} {k : Nat} {fd : FuncData} {f1 f2 x : Str} {e e2 : Expr} {es : List Expr} {ta : TA} {p pos pos2 : Pos} {CX : CXT} {E : XK} {W : WX}
theorem ps_raiseON (hc : X.calm = true) (tk : L2N.Takes X (fun cls d _ H => E cls d H)) (T : OexC X.K C) (iC : PySem.W.findIn X.K (.ref C) "__init__" = some (some (.ref fI))) (tI : PySem.W.typeIn X.K (.ref fI) = some (.type "function"))
    (F1 : FnOk X.prog X.w X.K X.mg X.base CX k fI fd ["self", f1, f2] (spIni X.K C f1 f2)) (hr : Room (k + 1) X.A) (hb : Binds X.K fd ["self", f1, f2] []) (hx : Passes CX X (fun _ _ _ => False)) (hg : Gl X x) (hm : X.mg x = some (.ref C)) (ha : PA X (e :: es) ta)
    (hdb : (x == ("__debug__" : Str)) = false := by decide) (he : starEach (e :: es) X.env = (false, eval e X.env) :: starEach es X.env := by rfl) (hpl : (backTo pos (starEach es X.env)).any (·.1) = false := by rfl) :
    PS X (.Raise (some (.Call (.Name x p) (e :: es) [] pos)) none pos2) (tRaiseO X.K C f1 f2 E ta) := L2N.ps_raise hc tk (pmk_oexN T iC tI F1 hr hb hx hg hm ha hdb he hpl)
theorem ps_raisePN {m : Str} {j : Nat} {p2 : Pos} (hc : X.calm = true) (tk : L2N.Takes X W) (e : ErrP X.K X.mg x C) (hg : Gl X x) (hdb : (x == ("__debug__" : Str)) = false := by decide) :
    PS X (.Raise (some (.Call (.Name x p) [.Constant (.str m) j p2] [] pos)) none pos2) (tRaiseP C W) := L2N.ps_raise hc tk (L2N.pmk_own PySem.F.excBase_ValueError e.q e.m e.k (raises_own e.b e.t) hg hdb)
theorem ps_tryMN {body : List Stmt} {h₀ : ExceptHandler} {hds : List ExceptHandler} {l : List (Value × (Addr → Value → Option Addr → TS))} {tb : WX → TS} {Wout : WX} (hs : X.stack = X.env :: X.outer) (hf : X.env.frame = some X.env.locals) (tk : L2N.Takes X Wout)
    (hb : ∀ (W : WX) (pn : List (Addr × Obj)) (xe : Value → Shared → Prop), L2N.Takes (X.tr pn xe) W → PassesOwn (model X.prog X.w) X.A X.env xe → PSs (X.tr pn xe) body (tb W))
    (hh : L2N.HdsOk X (h₀ :: hds) l) (hK : X.K = K := by rfl) : PS X (.Try body (h₀ :: hds) [] [] pos) (tTryM K tb Wout l) := by
  subst hK
  exact L2N.ps_try_many hs hf tk hb hh
end
end Tg
set_option Elab.async false
set_option linter.all false
set_option maxRecDepth 100000
set_option maxHeartbeats 1000000
/-! Tgc: max of two, among None and 0. -/
namespace Tg
open PySem L2 PyProof.Rows
def rMax2 : List V → Hp → VK → Prop := fun xs H Q => ∃ i j, xs = [.int i, .int j] ∧ Q (.int (if j > i then j else i)) H
theorem max2_K {X : Cx} (hc : X.calm = true) : CallR X (.builtin "max") rMax2 := call_max2 hc
section
variable {K : PySem.W.Frag} {M : Mu} {k : D → Mu → Prop}
theorem ac_max2 {i j : Int} (q : k (.int (if j > i then j else i)) M) : AC K rMax2 [.int i, .int j] M k := fun vs G H Q rx s f => by
  obtain ⟨v, r, rfl, r1, r2⟩ := rx.uncons
  obtain ⟨v2, r', rfl, r3, r4⟩ := r2.uncons
  unfold Reps at r4
  subst r4
  exact ⟨i, j, by rw [rep_int r1, rep_int r3], f _ M _ G H q s Step.refl rep_of_int⟩
def n0D : D → Bool
  | .non => true
  | .int i => i == 0
  | _ => false
theorem ain_n0 {x : D} (hx : x = .non ∨ ∃ i, x = .int i) (q : k (.bl (n0D x)) M) : AR K (rInU K) x (.tup [.non, .int 0]) M k := fun vx vy G H Q rx ry s f => by
  obtain ⟨a, xs, rfl, ha, r⟩ := rep_tup ry
  obtain ⟨v, r', rfl, r1, r2⟩ := r.uncons
  obtain ⟨v2, r3, rfl, r4, r5⟩ := r2.uncons
  unfold Reps at r5
  subst r5
  rw [rep_non r1, rep_int r4] at ha
  refine .inr (.inr ⟨a, _, rfl, .inr (Same.seqT s.same ha), ?_, rfl, ?_⟩)
  · rcases hx with rfl | ⟨i, rfl⟩
    · rw [rep_non rx]; rfl
    · rw [rep_int rx]; rfl
  · rw [if_neg Bool.false_ne_true]
    rcases hx with rfl | ⟨i, rfl⟩
    · rw [rep_non rx]
      exact f _ M _ G H q s Step.refl rep_of_bl
    · rw [rep_int rx]
      have e : inV (V.int i) [V.non, V.int 0] = n0D (.int i) := by
        show (false || (((0 : Int) == i) || false)) = (i == 0)
        by_cases c : i = 0
        · subst c; rfl
        · have h1 : ((0 : Int) == i) = false := beq_eq_false_iff_ne.mpr fun z => c z.symm
          have h2 : (i == 0) = false := beq_eq_false_iff_ne.mpr c
          rw [h1, h2]; rfl
      rw [e]
      exact f _ M _ G H q s Step.refl rep_of_bl
end
end Tg
set_option Elab.async false
set_option linter.all false
set_option maxRecDepth 100000
set_option maxHeartbeats 1000000
/-! Tgd: walks over lists that may change and stay meanwhile. -/
namespace Tg
open PySem L2 PyProof.Rows
/-! ### a list that may change, walked while it stays -/
section
variable (K : PySem.W.Frag)
def ItOkW (J : It) (G : Hp) (ds : List D) (w : Mu) : Prop := ∀ i G1 H1 M, Same G G1 → S K G1 H1 M → (∀ p ∈ w, p ∈ M) →
  (∀ d, ds[i]? = some d → J.go i H1 ∧ ∀ x H', J.yld i H1 x H' → ∃ G', S K G' H' M ∧ Step (ads M) G1 H1 (ads M) G' H' ∧ Rep K G' d x) ∧ (i = ds.length → J.stop i H1)
def AIW (wi : TI) (δ : DS) (M : Mu) (k : List D → Mu → Mu → Prop) : Prop := ∀ σ G H R, RelS K G δ σ → S K G H M →
  (∀ ds w M' G' H' J, k ds w M' → S K G' H' M' → Step (ads M) G H (ads M') G' H' → ItOkW K J G' ds w → R J H') → wi σ H R
end
section
variable {K : PySem.W.Frag} {δ : DS} {M : Mu} {te tl : TE} {k : D → Mu → Prop} {ki : List D → Mu → Mu → Prop}
theorem ai_seqW (h : AE K tl δ M fun d M1 => ∃ a ds, d = .ref a ∧ (a, MO.lst ds) ∈ M1 ∧ ki ds [(a, .lst ds)] M1) : AIW K (iSeq K tl) δ M ki := fun σ G H R rs s f =>
  h σ G H _ rs s fun d M1 v G1 H1 ⟨a, ds, e, hm, h1⟩ s1 st1 r1 => by
    subst e
    rw [rep_ref r1]
    obtain ⟨g0, o, ho, xs, rfl, rx⟩ := s1.mu _ hm
    refine .inl ⟨a, rfl, ⟨xs, .inl (.inl ho)⟩, f ds _ M1 G1 H1 _ h1 s1 st1 ?_⟩
    intro i G2 H2 M2 e s2 hw
    obtain ⟨g2, o2, ho2, ys, rfl, ry⟩ := s2.mu _ (hw _ (List.mem_singleton_self _))
    have hq : SqL K H2 a ys := .inl (.inl ho2)
    refine ⟨fun d hd => ?_, fun hi => ⟨ys, hq, by rw [ry.len, hi]; exact Nat.le_refl _⟩⟩
    obtain ⟨x, hx, rx2⟩ := ry.get hd
    refine ⟨⟨ys, x, hq, hx⟩, fun y H' hy => ?_⟩
    obtain ⟨rfl, hy⟩ := hy
    have e2 : x = y := Option.some.inj (hx.symm.trans (hy ys hq))
    subst e2
    exact ⟨G2, s2, Step.refl, rx2⟩
/-- one clause, with what is done at the end left open -/
theorem lc_genW {wi : TI} {g : TG} {tt : TT} {vs : List Nat} (og : OwnG vs g) {kk : List D → Mu → Prop}
    (h : AIW K wi δ M fun ds w M1 => ds.length < sizeLine ∧ ∃ I : Nat → List D → Mu → Prop, I 0 [] M1 ∧ (∀ i acc M', I i acc M' → ∀ p ∈ w, p ∈ M') ∧
      (∀ i d acc M', ds[i]? = some d → I i acc M' → AG K g d (wipeD δ vs) M' fun δ2 M2 => AT K tt δ2 M2 fun b M3 => (b = true → AE K te δ2 M3 fun y M4 => I (i + 1) (acc ++ [y]) M4) ∧ (b = false → I (i + 1) acc M3)) ∧
      (∀ acc M', I ds.length acc M' → kk acc M')) {σ : L2.St} {G H : Hp} {Q : VK} (rs : RelS K G δ σ) (s : S K G H M)
    (f : ∀ acc M' M1 G1 H1 Dl G' H', kk acc M' → H1 Dl = none → Step (ads M) G H (ads M1) G1 H1 → Bes K Dl G1 H1 M1 acc M' G' H' → Q (.ref Dl) H') : tLc wi g tt te vs σ H Q :=
  h σ G H _ rs s fun ds w M1 G1 H1 J ⟨hz, I, h0, hw, hs, he⟩ s1 st1 ok Dl nD => by
    refine ⟨fun i m H' => m = ds.length - i ∧ i ≤ ds.length ∧ ∃ acc M' G', acc.length ≤ i ∧ I i acc M' ∧ Bes K Dl G1 H1 M1 acc M' G' H',
      ⟨ds.length, by simp, Nat.zero_le _, [], M1, G1, Nat.le_refl _, h0, Bes.start s1 nD⟩, ?_⟩
    rintro i m H' ⟨rfl, hi, acc, M', G', hal, hI, b⟩
    obtain ⟨o1, o2⟩ := ok i G' H' M' b.st.gg b.s (hw i acc M' hI)
    by_cases hl : i < ds.length
    · obtain ⟨hgo, hy⟩ := o1 ds[i] (List.getElem?_eq_getElem hl)
      refine .inr ⟨hgo, fun H2 => ∃ acc M' G', acc.length ≤ i + 1 ∧ I (i + 1) acc M' ∧ Bes K Dl G1 H1 M1 acc M' G' H2, fun H2 q => ⟨ds.length - (i + 1), by omega, rfl, hl, q⟩, fun x H2 y => ?_⟩
      obtain ⟨G2, s2, st2, r2⟩ := hy x H2 y
      have rsw : RelS K G2 (wipeD δ vs) (wipe σ vs) := relS_wipe (rs.mono (st1.gg.trans (b.st.gg.trans st2.gg))) vs
      have body := hs i ds[i] acc M' (List.getElem?_eq_getElem hl) hI x (wipe σ vs) G2 H2 (fun σ2 H3 => tt σ2 H3 fun b' H4 =>
        if b' = true then te σ2 H4 fun y H5 => ∃ acc, H5 Dl = some (.lst acc) ∧ acc.length < sizeLine ∧ (fun H2 => ∃ acc M' G', acc.length ≤ i + 1 ∧ I (i + 1) acc M' ∧ Bes K Dl G1 H1 M1 acc M' G' H2) (upd H5 Dl (.lst (acc ++ [y])))
        else (fun H2 => ∃ acc M' G', acc.length ≤ i + 1 ∧ I (i + 1) acc M' ∧ Bes K Dl G1 H1 M1 acc M' G' H2) H4) r2 rsw s2 ?_
      · have fin := og.run x (wipe σ vs) H2 _ body
        rw [wipe_wipe] at fin
        exact fin
      · intro δ3 M3 σ3 G3 H3 h3 rs3 s3 st3
        refine h3 σ3 G3 H3 _ rs3 s3 fun b' M4 G4 H4 ⟨h4, h5⟩ s4 st4 => ?_
        have b4 := ((b.go s2 st2).go s3 st3).go s4 st4
        cases b' with
        | true =>
          rw [if_pos rfl]
          refine h4 rfl σ3 G4 H4 _ (rs3.mono st4.gg) s4 fun y M5 vy G5 H5 q5 s5 st5 r5 => ?_
          obtain ⟨xs, e1, e2, b5⟩ := (b4.go s5 st5).app nD r5
          exact ⟨xs, e1, by rw [e2]; omega, acc ++ [y], M5, G5, by rw [List.length_append]; exact Nat.succ_le_succ hal, q5, b5⟩
        | false =>
          rw [if_neg Bool.false_ne_true]
          exact ⟨acc, M4, G4, Nat.le_succ_of_le hal, h5 rfl, b4⟩
    · have e : i = ds.length := by omega
      subst e
      exact .inl ⟨o2 rfl, f acc M' M1 G1 H1 Dl G' H' (he acc M' hI) nD st1 b⟩
/-- a comprehension whose list will be changed -/
theorem ae_lcMW {wi : TI} {g : TG} {tt : TT} {vs : List Nat} (og : OwnG vs g) (h : AIW K wi δ M fun ds w M1 => ds.length < sizeLine ∧ ∃ I : Nat → List D → Mu → Prop, I 0 [] M1 ∧ (∀ i acc M', I i acc M' → ∀ p ∈ w, p ∈ M') ∧
      (∀ i d acc M', ds[i]? = some d → I i acc M' → AG K g d (wipeD δ vs) M' fun δ2 M2 => AT K tt δ2 M2 fun b M3 => (b = true → AE K te δ2 M3 fun y M4 => I (i + 1) (acc ++ [y]) M4) ∧ (b = false → I (i + 1) acc M3)) ∧
      (∀ acc M', I ds.length acc M' → ∀ a, k (.ref a) (M' ++ [(a, .lst acc)]))) : AE K (tLc wi g tt te vs) δ M k := fun σ G H Q rs s f =>
  lc_genW og h rs s fun acc M' M1 G1 H1 Dl G' H' hk nD st1 b => by
    obtain ⟨s2, st2⟩ := b.mut nD
    exact f _ _ _ G' H' (hk Dl) s2 (st1.trans st2) rep_of_ref
/-- a comprehension over what may change, and stays -/
theorem ae_lcW {wi : TI} {g : TG} {tt : TT} {vs : List Nat} (og : OwnG vs g) (h : AIW K wi δ M fun ds w M1 => ds.length < sizeLine ∧ ∃ I : Nat → List D → Mu → Prop, I 0 [] M1 ∧ (∀ i acc M', I i acc M' → ∀ p ∈ w, p ∈ M') ∧
      (∀ i d acc M', ds[i]? = some d → I i acc M' → AG K g d (wipeD δ vs) M' fun δ2 M2 => AT K tt δ2 M2 fun b M3 => (b = true → AE K te δ2 M3 fun y M4 => I (i + 1) (acc ++ [y]) M4) ∧ (b = false → I (i + 1) acc M3)) ∧
      (∀ acc M', I ds.length acc M' → k (.lst acc) M')) : AE K (tLc wi g tt te vs) δ M k := fun σ G H Q rs s f =>
  lc_genW og h rs s fun acc M' M1 G1 H1 Dl G' H' hk nD st1 b => by
    obtain ⟨G2, s2, st2, r2⟩ := b.fin nD
    exact f _ _ _ _ _ hk s2 (st1.trans st2) r2
/-- where nothing changes: a comprehension of a plain expression over a list that may change -/
theorem ae_lcF {g : TG} {vs : List Nat} {tt : TT} (og : OwnG vs g) {a : Addr} {ds : List D} (fd : D → D) (h : AE K tl δ M fun d M1 => d = .ref a ∧ M1 = M ∧ (a, MO.lst ds) ∈ M ∧ ds.length < sizeLine) (htt : tt = tYes)
    (hs : ∀ d ∈ ds, AG K g d (wipeD δ vs) M fun δ2 M2 => AE K te δ2 M2 fun y M4 => y = fd d ∧ M4 = M) (q : k (.lst (ds.map fd)) M) : AE K (tLc (iSeq K tl) g tt te vs) δ M k := by
  subst htt
  refine ae_lcW og (ai_seqW fun σ G H Q rs s f => h σ G H Q rs s fun d M1 v G1 H1 ⟨e1, e2, e3, e4⟩ s1 st1 r1 => f d M1 v G1 H1 ?_ s1 st1 r1)
  subst e1 e2
  refine ⟨a, ds, rfl, e3, e4, fun i acc M' => M' = M1 ∧ acc = (ds.take i).map fd, ⟨rfl, by simp⟩, ?_, ?_, ?_⟩
  · rintro i acc M' ⟨rfl, _⟩ p hp
    rw [List.mem_singleton.mp hp]
    exact e3
  · rintro i d acc M' hd ⟨rfl, rfl⟩
    refine fun v σ G H Q rv rs s f => hs d (List.mem_of_getElem? hd) v σ G H Q rv rs s fun δ2 M2 σ2 G2 H2 h2 => f δ2 M2 σ2 G2 H2 ?_
    refine at_yes ⟨fun _ => ?_, fun z => nomatch z⟩
    refine fun σ G H Q rs s f => h2 σ G H Q rs s fun y M4 v4 G4 H4 ⟨e5, e6⟩ => f y M4 v4 G4 H4 ⟨e6, ?_⟩
    rw [e5, List.take_add_one, hd]
    simp
  · rintro acc M' ⟨rfl, rfl⟩
    rw [List.take_length]
    exact q
/-! ### what may change, by membership -/
variable {C : Addr} {m : Str} {f : Str} {ts : TA} {A : AEnds} {tv : TE}
theorem ae_fldm (h : AE K te δ M fun x M1 => ∃ a C dx fs d, x = .ref a ∧ (a, MO.ins C dx fs) ∈ M1 ∧ Cls K C ∧ NoAttr K C f ∧ fs.lookup f = some d ∧ k d M1) : AE K (tFld K te f) δ M k :=
  ae_fld fun σ G H Q rs s g => h σ G H Q rs s fun x M1 v G1 H1 ⟨a, C, dx, fs, d, e1, e2, c, n, l, q⟩ => by
    obtain ⟨N1, N2, e3⟩ := List.append_of_mem e2
    exact g x M1 v G1 H1 ⟨a, C, dx, fs, d, N1, N2, e1, e3, c, n, l, q⟩
theorem ae_methP {W : Wt} {E : XK} (h : AE K te δ M fun x M1 => ∃ a dx fs, x = .ref a ∧ (a, MO.ins C dx fs) ∈ M1 ∧ fs.lookup m = none ∧
      AA K ts δ M1 fun ds M2 => ∃ Mc R kc, M2.Perm (Mc ++ R) ∧ W (.ref a :: ds) Mc kc ∧ ∀ d Mc', kc d Mc' → k d (Mc' ++ R)) : AE K (tMeth C m (Spc K W) [] E te ts) δ M k := fun σ G H Q rs s f' =>
  h σ G H _ rs s fun x M1 vx G1 H1 ⟨a, dx, fs, e1, e2, l, h1⟩ s1 st1 r1 => by
    subst e1
    obtain ⟨g0, o, ho, ps, rfl, rk⟩ := s1.mu _ e2
    refine ⟨a, dx, ps, rep_ref r1, ho, repKV_no rk l, h1 σ G1 H1 _ (rs.mono st1.gg) s1 ?_⟩
    rintro ds M2 vs G2 H2 ⟨Mc, R, kc, hp, hw, hk⟩ s2 st2 r2
    rw [rep_ref r1, List.append_nil]
    have s3 := s2.perm hp
    refine ⟨G2, _, Mc, kc, Reps.cons rep_of_ref r2, s3.sub, hw, fun d M' v G' H' hd s' st' rv => ?_⟩
    obtain ⟨s4, st4⟩ := s3.join s' st'
    exact f' d _ v G' H' (hk d M' hd) s4 ((st1.trans (st2.perm (fun _ => Iff.rfl) (ads_perm hp))).trans st4) rv
/-- what is not needed is forgotten behind an evaluation -/
theorem ae_perm' (h : AE K te δ M fun d M' => ∃ M2, M'.Perm M2 ∧ k d M2) : AE K te δ M k := fun σ G H Q rs s f =>
  h σ G H Q rs s fun d M1 v G1 H1 ⟨M2, hp, q⟩ s1 st1 r1 => f d M2 v G1 H1 q (s1.perm hp) (st1.perm (fun _ => Iff.rfl) (ads_perm hp)) r1
theorem ae_lose' (h : AE K te δ M fun d M' => ∃ M2 J, M'.Perm (M2 ++ J) ∧ k d M2) : AE K te δ M k := fun σ G H Q rs s f =>
  h σ G H Q rs s fun d M1 v G1 H1 ⟨M2, J, hp, q⟩ s1 st1 r1 => by
    have st2 := st1.perm (fun _ => Iff.rfl) (ads_perm hp)
    refine f d M2 v G1 H1 q (s1.perm hp).sub ⟨st2.gg, st2.fr, st2.keep, st2.alive, fun b hb => st2.own b ?_⟩ r1
    show b ∈ (M2 ++ J).map (·.1)
    rw [List.map_append]
    exact List.mem_append_left _ hb
end
end Tg
set_option Elab.async false
set_option linter.all false
set_option maxRecDepth 100000
set_option maxHeartbeats 1000000
/-! Tge: dicts that may change, told by membership; pop. -/
namespace Tg
open PySem L2 PyProof.Rows
section
variable {K : PySem.W.Frag} {δ : DS} {M M1 M2 : Mu} {te td ty tx : TE} {k : D → Mu → Prop} {x : D}
theorem ae_dgetm (h : AE K td δ M fun o M1 => AE K ty δ M1 fun j M2 => ∃ a kvs key v, o = .ref a ∧ j = keyD key ∧ (a, MO.dK kvs) ∈ M2 ∧ valD kvs key = some v ∧ k v M2) : AE K (tDGet td ty) δ M k :=
  ae_dgetM fun σ G H Q rs s f => h σ G H Q rs s fun o M1 v G1 H1 h1 => f o M1 v G1 H1 fun σ G H Q rs s f => h1 σ G H Q rs s fun j M2 v2 G2 H2 ⟨a, kvs, key, v, e1, e2, e3, e4, q⟩ => by
    obtain ⟨N1, N2, e5⟩ := List.append_of_mem e3
    exact f j M2 v2 G2 H2 ⟨a, kvs, N1, N2, key, v, e1, e2, e5, e4, q⟩
theorem ae_dget1m (h : AE K td δ M fun o M1 => (∃ a kvs, o = .ref a ∧ (a, MO.dK kvs) ∈ M1) ∧ AE K ty δ M1 fun j M2 => ∃ a kvs key, o = .ref a ∧ j = keyD key ∧ (a, MO.dK kvs) ∈ M2 ∧ k ((valD kvs key).getD .non) M2) : AE K (tDGet1 td ty) δ M k :=
  ae_dget1 fun σ G H Q rs s f => h σ G H Q rs s fun o M1 v G1 H1 ⟨⟨a, kvs, e1, e2⟩, h1⟩ => f o M1 v G1 H1 ⟨by
    obtain ⟨N1, N2, e5⟩ := List.append_of_mem e2
    exact ⟨a, kvs, N1, N2, e1, e5⟩, fun σ G H Q rs s f => h1 σ G H Q rs s fun j M2 v2 G2 H2 ⟨a, kvs, key, e1, e2, e3, q⟩ => by
    obtain ⟨N1, N2, e5⟩ := List.append_of_mem e3
    exact f j M2 v2 G2 H2 ⟨a, kvs, N1, N2, key, e1, e2, e5, q⟩⟩
theorem ar_notinDm {a : Addr} {kvs : List (Key × D)} {key : Key} (e : (a, MO.dK kvs) ∈ M) (hx : x = keyD key) (q : k (.bl (!(valD kvs key).isSome)) M) : AR K rNotInDk x (.ref a) M k := by
  obtain ⟨N1, N2, e5⟩ := List.append_of_mem e
  exact ar_notinDk e5 hx q
theorem ar_inDm {a : Addr} {kvs : List (Key × D)} {key : Key} (e : (a, MO.dK kvs) ∈ M) (hx : x = keyD key) (q : k (.bl (valD kvs key).isSome) M) : AR K rInDk x (.ref a) M k := by
  obtain ⟨N1, N2, e5⟩ := List.append_of_mem e
  exact ar_inDk e5 hx q
theorem ac_lenDm {a : Addr} {kvs : List (Key × D)} (e : (a, MO.dK kvs) ∈ M) (q : k (.int (kvs.length : Nat)) M) : AC K rLenDk [.ref a] M k := by
  obtain ⟨N1, N2, e5⟩ := List.append_of_mem e
  exact ac_lenDk e5 q
def dropD {κ : Type} [DecidableEq κ] (kvs : List (κ × D)) (q : κ) : List (κ × D) := kvs.filter fun kv => decide (kv.1 ≠ q)
theorem repKV_drop {κ : Type} [DecidableEq κ] {G : Hp} {q : κ} : ∀ {ds : List (κ × D)} {xs : List (κ × V)}, RepKV K G ds xs → RepKV K G (dropD ds q) (L2.dropK xs q)
  | [], _, h => by
    unfold RepKV at h
    subst h
    exact (by unfold RepKV; rfl : RepKV K G [] [])
  | (q', d) :: ds, _, h => by
    unfold RepKV at h
    obtain ⟨v, r, rfl, rv, rr⟩ := h
    have ih := repKV_drop (q := q) rr
    by_cases c : q' = q
    · have e1 : dropD ((q', d) :: ds) q = dropD ds q := List.filter_cons_of_neg (by simp [c])
      have e2 : L2.dropK ((q', v) :: r) q = L2.dropK r q := List.filter_cons_of_neg (by simp [c])
      rw [e1, e2]
      exact ih
    · have e1 : dropD ((q', d) :: ds) q = (q', d) :: dropD ds q := List.filter_cons_of_pos (by simp [c])
      have e2 : L2.dropK ((q', v) :: r) q = (q', v) :: L2.dropK r q := List.filter_cons_of_pos (by simp [c])
      rw [e1, e2]
      unfold RepKV
      exact ⟨v, _, rfl, rv, ih⟩
theorem ae_dpop2 (h : AE K td δ M fun o M1 => (∃ a kvs, o = .ref a ∧ (a, MO.dK kvs) ∈ M1) ∧ AE K ty δ M1 fun j M2 => AE K tx δ M2 fun z M3 => ∃ a kvs N1 N2 key, o = .ref a ∧ j = keyD key ∧ M3 = N1 ++ (a, MO.dK kvs) :: N2 ∧
      (∀ v, valD kvs key = some v → k v (N1 ++ (a, MO.dK (dropD kvs key)) :: N2)) ∧ (valD kvs key = none → k z M3)) : AE K (tDPop2 td ty tx) δ M k := fun σ G H Q rs s f =>
  h σ G H _ rs s fun o M1 vo G1 H1 ⟨⟨a, kvs, e1, e2⟩, h1⟩ s1 st1 r1 => by
    subst e1
    refine ⟨a, rep_ref r1, ?_, h1 σ G1 H1 _ (rs.mono st1.gg) s1 fun j M2 vj G2 H2 h2 s2 st2 r2 => h2 σ G2 H2 _ (rs.mono (st1.trans st2).gg) s2 fun z M3 vz G3 H3 h3 s3 st3 r3 => ?_⟩
    · obtain ⟨g0, o, ho, r⟩ := s1.mu _ e2
      obtain ⟨xs, rfl, rx⟩ := r
      exact .inl ⟨xs, .inl ho⟩
    · obtain ⟨a', kvs, N1, N2, key, e3, e4, e5, hv1, hv2⟩ := h3
      cases e3
      subst e4 e5
      obtain ⟨g0, o, ho, r⟩ := s3.mu (a, .dK kvs) (by simp)
      obtain ⟨xs, rfl, rx⟩ := r
      obtain ⟨g1, g2⟩ := repKV_get (q := key) rx
      have st := (st1.trans st2).trans st3
      refine ⟨xs, key, ho, rep_key (Rep.mono st3.gg _ _ r2), fun v hv' => ?_, fun hn => ?_⟩
      · cases hd : valD kvs key with
        | none => rw [g2 hd] at hv'; cases hv'
        | some d =>
          obtain ⟨v', e6, r6⟩ := g1 d hd
          rw [e6] at hv'
          cases hv'
          obtain ⟨s4, st4⟩ := s3.write (o := .dK (L2.dropK xs key)) (m' := .dK (dropD kvs key)) ⟨_, rfl, repKV_drop rx⟩
          exact f d _ v G3 _ (hv1 d hd) s4 (st.trans st4) r6
      · cases hd : valD kvs key with
        | some d =>
          obtain ⟨v', e6, _⟩ := g1 d hd
          rw [e6] at hn
          cases hn
        | none => exact f z _ vz G3 H3 (hv2 hd) s3 st r3
/-- a method that leaves what may change as it was -/
theorem ae_methS {C : Addr} {m : Str} {ts : TA} {W : Wt} {E : XK} (h : AE K te δ M fun x M1 => ∃ a dx fs, x = .ref a ∧ (a, MO.ins C dx fs) ∈ M1 ∧ fs.lookup m = none ∧
      AA K ts δ M1 fun ds M2 => ∃ Mc R, M2.Perm (Mc ++ R) ∧ W (.ref a :: ds) Mc fun d M' => M' = Mc ∧ k d M2) : AE K (tMeth C m (Spc K W) [] E te ts) δ M k :=
  ae_perm' (ae_methP fun σ G H Q rs s f => h σ G H Q rs s fun x M1 v G1 H1 ⟨a, dx, fs, e1, e2, l, h1⟩ => f x M1 v G1 H1 ⟨a, dx, fs, e1, e2, l, fun σ G H Q rs s f => h1 σ G H Q rs s fun ds M2 vs G2 H2 ⟨Mc, R, hp, hw⟩ =>
    f ds M2 vs G2 H2 ⟨Mc, R, _, hp, hw, fun d M' ⟨e, q⟩ => ⟨M2, by rw [e]; exact hp.symm, q⟩⟩⟩)
/-- what follows, in another order -/
theorem as_nxP {t : TS} {A : AEnds} (h : AS K t δ M { A with nx := fun δ' M' => ∃ M2, M'.Perm M2 ∧ A.nx δ' M2 }) : AS K t δ M A := fun σ G H E rs s f =>
  h σ G H E rs s ⟨fun δ' M' σ' G' H' ⟨M2, hp, q⟩ rs' s' st => f.nx δ' M2 σ' G' H' q rs' (s'.perm hp) (st.perm (fun _ => Iff.rfl) (ads_perm hp)), f.rt, f.bk, f.ct, f.xs, f.ps⟩
end
end Tg
set_option Elab.async false
set_option linter.all false
set_option maxRecDepth 100000
set_option maxHeartbeats 1000000
/-! Tgf: the last one of a list popped; texts in a list. -/
namespace Tg
open PySem L2 PyProof.Rows
section
variable {K : PySem.W.Frag} {δ : DS} {M M1 M2 : Mu} {to : TE} {k : D → Mu → Prop} {d : D}
theorem ae_pop0 (h : AE K to δ M fun x M1 => ∃ a ds d N1 N2, x = .ref a ∧ M1 = N1 ++ (a, MO.lst (ds ++ [d])) :: N2 ∧ k d (N1 ++ (a, MO.lst ds) :: N2)) : AE K (tBM0 K "list" rPop to) δ M k := fun σ G H Q rs s f =>
  h σ G H _ rs s fun x M1 v G1 H1 ⟨a, ds, d, N1, N2, e1, e2, q⟩ s1 st1 r1 => by
    subst e1 e2
    obtain ⟨g0, o, ho, r⟩ := s1.mu (a, .lst (ds ++ [d])) (by simp)
    obtain ⟨xs, rfl, rx⟩ := r
    have hl : xs.length = ds.length + 1 := by rw [rx.len, List.length_append]; rfl
    obtain ⟨y, hy, ry⟩ := rx.get (i := ds.length) (d := d) (by rw [List.getElem?_append_right (Nat.le_refl _), Nat.sub_self]; rfl)
    have rd : Reps K G1 ds xs.dropLast := by
      have h1 := Reps.take ds.length rx
      rw [List.take_left'] at h1
      · rw [List.dropLast_eq_take, hl]
        exact h1
      · rfl
    obtain ⟨s2, st2⟩ := s1.write (o := .lst xs.dropLast) (m' := .lst ds) ⟨_, rfl, rd⟩
    refine ⟨?_, a, xs, y, rep_ref r1, rfl, ho, by rw [hl]; exact hy, f d _ y G1 _ q s2 (st1.trans st2) ry⟩
    rw [rep_ref r1]
    exact .inl ⟨rfl, xs, .inl (.inl ho)⟩
/-- what follows, some of it forgotten -/
theorem as_nxL {t : TS} {A : AEnds} (h : AS K t δ M { A with nx := fun δ' M' => ∃ M2 J, M'.Perm (M2 ++ J) ∧ A.nx δ' M2 }) : AS K t δ M A := fun σ G H E rs s f =>
  h σ G H E rs s ⟨fun δ' M' σ' G' H' ⟨M2, J, hp, q⟩ rs' s' st => by
    have st2 := st.perm (fun _ => Iff.rfl) (ads_perm hp)
    refine f.nx δ' M2 σ' G' H' q rs' (s'.perm hp).sub ⟨st2.gg, st2.fr, st2.keep, st2.alive, fun b hb => st2.own b ?_⟩
    show b ∈ (M2 ++ J).map (·.1)
    rw [List.map_append]
    exact List.mem_append_left _ hb, f.rt, f.bk, f.ct, f.xs, f.ps⟩
/-- a comprehension of a plain expression over a list that may change, item by item -/
theorem ae_lcG {tl te : TE} {g : TG} {vs : List Nat} (og : OwnG vs g) {a : Addr} {ds es : List D} (h : AE K tl δ M fun d M1 => d = .ref a ∧ M1 = M ∧ (a, MO.lst ds) ∈ M ∧ ds.length < sizeLine) (hl : es.length = ds.length)
    (hs : ∀ (i : Nat) (d e : D), ds[i]? = some d → es[i]? = some e → AG K g d (wipeD δ vs) M fun δ2 M2 => AE K te δ2 M2 fun y M4 => y = e ∧ M4 = M) (q : k (.lst es) M) : AE K (tLc (iSeq K tl) g tYes te vs) δ M k := by
  refine ae_lcW og (ai_seqW fun σ G H Q rs s f => h σ G H Q rs s fun d M1 v G1 H1 ⟨e1, e2, e3, e4⟩ s1 st1 r1 => f d M1 v G1 H1 ?_ s1 st1 r1)
  subst e1 e2
  refine ⟨a, ds, rfl, e3, e4, fun i acc M' => M' = M1 ∧ acc = es.take i, ⟨rfl, by simp⟩, ?_, ?_, ?_⟩
  · rintro i acc M' ⟨rfl, _⟩ p hp
    rw [List.mem_singleton.mp hp]
    exact e3
  · rintro i d acc M' hd ⟨rfl, rfl⟩
    have hi := (List.getElem?_eq_some_iff.mp hd).1
    have he : es[i]? = some es[i] := List.getElem?_eq_getElem (by omega)
    refine fun v σ G H Q rv rs s f => hs i d _ hd he v σ G H Q rv rs s fun δ2 M2 σ2 G2 H2 h2 => f δ2 M2 σ2 G2 H2 ?_
    refine at_yes ⟨fun _ => ?_, fun z => nomatch z⟩
    refine fun σ G H Q rs s f => h2 σ G H Q rs s fun y M4 v4 G4 H4 ⟨e5, e6⟩ => f y M4 v4 G4 H4 ⟨e6, ?_⟩
    rw [e5, List.take_add_one, he]
    rfl
  · rintro acc M' ⟨rfl, rfl⟩
    rw [← hl, List.take_length]
    exact q
theorem ain_strsL {z : Str} {ss : List Str} (q : k (.bl (decide (z ∈ ss))) M) : AR K (rInU K) (.str z) (.lst (ss.map D.str)) M k := fun vx vy G H Q rx ry s f => by
  obtain ⟨a, xs, rfl, ha, rx'⟩ := rep_lst ry
  have e := rx'.strs
  subst e
  refine .inr (.inr ⟨a, _, rfl, .inl (.inl (.inl (s.same _ _ ha))), by rw [rep_str rx]; rfl, flat_strs, ?_⟩)
  rw [rep_str rx, if_neg Bool.false_ne_true, inV_strs]
  exact f _ M _ G H q s Step.refl rep_of_bl
end
end Tg
set_option Elab.async false
set_option linter.all false
set_option maxRecDepth 100000
set_option maxHeartbeats 1000000
/-! Tgg: dicts walked by their keys: locked meanwhile. -/
namespace Tg
open PySem L2 PyProof.Rows
section
variable {K : PySem.W.Frag} {G H : Hp} {δ : DS} {M M1 M2 : Mu} {te td ty tx : TE} {k : D → Mu → Prop} {ki : List D → Mu → Mu → Prop} {x : D} {A : AEnds} {t : TS}
theorem S.lock {p : Addr} {kvs : List (Key × D)} (s : S K G H (M1 ++ (p, .dK kvs) :: M2)) : ∃ ps, H p = some (.dK ps) ∧
    ∀ od, S K G (upd H p (.frz od (.dK ps))) (M1 ++ (p, .dF od ps kvs) :: M2) ∧ Step (ads (M1 ++ (p, .dK kvs) :: M2)) G H (ads (M1 ++ (p, .dF od ps kvs) :: M2)) G (upd H p (.frz od (.dK ps))) := by
  obtain ⟨gp, o, hp, ps, rfl, r⟩ := s.mu (p, .dK kvs) (by simp)
  exact ⟨ps, hp, fun od => s.write ⟨rfl, r⟩⟩
theorem S.unlock {p : Addr} {od : Obj} {ps : List (Key × V)} {kvs : List (Key × D)} (s : S K G H (M1 ++ (p, .dF od ps kvs) :: M2)) : H p = some (.frz od (.dK ps)) ∧
    S K G (upd H p (.dK ps)) (M1 ++ (p, .dK kvs) :: M2) ∧ Step (ads (M1 ++ (p, .dF od ps kvs) :: M2)) G H (ads (M1 ++ (p, .dK kvs) :: M2)) G (upd H p (.dK ps)) := by
  obtain ⟨gp, o, hp, e, r⟩ := s.mu (p, .dF od ps kvs) (by simp)
  subst e
  exact ⟨hp, s.write ⟨ps, rfl, r⟩⟩
theorem ae_lock (h : ∃ d kvs N1 N2, M = N1 ++ (d, MO.dK kvs) :: N2 ∧ ∀ od ps, AE K te δ (N1 ++ (d, MO.dF od ps kvs) :: N2) fun v M' => ∃ L1 L2, M' = L1 ++ (d, MO.dF od ps kvs) :: L2 ∧ k v (L1 ++ (d, .dK kvs) :: L2)) : AE K (tLockE te) δ M k := fun σ G H Q rs s f => by
  obtain ⟨d, kvs, N1, N2, rfl, h⟩ := h
  obtain ⟨ps, hp, hl⟩ := s.lock
  refine ⟨d, .dK ps, hp, trivial, fun od => ?_⟩
  obtain ⟨s1, st1⟩ := hl od
  refine h od ps σ G _ _ rs s1 fun v M' vv G' H' ⟨L1, L2, e, q⟩ s2 st2 r2 => ?_
  subst e
  obtain ⟨hp2, s3, st3⟩ := s2.unlock
  exact ⟨hp2, f v _ vv G' _ q s3 ((st1.trans st2).trans st3) r2⟩
theorem as_lock (h : ∃ d kvs N1 N2, M = N1 ++ (d, MO.dK kvs) :: N2 ∧ ∀ od ps, AS K t δ (N1 ++ (d, MO.dF od ps kvs) :: N2) { nx := fun δ' M' => ∃ L1 L2, M' = L1 ++ (d, MO.dF od ps kvs) :: L2 ∧ A.nx δ' (L1 ++ (d, .dK kvs) :: L2), rt := fun v M' => ∃ L1 L2, M' = L1 ++ (d, MO.dF od ps kvs) :: L2 ∧ A.rt v (L1 ++ (d, .dK kvs) :: L2), bk := fun δ' M' => ∃ L1 L2, M' = L1 ++ (d, MO.dF od ps kvs) :: L2 ∧ A.bk δ' (L1 ++ (d, .dK kvs) :: L2), ct := fun δ' M' => ∃ L1 L2, M' = L1 ++ (d, MO.dF od ps kvs) :: L2 ∧ A.ct δ' (L1 ++ (d, .dK kvs) :: L2) }) : AS K (tLock t) δ M A := fun σ G H E rs s f => by
  obtain ⟨d, kvs, N1, N2, rfl, h⟩ := h
  obtain ⟨ps, hp, hl⟩ := s.lock
  refine ⟨d, .dK ps, hp, trivial, fun od => ?_⟩
  obtain ⟨s1, st1⟩ := hl od
  refine h od ps σ G _ _ rs s1 ⟨?_, ?_, ?_, ?_, fun _ _ _ _ _ z => z.elim, fun _ _ _ _ _ _ z => z.elim⟩
  · rintro δ' M' σ' G' H' ⟨L1, L2, e, q⟩ r2 s2 st2
    subst e
    obtain ⟨hp2, s3, st3⟩ := s2.unlock
    exact ⟨hp2, f.nx δ' _ σ' G' _ q r2 s3 ((st1.trans st2).trans st3)⟩
  · rintro v M' vv G' H' ⟨L1, L2, e, q⟩ s2 st2 r2
    subst e
    obtain ⟨hp2, s3, st3⟩ := s2.unlock
    exact ⟨hp2, f.rt v _ vv G' _ q s3 ((st1.trans st2).trans st3) r2⟩
  · rintro δ' M' σ' G' H' ⟨L1, L2, e, q⟩ r2 s2 st2
    subst e
    obtain ⟨hp2, s3, st3⟩ := s2.unlock
    exact ⟨hp2, f.bk δ' _ σ' G' _ q r2 s3 ((st1.trans st2).trans st3)⟩
  · rintro δ' M' σ' G' H' ⟨L1, L2, e, q⟩ r2 s2 st2
    subst e
    obtain ⟨hp2, s3, st3⟩ := s2.unlock
    exact ⟨hp2, f.ct δ' _ σ' G' _ q r2 s3 ((st1.trans st2).trans st3)⟩
theorem keys_K {X : Cx} {tg e : Expr} {td : TE} (he : PE X e td) : PI X tg e (iKeys td) := pi_keys he
theorem rep_mk_key {q : Key} : Rep K G (keyD q) (kV q) := by
  cases q with
  | inl i => exact rep_of_int
  | inr z => exact rep_of_str
theorem repKV_at {i : Nat} {q : Key} {d : D} {xs : List (Key × V)} {ds : List (Key × D)} (h : RepKV K G ds xs) (e : ds[i]? = some (q, d)) : ∃ v, xs[i]? = some (q, v) := by
  have h1 := repKV_keys h
  have h2 : (xs.map (·.1))[i]? = (ds.map (·.1))[i]? := by rw [h1]
  rw [List.getElem?_map, List.getElem?_map, e] at h2
  obtain ⟨p, hp, h3⟩ := Option.map_eq_some_iff.mp h2
  refine ⟨p.2, ?_⟩
  rw [hp]
  obtain ⟨a, b⟩ := p
  cases h3
  rfl
theorem ai_keysW (h : AE K td δ M fun d M1 => ∃ a od ps kvs, d = .ref a ∧ (a, MO.dF od ps kvs) ∈ M1 ∧ ki (kvs.map fun p => keyD p.1) [(a, .dF od ps kvs)] M1) : AIW K (iKeys td) δ M ki := fun σ G H R rs s f =>
  h σ G H _ rs s fun d M1 v G1 H1 ⟨a, od, ps, kvs, e, hm, h1⟩ s1 st1 r1 => by
    subst e
    rw [rep_ref r1]
    obtain ⟨g0, o, ho, e, rx⟩ := s1.mu _ hm
    subst e
    refine ⟨a, od, rfl, .inl ⟨ps, ho, f _ _ M1 G1 H1 _ h1 s1 st1 ?_⟩⟩
    intro i G2 H2 M2 e s2 hw
    obtain ⟨g2, o2, ho2, e2, ry⟩ := s2.mu _ (hw _ (List.mem_singleton_self _))
    subst e2
    refine ⟨fun d hd => ?_, fun hi => ⟨ho2, by rw [repKV_len ry, hi, List.length_map]; exact Nat.le_refl _⟩⟩
    rw [List.getElem?_map] at hd
    obtain ⟨⟨q, dv⟩, hq, rfl⟩ := Option.map_eq_some_iff.mp hd
    obtain ⟨xv, hx⟩ := repKV_at ry hq
    refine ⟨⟨ho2, (List.getElem?_eq_some_iff.mp hx).1⟩, fun y H' hy => ?_⟩
    obtain ⟨rfl, k', v', hk, rfl⟩ := hy
    rw [hx] at hk
    cases hk
    exact ⟨G2, s2, Step.refl, rep_mk_key⟩
theorem ae_dgetF (h : AE K td δ M fun o M1 => AE K ty δ M1 fun j M2 => ∃ a od ps kvs key v, o = .ref a ∧ j = keyD key ∧ (a, MO.dF od ps kvs) ∈ M2 ∧ valD kvs key = some v ∧ k v M2) : AE K (tDGet td ty) δ M k := fun σ G H Q rs s f =>
  h σ G H _ rs s fun o M1 vo G1 H1 h1 s1 st1 r1 => h1 σ G1 H1 _ (rs.mono st1.gg) s1 fun j M2 vj G2 H2 ⟨a, od, ps, kvs, key, v, e1, e2, e3, e4, q⟩ s2 st2 r2 => by
    subst e1 e2
    obtain ⟨g0, o, ho, e, rx⟩ := s2.mu _ e3
    subst e
    obtain ⟨v', hv, rv⟩ := (repKV_get (q := key) rx).1 v e4
    refine ⟨a, v', rep_ref r1, ?_, f v M2 v' G2 H2 q s2 (st1.trans st2) rv⟩
    rw [rep_key r2, ← hv]
    exact .inl ⟨ps, key, .inr ⟨_, ho⟩, rfl, rfl⟩
/-- for over what may change, and stays -/
theorem as_forW {wi : TI} {g : TG} (h : AIW K wi δ M fun ds w M1 => ∃ I : Nat → DS → Mu → Prop, I 0 δ M1 ∧ (∀ i δ' M', I i δ' M' → ∀ p ∈ w, p ∈ M') ∧
      (∀ i d δ' M', ds[i]? = some d → I i δ' M' → AG K g d δ' M' fun δ2 M2 => AS K t δ2 M2 { A with nx := I (i + 1), ct := I (i + 1), bk := A.nx }) ∧
      (∀ δ' M', I ds.length δ' M' → A.nx δ' M')) : AS K (tFor wi g t) δ M A := fun σ G H E rs s f =>
  h σ G H _ rs s fun ds w M1 G1 H1 J ⟨I, h0, hw, hs, he⟩ s1 st1 ok => by
    refine ⟨fun i m σ' H' => m = ds.length - i ∧ i ≤ ds.length ∧ ∃ δ' M' G', I i δ' M' ∧ RelS K G' δ' σ' ∧ S K G' H' M' ∧ Step (ads M1) G1 H1 (ads M') G' H', ⟨ds.length, by simp, Nat.zero_le _, δ, M1, G1, h0, rs.mono st1.gg, s1, Step.refl⟩, ?_⟩
    rintro i m σ' H' ⟨rfl, hi, δ', M', G', hI, rs', s', st'⟩
    obtain ⟨o1, o2⟩ := ok i G' H' M' st'.gg s' (hw i δ' M' hI)
    by_cases hl : i < ds.length
    · obtain ⟨hgo, hy⟩ := o1 ds[i] (List.getElem?_eq_getElem hl)
      refine .inr ⟨hgo, fun σ2 H2 => ∃ δ' M' G', I (i + 1) δ' M' ∧ RelS K G' δ' σ2 ∧ S K G' H2 M' ∧ Step (ads M1) G1 H1 (ads M') G' H2, fun σ2 H2 q => ⟨ds.length - (i + 1), by omega, rfl, hl, q⟩, fun x H2 y => ?_⟩
      obtain ⟨G2, s2, st2, r2⟩ := hy x H2 y
      refine hs i ds[i] δ' M' (List.getElem?_eq_getElem hl) hI x σ' G2 H2 _ r2 (rs'.mono st2.gg) s2 fun δ3 M3 σ3 G3 H3 h3 rs3 s3 st3 => ?_
      refine h3 σ3 G3 H3 _ rs3 s3 ⟨?_, ?_, ?_, ?_, ?_, fun C δ4 M4 σ4 G4 H4 q r4 s4 st4 => f.ps C δ4 M4 σ4 G4 H4 q r4 s4 (st1.trans (((st'.trans st2).trans st3).trans st4))⟩
      · intro δ4 M4 σ4 G4 H4 q rs4 s4 st4
        exact ⟨δ4, M4, G4, q, rs4, s4, ((st'.trans st2).trans st3).trans st4⟩
      · intro d M4 v G4 H4 q s4 st4 r4
        exact f.rt d M4 v G4 H4 q s4 (st1.trans (((st'.trans st2).trans st3).trans st4)) r4
      · intro δ4 M4 σ4 G4 H4 q rs4 s4 st4
        exact f.nx δ4 M4 σ4 G4 H4 q rs4 s4 (st1.trans (((st'.trans st2).trans st3).trans st4))
      · intro δ4 M4 σ4 G4 H4 q rs4 s4 st4
        exact ⟨δ4, M4, G4, q, rs4, s4, ((st'.trans st2).trans st3).trans st4⟩
      · intro fs M4 d G4 H4 q s4 st4
        exact f.xs fs M4 d G4 H4 q s4 (st1.trans (((st'.trans st2).trans st3).trans st4))
    · have e : i = ds.length := by omega
      subst e
      exact .inl ⟨o2 rfl, f.nx δ' M' σ' G' H' (he δ' M' hI) rs' s' (st1.trans st')⟩
end
end Tg
set_option Elab.async false
set_option linter.all false
set_option maxRecDepth 100000
set_option maxHeartbeats 1000000
/-! Tgh: del xs[a:] of a list that may change. -/
namespace Tg
open PySem L2 PyProof.Rows PySem.Spec
section
variable {prog : Program} {w : World} {A : Around} {E : Value → Shared → Prop} {s : Shared}
theorem bounds_tail {a n : Nat} (ha : a ≤ n) : sliceBounds (some (a : Int)) none none n = ((a : Int), (n : Int), 1) := by
  simp only [sliceBounds, Option.getD_none]
  have h1 : ¬ ((a : Int) < 0) := by omega
  simp only [h1, if_false, show (1 : Int) > 0 by decide, if_true]
  congr 1
  omega
theorem keep_front {sel : Nat → Bool} {a n : Nat} (hs : ∀ k, k < n → sel k = decide (a ≤ k)) : ∀ (xs : List Value) (k : Nat), k + xs.length = n → ((xs.zipIdx k).filterMap fun p => if sel p.2 = true then none else some p.1) = xs.take (a - k)
  | [], k, h => by simp
  | x :: r, k, h => by
    rw [List.length_cons] at h
    rw [List.zipIdx_cons, List.filterMap_cons]
    dsimp only
    rw [hs k (by omega)]
    have ih := keep_front hs r (k + 1) (by omega)
    by_cases c : a ≤ k
    · rw [decide_eq_true c, if_pos rfl]
      dsimp only
      rw [ih]
      have e1 : a - (k + 1) = 0 := by omega
      have e2 : a - k = 0 := by omega
      rw [e1, e2]
      simp
    · rw [decide_eq_false c, if_neg Bool.false_ne_true]
      dsimp only
      rw [ih]
      have e2 : a - k = (a - (k + 1)) + 1 := by omega
      rw [e2, List.take_succ_cons]
theorem delItem_tail {l sl : Addr} {items : Array Value} {n : Nat} {vl : Value} {a : Nat} {Q : Unit → Shared → Prop}
    (e : s.heap.get? l = some { cls := .type "list", data := .seq items n }) (hs : s.heap.IsSliceOf sl vl .none .none) (pl : IsPart vl (some (a : Int))) (ha : a ≤ items.size) (hsz : items.size ≤ sizeLine)
    (h : ∀ f : Array Value → Array Value, f items = (items.toList.take a).toArray → Q () { s with heap := s.heap.update l (Obj.mapSeq f) }) :
    wpAny (model prog w) A (delItem (.ref l) (.ref sl)) Q E s := by
  have hl : s.heap.IsList l items := PySem.IsL.isList e
  obtain ⟨os, hos, hcs, hds⟩ := id hs
  have hTs : s.TypeIs (.ref sl) "slice" := ⟨os, hos, hcs⟩
  have hstep : ¬ ((rawPart none == rawInt 0) = true) := Bool.false_ne_true
  unfold delItem
  try with_reducible refine wpAny_holding ?_
  first | refine wpAny_bind (wpAny_pure ?_) | skip
  refine wpAny_bind (wpAny_sequenceKey hl.typeIs (by decide) ?_)
  refine wpAny_bind (wpAny_callSpecial?_slot (name := Str.ofString "__delitem__") hl.typeIs F.slot_list_delitem
    (wpAny_call_entry F.slot_list_delitem hl.typeIs F.entry_list_delitem ?_ (F.args_list_delitem_2 _ _)))
  show wpAny _ _ (Builtin.List.listSubscript? (.ref sl) >>= _) _ _ s
  refine wpAny_bind ?_
  unfold Builtin.List.listSubscript?
  refine wpAny_bind (wpAny_specialOf hTs slice_no_index ?_)
  simp only [Option.isNone_none, if_true]
  refine wpAny_pure ?_
  show wpAny _ _ (typeOf (.ref sl) >>= _) _ _ s
  refine wpAny_bind (wpAny_typeOf hTs ?_)
  first
    | rw [if_neg (by decide)]
    | refine PySem.W.KFB.if_not (by decide) ?_
  rw [listSliceParts_eq]
  refine wpAny_bind (wpAny_bind (wpAny_field hos hds (x := .none) rfl (wpAny_bind (wpAny_listPart .none ?_))))
  rw [if_neg hstep]
  refine wpAny_bind (wpAny_field hos hds (x := vl) rfl (wpAny_bind (wpAny_listPart pl ?_)))
  refine wpAny_bind (wpAny_field hos hds (x := .none) rfl (wpAny_bind (wpAny_listPart .none (wpAny_pure ?_))))
  refine wpAny_bind ?_
  unfold Builtin.List.listItems
  refine wpAny_bind (wpAny_seqItems e rfl (wpAny_pure ?_))
  refine wpAny_bind (wpAny_of_eq ((sliceIndices_raw (some (a : Int)) none none items.size (by simp)).trans (congrArg (pure : Int × Int × Int → Sem (Int × Int × Int)) (bounds_tail ha))) ?_)
  refine wpAny_bind (wpAny_rule ?_)
  have hf : ∀ (sel : Nat → Bool), (∀ k, sel k = (if (1 : Int) > 0 then (decide ((a : Int) ≤ k) && decide ((k : Int) < (items.size : Int)) && (((k : Int) - a) % 1 == 0)) else (decide ((items.size : Int) < k) && decide ((k : Int) ≤ a) && (((a : Int) - k) % (-1) == 0)))) →
      ((items.toList.zipIdx).filterMap fun p => if sel p.2 = true then none else some p.1) = items.toList.take a := fun sel hsel => by
    have hq : ∀ k, k < items.size → sel k = decide (a ≤ k) := fun k hk => by
      rw [hsel k, if_pos (by decide)]
      have h1 : decide ((k : Int) < (items.size : Int)) = true := decide_eq_true (by omega)
      have h2 : (((k : Int) - a) % 1 == 0) = true := by rw [Int.emod_one]; rfl
      rw [h1, h2, Bool.and_true, Bool.and_true]
      by_cases c : a ≤ k
      · rw [decide_eq_true c, decide_eq_true (by omega)]
      · rw [decide_eq_false c, decide_eq_false (by omega)]
    have := keep_front hq items.toList 0 (by simp)
    rw [Nat.sub_zero] at this
    exact this
  unfold Builtin.List.listUpdate
  refine wpAny_bind (wpAny_updateSeq (hz := hsz) (_hz' := ?_) e rfl ?_)
  · refine wpAny_bind (wpAny_letGo ?_)
    exact wpAny_pure ⟨.none, rfl, wpAny_pure (h _ (congrArg List.toArray (hf _ fun k => rfl)))⟩
  · rw [List.size_toArray]
    refine Nat.le_trans (List.length_filterMap_le _ _) ?_
    rw [List.length_zipIdx, Array.length_toList]
    omega
end
section
variable {X : Cx}
theorem del_tail {pins : List (Addr × Obj)} {s : Shared} {σ : L2.St} {H : Hp} {l sl : Addr} {xs : List V} {a : Nat} {vl : Value} {Q : Unit → Shared → Prop} (I : Inv X pins σ H s)
    (hH : H l = some (.lst xs)) (hs : s.heap.IsSliceOf sl vl .none .none) (pl : IsPart vl (some (a : Int))) (ha : a ≤ xs.length) (h : ∀ s', Inv X pins σ (upd H l (.lst (xs.take a))) s' → Q () s') :
    wpAny (model X.prog X.w) X.A (delItem (.ref l) (.ref sl)) Q X.xe s := by
  obtain ⟨z, its, n, r, hl, e⟩ := I.lstM hH
  refine delItem_tail (a := a) e hs pl (by rw [List.size_toArray]; omega) (by rw [List.size_toArray]; omega) fun f hf => h _ ?_
  refine I.lset (its' := its.take a) (t' := s.toks) hH e hf (r.take _) ?_
  rw [List.length_take]
  omega
/-- del xs[a:] -/
def tDelT (to : TE) (tl : TO) : TS := fun D σ H => to σ H fun x H1 => tl σ H1 fun lo H2 => ∃ (l : Addr) (xs : List V) (a : Nat), x = .ref l ∧ lo = some (a : Int) ∧ H2 l = some (.lst xs) ∧ a ≤ xs.length ∧ D.nx σ (upd H2 l (.lst (xs.take a)))
theorem ps_delT {o lo : Expr} {to : TE} {tl : TO} {p2 tpos pos : Pos} (ho : PE X o to) (hl : PO X (some lo) tl) : PS X (.Delete [.Subscript o (.Slice (some lo) none none p2) tpos] pos) (tDelT to tl) := by
  refine ⟨fun pins s σ H D I h => ?_⟩
  refine wpAny_Delete (wpAny_deleteEach_cons (wpAny_delete_Subscript (thn (ho.run pins s σ H _ I h) fun u s1 ⟨x, H1, I1, rx, q1⟩ => ?_)))
  refine wpAny_Slice (thn (hl.run pins s1 σ H1 _ I1 q1) fun vl s2 ⟨lv, H2, I2, pl, q2⟩ => ?_)
  rw [evalPart_none]
  refine wpAny_pure ?_
  refine wpAny_pure ?_
  have I3 : Inv X pins σ H2 { s2 with heap := s2.heap.push { cls := .type "slice", data := .fields #[vl, .none, .none] } } := I2.kept (t' := s2.toks) fun b ob q => Heap.get?_push_of_some _ q
  obtain ⟨l, xs, a, ex, el, hH, ha, q⟩ := q2
  subst ex el
  cases (show u = Value.ref l from rx)
  exact del_tail I3 hH (Heap.IsSliceOf.new ..) pl ha fun s' I' => wpAny_deleteEach_nil ⟨σ, _, I', q⟩
end
section
variable {K : PySem.W.Frag} {δ : DS} {M : Mu} {to : TE} {tl : TO} {A : AEnds}
theorem as_delT (h : AE K to δ M fun o M1 => AO K tl δ M1 fun lo M2 => ∃ a ds N1 N2 j, o = .ref a ∧ lo = some ((j : Nat) : Int) ∧ M2 = N1 ++ (a, .lst ds) :: N2 ∧ j ≤ ds.length ∧ A.nx δ (N1 ++ (a, .lst (ds.take j)) :: N2)) : AS K (tDelT to tl) δ M A := fun σ G H E rs s f =>
  h σ G H _ rs s fun o M1 vo G1 H1 h1 s1 st1 r1 => h1 σ G1 H1 _ (rs.mono st1.gg) s1 fun lo M2 G2 H2 ⟨a, ds, N1, N2, j, e1, e2, e3, e4, q⟩ s2 st2 => by
    subst e1 e2 e3
    obtain ⟨g0, o, ho, xs, rfl, rx⟩ := s2.mu (a, .lst ds) (by simp)
    obtain ⟨s3, st3⟩ := s2.write (o := .lst (xs.take j)) (m' := .lst (ds.take j)) ⟨_, rfl, rx.take j⟩
    exact ⟨a, xs, j, rep_ref r1, rfl, ho, by rw [rx.len]; exact e4, f.nx δ _ σ _ _ q (rs.mono (st1.gg.trans (st2.gg.trans st3.gg))) s3 ((st1.trans st2).trans st3)⟩
variable {k : D → Mu → Prop}
/-- a slice of a list that may change -/
theorem asl_M {a : Addr} {ds : List D} {lo hi : Option Int} (hm : (a, MO.lst ds) ∈ M) (q : k (.lst (cutD ds lo hi)) M) : ASl K (rSlU K) (.ref a) lo hi M k := fun vx G H Q rx s f => by
  obtain ⟨g0, o, ho, xs, rfl, rs⟩ := s.mu _ hm
  refine .inl ⟨a, xs, rep_ref rx, .inl (.inl ho), fun l hl => ?_⟩
  obtain ⟨s2, st2, e2⟩ := s.frozen (o := .lst (cutV xs lo hi)) hl
  exact f _ M _ _ _ q s2 st2 (rep_mk_lst upd_same (Reps.mono e2 _ _ (reps_cut rs lo hi)))
/-- the place of a text in a list of texts -/
theorem am_indexL {ls : List Str} {z : Str} {j : Nat} (hj : ls[j]? = some z) (hno : ∀ m, m < j → ls[m]? ≠ some z) (q : k (.int (j : Nat)) M) : AM K (L2.rIndex K) (.lst (ls.map D.str)) [.str z] M k := fun vx vs G H Q rx rxs s f => by
  obtain ⟨a, xs, rfl, ha, rx'⟩ := rep_lst rx
  have e := rx'.strs
  subst e
  have e2 := Reps.strs («is» := [z]) rxs
  subst e2
  refine ⟨a, _, .str z, j, .str z, rfl, rfl, .inl (.inl (s.same _ _ ha)), rfl, flat_strs, by rw [List.getElem?_map, hj]; rfl, beq_self_eq_true z, fun m z' hm hz => ?_, f _ M _ G H q s Step.refl rep_of_int⟩
  rw [List.getElem?_map] at hz
  obtain ⟨y, hy, rfl⟩ := Option.map_eq_some_iff.mp hz
  show (y == z) = false
  exact beq_eq_false_iff_ne.mpr fun e => hno m hm (by rw [hy, e])
end
section
variable {X : Cx}
theorem idxL_K {K : PySem.W.Frag} {o e : Expr} {es : List Expr} {to : TE} {t : TA} {apos cpos : Pos} (h0 : PE X (.Call (.Attribute o "index" apos) (e :: es) [] cpos) (tBM X.K "list" (L2.rIndex X.K) to t)) (h : X.K = K := by rfl) : PE X (.Call (.Attribute o "index" apos) (e :: es) [] cpos) (tBM K "list" (L2.rIndex K) to t) := h ▸ h0
end
end Tg
set_option Elab.async false
set_option linter.all false
set_option maxRecDepth 100000
set_option maxHeartbeats 1000000
/-! Tgi: a locked dict: its length, get. -/
namespace Tg
open PySem L2 PyProof.Rows
def rLenDR : List V → Hp → VK → Prop := fun xs H Q => ∃ a kvs, xs = [V.ref a] ∧ Rd H a (.dK kvs) ∧ Q (.int kvs.length) H
section
variable {X : Cx}
theorem lenDR_K : CallR X (.builtin "len") rLenDR := by
  intro pins s σ H xs us Q I r h
  obtain ⟨a, kvs, rfl, ha, q⟩ := h
  obtain ⟨u, rfl, ru⟩ := vals1 r
  cases ru
  exact d_len I ha fun t s' I' => ⟨.int kvs.length, H, I', ⟨t, rfl⟩, q⟩
end
section
variable {K : PySem.W.Frag} {δ : DS} {M : Mu} {te td tx : TE} {k : D → Mu → Prop}
theorem ac_lenDF {a : Addr} {od : Obj} {ps : List (Key × V)} {kvs : List (Key × D)} (e : (a, MO.dF od ps kvs) ∈ M) (q : k (.int (kvs.length : Nat)) M) : AC K rLenDR [.ref a] M k := fun vs G H Q rx s f => by
  obtain ⟨v, r, rfl, r1, rr⟩ := rx.uncons
  unfold Reps at rr
  subst rr
  obtain ⟨g0, o, ho, e2, rs⟩ := s.mu _ e
  subst e2
  refine ⟨a, ps, by rw [rep_ref r1], .inr ⟨od, ho⟩, ?_⟩
  rw [repKV_len rs]
  exact f _ M _ G H q s Step.refl rep_of_int
theorem ae_dget2F (h : AE K td δ M fun o M1 => (∃ a od ps kvs, o = .ref a ∧ (a, MO.dF od ps kvs) ∈ M1) ∧ AE K te δ M1 fun i M2 => AE K tx δ M2 fun z M3 => ∃ a od ps kvs key, o = .ref a ∧ i = keyD key ∧ (a, MO.dF od ps kvs) ∈ M3 ∧ k ((valD kvs key).getD z) M3) : AE K (tDGet2 td te tx) δ M k := fun σ G H Q rs s f =>
  h σ G H _ rs s fun o M1 vo G1 H1 ⟨⟨a, od, ps, kvs, e1, e2⟩, h1⟩ s1 st1 r1 => by
    subst e1
    refine ⟨a, rep_ref r1, ?_, h1 σ G1 H1 _ (rs.mono st1.gg) s1 fun i M2 vi G2 H2 h2 s2 st2 r2 => h2 σ G2 H2 _ (rs.mono (st1.trans st2).gg) s2 fun z M3 vz G3 H3 h3 s3 st3 r3 => ?_⟩
    · obtain ⟨g0, o, ho, e, rx⟩ := s1.mu _ e2
      subst e
      exact .inl ⟨ps, .inr ⟨od, ho⟩⟩
    · obtain ⟨a', od, ps, kvs, key, e3, e4, e5, q⟩ := h3
      cases e3
      subst e4
      obtain ⟨g0, o, ho, e, rx⟩ := s3.mu _ e5
      subst e
      have st := (st1.trans st2).trans st3
      rw [rep_key r2]
      refine ⟨valV ps key, .inl ⟨ps, key, .inr ⟨_, ho⟩, rfl, rfl⟩, ?_⟩
      obtain ⟨g1, g2⟩ := repKV_get (q := key) rx
      cases hv : valD kvs key with
      | none =>
        rw [hv] at q
        rw [g2 hv]
        exact f z M3 vz G3 H3 q s3 st r3
      | some dv =>
        rw [hv] at q
        obtain ⟨v, e6, r6⟩ := g1 dv hv
        rw [e6]
        exact f dv M3 v G3 H3 q s3 st r6
theorem ac_listR {a : Addr} {ds : List D} (hm : (a, MO.lst ds) ∈ M) (q : k (.lst ds) M) : AC K (rListU K) [.ref a] M k := fun vs G H Q rx s f => by
  obtain ⟨v, r, rfl, r1, rr⟩ := rx.uncons
  unfold Reps at rr
  subst rr
  obtain ⟨_, o, ho, xs, rfl, rs⟩ := s.mu _ hm
  refine ⟨a, xs, by rw [rep_ref r1], .inl (.inl (.inl ho)), fun l hl => ?_⟩
  obtain ⟨s2, st2, e2⟩ := s.frozen (o := .lst xs) hl
  exact f _ M _ _ _ q s2 st2 (rep_mk_lst upd_same (Reps.mono e2 _ _ rs))
theorem au_lstF {a : Addr} {xs ys : List D} (hm : (a, MO.lst xs) ∈ M) (h : xs.length + ys.length ≤ sizeLine) (q : k (.lst (xs ++ ys)) M) : AR K (rAddU K) (.ref a) (.lst ys) M k := ar_or2 (ar_or2 (ar_or1 fun vx vy G H Q rx ry s f => by
  obtain ⟨g0, o, ho, vs, rfl, r1⟩ := s.mu _ hm
  obtain ⟨q', us, rfl, hq, r2⟩ := rep_lst ry
  refine ⟨a, q', vs, us, rep_ref rx, rfl, ho, s.same _ _ hq, by rw [r1.len, r2.len]; exact h, fun l hl => ?_⟩
  obtain ⟨s2, st2, e2⟩ := s.frozen (o := .lst (vs ++ us)) hl
  exact f _ M _ _ _ q s2 st2 (rep_mk_lst upd_same (Reps.mono e2 _ _ (r1.append r2)))))
end
end Tg

set_option Elab.async false
set_option linter.all false
set_option maxRecDepth 100000
set_option maxHeartbeats 4000000
namespace PK
open PySem L2 PyProof.Rows Tg
open C8 (Cal pe_c pe_mk)
def topS (i : Nat) : Stmt := PySem.Challenge.pw_tongues_k27_answers_with_rings.main.body.getD i (.Pass ⟨0, 0, 0, 0⟩)
/-- a def of the top -/
structure DefT (K : PySem.W.Frag) (mg : Str → Option Value) (x : Str) (st : Stmt) (ps : List Str) : Prop where
  ex : ∃ f fd, Fun K x x st f fd ∧ mg x = some (.ref f) ∧ Binds K fd ps []
theorem cal_of {P : Program} {w : World} {K : PySem.W.Frag} {mg : Str → Option Value} {base : Heap} {x : Str} {st : Stmt} {ps : List Str} {k : Nat} {sp : Sp} (D : DefT K mg x st ps)
    (ok : ∀ f fd, Fun K x x st f fd → FnOk P w K mg base CX0 k f fd ps sp) : Cal P w K mg base k x sp [] := by
  obtain ⟨f, fd, F, m, b⟩ := D.ex
  exact ⟨f, fd, ps, [], ok f fd F, m, F.kp, b, .nil⟩

def cst_LETTERS : List Nat := [97, 98, 99, 100, 101, 102, 103, 104, 105, 106, 107, 108, 109, 110, 111, 112, 113, 114, 115, 116, 117, 118, 119, 120, 121, 122]
def cst_CYCLIC : List Nat := [99, 121, 99, 108, 105, 99]
def cst_RUN : List Nat := [114, 117, 110]
def cst_KEPT : List Nat := [107, 101, 112, 116]
abbrev s_Evaluation___init__ : Stmt := inClass (topS 20) 0
theorem sc_Evaluation___init__ : FnScope ["self", "formula", "answers"] ["self", "formula", "answers"] (defScope s_Evaluation___init__) := ⟨rfl, rfl, rfl, by decide +kernel, rfl, by decide +kernel, by decide +kernel⟩
abbrev s_Evaluation_result : Stmt := inClass (topS 20) 1
theorem sc_Evaluation_result : FnScope ["self"] ["self"] (defScope s_Evaluation_result) := ⟨rfl, rfl, rfl, by decide +kernel, rfl, by decide +kernel, by decide +kernel⟩
abbrev s_Evaluation__value : Stmt := inClass (topS 20) 2
theorem sc_Evaluation__value : FnScope ["self", "formula", "value"] ["self", "formula"] (defScope s_Evaluation__value) := ⟨rfl, rfl, rfl, by decide +kernel, rfl, by decide +kernel, by decide +kernel⟩
abbrev s_Evaluation__named : Stmt := inClass (topS 20) 3
theorem sc_Evaluation__named : FnScope ["self", "name", "answer"] ["self", "name"] (defScope s_Evaluation__named) := ⟨rfl, rfl, rfl, by decide +kernel, rfl, by decide +kernel, by decide +kernel⟩
abbrev s_Evaluation__told : Stmt := inClass (topS 20) 4
theorem sc_Evaluation__told : FnScope ["self", "name"] ["self", "name"] (defScope s_Evaluation__told) := ⟨rfl, rfl, rfl, by decide +kernel, rfl, by decide +kernel, by decide +kernel⟩
structure Cl_Evaluation (K : PySem.W.Frag) (mg : Str → Option Value) (C : Addr) : Prop where
  cl : Cls K C
  m : mg "Evaluation" = some (.ref C)
  n_wanted : NoAttr K C "wanted"
  n_is_cyclic : NoAttr K C "is_cyclic"
  n__answers : NoAttr K C "_answers"
  n__used : NoAttr K C "_used"
  n__result : NoAttr K C "_result"
  d___init__ : DefM K C "__init__" "Evaluation.__init__" s_Evaluation___init__ ["self", "formula", "answers"]
  d_result : DefM K C "result" "Evaluation.result" s_Evaluation_result ["self"]
  d__value : DefM K C "_value" "Evaluation._value" s_Evaluation__value ["self", "formula"]
  d__named : DefM K C "_named" "Evaluation._named" s_Evaluation__named ["self", "name"]
  d__told : DefM K C "_told" "Evaluation._told" s_Evaluation__told ["self", "name"]
  mk1 : PySem.W.makesIn K C = true
  mk2 : PySem.W.keepIn K (.ref C) = true
abbrev s_Memo___init__ : Stmt := inClass (topS 28) 0
theorem sc_Memo___init__ : FnScope ["self", "told", "answer", "last"] ["self", "told", "answer", "last"] (defScope s_Memo___init__) := ⟨rfl, rfl, rfl, by decide +kernel, rfl, by decide +kernel, by decide +kernel⟩
structure Cl_Memo (K : PySem.W.Frag) (mg : Str → Option Value) (C : Addr) : Prop where
  cl : Cls K C
  m : mg "Memo" = some (.ref C)
  n_told : NoAttr K C "told"
  n_answer : NoAttr K C "answer"
  n_last : NoAttr K C "last"
  d___init__ : DefM K C "__init__" "Memo.__init__" s_Memo___init__ ["self", "told", "answer", "last"]
  mk1 : PySem.W.makesIn K C = true
  mk2 : PySem.W.keepIn K (.ref C) = true
abbrev s_Turn___init__ : Stmt := inClass (topS 29) 0
theorem sc_Turn___init__ : FnScope ["self", "name", "formula", "memo"] ["self", "name", "formula", "memo"] (defScope s_Turn___init__) := ⟨rfl, rfl, rfl, by decide +kernel, rfl, by decide +kernel, by decide +kernel⟩
abbrev s_Turn_next_name : Stmt := inClass (topS 29) 1
theorem sc_Turn_next_name : FnScope ["self"] ["self"] (defScope s_Turn_next_name) := ⟨rfl, rfl, rfl, by decide +kernel, rfl, by decide +kernel, by decide +kernel⟩
abbrev s_Turn_hear : Stmt := inClass (topS 29) 2
theorem sc_Turn_hear : FnScope ["self", "name", "answer", "many"] ["self", "name", "answer"] (defScope s_Turn_hear) := ⟨rfl, rfl, rfl, by decide +kernel, rfl, by decide +kernel, by decide +kernel⟩
abbrev s_Turn_result : Stmt := inClass (topS 29) 3
theorem sc_Turn_result : FnScope ["self"] ["self"] (defScope s_Turn_result) := ⟨rfl, rfl, rfl, by decide +kernel, rfl, by decide +kernel, by decide +kernel⟩
abbrev s_Turn__evaluation : Stmt := inClass (topS 29) 4
theorem sc_Turn__evaluation : FnScope ["self", "_", "answer"] ["self"] (defScope s_Turn__evaluation) := ⟨rfl, rfl, rfl, by decide +kernel, rfl, by decide +kernel, by decide +kernel⟩
structure Cl_Turn (K : PySem.W.Frag) (mg : Str → Option Value) (C : Addr) : Prop where
  cl : Cls K C
  m : mg "Turn" = some (.ref C)
  n_name : NoAttr K C "name"
  n_told : NoAttr K C "told"
  n_is_kept : NoAttr K C "is_kept"
  n__formula : NoAttr K C "_formula"
  n__memo : NoAttr K C "_memo"
  d___init__ : DefM K C "__init__" "Turn.__init__" s_Turn___init__ ["self", "name", "formula", "memo"]
  d_next_name : DefM K C "next_name" "Turn.next_name" s_Turn_next_name ["self"]
  d_hear : DefM K C "hear" "Turn.hear" s_Turn_hear ["self", "name", "answer"]
  d_result : DefM K C "result" "Turn.result" s_Turn_result ["self"]
  d__evaluation : DefM K C "_evaluation" "Turn._evaluation" s_Turn__evaluation ["self"]
  mk1 : PySem.W.makesIn K C = true
  mk2 : PySem.W.keepIn K (.ref C) = true
abbrev s_Cells___init__ : Stmt := inClass (topS 30) 0
theorem sc_Cells___init__ : FnScope ["self"] ["self"] (defScope s_Cells___init__) := ⟨rfl, rfl, rfl, by decide +kernel, rfl, by decide +kernel, by decide +kernel⟩
abbrev s_Cells_cell_names : Stmt := inClass (topS 30) 1
theorem sc_Cells_cell_names : FnScope ["self"] ["self"] (defScope s_Cells_cell_names) := ⟨rfl, rfl, rfl, by decide +kernel, rfl, by decide +kernel, by decide +kernel⟩
abbrev s_Cells_put : Stmt := inClass (topS 30) 2
theorem sc_Cells_put : FnScope ["self", "name", "value"] ["self", "name", "value"] (defScope s_Cells_put) := ⟨rfl, rfl, rfl, by decide +kernel, rfl, by decide +kernel, by decide +kernel⟩
abbrev s_Cells_define : Stmt := inClass (topS 30) 3
theorem sc_Cells_define : FnScope ["self", "name", "formula"] ["self", "name", "formula"] (defScope s_Cells_define) := ⟨rfl, rfl, rfl, by decide +kernel, rfl, by decide +kernel, by decide +kernel⟩
abbrev s_Cells_ask : Stmt := inClass (topS 30) 5
theorem sc_Cells_ask : FnScope ["self", "name", "turns"] ["self", "name"] (defScope s_Cells_ask) := ⟨rfl, rfl, rfl, by decide +kernel, rfl, by decide +kernel, by decide +kernel⟩
abbrev s_Cells_reads : Stmt := inClass (topS 30) 6
theorem sc_Cells_reads : FnScope ["self", "name", "memo"] ["self", "name"] (defScope s_Cells_reads) := ⟨rfl, rfl, rfl, by decide +kernel, rfl, by decide +kernel, by decide +kernel⟩
abbrev s_Cells__check_cell : Stmt := inClass (topS 30) 10
theorem sc_Cells__check_cell : FnScope ["self", "name"] ["self", "name"] (defScope s_Cells__check_cell) := ⟨rfl, rfl, rfl, by decide +kernel, rfl, by decide +kernel, by decide +kernel⟩
abbrev s_Cells__give_rule : Stmt := inClass (topS 30) 11
theorem sc_Cells__give_rule : FnScope ["self", "name", "rule"] ["self", "name", "rule"] (defScope s_Cells__give_rule) := ⟨rfl, rfl, rfl, by decide +kernel, rfl, by decide +kernel, by decide +kernel⟩
abbrev s_Cells__begin_revision : Stmt := inClass (topS 30) 12
theorem sc_Cells__begin_revision : FnScope ["self", "name"] ["self", "name"] (defScope s_Cells__begin_revision) := ⟨rfl, rfl, rfl, by decide +kernel, rfl, by decide +kernel, by decide +kernel⟩
abbrev s_Cells__turn : Stmt := inClass (topS 30) 13
theorem sc_Cells__turn : FnScope ["self", "name"] ["self", "name"] (defScope s_Cells__turn) := ⟨rfl, rfl, rfl, by decide +kernel, rfl, by decide +kernel, by decide +kernel⟩
abbrev s_Cells__is_answered : Stmt := inClass (topS 30) 14
theorem sc_Cells__is_answered : FnScope ["self", "name"] ["self", "name"] (defScope s_Cells__is_answered) := ⟨rfl, rfl, rfl, by decide +kernel, rfl, by decide +kernel, by decide +kernel⟩
abbrev s_Cells__answer : Stmt := inClass (topS 30) 15
theorem sc_Cells__answer : FnScope ["self", "name"] ["self", "name"] (defScope s_Cells__answer) := ⟨rfl, rfl, rfl, by decide +kernel, rfl, by decide +kernel, by decide +kernel⟩
abbrev s_Cells__go_on : Stmt := inClass (topS 30) 16
theorem sc_Cells__go_on : FnScope ["self", "turns", "turn", "name", "other"] ["self", "turns"] (defScope s_Cells__go_on) := ⟨rfl, rfl, rfl, by decide +kernel, rfl, by decide +kernel, by decide +kernel⟩
abbrev s_Cells__close_ring : Stmt := inClass (topS 30) 17
theorem sc_Cells__close_ring : FnScope ["self", "turns", "name", "first", "turn"] ["self", "turns", "name"] (defScope s_Cells__close_ring) := ⟨rfl, rfl, rfl, by decide +kernel, rfl, by decide +kernel, by decide +kernel⟩
abbrev s_Cells__close : Stmt := inClass (topS 30) 18
theorem sc_Cells__close : FnScope ["self", "turn", "answer", "last"] ["self", "turn", "answer", "last"] (defScope s_Cells__close) := ⟨rfl, rfl, rfl, by decide +kernel, rfl, by decide +kernel, by decide +kernel⟩
structure Cl_Cells (K : PySem.W.Frag) (mg : Str → Option Value) (C : Addr) : Prop where
  cl : Cls K C
  m : mg "Cells" = some (.ref C)
  n__rules : NoAttr K C "_rules"
  n__memos : NoAttr K C "_memos"
  n__answered : NoAttr K C "_answered"
  d___init__ : DefM K C "__init__" "Cells.__init__" s_Cells___init__ ["self"]
  d_cell_names : DefP K C "cell_names" "Cells.cell_names" s_Cells_cell_names ["self"]
  d_put : DefM K C "put" "Cells.put" s_Cells_put ["self", "name", "value"]
  d_define : DefM K C "define" "Cells.define" s_Cells_define ["self", "name", "formula"]
  d_ask : DefM K C "ask" "Cells.ask" s_Cells_ask ["self", "name"]
  d_reads : DefM K C "reads" "Cells.reads" s_Cells_reads ["self", "name"]
  d__check_cell : DefM K C "_check_cell" "Cells._check_cell" s_Cells__check_cell ["self", "name"]
  d__give_rule : DefM K C "_give_rule" "Cells._give_rule" s_Cells__give_rule ["self", "name", "rule"]
  d__begin_revision : DefM K C "_begin_revision" "Cells._begin_revision" s_Cells__begin_revision ["self", "name"]
  d__turn : DefM K C "_turn" "Cells._turn" s_Cells__turn ["self", "name"]
  d__is_answered : DefM K C "_is_answered" "Cells._is_answered" s_Cells__is_answered ["self", "name"]
  d__answer : DefM K C "_answer" "Cells._answer" s_Cells__answer ["self", "name"]
  d__go_on : DefM K C "_go_on" "Cells._go_on" s_Cells__go_on ["self", "turns"]
  d__close_ring : DefM K C "_close_ring" "Cells._close_ring" s_Cells__close_ring ["self", "turns", "name"]
  d__close : DefM K C "_close" "Cells._close" s_Cells__close ["self", "turn", "answer", "last"]
  mk1 : PySem.W.makesIn K C = true
  mk2 : PySem.W.keepIn K (.ref C) = true

abbrev s__wall : Stmt := topS 0
theorem sc__wall : FnScope ["k"] ["k"] (defScope s__wall) := ⟨rfl, rfl, rfl, by decide +kernel, rfl, by decide +kernel, by decide +kernel⟩
abbrev s_is_name : Stmt := topS 6
theorem sc_is_name : FnScope ["text", "character"] ["text"] (defScope s_is_name) := ⟨rfl, rfl, rfl, by decide +kernel, rfl, by decide +kernel, by decide +kernel⟩
abbrev s_check_formula : Stmt := topS 14
theorem sc_check_formula : FnScope ["formula"] ["formula"] (defScope s_check_formula) := ⟨rfl, rfl, rfl, by decide +kernel, rfl, by decide +kernel, by decide +kernel⟩
abbrev s_check_part : Stmt := topS 15
theorem sc_check_part : FnScope ["formula", "way"] ["formula", "way"] (defScope s_check_part) := ⟨rfl, rfl, rfl, by decide +kernel, rfl, by decide +kernel, by decide +kernel⟩
abbrev s_check_tuple : Stmt := topS 16
theorem sc_check_tuple : FnScope ["formula", "way", "place"] ["formula", "way"] (defScope s_check_tuple) := ⟨rfl, rfl, rfl, by decide +kernel, rfl, by decide +kernel, by decide +kernel⟩
abbrev s_check_cell_name : Stmt := topS 17
theorem sc_check_cell_name : FnScope ["name", "way"] ["name", "way"] (defScope s_check_cell_name) := ⟨rfl, rfl, rfl, by decide +kernel, rfl, by decide +kernel, by decide +kernel⟩
abbrev s_joined : Stmt := topS 21
theorem sc_joined : FnScope ["word", "first", "second"] ["word", "first", "second"] (defScope s_joined) := ⟨rfl, rfl, rfl, by decide +kernel, rfl, by decide +kernel, by decide +kernel⟩
abbrev s_check_name : Stmt := topS 31
theorem sc_check_name : FnScope ["name"] ["name"] (defScope s_check_name) := ⟨rfl, rfl, rfl, by decide +kernel, rfl, by decide +kernel, by decide +kernel⟩
abbrev s_is_value : Stmt := topS 32
theorem sc_is_value : FnScope ["value"] ["value"] (defScope s_is_value) := ⟨rfl, rfl, rfl, by decide +kernel, rfl, by decide +kernel, by decide +kernel⟩
abbrev s__law_pool : Stmt := topS 34
theorem sc__law_pool : FnScope ["script", "cell"] ["script"] (defScope s__law_pool) := ⟨rfl, rfl, rfl, by decide +kernel, rfl, by decide +kernel, by decide +kernel⟩
abbrev s__law_take : Stmt := topS 35
theorem sc__law_take : FnScope ["pool", "many", "digit", "cell", "mixed"] ["pool", "many"] (defScope s__law_take) := ⟨rfl, rfl, rfl, by decide +kernel, rfl, by decide +kernel, by decide +kernel⟩
abbrev s__law_same : Stmt := topS 36
theorem sc__law_same : FnScope ["actual", "due", "k"] ["actual", "due"] (defScope s__law_same) := ⟨rfl, rfl, rfl, by decide +kernel, rfl, by decide +kernel, by decide +kernel⟩
abbrev s__law_names : Stmt := topS 37
theorem sc__law_names : FnScope ["pool", "many", "words", "names", "k", "size", "name", "place", "letter"] ["pool", "many"] (defScope s__law_names) := ⟨rfl, rfl, rfl, by decide +kernel, rfl, by decide +kernel, by decide +kernel⟩
abbrev s__law_value : Stmt := topS 38
theorem sc__law_value : FnScope ["pool", "kind"] ["pool"] (defScope s__law_value) := ⟨rfl, rfl, rfl, by decide +kernel, rfl, by decide +kernel, by decide +kernel⟩
abbrev s__law_formula : Stmt := topS 39
theorem sc__law_formula : FnScope ["pool", "names", "depth", "kind", "head", "parts", "k"] ["pool", "names", "depth"] (defScope s__law_formula) := ⟨rfl, rfl, rfl, by decide +kernel, rfl, by decide +kernel, by decide +kernel⟩
abbrev s__law_sum : Stmt := topS 40
theorem sc__law_sum : FnScope ["word", "one", "other", "total"] ["word", "one", "other"] (defScope s__law_sum) := ⟨rfl, rfl, rfl, by decide +kernel, rfl, by decide +kernel, by decide +kernel⟩
abbrev s__law_next : Stmt := topS 41
theorem sc__law_next : FnScope ["formula", "told", "used", "first", "word", "second"] ["formula", "told", "used"] (defScope s__law_next) := ⟨rfl, rfl, rfl, by decide +kernel, rfl, by decide +kernel, by decide +kernel⟩
abbrev s__law_worth : Stmt := topS 42
theorem sc__law_worth : FnScope ["state", "name", "rule"] ["state", "name"] (defScope s__law_worth) := ⟨rfl, rfl, rfl, by decide +kernel, rfl, by decide +kernel, by decide +kernel⟩
abbrev s__law_go_on : Stmt := topS 43
theorem sc__law_go_on : FnScope ["state", "name", "reads", "turn", "told", "pair", "answers", "worth"] ["state", "name"] (defScope s__law_go_on) := ⟨rfl, rfl, rfl, by decide +kernel, rfl, by decide +kernel, by decide +kernel⟩
abbrev s__law_rings : Stmt := topS 44
theorem sc__law_rings : FnScope ["asked", "found", "name", "at", "turn"] ["asked"] (defScope s__law_rings) := ⟨rfl, rfl, rfl, by decide +kernel, rfl, by decide +kernel, by decide +kernel⟩
abbrev s__law_from_nothing : Stmt := topS 45
theorem sc__law_from_nothing : FnScope ["rules", "formulas", "name", "state", "reads", "last", "answers", "turn", "asked", "before", "other"] ["rules"] (defScope s__law_from_nothing) := ⟨rfl, rfl, rfl, by decide +kernel, rfl, by decide +kernel, by decide +kernel⟩
abbrev s__law_set : Stmt := topS 46
theorem sc__law_set : FnScope ["pool", "cells", "rules", "names", "name", "rule", "is_new"] ["pool", "cells", "rules", "names"] (defScope s__law_set) := ⟨rfl, rfl, rfl, by decide +kernel, rfl, by decide +kernel, by decide +kernel⟩
abbrev s__law_all_reads : Stmt := topS 47
theorem sc__law_all_reads : FnScope ["memo"] ["memo"] (defScope s__law_all_reads) := ⟨rfl, rfl, rfl, by decide +kernel, rfl, by decide +kernel, by decide +kernel⟩
abbrev s_law : Stmt := topS 48
theorem sc_law : FnScope ["script", "pool", "names", "cells", "rules", "turn", "state", "present", "name", "due"] ["script"] (defScope s_law) := ⟨rfl, rfl, rfl, by decide +kernel, rfl, by decide +kernel, by decide +kernel⟩
abbrev s_BadFormula_init : Stmt := match topS 13 with
 | .ClassDef (body := b) .. => b.getD 0 (.Pass ⟨0, 0, 0, 0⟩)
 | s => s
theorem sc_BadFormula_init : FnScope ["self", "way", "reason"] ["self", "way", "reason"] (defScope s_BadFormula_init) := ⟨rfl, rfl, rfl, by decide +kernel, rfl, by decide +kernel, by decide +kernel⟩
abbrev ErrT_BadFormula (K : PySem.W.Frag) (mg : Str → Option Value) (C : Addr) : Prop := ErrC K mg "BadFormula" "BadFormula.__init__" s_BadFormula_init "way" "reason" C

structure Top (K : PySem.W.Frag) (mg : Str → Option Value) (w : World) : Prop where
  d__wall : DefT K mg "_wall" s__wall ["k"]
  d_is_name : DefT K mg "is_name" s_is_name ["text"]
  d_check_formula : DefT K mg "check_formula" s_check_formula ["formula"]
  d_check_part : DefT K mg "check_part" s_check_part ["formula", "way"]
  d_check_tuple : DefT K mg "check_tuple" s_check_tuple ["formula", "way"]
  d_check_cell_name : DefT K mg "check_cell_name" s_check_cell_name ["name", "way"]
  d_joined : DefT K mg "joined" s_joined ["word", "first", "second"]
  d_check_name : DefT K mg "check_name" s_check_name ["name"]
  d_is_value : DefT K mg "is_value" s_is_value ["value"]
  d__law_pool : DefT K mg "_law_pool" s__law_pool ["script"]
  d__law_take : DefT K mg "_law_take" s__law_take ["pool", "many"]
  d__law_same : DefT K mg "_law_same" s__law_same ["actual", "due"]
  d__law_names : DefT K mg "_law_names" s__law_names ["pool", "many"]
  d__law_value : DefT K mg "_law_value" s__law_value ["pool"]
  d__law_formula : DefT K mg "_law_formula" s__law_formula ["pool", "names", "depth"]
  d__law_sum : DefT K mg "_law_sum" s__law_sum ["word", "one", "other"]
  d__law_next : DefT K mg "_law_next" s__law_next ["formula", "told", "used"]
  d__law_worth : DefT K mg "_law_worth" s__law_worth ["state", "name"]
  d__law_go_on : DefT K mg "_law_go_on" s__law_go_on ["state", "name"]
  d__law_rings : DefT K mg "_law_rings" s__law_rings ["asked"]
  d__law_from_nothing : DefT K mg "_law_from_nothing" s__law_from_nothing ["rules"]
  d__law_set : DefT K mg "_law_set" s__law_set ["pool", "cells", "rules", "names"]
  d__law_all_reads : DefT K mg "_law_all_reads" s__law_all_reads ["memo"]
  m_all : mg "all" = none
  m_bool : mg "bool" = none
  m_int : mg "int" = none
  m_isinstance : mg "isinstance" = none
  m_len : mg "len" = none
  m_list : mg "list" = none
  m_max : mg "max" = none
  m_min : mg "min" = none
  m_property : mg "property" = none
  m_range : mg "range" = none
  m_sorted : mg "sorted" = none
  m_str : mg "str" = none
  m_tuple : mg "tuple" = none
  g_LETTERS : ∃ t, mg "LETTERS" = some (.str (tx cst_LETTERS) t)
  g_LONGEST_NAME : ∃ t, mg "LONGEST_NAME" = some (.int 12 t)
  g_LARGEST : ∃ t, mg "LARGEST" = some (.int 1000000 t)
  g_MOST_NESTED : ∃ t, mg "MOST_NESTED" = some (.int 6 t)
  g_LENGTHS : ∃ (a : Addr), mg "LENGTHS" = some (.ref a) ∧ KTabV K w a [(tx [112, 108, 117, 115], .int 3), (tx [108, 101, 97, 115, 116], .int 3), (tx [111, 114], .int 3), (tx [105, 102], .int 4), (tx [99, 121, 99, 108, 105, 99], .int 2)]
  g_CYCLIC : ∃ t, mg "CYCLIC" = some (.str (tx cst_CYCLIC) t)
  g_MOST_CELLS : ∃ t, mg "MOST_CELLS" = some (.int 24 t)
  g_RUN : ∃ t, mg "RUN" = some (.str (tx cst_RUN) t)
  g_KEPT : ∃ t, mg "KEPT" = some (.str (tx cst_KEPT) t)
  k_Evaluation : ∃ C, Cl_Evaluation K mg C
  k_Memo : ∃ C, Cl_Memo K mg C
  k_Turn : ∃ C, Cl_Turn K mg C
  k_Cells : ∃ C, Cl_Cells K mg C
  x_BadFormula : ∃ C CT, ErrT_BadFormula K mg C ∧ mg "TongueError" = some (.ref CT) ∧ PySem.W.kitOne K (.ref C) (.ref CT) = some true ∧ PySem.W.kitOne K (.ref C) (.type "ValueError") = some true
  xp : ∃ D0 D1 D2 D3 : Addr, (ErrP K mg "BadName" D0 ∧ ErrP K mg "BadValue" D1 ∧ ErrP K mg "NoCell" D2 ∧ ErrP K mg "TooManyCells" D3) ∧ (PySem.W.exmOne K (.ref D0) (.ref D0) = some true ∧ PySem.W.exmOne K (.ref D0) (.ref D1) = some false ∧ PySem.W.exmOne K (.ref D0) (.ref D2) = some false ∧ PySem.W.exmOne K (.ref D0) (.ref D3) = some false ∧ PySem.W.exmOne K (.ref D1) (.ref D0) = some false ∧ PySem.W.exmOne K (.ref D1) (.ref D1) = some true ∧ PySem.W.exmOne K (.ref D1) (.ref D2) = some false ∧ PySem.W.exmOne K (.ref D1) (.ref D3) = some false ∧ PySem.W.exmOne K (.ref D2) (.ref D0) = some false ∧ PySem.W.exmOne K (.ref D2) (.ref D1) = some false ∧ PySem.W.exmOne K (.ref D2) (.ref D2) = some true ∧ PySem.W.exmOne K (.ref D2) (.ref D3) = some false ∧ PySem.W.exmOne K (.ref D3) (.ref D0) = some false ∧ PySem.W.exmOne K (.ref D3) (.ref D1) = some false ∧ PySem.W.exmOne K (.ref D3) (.ref D2) = some false ∧ PySem.W.exmOne K (.ref D3) (.ref D3) = some true)


/-! ### the pool of drawn numbers -/
structure Pool where
  cells : List Int
  pos : Int
  big : Int
  seed : Int
def Pool.d (p : Pool) : List D := [.lst (p.cells.map D.int), .int p.pos, .int p.big, .int p.seed]
structure Pool.Ok (p : Pool) : Prop where
  cells : ∀ c ∈ p.cells, 0 ≤ c
  pos : 0 ≤ p.pos
  big : 0 ≤ p.big
  seed0 : 0 ≤ p.seed
  seed1 : p.seed < 2147483647
def W_pool : Wt := fun ds M k => ∃ ns : List Int, ds = [.lsk (ns.map D.int)] ∧ M = [] ∧ ns.length ≤ 63 ∧ ∀ (a : Addr) (p : Pool), p.Ok → k (.ref a) [(a, .lst p.d)]
/-- n calls, one in the other, are allowed -/
def W_take (n : Nat) : Wt := fun ds M k => ∃ (a : Addr) (p : Pool) (many : Int), ds = [.ref a, .int many] ∧ M = [(a, .lst p.d)] ∧ p.Ok ∧ 0 < many ∧ many < 1073741824 ∧ 1 ≤ n ∧ (0 < p.big ∨ 2 ≤ n) ∧
  ∀ (r : Int) (p' : Pool), p'.Ok → 0 ≤ r → r < many → k (.int r) [(a, .lst p'.d)]
/-- behind a draw below many -/
def takeK (a : Addr) (many : Int) : D → Mu → Prop := fun d M => ∃ (r : Int) (p' : Pool), p'.Ok ∧ 0 ≤ r ∧ r < many ∧ d = .int r ∧ M = [(a, .lst p'.d)]
theorem take_ok {n : Nat} {a : Addr} {p : Pool} {many : Int} (ok : p.Ok) (h0 : 0 < many) (h1 : many < 1073741824) (hn : 2 ≤ n) : W_take n [.ref a, .int many] [(a, .lst p.d)] (takeK a many) :=
  ⟨a, p, many, rfl, rfl, ok, h0, h1, by omega, .inr hn, fun r p' ok' r0 r1 => ⟨r, p', ok', r0, r1, rfl, rfl⟩⟩
/-- nothing is asked of it -/
theorem cal_none {P : Program} {w : World} {K : PySem.W.Frag} {mg : Str → Option Value} {base : Heap} {x : Str} {st : Stmt} {ps : List Str} {W : Wt} {n : Nat} (T : DefT K mg x st ps) (no : ∀ ds M k, ¬ W ds M k) : Cal P w K mg base n x (Spc K W) [] :=
  cal_of T fun f fd F => ⟨fun vs H Q E h => by
    obtain ⟨_, ds, M, k, _, _, hw, _⟩ := h
    exact absurd hw (no ds M k), fun A outer s H args us vs Q E _ _ _ _ h => by
    obtain ⟨_, ds, M, k, _, _, hw, _⟩ := h
    exact absurd hw (no ds M k)⟩

local macro_rules | `(tactic| walk_at "tg1") => `(tactic| first
  | with_reducible refine as_seq (t := tAsg _ _) ?_
  | with_reducible refine as_seq (t := tDrop _) ?_
  | with_reducible refine as_seq (t := tAug _ _ _) ?_
  | with_reducible refine as_seq (t := tFor _ _ _) ?_
  | with_reducible refine as_seq (t := tNext) ?_
  | with_reducible refine as_set ?_
  | with_reducible refine as_asg ?_
  | with_reducible refine as_if ?_
  | with_reducible refine as_ret ?_
  | with_reducible refine as_retN ?_
  | with_reducible refine as_drop ?_
  | with_reducible refine as_next ?_
  | with_reducible refine as_brk ?_
  | with_reducible refine as_cont ?_
  | with_reducible refine ae_int ?_
  | with_reducible refine ae_bl ?_
  | with_reducible refine ae_non ?_
  | with_reducible refine ae_str ?_
  | with_reducible refine ae_ty ?_
  | with_reducible refine ae_op ?_
  | with_reducible refine ae_un ?_
  | with_reducible refine ae_if ?_
  | with_reducible refine ae_andV ?_
  | with_reducible refine ae_orV ?_
  | with_reducible refine ae_notV ?_
  | with_reducible refine at_test ?_
  | with_reducible refine at_B ?_
  | with_reducible refine at_and ?_
  | with_reducible refine at_or ?_
  | with_reducible refine at_not ?_
  | with_reducible refine at_tru ?_
  | with_reducible refine aa_nil ?_
  | with_reducible refine aa_cons ?_
  | with_reducible refine ae_tup ?_
  | with_reducible refine ae_lst ?_
  | with_reducible refine ae_lstM ?_
  | with_reducible refine ae_cb ?_
  | with_reducible refine ae_call ?_
  | with_reducible refine ae_lm ?_
  | with_reducible refine ae_sm ?_
  | with_reducible refine ae_m1 ?_
  | with_reducible refine Tg.ae_sl ?_
  | with_reducible refine ao_none ?_
  | with_reducible refine ao_some ?_
  | with_reducible refine as_for ?_
  | with_reducible refine ai_seq ?_
  | with_reducible refine ai_enum ?_
  | with_reducible refine ai_range1 ?_
  | with_reducible refine ai_range2 ?_
  | with_reducible refine ag_name ?_
  | with_reducible refine ag_setL ?_
  | with_reducible refine ag_setU ?_
  | with_reducible refine ae_chain ?_
  | with_reducible refine ae_chain3 ?_
  | with_reducible refine ae_dnew ?_
  | with_reducible refine ae_dget2 ?_
  | with_reducible refine ae_listRg1 ?_
  | with_reducible refine ags_nil ?_
  | with_reducible refine ags_cons ?_
  | with_reducible refine ag_tup rfl ?_
  | with_reducible refine au_int ?_
  | with_reducible refine Tg.ai_int ?_
  | with_reducible refine ar_sub ?_
  | with_reducible refine ar_cmp ?_
  | with_reducible refine au_neg ?_
  | with_reducible refine ac_int ?_
  | with_reducible refine ac_min ?_
  | with_reducible refine at_yes ?_
  | with_reducible refine bcaseT ?_
  | with_reducible refine bcaseF ?_
  | with_reducible refine bcaseTR ?_
  | with_reducible refine bcaseFR ?_
  | ((with_reducible refine ar_intC ?c1 ?c2); (case c1 => first | omega | exact ⟨by omega, by omega⟩ | exact cmul_l (by omega) (by omega) | exact cmul_r (by omega) (by omega) | exact ⟨by omega, by omega, by decide⟩))
  | refine ae_var rfl ?_
  | refine aix0 rfl ?_
  | refine aix1 rfl ?_
  | refine put_l0 rfl ?_
  | refine put_l1 rfl ?_
  | refine ⟨lst0, ?_⟩
  | refine ⟨lst1, ?_⟩
  | refine ⟨lst2, ?_⟩
  | refine lenM0 ?_
  | refine lenM1 ?_
  | refine aix_T rfl ?_
  | refine as_aug rfl ?_
  | refine ar_eqD rfl ?_
  | refine ar_neD rfl ?_
  | refine ar_isN ?_
  | refine ar_notN ?_
  | refine ac_lenD rfl ?_
  | refine ac_lenS (by omega) ?_
  | refine ac_isiT rfl rfl ?_
  | refine ac_isiF rfl rfl ?_
  | refine ac_tupL ?_
  | refine ⟨tru_ok_bl, ?_⟩
  | refine caseT rfl ?_
  | refine caseF rfl ?_
  | refine caseTR rfl ?_
  | refine caseFR rfl ?_
  | refine ⟨⟨_, rfl⟩, ?_⟩
  | refine ⟨len_ok 0 rfl, ?_⟩
  | refine ⟨len_ok 1 rfl, ?_⟩
  | refine ⟨len_ok 2 rfl, ?_⟩
  | refine ⟨len_ok 3 rfl, ?_⟩
  | refine ⟨len_ok 4 rfl, ?_⟩
  | refine ⟨len_ok 5 rfl, ?_⟩
  | refine ⟨_, rfl, ?_⟩)
local macro_rules | `(tactic| walk_at "tg") => `(tactic| repeat walk_at "tg1")
local macro_rules | `(tactic| walk_at "take") => `(tactic| refine ⟨[_], _, takeK _ _, rfl, take_ok (by assumption) (by first | decide | omega) (by first | decide | omega) (by decide), ?_⟩)

/-! ### names -/
def nameB (l : List Nat) : Bool := decide (1 ≤ l.length) && decide (l.length ≤ 12) && l.all fun c => Txt.contains (tx cst_LETTERS) ⟨#[c]⟩
def W_isn (PT : Addr) : Wt := fun ds M k => ∃ l : List Nat, ds = [.str (tx l)] ∧ M = [(PT, .tb)] ∧ l.length ≤ 1000000 ∧ k (.bl (nameB l)) [(PT, .tb)]
section
variable {P : Program} {w : World} {K : PySem.W.Frag} {mg : Str → Option Value} {base : Heap}
theorem c_is_name {PT : Addr} (T : Top K mg w) (B : DefB K mg base "is_name" s_is_name ["text"] PT) : Cal P w K mg base 1 "is_name" (Spc K (W_isn PT)) [] := cal_ofB B fun f fd c F tb => by
  obtain ⟨t_LONGEST_NAME, g_LONGEST_NAME⟩ := T.g_LONGEST_NAME; obtain ⟨t_LETTERS, g_LETTERS⟩ := T.g_LETTERS
  exact spc_okB F sc_is_name (fun ds M k h => by obtain ⟨l, rfl, _⟩ := h; rfl) fun A outer s H E hr => ⟨_, (pss_one (ps_ret (pe_and (pe_chain op_le op_le pe_int (pe_callB (len_K (K := K)) (by rfl) T.m_len (by decide +kernel) (pa_cons (pv 0) pa_nil)) (pe_glob (v := V.int 12) (by rfl) g_LONGEST_NAME ⟨_, rfl⟩)) (pe_one (pe_allG hr (by rfl) T.m_all (by rfl) tb (by rfl) (genS_by (by decide +kernel)) (pv 0) (elt_in rfl rfl rfl g_LETTERS) (fun _ => rfl)))))), fun ds M kk hw => by
    obtain ⟨l, rfl, rfl, hl, q⟩ := hw
    have hsz := sizeLine_eq
    refine as_start (δ' := [some (.str (tx l)), none]) rfl ?_
    walk_at "tg"
    refine dcase (fun c1 => ?_) (fun c1 => ?_)
    · walk_at "tg"
      refine dcase (fun c2 => ?_) (fun c2 => ?_)
      · refine ae_allS ?_
        walk_at "tg"
        refine ⟨l, [], [], rfl, rfl, ?_⟩
        have e : nameB l = l.all fun c => Txt.contains (tx cst_LETTERS) ⟨#[c]⟩ := by
          unfold nameB
          rw [decide_eq_true (by omega : 1 ≤ l.length), decide_eq_true (by omega : l.length ≤ 12)]
          rfl
        rw [← e]
        exact q
      · have e : nameB l = false := by
          unfold nameB
          rw [decide_eq_false (by omega : ¬ l.length ≤ 12), Bool.and_false]
          rfl
        rw [e] at q
        exact q
    · have e : nameB l = false := by
        unfold nameB
        rw [decide_eq_false (by omega : ¬ 1 ≤ l.length)]
        rfl
      rw [e] at q
      walk_at "tg"
      exact q⟩
end

/-! ### formulas, in plain Lean -/
def lens : List (Str × Nat) := [(tx [112, 108, 117, 115], 3), (tx [108, 101, 97, 115, 116], 3), (tx [111, 114], 3), (tx [105, 102], 4), (tx [99, 121, 99, 108, 105, 99], 2)]
def lenT : List (Str × V) := lens.map fun p => (p.1, .int (p.2 : Nat))
def wlen (z : Str) : Option Nat := lens.lookup z
theorem lookup_map {α β : Type} {f : α → β} {z : Str} : ∀ {l : List (Str × α)}, (l.map fun p => (p.1, f p.2)).lookup z = (l.lookup z).map f
  | [] => rfl
  | (a, b) :: l => by
    rw [List.map_cons, List.lookup_cons, List.lookup_cons]
    cases (z == a) with
    | true => rfl
    | false => exact lookup_map
theorem lenT_look (z : Str) : lenT.lookup z = (wlen z).map fun n => V.int (n : Nat) := lookup_map (f := fun n : Nat => V.int (n : Nat)) (l := lens)
abbrev cycS : Str := Str.ofString "cyclic"
abbrev rangeS : Str := Str.ofString "range"
abbrev nameS : Str := Str.ofString "name"
abbrev depthS : Str := Str.ofString "depth"
abbrev wordS : Str := Str.ofString "word"
abbrev lengthS : Str := Str.ofString "length"
inductive Hd2 where
  | plus
  | least
  | or
def Hd2.s : Hd2 → Str
  | .plus => Str.ofString "plus"
  | .least => Str.ofString "least"
  | .or => Str.ofString "or"
abbrev ifS : Str := Str.ofString "if"
theorem hd2_len (h : Hd2) : wlen h.s = some 3 ∧ h.s ≠ cycS := by cases h <;> decide +kernel
theorem if_len : wlen ifS = some 4 ∧ ifS ≠ cycS := by decide +kernel
theorem cyc_len : wlen cycS = some 2 := by decide +kernel
inductive Fo where
  | non
  | int (i : Int)
  | nm (l : List Nat)
  | cyc (l : List Nat)
  | op (h : Hd2) (a b : Fo)
  | ifs (a b c : Fo)
def Fo.d : Fo → D
  | .non => .non
  | .int i => .int i
  | .nm l => .str (tx l)
  | .cyc l => .tup [.str cycS, .str (tx l)]
  | .op h a b => .tup [.str h.s, a.d, b.d]
  | .ifs a b c => .tup [.str ifS, a.d, b.d, c.d]
def Fo.kids : Fo → List Fo
  | .op _ a b => [a, b]
  | .ifs a b c => [a, b, c]
  | _ => []
def Fo.ways : Fo → List (List Nat)
  | .op _ a b => [] :: (a.ways.map (1 :: ·) ++ b.ways.map (2 :: ·))
  | .ifs a b c => [] :: (a.ways.map (1 :: ·) ++ (b.ways.map (2 :: ·) ++ c.ways.map (3 :: ·)))
  | _ => [[]]
def kw : Nat → List Fo → List (List Nat)
  | _, [] => []
  | k, g :: r => g.ways.map (k :: ·) ++ kw (k + 1) r
theorem ways_kids (f : Fo) : f.ways = [] :: kw 1 f.kids := by
  cases f <;> simp [Fo.ways, Fo.kids, kw]
theorem kw_take : ∀ {k i : Nat} {l : List Fo} {g : Fo}, l[i]? = some g → kw k (l.take (i + 1)) = kw k (l.take i) ++ g.ways.map ((k + i) :: ·)
  | k, 0, [], g, h => by cases h
  | k, 0, x :: l, g, h => by
    have e : x = g := by simpa using h
    subst e
    simp [kw]
  | k, i + 1, [], g, h => by cases h
  | k, i + 1, x :: l, g, h => by
    have h' : l[i]? = some g := by simpa using h
    rw [List.take_succ_cons, List.take_succ_cons]
    show x.ways.map (k :: ·) ++ kw (k + 1) (l.take (i + 1)) = (x.ways.map (k :: ·) ++ kw (k + 1) (l.take i)) ++ _
    rw [kw_take h', List.append_assoc]
    have e : k + 1 + i = k + (i + 1) := by omega
    rw [e]
def NmF (l : List Nat) : Prop := nameB l = true ∧ l.length ≤ 12
def OkF : Nat → Fo → Prop
  | 0, f => match f with
    | .non => True
    | .int i => -1000000 ≤ i ∧ i ≤ 1000000
    | .nm l => NmF l
    | _ => False
  | n + 1, f => match f with
    | .non => True
    | .int i => -1000000 ≤ i ∧ i ≤ 1000000
    | .nm l => NmF l
    | .cyc l => NmF l
    | .op _ a b => OkF n a ∧ OkF n b
    | .ifs a b c => OkF n a ∧ OkF n b ∧ OkF n c
def wB : Nat → Nat
  | 0 => 1
  | n + 1 => 1 + 3 * wB n
theorem wB_one : ∀ n, 1 ≤ wB n
  | 0 => Nat.le_refl _
  | n + 1 => by show 1 ≤ 1 + 3 * wB n; omega
theorem wB_six : ∀ n, n ≤ 6 → wB n ≤ 2000 := by
  intro n h
  have : n = 0 ∨ n = 1 ∨ n = 2 ∨ n = 3 ∨ n = 4 ∨ n = 5 ∨ n = 6 := by omega
  rcases this with rfl | rfl | rfl | rfl | rfl | rfl | rfl <;> decide
theorem ways_len : ∀ {n : Nat} {f : Fo}, OkF n f → f.ways.length ≤ wB n
  | 0, f, h => by cases f <;> first | exact h.elim | exact Nat.le_refl _
  | n + 1, f, h => by
    have h1 := wB_one n
    have hn : wB (n + 1) = 1 + 3 * wB n := rfl
    cases f with
    | op hd a b =>
      have ha := ways_len h.1
      have hb := ways_len h.2
      simp only [Fo.ways, List.length_cons, List.length_append, List.length_map]
      omega
    | ifs a b c =>
      have ha := ways_len h.1
      have hb := ways_len h.2.1
      have hc := ways_len h.2.2
      simp only [Fo.ways, List.length_cons, List.length_append, List.length_map]
      omega
    | _ => simp only [Fo.ways, List.length_cons, List.length_nil]; omega
/-! what is right, what is wrong -/
def Good : Nat → D → Prop
  | 0, d => match d with
    | .non => True
    | .int i => -1000000 ≤ i ∧ i ≤ 1000000
    | .str z => ∃ l, z = tx l ∧ l.length ≤ 1000000 ∧ nameB l = true
    | _ => False
  | n + 1, d => match d with
    | .non => True
    | .int i => -1000000 ≤ i ∧ i ≤ 1000000
    | .str z => ∃ l, z = tx l ∧ l.length ≤ 1000000 ∧ nameB l = true
    | .tup ds => ∃ h rest, ds = .str h :: rest ∧ wlen h = some (rest.length + 1) ∧ (h = cycS → ∃ l, rest = [.str (tx l)] ∧ l.length ≤ 1000000 ∧ nameB l = true) ∧ ∀ x ∈ rest, Good n x
    | _ => False
def NotNm (d : D) : Prop := d = .non ∨ (∃ i, d = .int i) ∨ ∃ l, d = .str (tx l) ∧ l.length ≤ 1000000 ∧ nameB l = false
def Bad : Nat → D → List Nat → Str → Prop
  | 0, d, v, r => match d with
    | .int i => v = [] ∧ r = rangeS ∧ ¬ (-1000000 ≤ i ∧ i ≤ 1000000)
    | .str z => v = [] ∧ r = nameS ∧ ∃ l, z = tx l ∧ l.length ≤ 1000000 ∧ nameB l = false
    | .tup _ => v = [] ∧ r = depthS
    | _ => False
  | n + 1, d, v, r => match d with
    | .int i => v = [] ∧ r = rangeS ∧ ¬ (-1000000 ≤ i ∧ i ≤ 1000000)
    | .str z => v = [] ∧ r = nameS ∧ ∃ l, z = tx l ∧ l.length ≤ 1000000 ∧ nameB l = false
    | .tup ds => (v = [] ∧ r = wordS ∧ (ds = [] ∨ ∃ z rest, ds = .str z :: rest ∧ wlen z = none)) ∨
      (v = [] ∧ r = lengthS ∧ ∃ z rest m, ds = .str z :: rest ∧ wlen z = some m ∧ rest.length + 1 ≠ m ∧ rest.length ≤ 1000) ∨
      ∃ z rest, ds = .str z :: rest ∧ wlen z = some (rest.length + 1) ∧
        ((z = cycS ∧ v = [1] ∧ r = nameS ∧ ∃ x, rest = [x] ∧ NotNm x) ∨
         (z ≠ cycS ∧ ∃ k x v', rest[k]? = some x ∧ v = (k + 1) :: v' ∧ (∀ (j : Nat) (y : D), j < k → rest[j]? = some y → Good n y) ∧ Bad n x v' r))
    | _ => False
theorem good_of : ∀ {n : Nat} {f : Fo}, OkF n f → Good n f.d
  | 0, f, h => by
    cases f with
    | nm l => exact ⟨l, rfl, by have := h.2; omega, h.1⟩
    | non => exact trivial
    | int i => exact h
    | _ => exact h.elim
  | n + 1, f, h => by
    cases f with
    | nm l => exact ⟨l, rfl, by have := h.2; omega, h.1⟩
    | non => exact trivial
    | int i => exact h
    | cyc l =>
      refine ⟨_, _, rfl, cyc_len, fun _ => ⟨l, rfl, by have := h.2; omega, h.1⟩, fun x hx => ?_⟩
      rw [List.mem_singleton.mp hx]
      cases n <;> exact ⟨l, rfl, by have := h.2; omega, h.1⟩
    | op hd a b =>
      refine ⟨_, _, rfl, (hd2_len hd).1, fun z => absurd z (hd2_len hd).2, fun x hx => ?_⟩
      simp only [List.mem_cons, List.not_mem_nil, or_false] at hx
      rcases hx with rfl | rfl
      · exact good_of h.1
      · exact good_of h.2
    | ifs a b c =>
      refine ⟨_, _, rfl, if_len.1, fun z => absurd z if_len.2, fun x hx => ?_⟩
      simp only [List.mem_cons, List.not_mem_nil, or_false] at hx
      rcases hx with rfl | rfl | rfl
      · exact good_of h.1
      · exact good_of h.2.1
      · exact good_of h.2.2
/-! a part put at a way -/
def putW : D → List Nat → D → D
  | _, [], p => p
  | .tup ds, k :: v, p => .tup (ds.set k (putW ((ds[k]?).getD .non) v p))
  | d, _, _ => d
def PathOk : D → List Nat → Prop
  | _, [] => True
  | .tup ds, k :: v => ds.length ≤ 1000 ∧ ∃ x, ds[k]? = some x ∧ PathOk x v
  | _, _ => False
theorem ways_in {f : Fo} {v : List Nat} (h : v ∈ f.ways) : v = [] ∨ ∃ k g v', v = (k + 1) :: v' ∧ f.kids[k]? = some g ∧ v' ∈ g.ways := by
  cases f with
  | op hd a b =>
    simp only [Fo.ways, List.mem_cons, List.mem_append, List.mem_map] at h
    rcases h with h | ⟨v', h, rfl⟩ | ⟨v', h, rfl⟩
    · exact .inl h
    · exact .inr ⟨0, a, v', rfl, rfl, h⟩
    · exact .inr ⟨1, b, v', rfl, rfl, h⟩
  | ifs a b c =>
    simp only [Fo.ways, List.mem_cons, List.mem_append, List.mem_map] at h
    rcases h with h | ⟨v', h, rfl⟩ | ⟨v', h, rfl⟩ | ⟨v', h, rfl⟩
    · exact .inl h
    · exact .inr ⟨0, a, v', rfl, rfl, h⟩
    · exact .inr ⟨1, b, v', rfl, rfl, h⟩
    · exact .inr ⟨2, c, v', rfl, rfl, h⟩
  | _ => exact .inl (by simpa [Fo.ways] using h)
theorem kid_d {f g : Fo} {k : Nat} (h : f.kids[k]? = some g) : ∃ hd, f.d = .tup (.str hd :: f.kids.map Fo.d) ∧ hd ≠ cycS ∧ wlen hd = some (f.kids.length + 1) ∧ k < f.kids.length ∧ f.kids.length ≤ 3 := by
  have hk : k < f.kids.length := (List.getElem?_eq_some_iff.mp h).1
  cases f with
  | op hd a b => exact ⟨hd.s, rfl, (hd2_len hd).2, (hd2_len hd).1, hk, by show 2 ≤ 3; decide⟩
  | ifs a b c => exact ⟨ifS, rfl, if_len.2, if_len.1, hk, Nat.le_refl _⟩
  | _ => exact absurd hk (Nat.not_lt_zero _)
theorem kid_ok {n k : Nat} {f g : Fo} (ok : OkF n f) (h : f.kids[k]? = some g) : ∃ m, n = m + 1 ∧ OkF m g := by
  have hm : g ∈ f.kids := List.mem_of_getElem? h
  cases n with
  | zero => cases f <;> first | exact absurd hm (List.not_mem_nil) | exact ok.elim
  | succ m =>
    refine ⟨m, rfl, ?_⟩
    cases f with
    | op hd a b =>
      simp only [Fo.kids, List.mem_cons, List.not_mem_nil, or_false] at hm
      rcases hm with rfl | rfl
      · exact ok.1
      · exact ok.2
    | ifs a b c =>
      simp only [Fo.kids, List.mem_cons, List.not_mem_nil, or_false] at hm
      rcases hm with rfl | rfl | rfl
      · exact ok.1
      · exact ok.2.1
      · exact ok.2.2
    | _ => exact absurd hm (List.not_mem_nil)
theorem path_of : ∀ {v : List Nat} {f : Fo}, v ∈ f.ways → PathOk f.d v
  | [], f, h => by unfold PathOk; trivial
  | k :: v, f, h => by
    rcases ways_in h with h | ⟨j, g, v', e, hg, hv⟩
    · cases h
    · cases e
      obtain ⟨hd, e1, _, _, hk, h3⟩ := kid_d hg
      rw [e1]
      refine ⟨by rw [List.length_cons, List.length_map]; omega, g.d, ?_, path_of hv⟩
      rw [List.getElem?_cons_succ, List.getElem?_map, hg]
      rfl
theorem ways_deep : ∀ {n : Nat} {v : List Nat} {f : Fo}, OkF n f → v ∈ f.ways → v.length ≤ n
  | n, [], f, _, _ => Nat.zero_le _
  | n, k :: v, f, ok, h => by
    rcases ways_in h with h | ⟨j, g, v', e, hg, hv⟩
    · cases h
    · cases e
      obtain ⟨m, rfl, okg⟩ := kid_ok ok hg
      have := ways_deep okg hv
      rw [List.length_cons]
      omega
theorem bad_put : ∀ {n : Nat} {v : List Nat} {f : Fo} {p : D} {v' : List Nat} {r : Str}, OkF n f → v ∈ f.ways → Bad (n - v.length) p v' r → Bad n (putW f.d v p) (v ++ v') r
  | n, [], f, p, v', r, _, _, b => by
    unfold putW
    exact b
  | n, k :: v, f, p, v', r, ok, h, b => by
    rcases ways_in h with h | ⟨j, g, w, e, hg, hv⟩
    · cases h
    · cases e
      obtain ⟨m, rfl, okg⟩ := kid_ok ok hg
      obtain ⟨hd, e1, e2, e3, hk, h3⟩ := kid_d hg
      rw [List.length_cons, Nat.succ_sub_succ] at b
      have ih := bad_put okg hv b
      rw [e1]
      unfold putW
      have e4 : ((D.str hd :: f.kids.map Fo.d)[j + 1]?).getD .non = g.d := by
        rw [List.getElem?_cons_succ, List.getElem?_map, hg]
        rfl
      rw [e4, List.set_cons_succ]
      refine .inr (.inr ⟨hd, _, rfl, by rw [List.length_set, List.length_map]; exact e3, .inr ⟨e2, j, _, v ++ v', ?_, rfl, fun i y hi hy => ?_, ih⟩⟩)
      · rw [List.getElem?_set_self (by rw [List.length_map]; exact hk)]
      · rw [List.getElem?_set_ne (by omega), List.getElem?_map] at hy
        obtain ⟨g', hg', rfl⟩ := Option.map_eq_some_iff.mp hy
        obtain ⟨m', e9, okg'⟩ := kid_ok ok hg'
        obtain rfl : m' = m := by omega
        exact good_of okg'
/-! nested too deep -/
def dpD : List Bool → D
  | [] => .tup [.str (Str.ofString "or"), .int 1, .int 2]
  | true :: bs => .tup [.str (Str.ofString "plus"), .int 0, dpD bs]
  | false :: bs => .tup [.str (Str.ofString "plus"), dpD bs, .int 0]
def plN (b : Bool) : Nat := if b then 2 else 1
theorem plus_len : wlen (Str.ofString "plus") = some 3 := by decide +kernel
theorem good_zero (n : Nat) : Good n (.int 0) := by cases n <;> exact ⟨by decide, by decide⟩
theorem bad_dp : ∀ {n : Nat} {bs : List Bool}, bs.length = n → Bad n (dpD bs) (bs.map plN) depthS
  | 0, [], _ => ⟨rfl, rfl⟩
  | 0, _ :: _, h => by cases h
  | n + 1, [], h => by cases h
  | n + 1, true :: bs, h => .inr (.inr ⟨Str.ofString "plus", [.int 0, dpD bs], rfl, plus_len, .inr ⟨by decide +kernel, 1, dpD bs, bs.map plN, rfl, rfl, fun j y hj hy => by
      obtain rfl : j = 0 := by omega
      have e : D.int 0 = y := by simpa using hy
      rw [← e]
      exact good_zero n, bad_dp (Nat.succ.inj h)⟩⟩)
  | n + 1, false :: bs, h => .inr (.inr ⟨Str.ofString "plus", [dpD bs, .int 0], rfl, plus_len, .inr ⟨by decide +kernel, 0, dpD bs, bs.map plN, rfl, rfl, fun j y hj hy => by omega, bad_dp (Nat.succ.inj h)⟩⟩)
abbrev wayD (v : List Nat) : D := .tup (v.map fun k => .int (k : Nat))
def erF (v : List Nat) (r : Str) : List (Str × D) := [("reason", .str r), ("way", wayD v)]

/-! ### cells, in plain Lean: what a formula asks, what it answers -/
abbrev Nm := List Nat
inductive Vl where
  | non
  | int (i : Int)
  | cyc
deriving DecidableEq
def Vl.d : Vl → D
  | .non => .non
  | .int i => .int i
  | .cyc => .str cycS
inductive Rs where
  | ask (n : Nm) (u : Nat)
  | done (v : Vl) (u : Nat)
def Rs.used : Rs → Nat
  | .ask _ u => u
  | .done _ u => u
def clampI (i : Int) : Int := if i > 1000000 then 1000000 else if i < -1000000 then -1000000 else i
def sumV (h : Hd2) : Vl → Vl → Vl
  | .non, y => y
  | x, .non => x
  | .int a, .int b => .int (match h with
    | .least => if a < b then a else b
    | _ => clampI (a + b))
  | x, _ => x
def evl : Fo → List Vl → Nat → Rs
  | .non, _, u => .done .non u
  | .int i, _, u => .done (.int i) u
  | .nm l, t, u => match t[u]? with
    | none => .ask l u
    | some v => .done v (u + 1)
  | .cyc l, t, u => match t[u]? with
    | none => .ask l u
    | some v => .done (.int (if v = .cyc then 1 else 0)) (u + 1)
  | .op h a b, t, u => match evl a t u with
    | .ask n w => .ask n w
    | .done v w => if v = .cyc then .done .cyc w else match h with
      | .or => if v = .non then evl b t w else .done v w
      | h => match evl b t w with
        | .ask n z => .ask n z
        | .done x z => if x = .cyc then .done .cyc z else .done (sumV h v x) z
  | .ifs a b c, t, u => match evl a t u with
    | .ask n w => .ask n w
    | .done v w => if v = .cyc then .done .cyc w else if v = .non ∨ v = .int 0 then evl c t w else evl b t w
def Rs.fits (t : List Vl) (u : Nat) : Rs → Prop
  | .ask _ w => u ≤ w ∧ w = t.length
  | .done _ w => u ≤ w ∧ w ≤ t.length
theorem Rs.fits.mono {t : List Vl} {u w : Nat} {r : Rs} (h : u ≤ w) (f : r.fits t w) : r.fits t u := by
  cases r <;> exact ⟨by have := f.1; omega, f.2⟩
theorem evl_fits : ∀ (f : Fo) (t : List Vl) (u : Nat), u ≤ t.length → (evl f t u).fits t u
  | .non, t, u, h => ⟨Nat.le_refl _, h⟩
  | .int i, t, u, h => ⟨Nat.le_refl _, h⟩
  | .nm l, t, u, h => by
    unfold evl
    cases e : t[u]? with
    | none =>
      have := List.getElem?_eq_none_iff.mp e
      exact ⟨Nat.le_refl _, by omega⟩
    | some v =>
      have := (List.getElem?_eq_some_iff.mp e).1
      exact ⟨Nat.le_succ _, by omega⟩
  | .cyc l, t, u, h => by
    unfold evl
    cases e : t[u]? with
    | none =>
      have := List.getElem?_eq_none_iff.mp e
      exact ⟨Nat.le_refl _, by omega⟩
    | some v =>
      have := (List.getElem?_eq_some_iff.mp e).1
      exact ⟨Nat.le_succ _, by omega⟩
  | .op hd a b, t, u, h => by
    have ha := evl_fits a t u h
    unfold evl
    cases ea : evl a t u with
    | ask n w => rw [ea] at ha; exact ha
    | done v w =>
      rw [ea] at ha
      have hb := (evl_fits b t w ha.2).mono ha.1
      dsimp only
      split
      · exact ha
      · cases hd with
        | or =>
          dsimp only
          split
          · exact hb
          · exact ha
        | plus =>
          dsimp only
          cases eb : evl b t w with
          | ask n z => rw [eb] at hb; exact hb
          | done x z =>
            rw [eb] at hb
            dsimp only
            split <;> exact hb
        | least =>
          dsimp only
          cases eb : evl b t w with
          | ask n z => rw [eb] at hb; exact hb
          | done x z =>
            rw [eb] at hb
            dsimp only
            split <;> exact hb
  | .ifs a b c, t, u, h => by
    have ha := evl_fits a t u h
    unfold evl
    cases ea : evl a t u with
    | ask n w => rw [ea] at ha; exact ha
    | done v w =>
      rw [ea] at ha
      have hb := (evl_fits b t w ha.2).mono ha.1
      have hc := (evl_fits c t w ha.2).mono ha.1
      dsimp only
      split
      · exact ha
      · split
        · exact hc
        · exact hb
/-- what is told behind does not matter -/
theorem evl_app : ∀ (f : Fo) (t s : List Vl) (u : Nat) (v : Vl) (w : Nat), u ≤ t.length → evl f t u = .done v w → evl f (t ++ s) u = .done v w
  | .non, t, s, u, v, w, _, h => h
  | .int i, t, s, u, v, w, _, h => h
  | .nm l, t, s, u, v, w, hu, h => by
    unfold evl at h ⊢
    cases e : t[u]? with
    | none => rw [e] at h; cases h
    | some x =>
      rw [e] at h
      rw [List.getElem?_append_left (List.getElem?_eq_some_iff.mp e).1, e]
      exact h
  | .cyc l, t, s, u, v, w, hu, h => by
    unfold evl at h ⊢
    cases e : t[u]? with
    | none => rw [e] at h; cases h
    | some x =>
      rw [e] at h
      rw [List.getElem?_append_left (List.getElem?_eq_some_iff.mp e).1, e]
      exact h
  | .op hd a b, t, s, u, v, w, hu, h => by
    have ha := evl_fits a t u hu
    unfold evl at h ⊢
    cases ea : evl a t u with
    | ask n z => rw [ea] at h; cases h
    | done x z =>
      rw [ea] at h ha
      rw [evl_app a t s u x z hu ea]
      dsimp only at h ⊢
      split at h
      · rename_i hx
        rw [if_pos hx]
        exact h
      · rename_i hx
        rw [if_neg hx]
        cases hd with
        | or =>
          dsimp only at h ⊢
          split at h
          · rename_i hy
            rw [if_pos hy]
            exact evl_app b t s z v w ha.2 h
          · rename_i hy
            rw [if_neg hy]
            exact h
        | plus =>
          dsimp only at h ⊢
          cases eb : evl b t z with
          | ask n q => rw [eb] at h; cases h
          | done y q =>
            rw [eb] at h
            rw [evl_app b t s z y q ha.2 eb]
            exact h
        | least =>
          dsimp only at h ⊢
          cases eb : evl b t z with
          | ask n q => rw [eb] at h; cases h
          | done y q =>
            rw [eb] at h
            rw [evl_app b t s z y q ha.2 eb]
            exact h
  | .ifs a b c, t, s, u, v, w, hu, h => by
    have ha := evl_fits a t u hu
    unfold evl at h ⊢
    cases ea : evl a t u with
    | ask n z => rw [ea] at h; cases h
    | done x z =>
      rw [ea] at h ha
      rw [evl_app a t s u x z hu ea]
      dsimp only at h ⊢
      split at h
      · rename_i hx
        rw [if_pos hx]
        exact h
      · rename_i hx
        rw [if_neg hx]
        split at h
        · rename_i hy
          rw [if_pos hy]
          exact evl_app c t s z v w ha.2 h
        · rename_i hy
          rw [if_neg hy]
          exact evl_app b t s z v w ha.2 h
/-- how many leaves -/
def lvs : Fo → Nat
  | .op _ a b => lvs a + lvs b
  | .ifs a b c => lvs a + lvs b + lvs c
  | _ => 1
theorem evl_lvs : ∀ (f : Fo) (t : List Vl) (u : Nat), u ≤ t.length → (evl f t u).used ≤ u + lvs f ∧ (∀ n w, evl f t u = .ask n w → w < u + lvs f)
  | .non, t, u, h => ⟨Nat.le_add_right _ _, fun n w e => by cases e⟩
  | .int i, t, u, h => ⟨Nat.le_add_right _ _, fun n w e => by cases e⟩
  | .nm l, t, u, h => by
    unfold evl
    cases e : t[u]? with
    | none => exact ⟨Nat.le_add_right _ _, fun n w e => by cases e; exact Nat.lt_succ_self _⟩
    | some v => exact ⟨Nat.le_refl _, fun n w e => by cases e⟩
  | .cyc l, t, u, h => by
    unfold evl
    cases e : t[u]? with
    | none => exact ⟨Nat.le_add_right _ _, fun n w e => by cases e; exact Nat.lt_succ_self _⟩
    | some v => exact ⟨Nat.le_refl _, fun n w e => by cases e⟩
  | .op hd a b, t, u, h => by
    have ha := evl_fits a t u h
    obtain ⟨a1, a2⟩ := evl_lvs a t u h
    have hl : lvs (.op hd a b) = lvs a + lvs b := rfl
    unfold evl
    rw [hl]
    cases ea : evl a t u with
    | ask n w =>
      rw [ea] at a1
      have := a2 n w ea
      exact ⟨by show w ≤ _; omega, fun n' w' e => by cases e; omega⟩
    | done v w =>
      rw [ea] at ha a1
      have a1' : w ≤ u + lvs a := a1
      obtain ⟨b1, b2⟩ := evl_lvs b t w ha.2
      have both : ∀ r, r = evl b t w → r.used ≤ u + (lvs a + lvs b) ∧ ∀ n z, r = .ask n z → z < u + (lvs a + lvs b) := fun r e => by
        subst e
        exact ⟨by omega, fun n z e => by have := b2 n z e; omega⟩
      have stop : ∀ (v : Vl), (Rs.done v w).used ≤ u + (lvs a + lvs b) ∧ ∀ n z, Rs.done v w = .ask n z → z < u + (lvs a + lvs b) := fun v => ⟨by show w ≤ _; omega, fun n z e => by cases e⟩
      dsimp only
      split
      · exact stop _
      · cases hd with
        | or =>
          dsimp only
          split
          · exact both _ rfl
          · exact stop _
        | plus =>
          dsimp only
          cases eb : evl b t w with
          | ask n z => exact both _ eb.symm
          | done x z =>
            have h9 : z ≤ u + (lvs a + lvs b) := (both _ eb.symm).1
            dsimp only
            split <;> exact ⟨h9, fun n z e => by cases e⟩
        | least =>
          dsimp only
          cases eb : evl b t w with
          | ask n z => exact both _ eb.symm
          | done x z =>
            have h9 : z ≤ u + (lvs a + lvs b) := (both _ eb.symm).1
            dsimp only
            split <;> exact ⟨h9, fun n z e => by cases e⟩
  | .ifs a b c, t, u, h => by
    have ha := evl_fits a t u h
    obtain ⟨a1, a2⟩ := evl_lvs a t u h
    have hl : lvs (.ifs a b c) = lvs a + lvs b + lvs c := rfl
    unfold evl
    rw [hl]
    cases ea : evl a t u with
    | ask n w =>
      rw [ea] at a1
      have := a2 n w ea
      exact ⟨by show w ≤ _; omega, fun n' w' e => by cases e; omega⟩
    | done v w =>
      rw [ea] at ha a1
      have a1' : w ≤ u + lvs a := a1
      obtain ⟨b1, b2⟩ := evl_lvs b t w ha.2
      obtain ⟨c1, c2⟩ := evl_lvs c t w ha.2
      dsimp only
      split
      · exact ⟨by show w ≤ _; omega, fun n z e => by cases e⟩
      · split
        · exact ⟨by omega, fun n z e => by have := c2 n z e; omega⟩
        · exact ⟨by omega, fun n z e => by have := b2 n z e; omega⟩
theorem lvs_ok : ∀ {n : Nat} {f : Fo}, OkF n f → lvs f ≤ 3 ^ n
  | 0, f, h => by cases f <;> first | exact h.elim | exact Nat.le_refl _
  | n + 1, f, h => by
    have h1 : 1 ≤ 3 ^ n := Nat.one_le_pow _ _ (by decide)
    have hp : 3 ^ (n + 1) = 3 ^ n * 3 := Nat.pow_succ _ _
    cases f with
    | op hd a b =>
      have ha := lvs_ok h.1
      have hb := lvs_ok h.2
      show lvs a + lvs b ≤ _
      omega
    | ifs a b c =>
      have ha := lvs_ok h.1
      have hb := lvs_ok h.2.1
      have hc := lvs_ok h.2.2
      show lvs a + lvs b + lvs c ≤ _
      omega
    | _ => show 1 ≤ _; omega

/-! ### what is told; what the answers are -/
abbrev Td := List (Nm × Vl)
def vals (t : Td) : List Vl := t.map (·.2)
theorem vals_len (t : Td) : (vals t).length = t.length := List.length_map ..
theorem vals_take (t : Td) (i : Nat) : vals (t.take i) = (vals t).take i := List.map_take ..
theorem vals_app (t s : Td) : vals (t ++ s) = vals t ++ vals s := List.map_append ..
/-- the formula, told so much -/
def nx (f : Fo) (t : Td) : Rs := evl f (vals t) 0
/-- each thing that is told was asked -/
def Asked (f : Fo) (t : Td) : Prop := ∀ i n v, t[i]? = some (n, v) → ∃ u, nx f (t.take i) = .ask n u
theorem asked_nil (f : Fo) : Asked f [] := fun i n v h => by simp at h
theorem asked_snoc {f : Fo} {t : Td} {n : Nm} {v : Vl} {u : Nat} (h : Asked f t) (a : nx f t = .ask n u) : Asked f (t ++ [(n, v)]) := fun i m x e => by
  by_cases hi : i < t.length
  · rw [List.getElem?_append_left hi] at e
    rw [List.take_append_of_le_length (by omega)]
    exact h i m x e
  · rw [List.getElem?_append_right (by omega)] at e
    have hi2 : i - t.length = 0 := by
      cases q : i - t.length with
      | zero => rfl
      | succ k => rw [q] at e; simp at e
    have hi3 : i = t.length := by omega
    rw [hi2] at e
    obtain ⟨rfl, rfl⟩ : n = m ∧ v = x := by simpa using e
    rw [hi3, List.take_left']
    · exact ⟨u, a⟩
    · rfl
theorem Asked.take {f : Fo} {t : Td} (h : Asked f t) (k : Nat) : Asked f (t.take k) := fun i n v e => by
  rw [List.getElem?_take] at e
  split at e
  · rename_i hi
    rw [List.take_take, Nat.min_eq_left (by omega)]
    exact h i n v e
  · cases e
/-- nothing is done ahead of its end -/
theorem Asked.open {f : Fo} {t : Td} (h : Asked f t) {k : Nat} (hk : k < t.length) : ∃ n v u, t[k]? = some (n, v) ∧ nx f (t.take k) = .ask n u := by
  rcases e : t[k] with ⟨n, v⟩
  obtain ⟨u, hu⟩ := h k n v (by rw [List.getElem?_eq_getElem hk, e])
  exact ⟨n, v, u, by rw [List.getElem?_eq_getElem hk, e], hu⟩
theorem asked_len {f : Fo} {t : Td} (h : Asked f t) : t.length ≤ lvs f := by
  rcases Nat.eq_zero_or_pos t.length with e | e
  · omega
  · obtain ⟨n, v, u, _, hu⟩ := h.open (k := t.length - 1) (by omega)
    obtain ⟨l1, l2⟩ := evl_lvs f (vals (t.take (t.length - 1))) 0 (Nat.zero_le _)
    have h1 := l2 n u hu
    have h2 := evl_fits f (vals (t.take (t.length - 1))) 0 (Nat.zero_le _)
    have h3 : evl f (vals (t.take (t.length - 1))) 0 = .ask n u := hu
    rw [h3] at h2
    have h4 := h2.2
    rw [vals_len, List.length_take] at h4
    omega
theorem asks_lt {f : Fo} {t : Td} {n : Nm} {u : Nat} (hu : nx f t = .ask n u) : t.length < lvs f := by
  obtain ⟨l1, l2⟩ := evl_lvs f (vals t) 0 (Nat.zero_le _)
  have h1 := l2 n u hu
  have h2 := evl_fits f (vals t) 0 (Nat.zero_le _)
  have h3 : evl f (vals t) 0 = .ask n u := hu
  rw [h3] at h2
  have h4 := h2.2
  rw [vals_len] at h4
  omega
/-- told by what is known -/
def Kn (K : Nm → Option Vl) (t : Td) : Prop := ∀ n v, (n, v) ∈ t → K n = some v
theorem Kn.mono {K K' : Nm → Option Vl} {t : Td} (h : Kn K t) (hk : ∀ n v, K n = some v → K' n = some v) : Kn K' t := fun n v m => hk n v (h n v m)
/-- two of them under the same knowledge: one begins the other -/
theorem same_upto {f : Fo} {K : Nm → Option Vl} {t s : Td} (ht : Asked f t) (hs : Asked f s) (kt : Kn K t) (ks : Kn K s) : ∀ i, i ≤ t.length → i ≤ s.length → t.take i = s.take i
  | 0, _, _ => by simp
  | i + 1, h1, h2 => by
    have ih := same_upto ht hs kt ks i (by omega) (by omega)
    obtain ⟨n, v, u, e, a⟩ := ht.open (k := i) (by omega)
    obtain ⟨m, x, w, e', a'⟩ := hs.open (k := i) (by omega)
    rw [ih, a'] at a
    obtain ⟨rfl, _⟩ : m = n ∧ w = u := by cases a; exact ⟨rfl, rfl⟩
    have q1 := kt m v (List.mem_of_getElem? e)
    have q2 := ks m x (List.mem_of_getElem? e')
    obtain rfl : v = x := by rw [q1] at q2; exact Option.some.inj q2
    rw [List.take_add_one, List.take_add_one, ih, e, e']
theorem pre_or {f : Fo} {K : Nm → Option Vl} {t s : Td} (ht : Asked f t) (hs : Asked f s) (kt : Kn K t) (ks : Kn K s) (hl : t.length ≤ s.length) : s.take t.length = t := by
  rw [← same_upto ht hs kt ks t.length (Nat.le_refl _) hl, List.take_length]
/-- a rule; what was found for a formula -/
inductive Ru where
  | inp (v : Vl)
  | fml (f : Fo)
structure En where
  told : Td
  ans : Vl
  last : Option Nm
abbrev Fm := Nm → Option En
def known (R : Nm → Option Ru) (A : Fm) (n : Nm) : Option Vl := match R n with
  | none => some .non
  | some (.inp v) => some v
  | some (.fml _) => (A n).map En.ans
theorem known_mono {R : Nm → Option Ru} {A B : Fm} (h : ∀ n e, A n = some e → B n = some e) : ∀ n v, known R A n = some v → known R B n = some v := fun n v k => by
  unfold known at k ⊢
  cases hr : R n with
  | none => rw [hr] at k; exact k
  | some r =>
    rw [hr] at k
    cases r with
    | inp x => exact k
    | fml f =>
      obtain ⟨e, he, rfl⟩ := Option.map_eq_some_iff.mp k
      show (B n).map En.ans = _
      rw [h n e he]
      rfl
theorem known_fml {R : Nm → Option Ru} {A : Fm} {n : Nm} {f : Fo} (h : R n = some (.fml f)) : known R A n = (A n).map En.ans := by
  unfold known
  rw [h]
inductive Lk (F : Fm) : Nm → Nm → Prop
  | refl (n : Nm) : Lk F n n
  | step {a b c : Nm} {e : En} : F a = some e → e.last = some b → Lk F b c → Lk F a c
/-- what is found, by rules of which some stand; τ: in which order -/
structure Phi (R : Nm → Option Ru) (F : Fm) (τ : Nm → Nat) : Prop where
  dom : ∀ n e, F n = some e → ∃ f, R n = some (.fml f)
  asked : ∀ n e f, F n = some e → R n = some (.fml f) → Asked f e.told
  kn : ∀ n e, F n = some e → Kn (known R F) e.told
  lt : ∀ n e m v, F n = some e → (m, v) ∈ e.told → (∃ f, R m = some (.fml f)) → τ m < τ n
  dn : ∀ n e f, F n = some e → R n = some (.fml f) → e.last = none → ∃ w, nx f e.told = .done e.ans w
  rg : ∀ n e f m, F n = some e → R n = some (.fml f) → e.last = some m → e.ans = .cyc ∧ (∃ u, nx f e.told = .ask m u) ∧ (∃ e', F m = some e') ∧ τ m = τ n ∧ Lk F m n
def Whole (R : Nm → Option Ru) (F : Fm) : Prop := ∀ n f, R n = some (.fml f) → ∃ e, F n = some e
/-- what was found so far, of what can be found -/
structure Aok (R : Nm → Option Ru) (A : Fm) : Prop where
  dom : ∀ n e, A n = some e → ∃ f, R n = some (.fml f)
  last : ∀ n e m, A n = some e → e.last = some m → ∃ e', A m = some e'
  told : ∀ n e m v, A n = some e → (m, v) ∈ e.told → (∃ f, R m = some (.fml f)) → ∃ e', A m = some e'
  sub : ∀ F τ, Phi R F τ → Whole R F → ∀ n e, A n = some e → F n = some e
section
variable {R : Nm → Option Ru} {A F : Fm} {τ : Nm → Nat}
theorem Aok.back (a : Aok R A) (hs : ∀ n e, A n = some e → F n = some e) {m n : Nm} (l : Lk F m n) : (∃ e, A m = some e) → ∃ e, A n = some e := by
  induction l with
  | refl => exact id
  | @step x b c e h1 h2 _ ih =>
    rintro ⟨e', he⟩
    have h3 := hs _ _ he
    rw [h1] at h3
    cases h3
    exact ih (a.last _ _ _ he h2)
/-- a formula that is done -/
theorem step_done (p : Phi R F τ) (wh : Whole R F) (a : Aok R A) {n : Nm} {f : Fo} {t : Td} {v : Vl} {w : Nat} (hr : R n = some (.fml f)) (hn : A n = none) (ht : Asked f t) (kt : Kn (known R A) t) (hd : nx f t = .done v w) : F n = some ⟨t, v, none⟩ := by
  obtain ⟨e, he⟩ := wh n f hr
  have hs := a.sub F τ p wh
  have kt' := kt.mono (known_mono hs)
  have ae := p.asked n e f he hr
  have ke := p.kn n e he
  rw [he]
  cases hl : e.last with
  | none =>
    obtain ⟨w', hd'⟩ := p.dn n e f he hr hl
    have hlen : t.length = e.told.length := by
      rcases Nat.lt_trichotomy t.length e.told.length with h | h | h
      · have e1 := pre_or ht ae kt' ke (by omega)
        obtain ⟨m, x, u, _, ha⟩ := ae.open h
        rw [e1, hd] at ha
        cases ha
      · exact h
      · have e1 := pre_or ae ht ke kt' (by omega)
        obtain ⟨m, x, u, _, ha⟩ := ht.open h
        rw [e1, hd'] at ha
        cases ha
    have e1 := pre_or ht ae kt' ke (by omega)
    rw [hlen, List.take_length] at e1
    rw [e1, hd] at hd'
    cases hd'
    cases e
    cases hl
    cases e1
    rfl
  | some m =>
    exfalso
    obtain ⟨_, ⟨u, ha⟩, ⟨e', he'⟩, _, lk⟩ := p.rg n e f m he hr hl
    have hlen : e.told.length < t.length := by
      apply Nat.lt_of_not_le
      intro h
      have e1 := pre_or ht ae kt' ke h
      rcases Nat.lt_or_eq_of_le h with h | h
      · obtain ⟨m, x, u, _, hq⟩ := ae.open h
        rw [e1, hd] at hq
        cases hq
      · rw [h, List.take_length] at e1
        rw [e1, hd] at ha
        cases ha
    have e1 := pre_or ae ht ke kt' (by omega)
    obtain ⟨m', x, u', g1, g2⟩ := ht.open hlen
    rw [e1, ha] at g2
    cases g2
    have hk := kt m x (List.mem_of_getElem? g1)
    obtain ⟨fm, hfm⟩ := p.dom m e' he'
    rw [known_fml hfm] at hk
    obtain ⟨em, hem, _⟩ := Option.map_eq_some_iff.mp hk
    obtain ⟨en, hen⟩ := a.back hs lk ⟨em, hem⟩
    rw [hn] at hen
    cases hen
def itn (s : Nm → Nm) : Nat → Nm → Nm
  | 0, n => n
  | k + 1, n => itn s k (s n)
/-- formulas that ask one another in rings -/
structure Ring (R : Nm → Option Ru) (A : Fm) (P : Nm → Prop) (s : Nm → Nm) (t : Nm → Td) : Prop where
  go : ∀ n, P n → P (s n)
  back : ∀ n, P n → ∃ k, itn s k (s n) = n
  ask : ∀ n, P n → A n = none ∧ ∃ f u, R n = some (.fml f) ∧ Asked f (t n) ∧ Kn (known R A) (t n) ∧ nx f (t n) = .ask (s n) u
theorem itn_in {P : Nm → Prop} {s : Nm → Nm} (h : ∀ n, P n → P (s n)) : ∀ k n, P n → P (itn s k n)
  | 0, _, p => p
  | k + 1, n, p => itn_in h k (s n) (h n p)
theorem itn_le {P : Nm → Prop} {s : Nm → Nm} {τ : Nm → Nat} (h : ∀ n, P n → P (s n)) (hl : ∀ n, P n → τ (s n) ≤ τ n) : ∀ k n, P n → τ (itn s k n) ≤ τ n
  | 0, _, _ => Nat.le_refl _
  | k + 1, n, p => Nat.le_trans (itn_le h hl k (s n) (h n p)) (hl n p)
theorem step_ring (p : Phi R F τ) (wh : Whole R F) (a : Aok R A) {P : Nm → Prop} {s : Nm → Nm} {t : Nm → Td} (r : Ring R A P s t) : ∀ n, P n → F n = some ⟨t n, .cyc, some (s n)⟩ := by
  have hs := a.sub F τ p wh
  have one : ∀ n, P n → τ (s n) ≤ τ n ∧ (τ (s n) = τ n → F n = some ⟨t n, .cyc, some (s n)⟩) := fun n hp => by
    obtain ⟨hn, f, u, hr, ht, kt, ha⟩ := r.ask n hp
    obtain ⟨hn2, f2, u2, hr2, _⟩ := r.ask (s n) (r.go n hp)
    obtain ⟨e, he⟩ := wh n f hr
    have kt' := kt.mono (known_mono hs)
    have ae := p.asked n e f he hr
    have ke := p.kn n e he
    by_cases h : t n = e.told
    · cases hl : e.last with
      | none =>
        obtain ⟨w', hd'⟩ := p.dn n e f he hr hl
        rw [← h, ha] at hd'
        cases hd'
      | some m =>
        obtain ⟨h1, ⟨u', h2⟩, _, h3, _⟩ := p.rg n e f m he hr hl
        rw [← h, ha] at h2
        cases h2
        refine ⟨by omega, fun _ => ?_⟩
        rw [he]
        cases e
        cases hl
        cases h1
        cases h
        rfl
    · by_cases hlt : (t n).length < e.told.length
      · have e1 := pre_or ht ae kt' ke (by omega)
        obtain ⟨m, x, u', g1, g2⟩ := ae.open hlt
        rw [e1, ha] at g2
        cases g2
        have := p.lt n e (s n) x he (List.mem_of_getElem? g1) ⟨f2, hr2⟩
        exact ⟨by omega, fun z => by omega⟩
      · exfalso
        have e1 := pre_or ae ht ke kt' (by omega)
        have hlt2 : e.told.length < (t n).length := by
          rcases Nat.lt_or_eq_of_le (Nat.le_of_not_lt hlt) with q | q
          · exact q
          · rw [q, List.take_length] at e1
            exact absurd e1 h
        obtain ⟨m, x, u', g1, g2⟩ := ht.open hlt2
        rw [e1] at g2
        cases hl : e.last with
        | none =>
          obtain ⟨w', hd'⟩ := p.dn n e f he hr hl
          rw [hd'] at g2
          cases g2
        | some m' =>
          obtain ⟨_, ⟨u3, h2⟩, ⟨e', he'⟩, _, lk⟩ := p.rg n e f m' he hr hl
          rw [h2] at g2
          cases g2
          have hk := kt m x (List.mem_of_getElem? g1)
          obtain ⟨fm, hfm⟩ := p.dom m e' he'
          rw [known_fml hfm] at hk
          obtain ⟨em, hem, _⟩ := Option.map_eq_some_iff.mp hk
          obtain ⟨en, hen⟩ := a.back hs lk ⟨em, hem⟩
          rw [hn] at hen
          cases hen
  intro n hp
  refine (one n hp).2 ?_
  obtain ⟨k, hk⟩ := r.back n hp
  have h1 := itn_le (τ := τ) r.go (fun n hp => (one n hp).1) k (s n) (r.go n hp)
  rw [hk] at h1
  have := (one n hp).1
  omega
end

/-! ### one found more -/
def putF (A : Fm) (n : Nm) (e : En) : Fm := fun m => if m = n then some e else A m
theorem putF_same {A : Fm} {n : Nm} {e : En} : putF A n e n = some e := if_pos rfl
theorem putF_ne {A : Fm} {n m : Nm} {e : En} (h : m ≠ n) : putF A n e m = A m := if_neg h
def putR (A : Fm) (P : Nm → Prop) [DecidablePred P] (s : Nm → Nm) (t : Nm → Td) : Fm := fun m => if P m then some ⟨t m, .cyc, some (s m)⟩ else A m
section
variable {R : Nm → Option Ru} {A F : Fm} {τ : Nm → Nat}
theorem putF_ext {n : Nm} {e : En} (hn : A n = none) : ∀ m x, A m = some x → putF A n e m = some x := fun m x h => by
  rw [putF_ne (fun z => by rw [z, hn] at h; cases h)]
  exact h
theorem kn_in {t : Td} (kt : Kn (known R A) t) {m : Nm} {v : Vl} (h : (m, v) ∈ t) {f : Fo} (hr : R m = some (.fml f)) : ∃ e, A m = some e := by
  have h1 := kt m v h
  rw [known_fml hr] at h1
  obtain ⟨e, he, _⟩ := Option.map_eq_some_iff.mp h1
  exact ⟨e, he⟩
theorem aok_none : Aok R (fun _ => none) := ⟨(fun _ _ h => nomatch h), (fun _ _ _ h => nomatch h), (fun _ _ _ _ h => nomatch h), (fun _ _ _ _ _ _ h => nomatch h)⟩
theorem Aok.done (a : Aok R A) {n : Nm} {f : Fo} {t : Td} {v : Vl} {w : Nat} (hr : R n = some (.fml f)) (hn : A n = none) (ht : Asked f t) (kt : Kn (known R A) t) (hd : nx f t = .done v w) : Aok R (putF A n ⟨t, v, none⟩) := by
  have ext := putF_ext (e := ⟨t, v, none⟩) hn
  refine ⟨fun m e h => ?_, fun m e k h hl => ?_, fun m e k x h hm hk => ?_, fun F τ p wh m e h => ?_⟩
  · by_cases z : m = n
    · rw [z]; exact ⟨f, hr⟩
    · rw [putF_ne z] at h
      exact a.dom m e h
  · by_cases z : m = n
    · rw [z, putF_same] at h
      cases h
      cases hl
    · rw [putF_ne z] at h
      obtain ⟨e', he⟩ := a.last m e k h hl
      exact ⟨e', ext _ _ he⟩
  · by_cases z : m = n
    · rw [z, putF_same] at h
      cases h
      obtain ⟨g, hg⟩ := hk
      obtain ⟨e', he⟩ := kn_in kt hm hg
      exact ⟨e', ext _ _ he⟩
    · rw [putF_ne z] at h
      obtain ⟨e', he⟩ := a.told m e k x h hm hk
      exact ⟨e', ext _ _ he⟩
  · by_cases z : m = n
    · rw [z, putF_same] at h
      cases h
      rw [z]
      exact step_done p wh a hr hn ht kt hd
    · rw [putF_ne z] at h
      exact a.sub F τ p wh m e h
section
variable {P : Nm → Prop} [DecidablePred P] {s : Nm → Nm} {t : Nm → Td}
theorem putR_ext (r : Ring R A P s t) : ∀ m x, A m = some x → putR A P s t m = some x := fun m x h => by
  unfold putR
  rw [if_neg fun z => by rw [(r.ask m z).1] at h; cases h]
  exact h
theorem Aok.ring (a : Aok R A) (r : Ring R A P s t) : Aok R (putR A P s t) := by
  have ext := putR_ext r
  refine ⟨fun m e h => ?_, fun m e k h hl => ?_, fun m e k x h hm hk => ?_, fun F τ p wh m e h => ?_⟩
  · unfold putR at h
    split at h
    · rename_i hp
      obtain ⟨_, f, _, hr, _⟩ := r.ask m hp
      exact ⟨f, hr⟩
    · exact a.dom m e h
  · unfold putR at h
    split at h
    · rename_i hp
      cases h
      cases hl
      exact ⟨_, if_pos (r.go m hp)⟩
    · obtain ⟨e', he⟩ := a.last m e k h hl
      exact ⟨e', ext _ _ he⟩
  · unfold putR at h
    split at h
    · rename_i hp
      cases h
      obtain ⟨_, _, _, _, _, kt, _⟩ := r.ask m hp
      obtain ⟨g, hg⟩ := hk
      obtain ⟨e', he⟩ := kn_in kt hm hg
      exact ⟨e', ext _ _ he⟩
    · obtain ⟨e', he⟩ := a.told m e k x h hm hk
      exact ⟨e', ext _ _ he⟩
  · unfold putR at h
    split at h
    · rename_i hp
      cases h
      exact step_ring p wh a r m hp
    · exact a.sub F τ p wh m e h
end
/-! what a whole run finds -/
theorem Lk.mono {A B : Fm} (h : ∀ n e, A n = some e → B n = some e) {a b : Nm} (l : Lk A a b) : Lk B a b := by
  induction l with
  | refl => exact .refl _
  | step h1 h2 _ ih => exact .step (h _ _ h1) h2 ih
def Below (A : Fm) (τ : Nm → Nat) (c : Nat) : Prop := ∀ n e, A n = some e → τ n < c
theorem phi_none : Phi R (fun _ => none) τ := ⟨(fun _ _ h => nomatch h), (fun _ _ _ h => nomatch h), (fun _ _ h => nomatch h), (fun _ _ _ _ h => nomatch h), (fun _ _ _ h => nomatch h), (fun _ _ _ _ h => nomatch h)⟩
theorem Phi.done (p : Phi R A τ) {c : Nat} (b : Below A τ c) {n : Nm} {f : Fo} {t : Td} {v : Vl} {w : Nat} (hr : R n = some (.fml f)) (hn : A n = none) (ht : Asked f t) (kt : Kn (known R A) t) (hd : nx f t = .done v w) :
    Phi R (putF A n ⟨t, v, none⟩) (fun m => if m = n then c else τ m) := by
  have ext := putF_ext (e := ⟨t, v, none⟩) hn
  have hne : ∀ {m e}, A m = some e → m ≠ n := fun h z => by rw [z, hn] at h; cases h
  have tel : ∀ {m e k x}, A m = some e → (k, x) ∈ e.told → (∃ f, R k = some (.fml f)) → ∃ e', A k = some e' := fun h hm ⟨g, hg⟩ => kn_in (p.kn _ _ h) hm hg
  refine ⟨fun m e h => ?_, fun m e g h hg => ?_, fun m e h => ?_, fun m e k x h hm hk => ?_, fun m e g h hg hl => ?_, fun m e g k h hg hl => ?_⟩ <;> by_cases z : m = n
  · rw [z]; exact ⟨f, hr⟩
  · rw [putF_ne z] at h; exact p.dom m e h
  · subst z
    rw [putF_same] at h
    cases h
    rw [hr] at hg
    cases hg
    exact ht
  · rw [putF_ne z] at h; exact p.asked m e g h hg
  · subst z
    rw [putF_same] at h
    cases h
    exact kt.mono (known_mono ext)
  · rw [putF_ne z] at h; exact (p.kn m e h).mono (known_mono ext)
  · subst z
    rw [putF_same] at h
    cases h
    obtain ⟨g, hg⟩ := hk
    obtain ⟨e', he⟩ := kn_in kt hm hg
    rw [if_neg (hne he), if_pos rfl]
    exact b _ _ he
  · rw [putF_ne z] at h
    obtain ⟨e', he⟩ := tel h hm hk
    rw [if_neg (hne he), if_neg z]
    exact p.lt m e k x h hm hk
  · subst z
    rw [putF_same] at h
    cases h
    rw [hr] at hg
    cases hg
    exact ⟨w, hd⟩
  · rw [putF_ne z] at h; exact p.dn m e g h hg hl
  · subst z
    rw [putF_same] at h
    cases h
    cases hl
  · rw [putF_ne z] at h
    obtain ⟨h1, h2, ⟨e', h3⟩, h4, h5⟩ := p.rg m e g k h hg hl
    exact ⟨h1, h2, ⟨e', ext _ _ h3⟩, by rw [if_neg (hne h3), if_neg z]; exact h4, h5.mono ext⟩
theorem below_put {c : Nat} (b : Below A τ c) {n : Nm} {e : En} : Below (putF A n e) (fun m => if m = n then c else τ m) (c + 1) := fun m x h => by
  by_cases z : m = n
  · show (if m = n then c else τ m) < _
    rw [if_pos z]; omega
  · rw [putF_ne z] at h
    show (if m = n then c else τ m) < _
    rw [if_neg z]
    have := b m x h
    omega
theorem lk_itn {F : Fm} {P : Nm → Prop} {s : Nm → Nm} {t : Nm → Td} (hF : ∀ n, P n → F n = some ⟨t n, .cyc, some (s n)⟩) (hg : ∀ n, P n → P (s n)) : ∀ k n, P n → Lk F n (itn s k n)
  | 0, _, _ => .refl _
  | k + 1, n, hp => .step (hF n hp) rfl (lk_itn hF hg k (s n) (hg n hp))
section
variable {P : Nm → Prop} [DecidablePred P] {s : Nm → Nm} {t : Nm → Td}
theorem Phi.ring (p : Phi R A τ) {c : Nat} (b : Below A τ c) (r : Ring R A P s t) : Phi R (putR A P s t) (fun m => if P m then c else τ m) := by
  have ext := putR_ext r
  have hne : ∀ {m e}, A m = some e → ¬ P m := fun {m e} h z => by rw [(r.ask m z).1] at h; cases h
  have tel : ∀ {m e k x}, A m = some e → (k, x) ∈ e.told → (∃ f, R k = some (.fml f)) → ∃ e', A k = some e' := fun h hm ⟨g, hg⟩ => kn_in (p.kn _ _ h) hm hg
  have yes : ∀ {m e}, putR A P s t m = some e → P m → e = ⟨t m, .cyc, some (s m)⟩ := fun {m e} h hp => by
    unfold putR at h
    rw [if_pos hp] at h
    exact (Option.some.inj h).symm
  have no : ∀ {m e}, putR A P s t m = some e → ¬ P m → A m = some e := fun {m e} h hp => by
    unfold putR at h
    rw [if_neg hp] at h
    exact h
  have hF : ∀ n, P n → putR A P s t n = some ⟨t n, .cyc, some (s n)⟩ := fun n hp => if_pos hp
  refine ⟨fun m e h => ?_, fun m e g h hg => ?_, fun m e h => ?_, fun m e k x h hm hk => ?_, fun m e g h hg hl => ?_, fun m e g k h hg hl => ?_⟩ <;> by_cases z : P m
  · obtain ⟨_, f, _, hr, _⟩ := r.ask m z
    exact ⟨f, hr⟩
  · exact p.dom m e (no h z)
  · obtain ⟨_, f, _, hr, ha, _⟩ := r.ask m z
    rw [yes h z]
    rw [hr] at hg
    cases hg
    exact ha
  · exact p.asked m e g (no h z) hg
  · obtain ⟨_, f, _, hr, ha, kt, _⟩ := r.ask m z
    rw [yes h z]
    exact kt.mono (known_mono ext)
  · exact (p.kn m e (no h z)).mono (known_mono ext)
  · obtain ⟨_, f, _, hr, ha, kt, _⟩ := r.ask m z
    rw [yes h z] at hm
    obtain ⟨g, hg⟩ := hk
    obtain ⟨e', he⟩ := kn_in kt hm hg
    rw [if_neg (hne he), if_pos z]
    exact b _ _ he
  · obtain ⟨e', he⟩ := tel (no h z) hm hk
    rw [if_neg (hne he), if_neg z]
    exact p.lt m e k x (no h z) hm hk
  · rw [yes h z] at hl
    cases hl
  · exact p.dn m e g (no h z) hg hl
  · obtain ⟨_, f, u, hr, ha, kt, hq⟩ := r.ask m z
    rw [hr] at hg
    cases hg
    have e1 := yes h z
    rw [e1] at hl ⊢
    cases hl
    obtain ⟨i, hi⟩ := r.back m z
    have lk := lk_itn hF r.go i (s m) (r.go m z)
    rw [hi] at lk
    exact ⟨rfl, ⟨u, hq⟩, ⟨_, hF _ (r.go m z)⟩, by rw [if_pos z, if_pos (r.go m z)], lk⟩
  · obtain ⟨h1, h2, ⟨e', h3⟩, h4, h5⟩ := p.rg m e g k (no h z) hg hl
    exact ⟨h1, h2, ⟨e', ext _ _ h3⟩, by rw [if_neg (hne h3), if_neg z]; exact h4, h5.mono ext⟩
theorem below_ring {c : Nat} (b : Below A τ c) : Below (putR A P s t) (fun m => if P m then c else τ m) (c + 1) := fun m x h => by
  show (if P m then c else τ m) < _
  unfold putR at h
  split at h
  · rename_i z
    rw [if_pos z]; omega
  · rename_i z
    rw [if_neg z]
    have := b m x h
    omega
end
end
/-! ### rings are there -/
theorem nodup_sub : ∀ {l L : List Nm}, l.Nodup → (∀ x ∈ l, x ∈ L) → l.length ≤ L.length
  | [], L, _, _ => Nat.zero_le _
  | x :: r, L, hn, hs => by
    obtain ⟨h1, h2⟩ := List.nodup_cons.mp hn
    have hx := hs x (by simp)
    have ih := nodup_sub (l := r) (L := L.erase x) h2 fun y hy => (List.mem_erase_of_ne (fun (z : y = x) => h1 (z ▸ hy))).mpr (hs y (List.mem_cons_of_mem _ hy))
    rw [List.length_erase_of_mem hx] at ih
    have := List.length_pos_of_mem hx
    rw [List.length_cons]
    omega
theorem itn_add (s : Nm → Nm) : ∀ (i j : Nat) (n : Nm), itn s (i + j) n = itn s j (itn s i n)
  | 0, j, n => by rw [Nat.zero_add]; rfl
  | i + 1, j, n => by
    rw [show i + 1 + j = (i + j) + 1 by omega]
    exact itn_add s i j (s n)
/-- somebody comes back to himself -/
theorem ring_there {L : List Nm} {s : Nm → Nm} (hs : ∀ n ∈ L, s n ∈ L) {x : Nm} (hx : x ∈ L) : ∃ n ∈ L, ∃ k, k < L.length ∧ itn s k (s n) = n := by
  have inL : ∀ k, itn s k x ∈ L := fun k => itn_in (P := fun n => n ∈ L) hs k x hx
  let l := (List.range (L.length + 1)).map fun k => itn s k x
  have hl : ¬ l.Nodup := fun nd => by
    have := nodup_sub nd fun y hy => by
      obtain ⟨k, _, rfl⟩ := List.mem_map.mp hy
      exact inL k
    rw [List.length_map, List.length_range] at this
    omega
  have : ∃ i j, i < j ∧ j < L.length + 1 ∧ itn s i x = itn s j x := by
    apply Classical.byContradiction
    intro no
    refine hl ?_
    rw [List.nodup_iff_pairwise_ne]
    refine List.pairwise_iff_getElem.mpr fun i j hi hj hij e => no ⟨i, j, hij, ?_, ?_⟩
    · simpa [l] using hj
    · simpa [l] using e
  obtain ⟨i, j, h1, h2, e⟩ := this
  refine ⟨itn s i x, inL i, j - i - 1, by omega, ?_⟩
  have e1 : itn s (j - i - 1) (s (itn s i x)) = itn s (1 + (j - i - 1)) (itn s i x) := (itn_add s 1 (j - i - 1) (itn s i x)).symm
  rw [e1, ← itn_add, show i + (1 + (j - i - 1)) = j by omega]
  exact e.symm

/-! ### the check of a formula -/
def W_cn (PT : Addr) : WtX := fun ds M k kx => ∃ (d : D) (w : List Nat), ds = [d, wayD w] ∧ M = [(PT, .tb)] ∧
  ((∃ l, d = .str (tx l) ∧ l.length ≤ 1000000 ∧ nameB l = true ∧ k .non [(PT, .tb)]) ∨ (NotNm d ∧ kx (erF w nameS) [(PT, .tb)]))
def W_chk (PT : Addr) (n : Nat) : WtX := fun ds M k kx => ∃ (d : D) (w : List Nat), ds = [d, wayD w] ∧ M = [(PT, .tb)] ∧ w.length + n = 6 ∧
  ((Good n d ∧ k .non [(PT, .tb)]) ∨ ∃ v r, Bad n d v r ∧ kx (erF (w ++ v) r) [(PT, .tb)])
def W_chT (PT : Addr) (n : Nat) : WtX := fun ds M k kx => ∃ (e : List D), W_chk PT n ds M k kx ∧ ds.head? = some (.tup e)
def W_chF (PT : Addr) : WtX := fun ds M k kx => ∃ d : D, ds = [d] ∧ M = [(PT, .tb)] ∧ ((Good 6 d ∧ k .non [(PT, .tb)]) ∨ ∃ v r, Bad 6 d v r ∧ kx (erF v r) [(PT, .tb)])
theorem way_eq (w : List Nat) (k : Nat) : wayD (w ++ [k]) = .tup ((w.map fun k => D.int (k : Nat)) ++ [.int (k : Nat)]) := by simp
theorem calX_none {P : Program} {w : World} {K : PySem.W.Frag} {mg : Str → Option Value} {base : Heap} {C : Addr} {x : Str} {st : Stmt} {ps : List Str} {W : WtX} {n : Nat} (T : DefT K mg x st ps) (no : ∀ ds M k kx, ¬ W ds M k kx) : CalX P w K mg base n x (SpcX K C W) := by
  obtain ⟨f, fd, F, m, b⟩ := T.ex
  exact ⟨f, fd, ps, ⟨fun vs H Q E h => by
    obtain ⟨_, ds, M, k, kx, _, _, hw, _⟩ := h
    exact absurd hw (no ds M k kx), fun A outer s H args us vs Q E _ _ _ _ h => by
    obtain ⟨_, ds, M, k, kx, _, _, hw, _⟩ := h
    exact absurd hw (no ds M k kx)⟩, m, F.kp, b⟩
theorem calX_of {P : Program} {w : World} {K : PySem.W.Frag} {mg : Str → Option Value} {base : Heap} {x : Str} {st : Stmt} {ps : List Str} {k : Nat} {sp : Sp} (D : DefT K mg x st ps)
    (ok : ∀ f fd, Fun K x x st f fd → FnOk P w K mg base (L2.CX P w) k f fd ps sp) : CalX P w K mg base k x sp := by
  obtain ⟨f, fd, F, m, b⟩ := D.ex
  exact ⟨f, fd, ps, ok f fd F, m, F.kp, b⟩
section
variable {P : Program} {w : World} {K : PySem.W.Frag} {mg : Str → Option Value} {base : Heap} {Ce PT : Addr}
theorem ok_init_BadFormula {C fI : Addr} {fd : FuncData} (e : ErrT_BadFormula K mg C) (F : Fun K "__init__" "BadFormula.__init__" s_BadFormula_init fI fd) : FnOk P w K mg base CX0 1 fI fd ["self", "way", "reason"] (spIni K C "way" "reason") := by
  refine F.ok sc_BadFormula_init (fun vs H Q E h => ?_) (fun cdv A outer s H vs Q E hr h => ?_)
  · obtain ⟨a, y, z, rfl, _⟩ := h
    rfl
  · obtain ⟨a, y, z, rfl, ha, q⟩ := h
    refine ⟨_, pss_cons (ps_ost (pv 0) (pv 1)) (pss_one (ps_ost (pv 0) (pv 2))), ?_⟩
    exact ⟨y, rfl, .ref a, rfl, a, C, rfl, e.o, e.n1, .inl ⟨ha, fun dx hdx hne => ⟨z, rfl, .ref a, rfl, a, C, rfl, e.o, e.n2, .inr ⟨dx, [("way", y)], upd_same, by rw [upd_ne hne, upd_same], by show 1 ≤ _; decide, q dx hdx hne⟩⟩⟩⟩
theorem x_check_cell_name (T : Top K mg w) (B : DefB K mg base "is_name" s_is_name ["text"] PT) (e_BadFormula : ErrT_BadFormula K mg Ce) : CalX P w K mg base 3 "check_cell_name" (SpcX K Ce (W_cn PT)) := calX_of T.d_check_cell_name fun f fd F => by
  obtain ⟨fI, fdI, iA_BadFormula, iT_BadFormula, FI, iB_BadFormula⟩ := e_BadFormula.i
  have iF_BadFormula := ok_init_BadFormula (P := P) (w := w) (base := base) e_BadFormula FI
  have c_is_name := c_is_name (P := P) (w := w) T B
  exact spc_okX F sc_check_cell_name (fun ds M k kx h => by obtain ⟨d, v, rfl, _⟩ := h; rfl) fun cdv A outer s H E hr => ⟨_, (pss_one (ps_if (pw_or (pt_not (tru_K (K := K) (pe_callB (isi_K (K := K)) (by rfl) T.m_isinstance (by decide +kernel) (pa_cons (pv 0) (pa_cons (pe_bltn (v := .ty "str") (by rfl) T.m_str (by decide +kernel) rfl) pa_nil))))) (pw_or1 (pt_not (tru_K (K := K) (pe_c c_is_name hr (by first | decide | omega) (by rfl) (pa_cons (pv 0) pa_nil)))))).pt
      (pss_one (ps_raiseO rfl (takes_of rfl rfl rfl rfl) e_BadFormula.o iA_BadFormula iT_BadFormula iF_BadFormula (hr.mono (by first | decide | omega)) iB_BadFormula pass0 (by rfl) e_BadFormula.m (pa_cons (pv 1) (pa_cons pe_str pa_nil))))
      pss_nil)), fun ds M kk kx hw => by
    obtain ⟨d, v, rfl, rfl, hw⟩ := hw
    refine as_start (δ' := [some d, some (wayD v)]) rfl ?_
    rcases hw with ⟨l, rfl, hl, hb, q⟩ | ⟨hn, q⟩
    · walk_at "tg"
      refine ⟨[_], [], fun d M => d = .bl true ∧ M = [(PT, .tb)], rfl, ⟨l, rfl, rfl, hl, by rw [hb]; exact ⟨rfl, rfl⟩⟩, ?_⟩
      rintro _ _ ⟨rfl, rfl⟩
      walk_at "tg"
      exact q
    · have fin : AS K (tRaiseO K Ce "way" "reason" E (tCons (tVar 1) (tCons (tC (.str nameS)) tNil))) [some d, some (wayD v)] [(PT, .tb)] { nx := fun _ M' => kk .non M', rt := kk, xs := kx, W := fun d H' => E (.ref Ce) (some d) H' } := by
        refine as_raise rfl ?_
        walk_at "tg"
        exact ⟨_, _, rfl, q⟩
      rcases hn with rfl | ⟨i, rfl⟩ | ⟨l, rfl, hl, hb⟩
      · walk_at "tg"
        exact fin
      · walk_at "tg"
        exact fin
      · walk_at "tg"
        refine ⟨[_], [], fun d M => d = .bl false ∧ M = [(PT, .tb)], rfl, ⟨l, rfl, rfl, hl, by rw [hb]; exact ⟨rfl, rfl⟩⟩, ?_⟩
        rintro _ _ ⟨rfl, rfl⟩
        walk_at "tg"
        exact fin⟩
end

def W_chk' (PT : Addr) : Nat → WtX
  | 0 => fun _ _ _ _ => False
  | n + 1 => W_chk PT n
theorem at0' {α : Type} {x : α} {l : List α} : atI (x :: l) 0 = some x := atI_nat (j := 0) (xs := x :: l) rfl
theorem wlen_small {z : Str} {m : Nat} (h : wlen z = some m) : m ≤ 4 := by
  unfold wlen lens at h
  simp only [List.lookup_cons] at h
  repeat' split at h
  all_goals first | (injection h with h; omega) | cases h
section
variable {P : Program} {w : World} {K : PySem.W.Frag} {mg : Str → Option Value} {base : Heap} {Ce PT : Addr}
theorem x_check_tuple (T : Top K mg w) (B : DefB K mg base "is_name" s_is_name ["text"] PT) (e_BadFormula : ErrT_BadFormula K mg Ce) (n : Nat) (x_check_part : CalX P w K mg base (3 + 2 * n) "check_part" (SpcX K Ce (W_chk' PT n))) :
    CalX P w K mg base (4 + 2 * n) "check_tuple" (SpcX K Ce (W_chT PT n)) := calX_of T.d_check_tuple fun f fd F => by
  obtain ⟨fI, fdI, iA_BadFormula, iT_BadFormula, FI, iB_BadFormula⟩ := e_BadFormula.i
  have iF_BadFormula := ok_init_BadFormula (P := P) (w := w) (base := base) e_BadFormula FI
  have x_check_cell_name := x_check_cell_name (P := P) (w := w) T B e_BadFormula
  obtain ⟨t_MOST_NESTED, g_MOST_NESTED⟩ := T.g_MOST_NESTED; obtain ⟨t_LENGTHS, g_LENGTHS, k_LENGTHS⟩ := T.g_LENGTHS
  have hlev : 4 + 2 * n = (3 + 2 * n) + 1 := by omega
  rw [hlev]
  exact spc_okX F sc_check_tuple (fun ds M k kx h => by obtain ⟨e, ⟨d, v, rfl, _⟩, _⟩ := h; rfl) fun cdv A outer s H E hr => ⟨_, (pss_cons (ps_if (pt_cmpR op_ge (pe_callB (len_K (K := K)) (by rfl) T.m_len (by decide +kernel) (pa_cons (pv 1) pa_nil)) (pe_glob (v := V.int 6) (by rfl) g_MOST_NESTED ⟨_, rfl⟩) (nomark _))
      (pss_one (ps_raiseO rfl (takes_of rfl rfl rfl rfl) e_BadFormula.o iA_BadFormula iT_BadFormula iF_BadFormula (hr.mono (by first | decide | omega)) iB_BadFormula pass0 (by rfl) e_BadFormula.m (pa_cons (pv 1) (pa_cons pe_str pa_nil))))
      pss_nil)
      (pss_cons (ps_if (pw_or (pt_not (tru_K (K := K) (pv 0))) (pw_or1 (pt_cmpR (notinT_K (K := K) (w := w)) (pe_ix (ix_K (K := K)) (pv 0) pe_int (fun _ _ => rfl)) (pe_glob (v := V.ref t_LENGTHS) (by rfl) g_LENGTHS rfl) (by rfl)))).pt
      (pss_one (ps_raiseO rfl (takes_of rfl rfl rfl rfl) e_BadFormula.o iA_BadFormula iT_BadFormula iF_BadFormula (hr.mono (by first | decide | omega)) iB_BadFormula pass0 (by rfl) e_BadFormula.m (pa_cons (pv 1) (pa_cons pe_str pa_nil))))
      pss_nil)
      (pss_cons (ps_if (pt_cmpR op_ne (pe_callB (len_K (K := K)) (by rfl) T.m_len (by decide +kernel) (pa_cons (pv 0) pa_nil)) (pe_ix (kix_K (K := K) (w := w)) (pe_glob (v := V.ref t_LENGTHS) (by rfl) g_LENGTHS rfl) (pe_ix (ix_K (K := K)) (pv 0) pe_int (fun _ _ => rfl)) (fun _ _ => rfl)) (nomark _))
      (pss_one (ps_raiseO rfl (takes_of rfl rfl rfl rfl) e_BadFormula.o iA_BadFormula iT_BadFormula iF_BadFormula (hr.mono (by first | decide | omega)) iB_BadFormula pass0 (by rfl) e_BadFormula.m (pa_cons (pv 1) (pa_cons pe_str pa_nil))))
      pss_nil)
      (pss_cons (ps_if (pt_cmpR op_eq (pe_ix (ix_K (K := K)) (pv 0) pe_int (fun _ _ => rfl)) pe_str (nomark _))
      (pss_one (ps_expr (pe_cX (takes_of rfl rfl rfl rfl) x_check_cell_name hr (by first | decide | omega) (by rfl) (pa_cons (pe_ix (ix_K (K := K)) (pv 0) pe_int (fun _ _ => rfl)) (pa_cons (pe_op (add_K (K := K)) (pv 1) (pe_tup (pa_cons pe_int pa_nil))) pa_nil)))))
      pss_nil)
      (pss_one (ps_for (passes_of rfl) rfl (pi_range2 (by rfl) T.m_range (pa_cons pe_int (pa_cons (pe_callB (len_K (K := K)) (by rfl) T.m_len (by decide +kernel) (pa_cons (pv 0) pa_nil)) pa_nil))) (pg_name (i := 2) sc_check_tuple.nd rfl (Or.inl rfl))
      (pss_one (ps_expr (pe_cX (takes_of rfl rfl rfl rfl) x_check_part hr (by first | decide | omega) (by rfl) (pa_cons (pe_ix (ix_K (K := K)) (pv 0) (pv 2) (fun _ _ => rfl)) (pa_cons (pe_op (add_K (K := K)) (pv 1) (pe_tup (pa_cons (pv 2) pa_nil))) pa_nil))))))))))), fun ds M kk kx hw => by
    obtain ⟨e, ⟨d, v, rfl, rfl, hlen, hw⟩, hd⟩ := hw
    obtain rfl : d = .tup e := by simpa using hd
    have hsz := sizeLine_eq
    have fin : ∀ (r : Str) (x3 : Option D) (A' : AEnds), kx (erF v r) [(PT, .tb)] → A'.W = (fun d H' => E (.ref Ce) (some d) H') → A'.xs = kx → AS K (tRaiseO K Ce "way" "reason" E (tCons (tVar 1) (tCons (tC (.str r)) tNil))) [some (.tup e), some (wayD v), x3] [(PT, .tb)] A' := fun r x3 A' q hA hx => by
      refine as_raise hA ?_
      walk_at "tg"
      rw [hx]
      exact ⟨_, _, rfl, q⟩
    refine as_start (δ' := [some (.tup e), some (wayD v), none]) rfl ?_
    refine as_seq ?_
    walk_at "tg"
    rw [List.length_map]
    refine dcase (fun c => ?_) (fun c => ?_)
    · obtain rfl : n = 0 := by omega
      rcases hw with ⟨h, _⟩ | ⟨v', r, hb, q⟩
      · exact h.elim
      · obtain ⟨rfl, rfl⟩ := hb
        rw [List.append_nil] at q
        exact fin _ _ _ q rfl rfl
    · obtain ⟨m, rfl⟩ : ∃ m, n = m + 1 := ⟨n - 1, by omega⟩
      walk_at "tg"
      refine as_seq ?_
      walk_at "tg"
      cases e with
      | nil =>
        rcases hw with ⟨⟨h, rest, hz, _⟩, _⟩ | ⟨v', r, hb, q⟩
        · cases hz
        · obtain ⟨rfl, rfl⟩ : v' = [] ∧ r = wordS := by
            rcases hb with ⟨h1, h2, _⟩ | ⟨_, _, z, rest, m', hz, _⟩ | ⟨z, rest, hz, _⟩
            · exact ⟨h1, h2⟩
            · cases hz
            · cases hz
          rw [List.append_nil] at q
          refine ⟨trivial, ?_⟩
          walk_at "tg"
          exact fin _ _ _ q rfl rfl
      | cons x rest =>
        obtain ⟨z, rfl⟩ : ∃ z, x = .str z := by
          rcases hw with ⟨⟨h, rest, hz, _⟩, _⟩ | ⟨v', r, hb, q⟩
          · cases hz; exact ⟨_, rfl⟩
          · rcases hb with ⟨_, _, hz | ⟨z, rest, hz, _⟩⟩ | ⟨_, _, z, rest, m', hz, _⟩ | ⟨z, rest, hz, _⟩
            · cases hz
            · cases hz; exact ⟨_, rfl⟩
            · cases hz; exact ⟨_, rfl⟩
            · cases hz; exact ⟨_, rfl⟩
        refine ⟨trivial, ?_⟩
        walk_at "tg"
        refine aix_T at0' ?_
        walk_at "tg"
        refine ae_refC ?_
        have tab : KTabV K w t_LENGTHS lenT := k_LENGTHS
        refine anin_tab tab ?_
        rw [lenT_look z]
        cases hwl : wlen z with
        | none =>
          rcases hw with ⟨⟨h, rest', hz, hwl', _⟩, _⟩ | ⟨v', r, hb, q⟩
          · cases hz
            rw [hwl] at hwl'
            cases hwl'
          · obtain ⟨rfl, rfl⟩ : v' = [] ∧ r = wordS := by
              rcases hb with ⟨h1, h2, _⟩ | ⟨_, _, z, rest, m', hz, hwl', _⟩ | ⟨z, rest, hz, hwl', _⟩
              · exact ⟨h1, h2⟩
              · cases hz; rw [hwl] at hwl'; cases hwl'
              · cases hz; rw [hwl] at hwl'; cases hwl'
            rw [List.append_nil] at q
            walk_at "tg"
            exact fin _ _ _ q rfl rfl
        | some m' =>
          have hm4 := wlen_small hwl
          walk_at "tg"
          refine as_seq ?_
          walk_at "tg"
          refine ae_refC ?_
          walk_at "tg"
          refine aix_T at0' ?_
          refine ar_kixV tab (v := .int (m' : Nat)) (by rw [lenT_look z, hwl]; rfl) (fun G => rep_of_int) ?_
          walk_at "tg"
          refine dcaseN (fun c2 => ?_) (fun c2 => ?_)
          · obtain ⟨h0, q⟩ : (kx (erF v lengthS) [(PT, .tb)]) ∧ True := by
              rcases hw with ⟨⟨h, rest', hz, hwl', _⟩, _⟩ | ⟨v', r, hb, q⟩
              · cases hz
                rw [hwl] at hwl'
                injection hwl' with hwl'
                rw [List.length_cons] at c2
                omega
              · rcases hb with ⟨h1, h2, hz | ⟨z, rest', hz, hwl'⟩⟩ | ⟨rfl, rfl, _⟩ | ⟨z, rest', hz, hwl', _⟩
                · cases hz
                · cases hz; rw [hwl] at hwl'; cases hwl'
                · rw [List.append_nil] at q
                  exact ⟨q, trivial⟩
                · cases hz
                  rw [hwl] at hwl'
                  injection hwl' with hwl'
                  rw [List.length_cons] at c2
                  omega
            exact fin _ _ _ h0 rfl rfl
          · have hlm : rest.length + 1 = m' := by
              rw [List.length_cons] at c2
              omega
            subst hlm
            have alt : (z = cycS ∧ kx (erF (v ++ [1]) nameS) [(PT, .tb)] ∧ ∃ x, rest = [x] ∧ NotNm x) ∨ ((z = cycS → ∃ l, rest = [.str (tx l)] ∧ l.length ≤ 1000000 ∧ nameB l = true) ∧
                (((∀ x ∈ rest, Good m x) ∧ kk .non [(PT, .tb)]) ∨ ∃ k x v' r, rest[k]? = some x ∧ (∀ (j : Nat) (y : D), j < k → rest[j]? = some y → Good m y) ∧ Bad m x v' r ∧ kx (erF (v ++ (k + 1) :: v') r) [(PT, .tb)])) := by
              rcases hw with ⟨⟨h, rest', hz, hwl', h1, h2⟩, q⟩ | ⟨v', r, hb, q⟩
              · cases hz
                exact .inr ⟨h1, .inl ⟨h2, q⟩⟩
              · rcases hb with ⟨h1, h2, hz | ⟨z, rest', hz, hwl'⟩⟩ | ⟨_, _, z, rest', m', hz, hwl', hne, _⟩ | ⟨z, rest', hz, hwl', ⟨e1, e2, e3, hx⟩ | ⟨e1, k, x, v2, hx, e2, hy, hb⟩⟩
                · cases hz
                · cases hz; rw [hwl] at hwl'; cases hwl'
                · cases hz
                  rw [hwl] at hwl'
                  injection hwl' with hwl'
                  omega
                · cases hz
                  subst e2 e3
                  exact .inl ⟨e1, q, hx⟩
                · cases hz
                  subst e2
                  exact .inr ⟨fun z => absurd z e1, .inr ⟨k, x, v2, r, hx, hy, hb, q⟩⟩
            walk_at "tg"
            refine as_cut (fun δ' M' => δ' = [some (.tup (.str z :: rest)), some (wayD v), none] ∧ M' = [(PT, .tb)] ∧
              (((∀ x ∈ rest, Good m x) ∧ kk .non [(PT, .tb)]) ∨ ∃ k x v' r, rest[k]? = some x ∧ (∀ (j : Nat) (y : D), j < k → rest[j]? = some y → Good m y) ∧ Bad m x v' r ∧ kx (erF (v ++ (k + 1) :: v') r) [(PT, .tb)])) ?_ ?_
            · walk_at "tg"
              refine aix_T at0' ?_
              walk_at "tg"
              refine dcase (fun c3 => ?_) (fun c3 => ?_)
              · refine as_dropX (aex_call rfl ?_)
                walk_at "tg"
                rcases alt with ⟨_, q, x, rfl, hnn⟩ | ⟨h1, h2⟩
                · refine aix_T (d := x) rfl ?_
                  walk_at "tg"
                  refine au_tup (by rw [List.length_map, List.length_singleton]; omega) ?_
                  walk_at "tg"
                  have hw1 := way_eq v 1
                  refine ⟨_, [], fun _ _ => False, fun fs M => fs = erF (v ++ [1]) nameS ∧ M = [(PT, .tb)], rfl, ⟨x, v ++ [1], by rw [hw1]; rfl, rfl, .inr ⟨hnn, rfl, rfl⟩⟩, fun _ _ z => z.elim, ?_⟩
                  rintro _ _ ⟨rfl, rfl⟩
                  exact q
                · obtain ⟨l, rfl, hl, hb⟩ := h1 c3
                  refine aix_T (d := .str (tx l)) rfl ?_
                  walk_at "tg"
                  refine au_tup (by rw [List.length_map, List.length_singleton]; omega) ?_
                  walk_at "tg"
                  have hw1 := way_eq v 1
                  refine ⟨_, [], fun d M => M = [(PT, .tb)], fun fs M => False, rfl, ⟨_, v ++ [1], by rw [hw1]; rfl, rfl, .inl ⟨l, rfl, hl, hb, rfl⟩⟩, ?_, fun _ _ z => z.elim⟩
                  rintro _ _ rfl
                  exact ⟨rfl, rfl, h2⟩
              · walk_at "tg"
                rcases alt with ⟨c4, _⟩ | ⟨_, h2⟩
                · exact absurd c4 c3
                · exact ⟨rfl, rfl, h2⟩
            · rintro δ' M' ⟨rfl, rfl, h2⟩
              walk_at "tg"
              refine ⟨1, _, rfl, ⟨by omega, by omega, by omega, by rw [List.length_cons]; omega⟩, fun i δ' M' => M' = [(PT, .tb)] ∧ (∃ y, δ' = [some (.tup (.str z :: rest)), some (wayD v), y]) ∧
                (((∀ x ∈ rest, Good m x) ∧ kk .non [(PT, .tb)]) ∨ ∃ k x v' r, i ≤ k ∧ rest[k]? = some x ∧ (∀ (j : Nat) (y : D), j < k → rest[j]? = some y → Good m y) ∧ Bad m x v' r ∧ kx (erF (v ++ (k + 1) :: v') r) [(PT, .tb)]), ⟨rfl, ⟨_, rfl⟩, ?_⟩, ?_, ?_⟩
              · rcases h2 with h2 | ⟨k, x, v', r, h2⟩
                · exact .inl h2
                · exact .inr ⟨k, x, v', r, Nat.zero_le _, h2⟩
              · rintro i d δ' M' hd ⟨rfl, ⟨y, rfl⟩, h3⟩
                obtain ⟨hi, rfl⟩ := rng_get hd
                have hi' : i < rest.length := by
                  rw [List.length_cons] at hi
                  omega
                obtain ⟨x, hx⟩ : ∃ x, rest[i]? = some x := ⟨rest[i], List.getElem?_eq_getElem hi'⟩
                have ei : (1 : Int) + (i : Nat) = ((i + 1 : Nat) : Int) := by omega
                rw [ei]
                refine ag_name ?_
                refine as_dropX ?_
                refine aex_call rfl ?_
                walk_at "tg"
                refine aix_T (d := x) (atI_nat (by rw [List.getElem?_cons_succ]; exact hx)) ?_
                walk_at "tg"
                refine au_tup (by rw [List.length_map, List.length_singleton]; omega) ?_
                walk_at "tg"
                have hw1 := way_eq v (i + 1)
                have hlen' : (v ++ [i + 1]).length + m = 6 := by
                  rw [List.length_append, List.length_singleton]
                  omega
                rcases h3 with ⟨hg, q⟩ | ⟨k, x', v', r, hk, hx', hgs, hb, q⟩
                · refine ⟨_, [], fun d M => M = [(PT, .tb)], fun _ _ => False, rfl, ⟨x, v ++ [i + 1], by rw [hw1], rfl, hlen', .inl ⟨hg x (List.mem_of_getElem? hx), rfl⟩⟩, ?_, fun _ _ z => z.elim⟩
                  rintro _ _ rfl
                  exact ⟨rfl, ⟨_, rfl⟩, .inl ⟨hg, q⟩⟩
                · by_cases hik : i = k
                  · subst hik
                    obtain rfl : x' = x := by
                      rw [hx] at hx'
                      exact (Option.some.inj hx').symm
                    refine ⟨_, [], fun _ _ => False, fun fs M => fs = erF (v ++ (i + 1) :: v') r ∧ M = [(PT, .tb)], rfl, ⟨x', v ++ [i + 1], by rw [hw1], rfl, hlen', .inr ⟨v', r, hb, by rw [List.append_assoc]; rfl, rfl⟩⟩, fun _ _ z => z.elim, ?_⟩
                    rintro _ _ ⟨rfl, rfl⟩
                    exact q
                  · refine ⟨_, [], fun d M => M = [(PT, .tb)], fun _ _ => False, rfl, ⟨x, v ++ [i + 1], by rw [hw1], rfl, hlen', .inl ⟨hgs i x (by omega) hx, rfl⟩⟩, ?_, fun _ _ z => z.elim⟩
                    rintro _ _ rfl
                    exact ⟨rfl, ⟨_, rfl⟩, .inr ⟨k, x', v', r, by omega, hx', hgs, hb, q⟩⟩
              · rintro δ' M' ⟨rfl, _, h3⟩
                rcases h3 with ⟨_, q⟩ | ⟨k, x, v', r, hk, hx, _⟩
                · exact q
                · have := (List.getElem?_eq_some_iff.mp hx).1
                  rw [rng_len, List.length_cons] at hk
                  omega⟩
end

local macro_rules | `(tactic| walk_at "tgn1") => `(tactic| first
  | with_reducible refine as_seq (t := tAsg _ _) ?_
  | with_reducible refine as_seq (t := tDrop _) ?_
  | with_reducible refine as_seq (t := tAug _ _ _) ?_
  | with_reducible refine as_seq (t := tFor _ _ _) ?_
  | with_reducible refine as_seq (t := tNext) ?_
  | with_reducible refine as_set ?_
  | with_reducible refine as_asg ?_
  | with_reducible refine as_if ?_
  | with_reducible refine as_retN ?_
  | with_reducible refine as_next ?_
  | with_reducible refine as_brk ?_
  | with_reducible refine as_cont ?_
  | with_reducible refine ae_int ?_
  | with_reducible refine ae_bl ?_
  | with_reducible refine ae_non ?_
  | with_reducible refine ae_str ?_
  | with_reducible refine ae_ty ?_
  | with_reducible refine ae_op ?_
  | with_reducible refine ae_un ?_
  | with_reducible refine ae_if ?_
  | with_reducible refine ae_andV ?_
  | with_reducible refine ae_orV ?_
  | with_reducible refine ae_notV ?_
  | with_reducible refine at_test ?_
  | with_reducible refine at_B ?_
  | with_reducible refine at_and ?_
  | with_reducible refine at_or ?_
  | with_reducible refine at_not ?_
  | with_reducible refine at_tru ?_
  | with_reducible refine aa_nil ?_
  | with_reducible refine aa_cons ?_
  | with_reducible refine ae_tup ?_
  | with_reducible refine ae_lst ?_
  | with_reducible refine ae_lstM ?_
  | with_reducible refine ae_cb ?_
  | with_reducible refine ae_call ?_
  | with_reducible refine ae_lm ?_
  | with_reducible refine ae_sm ?_
  | with_reducible refine ae_m1 ?_
  | with_reducible refine Tg.ae_sl ?_
  | with_reducible refine ao_none ?_
  | with_reducible refine ao_some ?_
  | with_reducible refine as_for ?_
  | with_reducible refine ai_seq ?_
  | with_reducible refine ai_enum ?_
  | with_reducible refine ai_range1 ?_
  | with_reducible refine ai_range2 ?_
  | with_reducible refine ag_name ?_
  | with_reducible refine ag_setL ?_
  | with_reducible refine ag_setU ?_
  | with_reducible refine ae_chain ?_
  | with_reducible refine ae_chain3 ?_
  | with_reducible refine ae_dnew ?_
  | with_reducible refine ae_dget2 ?_
  | with_reducible refine ae_listRg1 ?_
  | with_reducible refine ags_nil ?_
  | with_reducible refine ags_cons ?_
  | with_reducible refine ag_tup rfl ?_
  | with_reducible refine au_int ?_
  | with_reducible refine Tg.ai_int ?_
  | with_reducible refine ar_sub ?_
  | with_reducible refine ar_cmp ?_
  | with_reducible refine au_neg ?_
  | with_reducible refine ac_int ?_
  | with_reducible refine ac_min ?_
  | with_reducible refine at_yes ?_
  | with_reducible refine bcaseT ?_
  | with_reducible refine bcaseF ?_
  | with_reducible refine bcaseTR ?_
  | with_reducible refine bcaseFR ?_
  | ((with_reducible refine ar_intC ?c1 ?c2); (case c1 => first | omega | exact ⟨by omega, by omega⟩ | exact cmul_l (by omega) (by omega) | exact cmul_r (by omega) (by omega) | exact ⟨by omega, by omega, by decide⟩))
  | refine ae_var rfl ?_
  | refine aix0 rfl ?_
  | refine aix1 rfl ?_
  | refine put_l0 rfl ?_
  | refine put_l1 rfl ?_
  | refine ⟨lst0, ?_⟩
  | refine ⟨lst1, ?_⟩
  | refine ⟨lst2, ?_⟩
  | refine lenM0 ?_
  | refine lenM1 ?_
  | refine aix_T rfl ?_
  | refine as_aug rfl ?_
  | refine ar_eqD rfl ?_
  | refine ar_neD rfl ?_
  | refine ar_isN ?_
  | refine ar_notN ?_
  | refine ac_lenD rfl ?_
  | refine ac_lenS (by omega) ?_
  | refine ac_isiT rfl rfl ?_
  | refine ac_isiF rfl rfl ?_
  | refine ac_tupL ?_
  | refine ⟨tru_ok_bl, ?_⟩
  | refine caseT rfl ?_
  | refine caseF rfl ?_
  | refine caseTR rfl ?_
  | refine caseFR rfl ?_
  | refine ⟨⟨_, rfl⟩, ?_⟩
  | refine ⟨len_ok 0 rfl, ?_⟩
  | refine ⟨len_ok 1 rfl, ?_⟩
  | refine ⟨len_ok 2 rfl, ?_⟩
  | refine ⟨len_ok 3 rfl, ?_⟩
  | refine ⟨len_ok 4 rfl, ?_⟩
  | refine ⟨len_ok 5 rfl, ?_⟩
  | refine ⟨_, rfl, ?_⟩)
local macro_rules | `(tactic| walk_at "tgn") => `(tactic| repeat walk_at "tgn1")

section
variable {P : Program} {w : World} {K : PySem.W.Frag} {mg : Str → Option Value} {base : Heap} {Ce PT : Addr}
theorem x_check_part1 (T : Top K mg w) (B : DefB K mg base "is_name" s_is_name ["text"] PT) (e_BadFormula : ErrT_BadFormula K mg Ce) (n : Nat) (x_check_tuple : CalX P w K mg base (4 + 2 * n) "check_tuple" (SpcX K Ce (W_chT PT n))) :
    CalX P w K mg base (5 + 2 * n) "check_part" (SpcX K Ce (W_chk PT n)) := calX_of T.d_check_part fun f fd F => by
  obtain ⟨fI, fdI, iA_BadFormula, iT_BadFormula, FI, iB_BadFormula⟩ := e_BadFormula.i
  have iF_BadFormula := ok_init_BadFormula (P := P) (w := w) (base := base) e_BadFormula FI
  have x_check_cell_name := x_check_cell_name (P := P) (w := w) T B e_BadFormula
  obtain ⟨t_LARGEST, g_LARGEST⟩ := T.g_LARGEST
  have hlev : 5 + 2 * n = (4 + 2 * n) + 1 := by omega
  rw [hlev]
  exact spc_okX F sc_check_part (fun ds M k kx h => by obtain ⟨d, v, rfl, _⟩ := h; rfl) fun cdv A outer s H E hr => ⟨_, (pss_one (ps_if (tru_K (K := K) (pe_callB (isi_K (K := K)) (by rfl) T.m_isinstance (by decide +kernel) (pa_cons (pv 0) (pa_cons (pe_bltn (v := .ty "tuple") (by rfl) T.m_tuple (by decide +kernel) rfl) pa_nil))))
      (pss_one (ps_expr (pe_cX (takes_of rfl rfl rfl rfl) x_check_tuple hr (by first | decide | omega) (by rfl) (pa_cons (pv 0) (pa_cons (pv 1) pa_nil)))))
      (pss_one (ps_if (tru_K (K := K) (pe_callB (isi_K (K := K)) (by rfl) T.m_isinstance (by decide +kernel) (pa_cons (pv 0) (pa_cons (pe_bltn (v := .ty "str") (by rfl) T.m_str (by decide +kernel) rfl) pa_nil))))
      (pss_one (ps_expr (pe_cX (takes_of rfl rfl rfl rfl) x_check_cell_name hr (by first | decide | omega) (by rfl) (pa_cons (pv 0) (pa_cons (pv 1) pa_nil)))))
      (pss_one (ps_if (pw_and (pt_cmpR op_notN1 (pv 0) pe_non (nomark _)) (pw_and1 (pw_or (tru_K (K := K) (pe_callB (isi_K (K := K)) (by rfl) T.m_isinstance (by decide +kernel) (pa_cons (pv 0) (pa_cons (pe_bltn (v := .ty "bool") (by rfl) T.m_bool (by decide +kernel) rfl) pa_nil)))) (pw_or1 (pt_not (pt_chain op_le op_le (pe_un un_neg (pe_glob (v := V.int 1000000) (by rfl) g_LARGEST ⟨_, rfl⟩)) (pv 0) (pe_glob (v := V.int 1000000) (by rfl) g_LARGEST ⟨_, rfl⟩))))).pt)).pt
      (pss_one (ps_raiseO rfl (takes_of rfl rfl rfl rfl) e_BadFormula.o iA_BadFormula iT_BadFormula iF_BadFormula (hr.mono (by first | decide | omega)) iB_BadFormula pass0 (by rfl) e_BadFormula.m (pa_cons (pv 1) (pa_cons pe_str pa_nil))))
      pss_nil)))))), fun ds M kk kx hw => by
    obtain ⟨d, v, rfl, rfl, hlen, hw⟩ := hw
    refine as_start (δ' := [some d, some (wayD v)]) rfl ?_
    have str : ∀ z : Str, ((∃ l, z = tx l ∧ l.length ≤ 1000000 ∧ nameB l = true) ∧ kk .non [(PT, .tb)]) ∨ ((∃ l, z = tx l ∧ l.length ≤ 1000000 ∧ nameB l = false) ∧ kx (erF v nameS) [(PT, .tb)]) → W_cn PT [.str z, wayD v] [(PT, .tb)] (fun d M => kk .non M ∧ M = [(PT, .tb)]) kx := fun z h => by
      rcases h with ⟨⟨l, rfl, hl, hb⟩, q⟩ | ⟨⟨l, rfl, hl, hb⟩, q⟩
      · exact ⟨_, v, rfl, rfl, .inl ⟨l, rfl, hl, hb, q, rfl⟩⟩
      · exact ⟨_, v, rfl, rfl, .inr ⟨.inr (.inr ⟨l, rfl, hl, hb⟩), q⟩⟩
    have num : ∀ i : Int, d = .int i → ((-1000000 ≤ i ∧ i ≤ 1000000) ∧ kk .non [(PT, .tb)]) ∨ (¬ (-1000000 ≤ i ∧ i ≤ 1000000) ∧ kx (erF v rangeS) [(PT, .tb)]) := fun i e => by
      subst e
      rcases hw with ⟨h, q⟩ | ⟨v', r, hb, q⟩
      · exact .inl ⟨by cases n <;> exact h, q⟩
      · obtain ⟨rfl, rfl, h⟩ : v' = [] ∧ r = rangeS ∧ ¬ (-1000000 ≤ i ∧ i ≤ 1000000) := by cases n <;> exact hb
        rw [List.append_nil] at q
        exact .inr ⟨h, q⟩
    have txt : ∀ z : Str, d = .str z → ((∃ l, z = tx l ∧ l.length ≤ 1000000 ∧ nameB l = true) ∧ kk .non [(PT, .tb)]) ∨ ((∃ l, z = tx l ∧ l.length ≤ 1000000 ∧ nameB l = false) ∧ kx (erF v nameS) [(PT, .tb)]) := fun z e => by
      subst e
      rcases hw with ⟨h, q⟩ | ⟨v', r, hb, q⟩
      · exact .inl ⟨by cases n <;> exact h, q⟩
      · obtain ⟨rfl, rfl, h⟩ : v' = [] ∧ r = nameS ∧ ∃ l, z = tx l ∧ l.length ≤ 1000000 ∧ nameB l = false := by cases n <;> exact hb
        rw [List.append_nil] at q
        exact .inr ⟨h, q⟩
    have no : (d = .non ∨ (∃ i, d = .int i) ∨ (∃ z, d = .str z) ∨ ∃ e, d = .tup e) := by
      rcases hw with ⟨h, q⟩ | ⟨v', r, hb, q⟩
      · cases n <;> cases d <;> first | exact h.elim | exact .inl rfl | exact .inr (.inl ⟨_, rfl⟩) | exact .inr (.inr (.inl ⟨_, rfl⟩)) | exact .inr (.inr (.inr ⟨_, rfl⟩))
      · cases n <;> cases d <;> first | exact hb.elim | exact .inl rfl | exact .inr (.inl ⟨_, rfl⟩) | exact .inr (.inr (.inl ⟨_, rfl⟩)) | exact .inr (.inr (.inr ⟨_, rfl⟩))
    rcases no with rfl | ⟨i, rfl⟩ | ⟨z, rfl⟩ | ⟨e, rfl⟩
    · have q : kk .non [(PT, .tb)] := by
        rcases hw with ⟨_, q⟩ | ⟨v', r, hb, _⟩
        · exact q
        · cases n <;> exact hb.elim
      walk_at "tg"
      exact q
    · have fin : ∀ A' : AEnds, kx (erF v rangeS) [(PT, .tb)] → A'.W = (fun d H' => E (.ref Ce) (some d) H') → A'.xs = kx → AS K (tRaiseO K Ce "way" "reason" E (tCons (tVar 1) (tCons (tC (.str rangeS)) tNil))) [some (.int i), some (wayD v)] [(PT, .tb)] A' := fun A' q hA hx => by
        refine as_raise hA ?_
        walk_at "tg"
        rw [hx]
        exact ⟨_, _, rfl, q⟩
      walk_at "tg"
      rcases num i rfl with ⟨⟨h1, h2⟩, q⟩ | ⟨h1, q⟩
      · refine dcase (fun _ => ?_) (fun z => absurd h1 z)
        walk_at "tg"
        refine dcaseN (fun z => absurd h2 z) (fun _ => ?_)
        walk_at "tg"
        exact q
      · refine dcase (fun c1 => ?_) (fun c1 => ?_)
        · walk_at "tg"
          refine dcaseN (fun c2 => ?_) (fun c2 => absurd ⟨c1, c2⟩ h1)
          exact fin _ q rfl rfl
        · walk_at "tg"
          exact fin _ q rfl rfl
    · walk_at "tgn"
      refine as_dropX (aex_call rfl ?_)
      walk_at "tg"
      refine ⟨_, [], fun d M => kk .non M ∧ M = [(PT, .tb)], kx, rfl, str z (txt z rfl), ?_, ?_⟩
      · rintro _ _ ⟨q, rfl⟩
        exact q
      · intro fs M q
        rw [List.append_nil]
        exact q
    · walk_at "tgn"
      refine as_dropX (aex_call rfl ?_)
      walk_at "tg"
      refine ⟨_, [], fun d M => kk .non M ∧ M = [(PT, .tb)], kx, rfl, ⟨e, ⟨_, v, rfl, rfl, hlen, ?_⟩, rfl⟩, ?_, ?_⟩
      · rcases hw with ⟨h, q⟩ | h
        · exact .inl ⟨h, q, rfl⟩
        · exact .inr h
      · rintro _ _ ⟨q, rfl⟩
        exact q
      · intro fs M q
        rw [List.append_nil]
        exact q⟩
theorem x_check_part (T : Top K mg w) (B : DefB K mg base "is_name" s_is_name ["text"] PT) (e_BadFormula : ErrT_BadFormula K mg Ce) : ∀ n : Nat, CalX P w K mg base (5 + 2 * n) "check_part" (SpcX K Ce (W_chk PT n))
  | 0 => x_check_part1 T B e_BadFormula 0 (x_check_tuple T B e_BadFormula 0 (calX_none T.d_check_part fun _ _ _ _ h => h))
  | n + 1 => x_check_part1 T B e_BadFormula (n + 1) (x_check_tuple T B e_BadFormula (n + 1) (by
    have e : 3 + 2 * (n + 1) = 5 + 2 * n := by omega
    rw [e]
    exact x_check_part T B e_BadFormula n))
theorem x_check_formula (T : Top K mg w) (B : DefB K mg base "is_name" s_is_name ["text"] PT) (e_BadFormula : ErrT_BadFormula K mg Ce) : CalX P w K mg base 18 "check_formula" (SpcX K Ce (W_chF PT)) := calX_of T.d_check_formula fun f fd F => by
  have x_check_part := x_check_part (P := P) (w := w) T B e_BadFormula 6
  exact spc_okX F sc_check_formula (fun ds M k kx h => by obtain ⟨d, rfl, _⟩ := h; rfl) fun cdv A outer s H E hr => ⟨_, (pss_one (ps_expr (pe_cX (takes_of rfl rfl rfl rfl) x_check_part hr (by first | decide | omega) (by rfl) (pa_cons (pv 0) (pa_cons (pe_tup pa_nil) pa_nil))))), fun ds M kk kx hw => by
    obtain ⟨d, rfl, rfl, hw⟩ := hw
    refine as_start (δ' := [some d]) rfl ?_
    refine as_dropX (aex_call rfl ?_)
    walk_at "tg"
    refine ⟨_, [], fun d M => kk .non M ∧ M = [(PT, .tb)], kx, rfl, ⟨_, [], rfl, rfl, rfl, ?_⟩, ?_, ?_⟩
    · rcases hw with ⟨h, q⟩ | h
      · exact .inl ⟨h, q, rfl⟩
      · exact .inr h
    · rintro _ _ ⟨q, rfl⟩
      exact q
    · intro fs M q
      rw [List.append_nil]
      exact q⟩
end

/-! ### the evaluation of a formula -/
def EvF (w : D) (c : Bool) (t : List Vl) (u : Nat) : List (Str × D) := [("wanted", w), ("is_cyclic", .bl c), ("_answers", .lst (t.map Vl.d)), ("_used", .int (u : Nat))]
theorem cyc_tx : (Str.ofString "cyclic") = tx cst_CYCLIC := by decide +kernel
def Sml (d : D) : Prop := d = .non ∨ ∃ i, d = .int i
theorem vl_sml {v : Vl} (h : v ≠ .cyc) : Sml v.d := by
  cases v with
  | non => exact .inl rfl
  | int i => exact .inr ⟨i, rfl⟩
  | cyc => exact absurd rfl h
theorem eqb_vl (v : Vl) : Eqb v.d := by
  cases v with
  | non => exact ⟨trivial, by decide⟩
  | int i => exact ⟨trivial, by simp [Vl.d, toPy, PyData.depth]⟩
  | cyc => exact ⟨by show ∀ c ∈ cycS.cps.toList, c < 128; decide +kernel, by decide⟩
theorem eqD_cyc (v : Vl) : eqD v.d (.str cycS) = decide (v = .cyc) := by
  cases v with
  | non => rfl
  | int i => rfl
  | cyc => exact eqv_self (eqb_vl .cyc).1
theorem ar_cyc {K : PySem.W.Frag} {M : Mu} {k : D → Mu → Prop} {v : Vl} (q : k (.bl (decide (v = .cyc))) M) : AR K (rEqU K) v.d (.str (tx cst_CYCLIC)) M k := by
  rw [← cyc_tx]
  exact ar_eqT (eqb_vl v) (eqb_vl .cyc) (by show k (.bl (eqD v.d (.str cycS))) M; rw [eqD_cyc]; exact q)
def ResK (C a dx : Addr) (t : List Vl) (r : Rs) : D → Mu → Prop := fun d M => (∃ m w, r = .ask m w ∧ Sml d ∧ M = [(a, .ins C dx (EvF (.str (tx m)) false t w))]) ∨
  (∃ w, r = .done .cyc w ∧ Sml d ∧ M = [(a, .ins C dx (EvF .non true t w))]) ∨ (∃ v w, r = .done v w ∧ v ≠ .cyc ∧ d = v.d ∧ M = [(a, .ins C dx (EvF .non false t w))])
def VaK (C a dx : Addr) (t : List Vl) (r : Rs) (k : D → Mu → Prop) : Prop := ∀ d M, ResK C a dx t r d M → k d M
def W_told (C : Addr) : Wt := fun ds M k => ∃ (a dx : Addr) (n : Nm) (t : List Vl) (u : Nat), ds = [.ref a, .str (tx n)] ∧ M = [(a, .ins C dx (EvF .non false t u))] ∧ u ≤ t.length ∧ t.length ≤ 1000 ∧
  (t[u]? = none → k .non [(a, .ins C dx (EvF (.str (tx n)) false t u))]) ∧ ∀ v, t[u]? = some v → k v.d [(a, .ins C dx (EvF .non false t (u + 1)))]
def W_named (C : Addr) : Wt := fun ds M k => ∃ (a dx : Addr) (n : Nm) (t : List Vl) (u : Nat), ds = [.ref a, .str (tx n)] ∧ M = [(a, .ins C dx (EvF .non false t u))] ∧ u ≤ t.length ∧ t.length ≤ 1000 ∧ VaK C a dx t (evl (.nm n) t u) k
def Drt (w : D) (c : Bool) : Prop := (∃ z, w = .str z) ∨ (w = .non ∧ c = true)
def W_val (C : Addr) (n : Nat) : Wt := fun ds M k => ∃ (a dx : Addr) (f : Fo) (t : List Vl), ds = [.ref a, f.d] ∧ OkF n f ∧ t.length ≤ 1000 ∧
  ((∃ u, M = [(a, .ins C dx (EvF .non false t u))] ∧ u ≤ t.length ∧ VaK C a dx t (evl f t u) k) ∨ ∃ w c u, M = [(a, .ins C dx (EvF w c t u))] ∧ Drt w c ∧ k .non M)
def W_val' (C : Addr) : Nat → Wt
  | 0 => fun _ _ _ => False
  | n + 1 => W_val C n
def jnD (h : Hd2) : D → D → D
  | .non, y => y
  | x, .non => x
  | .int a, .int b => .int (match h with
    | .least => if a < b then a else b
    | _ => clampI (a + b))
  | x, _ => x
theorem jnD_sml {h : Hd2} {x y : D} (hx : Sml x) (hy : Sml y) : Sml (jnD h x y) := by
  rcases hx with rfl | ⟨i, rfl⟩
  · exact hy
  · rcases hy with rfl | ⟨j, rfl⟩
    · exact .inr ⟨i, rfl⟩
    · exact .inr ⟨_, rfl⟩
theorem jnD_vl {h : Hd2} {v x : Vl} (hv : v ≠ .cyc) (hx : x ≠ .cyc) : jnD h v.d x.d = (sumV h v x).d := by
  cases v <;> cases x <;> first | rfl | exact absurd rfl hv | exact absurd rfl hx
def W_jn : Wt := fun ds M k => ∃ (h : Hd2) (x y : D), h ≠ .or ∧ ds = [.str h.s, x, y] ∧ M = [] ∧ Sml x ∧ Sml y ∧ k (jnD h x y) []
section
variable {P : Program} {w : World} {K : PySem.W.Frag} {mg : Str → Option Value} {base : Heap} {C : Addr}
theorem c_joined (T : Top K mg w) : Cal P w K mg base 1 "joined" (Spc K W_jn) [] := cal_of T.d_joined fun f fd F => by
  obtain ⟨t_LARGEST, g_LARGEST⟩ := T.g_LARGEST
  exact spc_ok F sc_joined (fun ds M k h => by obtain ⟨h, x, y, _, rfl, _⟩ := h; rfl) fun cdv A outer s H E hr => ⟨_, (pss_cons (ps_if (pt_cmpR op_isN1 (pv 1) pe_non (nomark _))
      (pss_one (ps_ret (pv 2)))
      pss_nil)
      (pss_cons (ps_if (pt_cmpR op_isN1 (pv 2) pe_non (nomark _))
      (pss_one (ps_ret (pv 1)))
      pss_nil)
      (pss_cons (ps_if (pt_cmpR (eqU_K (K := K) hr) (pv 0) pe_str (nomark _))
      (pss_one (ps_ret (pe_callB (call_minU rfl) (by rfl) T.m_min (by decide +kernel) (pa_cons (pv 1) (pa_cons (pv 2) pa_nil)))))
      pss_nil)
      (pss_one (ps_ret (pe_callB (max2_K rfl) (by rfl) T.m_max (by decide +kernel) (pa_cons (pe_un un_neg (pe_glob (v := V.int 1000000) (by rfl) g_LARGEST ⟨_, rfl⟩)) (pa_cons (pe_callB (call_minU rfl) (by rfl) T.m_min (by decide +kernel) (pa_cons (pe_glob (v := V.int 1000000) (by rfl) g_LARGEST ⟨_, rfl⟩) (pa_cons (pe_op (add_K (K := K)) (pv 1) (pv 2)) pa_nil))) pa_nil)))))))), fun ds M kk hw => by
    obtain ⟨h, x, y, ho, rfl, rfl, hx, hy, q⟩ := hw
    refine as_start (δ' := [some (.str h.s), some x, some y]) rfl ?_
    rcases hx with rfl | ⟨i, rfl⟩
    · refine as_seq ?_
      walk_at "tg"
      exact q
    · refine as_seq ?_
      walk_at "tg"
      refine as_seq ?_
      rcases hy with rfl | ⟨j, rfl⟩
      · walk_at "tg"
        exact q
      · walk_at "tg"
        cases h with
        | or => exact absurd rfl ho
        | least =>
          refine as_seq ?_
          walk_at "tg"
          refine ar_eqS (b := true) (by decide +kernel) ?_
          walk_at "tg"
          have e : (if j < i then j else i) = if i < j then i else j := by
            by_cases c : i < j
            · rw [if_pos c, if_neg (by omega)]
            · rw [if_neg c]
              by_cases c2 : j < i
              · rw [if_pos c2]
              · rw [if_neg c2]; omega
          rw [e]
          exact q
        | plus =>
          refine as_seq ?_
          walk_at "tg"
          refine ar_eqS (b := false) (by decide +kernel) ?_
          walk_at "tg"
          refine ac_max2 ?_
          have e : (if (if i + j < 1000000 then i + j else 1000000) > -1000000 then (if i + j < 1000000 then i + j else 1000000) else -1000000) = clampI (i + j) := by
            unfold clampI
            by_cases c : i + j < 1000000
            · rw [if_pos c, if_neg (by omega : ¬ i + j > 1000000)]
              by_cases c2 : i + j > -1000000
              · rw [if_pos c2, if_neg (by omega)]
              · rw [if_neg c2]
                by_cases c3 : i + j < -1000000
                · rw [if_pos c3]
                · rw [if_neg c3]; omega
            · rw [if_neg c, if_pos (by decide)]
              by_cases c2 : i + j > 1000000
              · rw [if_pos c2]
              · rw [if_neg c2, if_neg (by omega)]; omega
          rw [e]
          exact q⟩
theorem ae_w (kC : Cl_Evaluation K mg C) {δ : DS} {k : D → Mu → Prop} {a dx : Addr} {w : D} {c : Bool} {t : List Vl} {u : Nat} (h : δ[0]? = some (some (.ref a))) (q : k w [(a, .ins C dx (EvF w c t u))]) : AE K (tFld K (tVar 0) "wanted") δ [(a, .ins C dx (EvF w c t u))] k :=
  ae_fld (ae_var h ⟨a, C, dx, _, w, [], [], rfl, rfl, kC.cl, kC.n_wanted, rfl, q⟩)
theorem ae_c' (kC : Cl_Evaluation K mg C) {δ : DS} {k : D → Mu → Prop} {a dx : Addr} {w : D} {c : Bool} {t : List Vl} {u : Nat} (h : δ[0]? = some (some (.ref a))) (q : k (.bl c) [(a, .ins C dx (EvF w c t u))]) : AE K (tFld K (tVar 0) "is_cyclic") δ [(a, .ins C dx (EvF w c t u))] k :=
  ae_fld (ae_var h ⟨a, C, dx, _, .bl c, [], [], rfl, rfl, kC.cl, kC.n_is_cyclic, rfl, q⟩)
theorem ae_ans (kC : Cl_Evaluation K mg C) {δ : DS} {k : D → Mu → Prop} {a dx : Addr} {w : D} {c : Bool} {t : List Vl} {u : Nat} (h : δ[0]? = some (some (.ref a))) (q : k (.lst (t.map Vl.d)) [(a, .ins C dx (EvF w c t u))]) : AE K (tFld K (tVar 0) "_answers") δ [(a, .ins C dx (EvF w c t u))] k :=
  ae_fld (ae_var h ⟨a, C, dx, _, _, [], [], rfl, rfl, kC.cl, kC.n__answers, rfl, q⟩)
theorem ae_usd (kC : Cl_Evaluation K mg C) {δ : DS} {k : D → Mu → Prop} {a dx : Addr} {w : D} {c : Bool} {t : List Vl} {u : Nat} (h : δ[0]? = some (some (.ref a))) (q : k (.int (u : Nat)) [(a, .ins C dx (EvF w c t u))]) : AE K (tFld K (tVar 0) "_used") δ [(a, .ins C dx (EvF w c t u))] k :=
  ae_fld (ae_var h ⟨a, C, dx, _, _, [], [], rfl, rfl, kC.cl, kC.n__used, rfl, q⟩)
theorem m_told (kC : Cl_Evaluation K mg C) (T : Top K mg w) : C8.Met P w K mg base 1 C "_told" (Spc K (W_told C)) [] := met_of kC.cl kC.d__told fun f fd F => by
  exact spc_ok F sc_Evaluation__told (fun ds M k h => by obtain ⟨a, dx, n, t, u, rfl, _⟩ := h; rfl) fun cdv A outer s H E hr => ⟨_, (pss_cons (ps_if (pt_cmpR op_eq (fld_K (K := K) (pv 0)) (pe_callB (len_K (K := K)) (by rfl) T.m_len (by decide +kernel) (pa_cons (fld_K (K := K) (pv 0)) pa_nil)) (nomark _))
      (pss_cons (sfld_K (K := K) (pv 0) (pv 1))
      (pss_one (ps_ret pe_non)))
      pss_nil)
      (pss_cons (sfldaug_K (K := K) (pv 0) pe_int)
      (pss_one (ps_ret (pe_ix (ix_K (K := K)) (fld_K (K := K) (pv 0)) (pe_op op_sub (fld_K (K := K) (pv 0)) pe_int) (fun _ _ => rfl)))))), fun ds M kk hw => by
    obtain ⟨a, dx, n, t, u, rfl, rfl, hu, ht, q1, q2⟩ := hw
    have hsz := sizeLine_eq
    refine as_start (δ' := [some (.ref a), some (.str (tx n))]) rfl ?_
    refine as_seq ?_
    walk_at "tg"
    refine ae_usd kC rfl ?_
    refine ae_cb (aa_cons (ae_ans kC rfl (aa_nil ?_)))
    walk_at "tg"
    rw [List.length_map]
    refine dcase (fun c => ?_) (fun c => ?_)
    · have hn : t[u]? = none := List.getElem?_eq_none_iff.mpr (by omega)
      refine as_seq (as_sfld ?_)
      walk_at "tg"
      refine ⟨a, C, dx, _, [], [], rfl, rfl, kC.cl, kC.n_wanted, by show 4 < 1000; decide, ?_⟩
      walk_at "tg"
      exact q1 hn
    · have hl : u < t.length := by omega
      have hs : t[u]? = some t[u] := List.getElem?_eq_getElem hl
      walk_at "tg"
      show AS K _ _ _ _
      refine as_seq ?_
      refine as_sfldaug (ae_var rfl ⟨a, C, dx, _, (u : Nat), rfl, ⟨[], [], rfl⟩, kC.cl, kC.n__used, rfl, ae_int ⟨1, _, [], [], rfl, rfl, by show 4 < 1000; decide, ?_⟩⟩)
      show AS K _ _ _ _
      have e1 : putFD "_used" (.int ((u : Nat) + 1 : Int)) (EvF .non false t u) = EvF .non false t (u + 1) := rfl
      rw [e1]
      walk_at "tg"
      refine ae_ans kC rfl ?_
      walk_at "tg"
      refine ae_usd kC rfl ?_
      walk_at "tg"
      refine aix_L (d := (t[u]).d) ?_ (q2 _ hs)
      have e2 : ((u + 1 : Nat) : Int) - 1 = (u : Nat) := by omega
      rw [e2]
      exact atI_nat (by rw [List.getElem?_map, hs]; rfl)⟩
theorem m_named (kC : Cl_Evaluation K mg C) (T : Top K mg w) : C8.Met P w K mg base 2 C "_named" (Spc K (W_named C)) [] := met_of kC.cl kC.d__named fun f fd F => by
  have c_Evaluation__told := m_told (P := P) (w := w) (base := base) kC T
  obtain ⟨t_CYCLIC, g_CYCLIC⟩ := T.g_CYCLIC
  exact spc_ok F sc_Evaluation__named (fun ds M k h => by obtain ⟨a, dx, n, t, u, rfl, _⟩ := h; rfl) fun cdv A outer s H E hr => ⟨_, (pss_cons (ps_set (i := 2) sc_Evaluation__named.nd rfl (Or.inl rfl) (C8.pe_mt c_Evaluation__told hr (by first | decide | omega) (pv 0) (pa_cons (pv 1) pa_nil)))
      (pss_cons (ps_if (pt_cmpR (eqU_K (K := K) hr) (pv 2) (pe_glob (v := V.str (tx cst_CYCLIC)) (by rfl) g_CYCLIC ⟨_, rfl⟩) (nomark _))
      (pss_cons (sfld_K (K := K) (pv 0) pe_bl)
      (pss_one (ps_ret pe_non)))
      pss_nil)
      (pss_one (ps_ret (pv 2))))), fun ds M kk hw => by
    obtain ⟨a, dx, n, t, u, rfl, rfl, hu, ht, q⟩ := hw
    refine as_start (δ' := [some (.ref a), some (.str (tx n)), none]) rfl ?_
    refine as_seq ?_
    walk_at "tg"
    refine ae_meth (ae_var rfl ⟨a, dx, _, rfl, ⟨[], [], rfl⟩, rfl, aa_cons (ae_var rfl (aa_nil ?_))⟩)
    refine ⟨[_], [], fun d M => (t[u]? = none ∧ d = .non ∧ M = [(a, .ins C dx (EvF (.str (tx n)) false t u))]) ∨ ∃ v, t[u]? = some v ∧ d = v.d ∧ M = [(a, .ins C dx (EvF .non false t (u + 1)))], rfl, ⟨a, dx, n, t, u, rfl, rfl, hu, ht, fun h => .inl ⟨h, rfl, rfl⟩, fun v h => .inr ⟨v, h, rfl, rfl⟩⟩, ?_⟩
    rintro _ _ (⟨h, rfl, rfl⟩ | ⟨v, h, rfl, rfl⟩)
    · have e : evl (.nm n) t u = .ask n u := by unfold evl; rw [h]
      refine as_seq ?_
      walk_at "tg"
      refine ar_cyc (v := .non) ?_
      walk_at "tg"
      exact q _ _ (.inl ⟨n, u, e, .inl rfl, rfl⟩)
    · have e : evl (.nm n) t u = .done v (u + 1) := by unfold evl; rw [h]
      refine as_seq ?_
      walk_at "tg"
      refine ar_cyc (v := v) ?_
      walk_at "tg"
      refine dcase (fun c => ?_) (fun c => ?_)
      · subst c
        show AS K _ _ _ _
        refine as_seq (as_sfld ?_)
        walk_at "tg"
        refine ⟨a, C, dx, _, [], [], rfl, rfl, kC.cl, kC.n_is_cyclic, by show 4 < 1000; decide, ?_⟩
        walk_at "tg"
        exact q _ _ (.inr (.inl ⟨u + 1, e, .inl rfl, rfl⟩))
      · walk_at "tg"
        exact q _ _ (.inr (.inr ⟨v, u + 1, e, c, rfl, rfl⟩))⟩
end

instance : DecidableEq Hd2 := fun a b => by cases a <;> cases b <;> first | exact isTrue rfl | exact isFalse (fun h => nomatch h)
theorem hd_cyc (h : Hd2) : decide (h.s = Str.ofString "cyclic") = false := by cases h <;> decide +kernel
theorem hd_or (h : Hd2) : decide (h.s = Str.ofString "or") = decide (h = .or) := by cases h <;> decide +kernel
theorem hd_if (h : Hd2) : decide (h.s = Str.ofString "if") = false := by cases h <;> decide +kernel
section
variable {P : Program} {w : World} {K : PySem.W.Frag} {mg : Str → Option Value} {base : Heap} {C : Addr}
theorem drt_test {w : D} {c : Bool} (h : Drt w c) : isNon w = false ∨ (isNon w = true ∧ c = true) := by
  rcases h with ⟨z, rfl⟩ | ⟨rfl, rfl⟩
  · exact .inl rfl
  · exact .inr ⟨rfl, rfl⟩
theorem resK_dirty {a dx : Addr} {t : List Vl} {r : Rs} {d : D} {M : Mu} (h : ResK C a dx t r d M) : (∃ w c u, Sml d ∧ Drt w c ∧ M = [(a, .ins C dx (EvF w c t u))] ∧ ((∃ m, r = .ask m u ∧ w = .str (tx m) ∧ c = false) ∨ (r = .done .cyc u ∧ w = .non ∧ c = true))) ∨
    ∃ v u, r = .done v u ∧ v ≠ .cyc ∧ d = v.d ∧ M = [(a, .ins C dx (EvF .non false t u))] := by
  rcases h with ⟨m, u, e, hs, e2⟩ | ⟨u, e, hs, e2⟩ | h
  · exact .inl ⟨_, _, u, hs, .inl ⟨_, rfl⟩, e2, .inl ⟨m, e, rfl, rfl⟩⟩
  · exact .inl ⟨_, _, u, hs, .inr ⟨rfl, rfl⟩, e2, .inr ⟨e, rfl, rfl⟩⟩
  · exact .inr h
theorem resK_of {a dx : Addr} {t : List Vl} {r : Rs} {d : D} {w : D} {c : Bool} {u : Nat} (hs : Sml d) (h : (∃ m, r = .ask m u ∧ w = .str (tx m) ∧ c = false) ∨ (r = .done .cyc u ∧ w = .non ∧ c = true)) : ResK C a dx t r d [(a, .ins C dx (EvF w c t u))] := by
  rcases h with ⟨m, e, rfl, rfl⟩ | ⟨e, rfl, rfl⟩
  · exact .inl ⟨m, u, e, hs, rfl⟩
  · exact .inr (.inl ⟨u, e, hs, rfl⟩)
theorem okF_kid {n : Nat} {h : Hd2} {a b : Fo} (ok : OkF n (.op h a b)) : ∃ m, n = m + 1 ∧ OkF m a ∧ OkF m b := by
  cases n with
  | zero => exact ok.elim
  | succ m => exact ⟨m, rfl, ok.1, ok.2⟩
theorem okF_kids {n : Nat} {a b c : Fo} (ok : OkF n (.ifs a b c)) : ∃ m, n = m + 1 ∧ OkF m a ∧ OkF m b ∧ OkF m c := by
  cases n with
  | zero => exact ok.elim
  | succ m => exact ⟨m, rfl, ok.1, ok.2.1, ok.2.2⟩
theorem op_first {h : Hd2} {g1 g2 : Fo} {t : List Vl} {u v : Nat} {w : D} {c : Bool} (hr : (∃ m, evl g1 t u = .ask m v ∧ w = .str (tx m) ∧ c = false) ∨ (evl g1 t u = .done .cyc v ∧ w = .non ∧ c = true)) :
    (∃ m, evl (.op h g1 g2) t u = .ask m v ∧ w = .str (tx m) ∧ c = false) ∨ (evl (.op h g1 g2) t u = .done .cyc v ∧ w = .non ∧ c = true) := by
  rcases hr with ⟨m, e, h1, h2⟩ | ⟨e, h1, h2⟩
  · exact .inl ⟨m, by unfold evl; rw [e], h1, h2⟩
  · exact .inr ⟨by unfold evl; rw [e]; rfl, h1, h2⟩
theorem ifs_first {g1 g2 g3 : Fo} {t : List Vl} {u v : Nat} {w : D} {c : Bool} (hr : (∃ m, evl g1 t u = .ask m v ∧ w = .str (tx m) ∧ c = false) ∨ (evl g1 t u = .done .cyc v ∧ w = .non ∧ c = true)) :
    (∃ m, evl (.ifs g1 g2 g3) t u = .ask m v ∧ w = .str (tx m) ∧ c = false) ∨ (evl (.ifs g1 g2 g3) t u = .done .cyc v ∧ w = .non ∧ c = true) := by
  rcases hr with ⟨m, e, h1, h2⟩ | ⟨e, h1, h2⟩
  · exact .inl ⟨m, by unfold evl; rw [e], h1, h2⟩
  · exact .inr ⟨by unfold evl; rw [e]; rfl, h1, h2⟩
theorem op_join {h : Hd2} {g1 g2 : Fo} {t : List Vl} {u z : Nat} {v : Vl} (ho : h ≠ .or) (e : evl g1 t u = .done v z) (hv : v ≠ .cyc) :
    evl (.op h g1 g2) t u = match evl g2 t z with
      | .ask n q => .ask n q
      | .done x q => if x = .cyc then .done .cyc q else .done (sumV h v x) q := by
  rw [evl, e]
  dsimp only
  rw [if_neg hv]
  cases h with
  | or => exact absurd rfl ho
  | plus => rfl
  | least => rfl
theorem sumV_ne {h : Hd2} {v x : Vl} (hv : v ≠ .cyc) (hx : x ≠ .cyc) : sumV h v x ≠ .cyc := by
  cases v <;> cases x <;> first | exact absurd rfl hv | exact absurd rfl hx | exact fun z => nomatch z
theorem m_val1 (kC : Cl_Evaluation K mg C) (T : Top K mg w) (n : Nat) (c_Evaluation__value : C8.Met P w K mg base (3 + n) C "_value" (Spc K (W_val' C n)) []) : C8.Met P w K mg base (4 + n) C "_value" (Spc K (W_val C n)) [] := met_of kC.cl kC.d__value fun f fd F => by
  have c_Evaluation__told := m_told (P := P) (w := w) (base := base) kC T
  have c_Evaluation__named := m_named (P := P) (w := w) (base := base) kC T
  have c_joined := c_joined (P := P) (w := w) (base := base) T
  obtain ⟨t_CYCLIC, g_CYCLIC⟩ := T.g_CYCLIC
  rw [show 4 + n = (3 + n) + 1 by omega]
  exact spc_ok F sc_Evaluation__value (fun ds M k h => by obtain ⟨a, dx, f, t, rfl, _⟩ := h; rfl) fun cdv A outer s H E hr => ⟨_, (pss_cons (ps_if (pw_or (pt_cmpR op_notN1 (fld_K (K := K) (pv 0)) pe_non (nomark _)) (pw_or1 (tru_K (K := K) (fld_K (K := K) (pv 0))))).pt
      (pss_one (ps_ret pe_non))
      pss_nil)
      (pss_cons (ps_if (tru_K (K := K) (pe_callB (isi_K (K := K)) (by rfl) T.m_isinstance (by decide +kernel) (pa_cons (pv 1) (pa_cons (pe_bltn (v := .ty "str") (by rfl) T.m_str (by decide +kernel) rfl) pa_nil))))
      (pss_one (ps_ret (C8.pe_mt c_Evaluation__named hr (by first | decide | omega) (pv 0) (pa_cons (pv 1) pa_nil))))
      pss_nil)
      (pss_cons (ps_if (pt_not (tru_K (K := K) (pe_callB (isi_K (K := K)) (by rfl) T.m_isinstance (by decide +kernel) (pa_cons (pv 1) (pa_cons (pe_bltn (v := .ty "tuple") (by rfl) T.m_tuple (by decide +kernel) rfl) pa_nil)))))
      (pss_one (ps_ret (pv 1)))
      pss_nil)
      (pss_cons (ps_if (pt_cmpR (eqU_K (K := K) hr) (pe_ix (ix_K (K := K)) (pv 1) pe_int (fun _ _ => rfl)) pe_str (nomark _))
      (pss_one (ps_ret (pe_ifExp (pt_cmpR (eqU_K (K := K) hr) (C8.pe_mt c_Evaluation__told hr (by first | decide | omega) (pv 0) (pa_cons (pe_ix (ix_K (K := K)) (pv 1) pe_int (fun _ _ => rfl)) pa_nil)) (pe_glob (v := V.str (tx cst_CYCLIC)) (by rfl) g_CYCLIC ⟨_, rfl⟩) (nomark _)) pe_int pe_int)))
      pss_nil)
      (pss_cons (ps_if (pt_cmpR (eqU_K (K := K) hr) (pe_ix (ix_K (K := K)) (pv 1) pe_int (fun _ _ => rfl)) pe_str (nomark _))
      (pss_cons (ps_set (i := 2) sc_Evaluation__value.nd rfl (Or.inl rfl) (C8.pe_mt c_Evaluation__value hr (by first | decide | omega) (pv 0) (pa_cons (pe_ix (ix_K (K := K)) (pv 1) pe_int (fun _ _ => rfl)) pa_nil)))
      (pss_one (ps_ret (pe_ifExp (pt_cmpR op_isN1 (pv 2) pe_non (nomark _)) (C8.pe_mt c_Evaluation__value hr (by first | decide | omega) (pv 0) (pa_cons (pe_ix (ix_K (K := K)) (pv 1) pe_int (fun _ _ => rfl)) pa_nil)) (pv 2)))))
      pss_nil)
      (pss_cons (ps_if (pt_cmpR (eqU_K (K := K) hr) (pe_ix (ix_K (K := K)) (pv 1) pe_int (fun _ _ => rfl)) pe_str (nomark _))
      (pss_one (ps_ret (C8.pe_mt c_Evaluation__value hr (by first | decide | omega) (pv 0) (pa_cons (pe_ifExp (pt_cmpR (in_K (K := K)) (C8.pe_mt c_Evaluation__value hr (by first | decide | omega) (pv 0) (pa_cons (pe_ix (ix_K (K := K)) (pv 1) pe_int (fun _ _ => rfl)) pa_nil)) (pe_tup (pa_cons pe_non (pa_cons pe_int pa_nil))) (by rfl)) (pe_ix (ix_K (K := K)) (pv 1) pe_int (fun _ _ => rfl)) (pe_ix (ix_K (K := K)) (pv 1) pe_int (fun _ _ => rfl))) pa_nil))))
      pss_nil)
      (pss_one (ps_ret (pe_c c_joined hr (by first | decide | omega) (by rfl) (pa_cons (pe_ix (ix_K (K := K)) (pv 1) pe_int (fun _ _ => rfl)) (pa_cons (C8.pe_mt c_Evaluation__value hr (by first | decide | omega) (pv 0) (pa_cons (pe_ix (ix_K (K := K)) (pv 1) pe_int (fun _ _ => rfl)) pa_nil)) (pa_cons (C8.pe_mt c_Evaluation__value hr (by first | decide | omega) (pv 0) (pa_cons (pe_ix (ix_K (K := K)) (pv 1) pe_int (fun _ _ => rfl)) pa_nil)) pa_nil)))))))))))), fun ds M kk hw => by
    obtain ⟨a, dx, fo, t, rfl, hok, ht, hw⟩ := hw
    refine as_start (δ' := [some (.ref a), some fo.d, none]) rfl ?_
    rcases hw with ⟨u, rfl, hu, q⟩ | ⟨w, c, u, rfl, hd, q⟩
    · refine as_seq ?_
      refine as_if (at_or (at_test (ae_op (ae_w kC rfl ?_))))
      walk_at "tg"
      refine ae_c' kC rfl ?_
      walk_at "tg"
      have call : ∀ {g : Fo} {v : Nat} {m : Nat}, n = m + 1 → OkF m g → v ≤ t.length → W_val' C n [.ref a, g.d] [(a, .ins C dx (EvF .non false t v))] (ResK C a dx t (evl g t v)) := fun {g v m} e h1 h2 => by
        subst e
        exact ⟨a, dx, g, t, rfl, h1, ht, .inl ⟨v, rfl, h2, fun _ _ z => z⟩⟩
      have dirt : ∀ {g : Fo} {w : D} {c : Bool} {v : Nat} {m : Nat}, n = m + 1 → OkF m g → Drt w c → W_val' C n [.ref a, g.d] [(a, .ins C dx (EvF w c t v))] (fun d M => d = .non ∧ M = [(a, .ins C dx (EvF w c t v))]) := fun {g w c v m} e h1 h2 => by
        subst e
        exact ⟨a, dx, g, t, rfl, h1, ht, .inr ⟨w, c, v, rfl, h2, rfl, rfl⟩⟩
      cases fo with
      | non =>
        refine as_seq ?_
        walk_at "tg"
        refine as_seq ?_
        walk_at "tg"
        exact q _ _ (.inr (.inr ⟨.non, u, rfl, (fun z => nomatch z), rfl, rfl⟩))
      | int i =>
        refine as_seq ?_
        walk_at "tg"
        refine as_seq ?_
        walk_at "tg"
        exact q _ _ (.inr (.inr ⟨.int i, u, rfl, (fun z => nomatch z), rfl, rfl⟩))
      | nm l =>
        show AS K _ [some (.ref a), some (.str (tx l)), none] _ _
        refine as_seq ?_
        walk_at "tg"
        refine ae_meth (ae_var rfl ⟨a, dx, _, rfl, ⟨[], [], rfl⟩, rfl, aa_cons (ae_var rfl (aa_nil ?_))⟩)
        refine ⟨[_], [], _, rfl, ⟨a, dx, l, t, u, rfl, rfl, hu, ht, q⟩, fun d M h => by rw [List.append_nil]; exact h⟩
      | cyc l =>
        show AS K _ [some (.ref a), some (.tup [.str cycS, .str (tx l)]), none] _ _
        refine as_seq ?_
        walk_at "tg"
        refine as_seq ?_
        walk_at "tg"
        refine as_seq ?_
        walk_at "tg"
        refine ar_eqS (b := true) (by decide +kernel) ?_
        walk_at "tg"
        refine ae_meth (ae_var rfl ⟨a, dx, _, rfl, ⟨[], [], rfl⟩, rfl, ?_⟩)
        walk_at "tg"
        refine ⟨[_], [], fun d M => (t[u]? = none ∧ d = .non ∧ M = [(a, .ins C dx (EvF (.str (tx l)) false t u))]) ∨ ∃ v, t[u]? = some v ∧ d = v.d ∧ M = [(a, .ins C dx (EvF .non false t (u + 1)))], rfl, ⟨a, dx, l, t, u, rfl, rfl, hu, ht, fun h => .inl ⟨h, rfl, rfl⟩, fun v h => .inr ⟨v, h, rfl, rfl⟩⟩, ?_⟩
        rintro _ _ (⟨h, rfl, rfl⟩ | ⟨v, h, rfl, rfl⟩)
        · have e : evl (.cyc l) t u = .ask l u := by unfold evl; rw [h]
          walk_at "tg"
          refine ar_cyc (v := .non) ?_
          walk_at "tg"
          exact q _ _ (.inl ⟨l, u, e, .inr ⟨0, rfl⟩, rfl⟩)
        · have e : evl (.cyc l) t u = .done (.int (if v = .cyc then 1 else 0)) (u + 1) := by unfold evl; rw [h]
          walk_at "tg"
          refine ar_cyc (v := v) ?_
          walk_at "tg"
          refine dcase (fun c => ?_) (fun c => ?_)
          · rw [if_pos c] at e
            walk_at "tg"
            exact q _ _ (.inr (.inr ⟨.int 1, u + 1, e, (fun z => nomatch z), rfl, rfl⟩))
          · rw [if_neg c] at e
            walk_at "tg"
            exact q _ _ (.inr (.inr ⟨.int 0, u + 1, e, (fun z => nomatch z), rfl, rfl⟩))
      | op h g1 g2 =>
        obtain ⟨m, hm, ok1, ok2⟩ := okF_kid hok
        show AS K _ [some (.ref a), some (.tup [.str h.s, g1.d, g2.d]), none] _ _
        refine as_seq ?_
        walk_at "tg"
        refine as_seq ?_
        walk_at "tg"
        refine as_seq ?_
        walk_at "tg"
        refine ar_eqS rfl ?_
        rw [hd_cyc]
        walk_at "tg"
        refine as_seq ?_
        walk_at "tg"
        refine ar_eqS rfl ?_
        rw [hd_or]
        walk_at "tg"
        refine dcase (fun c => ?_) (fun c => ?_)
        · subst c
          refine as_seq ?_
          walk_at "tg"
          refine ae_meth (ae_var rfl ⟨a, dx, _, rfl, ⟨[], [], rfl⟩, rfl, ?_⟩)
          walk_at "tg"
          refine ⟨[_], [], _, rfl, call hm ok1 hu, ?_⟩
          intro d M hres
          rw [List.append_nil]
          rcases resK_dirty hres with ⟨w, c, v, hs, hd, rfl, hr⟩ | ⟨v, z, hr, hv, rfl, rfl⟩
          · have hr' := op_first (h := .or) (g2 := g2) hr
            rcases hs with rfl | ⟨i, rfl⟩
            · walk_at "tg"
              refine ae_meth (ae_var rfl ⟨a, dx, _, rfl, ⟨[], [], rfl⟩, rfl, ?_⟩)
              walk_at "tg"
              refine ⟨[_], [], _, rfl, dirt hm ok2 hd, ?_⟩
              rintro _ _ ⟨rfl, rfl⟩
              exact q _ _ (resK_of (.inl rfl) hr')
            · walk_at "tg"
              exact q _ _ (resK_of (.inr ⟨i, rfl⟩) hr')
          · have hz := evl_fits g1 t u hu
            rw [hr] at hz
            cases v with
            | cyc => exact absurd rfl hv
            | non =>
              have e : evl (.op .or g1 g2) t u = evl g2 t z := by
                rw [evl, hr]
                rfl
              show AS K _ [_, _, some .non] _ _
              walk_at "tg"
              refine ae_meth (ae_var rfl ⟨a, dx, _, rfl, ⟨[], [], rfl⟩, rfl, ?_⟩)
              walk_at "tg"
              refine ⟨[_], [], _, rfl, call hm ok2 hz.2, ?_⟩
              intro d M h2
              rw [List.append_nil]
              exact q _ _ (by rw [e]; exact h2)
            | int i =>
              have e : evl (.op .or g1 g2) t u = .done (.int i) z := by
                rw [evl, hr]
                rfl
              show AS K _ [_, _, some (.int i)] _ _
              walk_at "tg"
              exact q _ _ (.inr (.inr ⟨.int i, z, e, (fun z => nomatch z), rfl, rfl⟩))
        · walk_at "tg"
          refine as_seq ?_
          walk_at "tg"
          refine ar_eqS rfl ?_
          rw [hd_if]
          walk_at "tg"
          refine ae_meth (ae_var rfl ⟨a, dx, _, rfl, ⟨[], [], rfl⟩, rfl, ?_⟩)
          walk_at "tg"
          refine ⟨[_], [], _, rfl, call hm ok1 hu, ?_⟩
          intro d M hres
          rw [List.append_nil]
          rcases resK_dirty hres with ⟨w, c', v, hs, hd, rfl, hr⟩ | ⟨v, z, hr, hv, rfl, rfl⟩
          · have hr' := op_first (h := h) (g2 := g2) hr
            walk_at "tg"
            refine ae_meth (ae_var rfl ⟨a, dx, _, rfl, ⟨[], [], rfl⟩, rfl, ?_⟩)
            walk_at "tg"
            refine ⟨[_], [], _, rfl, dirt hm ok2 hd, ?_⟩
            rintro _ _ ⟨rfl, rfl⟩
            rw [List.append_nil]
            walk_at "tg"
            refine ⟨[], _, fun d' M => d' = jnD h d .non ∧ M = [], rfl, ⟨h, d, .non, c, rfl, rfl, hs, .inl rfl, rfl, rfl⟩, ?_⟩
            rintro _ _ ⟨rfl, rfl⟩
            exact q _ _ (resK_of (jnD_sml hs (.inl rfl)) hr')
          · have hz := evl_fits g1 t u hu
            rw [hr] at hz
            have ej := op_join (g2 := g2) c hr hv
            walk_at "tg"
            refine ae_meth (ae_var rfl ⟨a, dx, _, rfl, ⟨[], [], rfl⟩, rfl, ?_⟩)
            walk_at "tg"
            refine ⟨[_], [], _, rfl, call hm ok2 hz.2, ?_⟩
            intro d2 M2 hres2
            rw [List.append_nil]
            rcases resK_dirty hres2 with ⟨w, c', v2, hs, hd, rfl, hr2⟩ | ⟨x, z2, hr2, hx, rfl, rfl⟩
            · walk_at "tg"
              refine ⟨[], _, fun d' M => d' = jnD h v.d d2 ∧ M = [], rfl, ⟨h, v.d, d2, c, rfl, rfl, vl_sml hv, hs, rfl, rfl⟩, ?_⟩
              rintro _ _ ⟨rfl, rfl⟩
              refine q _ _ (resK_of (jnD_sml (vl_sml hv) hs) ?_)
              rw [ej]
              rcases hr2 with ⟨m2, e2, h1, h2⟩ | ⟨e2, h1, h2⟩
              · exact .inl ⟨m2, by rw [e2], h1, h2⟩
              · exact .inr ⟨by rw [e2]; rfl, h1, h2⟩
            · walk_at "tg"
              refine ⟨[], _, fun d' M => d' = jnD h v.d x.d ∧ M = [], rfl, ⟨h, v.d, x.d, c, rfl, rfl, vl_sml hv, vl_sml hx, rfl, rfl⟩, ?_⟩
              rintro _ _ ⟨rfl, rfl⟩
              rw [jnD_vl hv hx]
              refine q _ _ (.inr (.inr ⟨sumV h v x, z2, ?_, sumV_ne hv hx, rfl, rfl⟩))
              rw [ej, hr2]
              dsimp only
              rw [if_neg hx]
      | ifs g1 g2 g3 =>
        obtain ⟨m, hm, ok1, ok2, ok3⟩ := okF_kids hok
        show AS K _ [some (.ref a), some (.tup [.str ifS, g1.d, g2.d, g3.d]), none] _ _
        refine as_seq ?_
        walk_at "tg"
        refine as_seq ?_
        walk_at "tg"
        refine as_seq ?_
        walk_at "tg"
        refine ar_eqS (b := false) (by decide +kernel) ?_
        walk_at "tg"
        refine as_seq ?_
        walk_at "tg"
        refine ar_eqS (b := false) (by decide +kernel) ?_
        walk_at "tg"
        refine as_seq ?_
        walk_at "tg"
        refine ar_eqS (b := true) (by decide +kernel) ?_
        walk_at "tg"
        refine ae_meth (ae_var rfl ⟨a, dx, _, rfl, ⟨[], [], rfl⟩, rfl, ?_⟩)
        walk_at "tg"
        refine ae_meth (ae_var rfl ⟨a, dx, _, rfl, ⟨[], [], rfl⟩, rfl, ?_⟩)
        walk_at "tg"
        refine ⟨[_], [], _, rfl, call hm ok1 hu, ?_⟩
        intro d M hres
        rw [List.append_nil]
        rcases resK_dirty hres with ⟨w, c', v, hs, hd, rfl, hr⟩ | ⟨v, z, hr, hv, rfl, rfl⟩
        · have hr' := ifs_first (g2 := g2) (g3 := g3) hr
          walk_at "tg"
          refine ain_n0 hs ?_
          cases hn : n0D d with
          | true =>
            walk_at "tg"
            refine ⟨[_], [], _, rfl, dirt hm ok3 hd, ?_⟩
            rintro _ _ ⟨rfl, rfl⟩
            exact q _ _ (resK_of (.inl rfl) hr')
          | false =>
            walk_at "tg"
            refine ⟨[_], [], _, rfl, dirt hm ok2 hd, ?_⟩
            rintro _ _ ⟨rfl, rfl⟩
            exact q _ _ (resK_of (.inl rfl) hr')
        · have hz := evl_fits g1 t u hu
          rw [hr] at hz
          walk_at "tg"
          refine ain_n0 (vl_sml hv) ?_
          have e : evl (.ifs g1 g2 g3) t u = if v = .non ∨ v = .int 0 then evl g3 t z else evl g2 t z := by
            rw [evl, hr]
            dsimp only
            rw [if_neg hv]
          by_cases c : v = .non ∨ v = .int 0
          · have hn : n0D v.d = true := by rcases c with rfl | rfl <;> rfl
            rw [hn]
            rw [if_pos c] at e
            walk_at "tg"
            refine ⟨[_], [], _, rfl, call hm ok3 hz.2, ?_⟩
            intro d M h2
            rw [List.append_nil]
            exact q _ _ (by rw [e]; exact h2)
          · have hn : n0D v.d = false := by
              cases v with
              | non => exact absurd (.inl rfl) c
              | cyc => rfl
              | int i =>
                show (i == 0) = false
                exact beq_eq_false_iff_ne.mpr fun z => c (.inr (by rw [z]))
            rw [hn]
            rw [if_neg c] at e
            walk_at "tg"
            refine ⟨[_], [], _, rfl, call hm ok2 hz.2, ?_⟩
            intro d M h2
            rw [List.append_nil]
            exact q _ _ (by rw [e]; exact h2)
    · refine as_seq ?_
      refine as_if (at_or (at_test (ae_op (ae_w kC rfl ?_))))
      walk_at "tg"
      rcases drt_test hd with h | ⟨h, rfl⟩
      · rw [h]
        walk_at "tg"
        exact q
      · rw [h]
        walk_at "tg"
        refine ae_c' kC rfl ?_
        walk_at "tg"
        exact q⟩
end
section
variable {P : Program} {w : World} {K : PySem.W.Frag} {mg : Str → Option Value} {base : Heap} {C : Addr}
theorem m_val (kC : Cl_Evaluation K mg C) (T : Top K mg w) : ∀ n : Nat, C8.Met P w K mg base (4 + n) C "_value" (Spc K (W_val C n)) []
  | 0 => m_val1 kC T 0 (met_none kC.cl kC.d__value fun _ _ _ h => h)
  | n + 1 => by
    have h := m_val1 (P := P) (w := w) (base := base) kC T (n + 1) (by rw [show 3 + (n + 1) = 4 + n by omega]; exact m_val kC T n)
    exact h
end

section
variable {P : Program} {w : World} {K : PySem.W.Frag} {mg : Str → Option Value} {base : Heap} {C : Addr}
/-- a formula evaluated: what it asks, whether it is in a ring of its own telling, its result -/
def EvR (C dx a : Addr) (t : List Vl) (r : Rs) : Mu → Prop := fun M => (∃ m w d, r = .ask m w ∧ Sml d ∧ M = [(a, .ins C dx (EvF (.str (tx m)) false t w ++ [(("_result" : Str), d)]))]) ∨
  (∃ w d, r = .done .cyc w ∧ Sml d ∧ M = [(a, .ins C dx (EvF .non true t w ++ [(("_result" : Str), d)]))]) ∨ ∃ v w, r = .done v w ∧ v ≠ .cyc ∧ M = [(a, .ins C dx (EvF .non false t w ++ [(("_result" : Str), v.d)]))]
def W_evi (C : Addr) : Wt := fun ds M k => ∃ (a dx : Addr) (f : Fo) (t : List Vl), ds = [.ref a, f.d, .lst (t.map Vl.d)] ∧ M = [(a, .ins C dx [])] ∧ OkF 6 f ∧ t.length ≤ 1000 ∧ ∀ M', EvR C dx a t (evl f t 0) M' → k .non M'
def W_evr (C : Addr) : Wt := fun ds M k => ∃ (a dx : Addr) (t : List Vl) (v : Vl) (w : Nat), ds = [.ref a] ∧ EvR C dx a t (.done v w) M ∧ k v.d M
theorem m_evinit (kC : Cl_Evaluation K mg C) (T : Top K mg w) : C8.Mak P w K mg base 11 "Evaluation" C (Spc K (W_evi C)) [] := mak_of kC.m kC.mk1 kC.mk2 kC.d___init__ fun f fd F => by
  have c_Evaluation__value := m_val (P := P) (w := w) (base := base) kC T 6
  exact spc_ok F sc_Evaluation___init__ (fun ds M k h => by obtain ⟨a, dx, f, t, rfl, _⟩ := h; rfl) fun cdv A outer s H E hr => ⟨_, (pss_cons (sfld_K (K := K) (pv 0) pe_non)
      (pss_cons (sfld_K (K := K) (pv 0) pe_bl)
      (pss_cons (sfld_K (K := K) (pv 0) (pv 2))
      (pss_cons (sfld_K (K := K) (pv 0) pe_int)
      (pss_one (sfld_K (K := K) (pv 0) (C8.pe_mt c_Evaluation__value hr (by first | decide | omega) (pv 0) (pa_cons (pv 1) pa_nil)))))))), fun ds M kk hw => by
    obtain ⟨a, dx, fo, t, rfl, rfl, hok, ht, q⟩ := hw
    refine as_start (δ' := [some (.ref a), some fo.d, some (.lst (t.map Vl.d))]) rfl ?_
    refine as_seq (as_sfld ?_)
    walk_at "tg"
    refine ⟨a, C, dx, _, [], [], rfl, rfl, kC.cl, kC.n_wanted, by show 0 < 1000; decide, ?_⟩
    refine as_seq (as_sfld ?_)
    walk_at "tg"
    refine ⟨a, C, dx, _, [], [], rfl, rfl, kC.cl, kC.n_is_cyclic, by show 1 < 1000; decide, ?_⟩
    refine as_seq (as_sfld ?_)
    walk_at "tg"
    refine ⟨a, C, dx, _, [], [], rfl, rfl, kC.cl, kC.n__answers, by show 2 < 1000; decide, ?_⟩
    refine as_seq (as_sfld ?_)
    walk_at "tg"
    refine ⟨a, C, dx, _, [], [], rfl, rfl, kC.cl, kC.n__used, by show 3 < 1000; decide, ?_⟩
    refine as_sfld ?_
    refine ae_meth (ae_var rfl ⟨a, dx, _, rfl, ⟨[], [], rfl⟩, rfl, aa_cons (ae_var rfl (aa_nil ?_))⟩)
    refine ⟨[_], [], _, rfl, ⟨a, dx, fo, t, rfl, hok, ht, .inl ⟨0, rfl, Nat.zero_le _, fun _ _ z => z⟩⟩, ?_⟩
    rintro d M (⟨m, w, e, hs, rfl⟩ | ⟨w, e, hs, rfl⟩ | ⟨v, w, e, hv, rfl, rfl⟩)
    · walk_at "tg"
      refine ⟨a, C, dx, _, [], [], rfl, rfl, kC.cl, kC.n__result, by show 4 < 1000; decide, ?_⟩
      exact q _ (.inl ⟨m, w, d, e, hs, rfl⟩)
    · walk_at "tg"
      refine ⟨a, C, dx, _, [], [], rfl, rfl, kC.cl, kC.n__result, by show 4 < 1000; decide, ?_⟩
      exact q _ (.inr (.inl ⟨w, d, e, hs, rfl⟩))
    · walk_at "tg"
      refine ⟨a, C, dx, _, [], [], rfl, rfl, kC.cl, kC.n__result, by show 4 < 1000; decide, ?_⟩
      exact q _ (.inr (.inr ⟨v, w, e, hv, rfl⟩))⟩
theorem m_evresult (kC : Cl_Evaluation K mg C) (T : Top K mg w) : C8.Met P w K mg base 1 C "result" (Spc K (W_evr C)) [] := met_of kC.cl kC.d_result fun f fd F => by
  obtain ⟨t_CYCLIC, g_CYCLIC⟩ := T.g_CYCLIC
  exact spc_ok F sc_Evaluation_result (fun ds M k h => by obtain ⟨a, dx, t, v, w, rfl, _⟩ := h; rfl) fun cdv A outer s H E hr => ⟨_, (pss_one (ps_ret (pe_ifExp (tru_K (K := K) (fld_K (K := K) (pv 0))) (pe_glob (v := V.str (tx cst_CYCLIC)) (by rfl) g_CYCLIC ⟨_, rfl⟩) (fld_K (K := K) (pv 0))))), fun ds M kk hw => by
    obtain ⟨a, dx, t, v, w, rfl, hr, q⟩ := hw
    refine as_start (δ' := [some (.ref a)]) rfl ?_
    rcases hr with ⟨m, w', d, e, _⟩ | ⟨w', d, e, hs, rfl⟩ | ⟨v', w', e, hv, rfl⟩
    · cases e
    · cases e
      walk_at "tg"
      refine ae_fld (ae_var rfl ⟨a, C, dx, _, .bl true, [], [], rfl, rfl, kC.cl, kC.n_is_cyclic, rfl, ?_⟩)
      walk_at "tg"
      rw [← cyc_tx]
      exact q
    · cases e
      walk_at "tg"
      refine ae_fld (ae_var rfl ⟨a, C, dx, _, .bl false, [], [], rfl, rfl, kC.cl, kC.n_is_cyclic, rfl, ?_⟩)
      walk_at "tg"
      refine ae_fld (ae_var rfl ⟨a, C, dx, _, _, [], [], rfl, rfl, kC.cl, kC.n__result, rfl, ?_⟩)
      exact q⟩
end

/-! ### memos, turns -/
def tdD (p : Nm × Vl) : D := .tup [.str (tx p.1), p.2.d]
def tlD (t : Td) : List D := t.map tdD
theorem tlD_len (t : Td) : (tlD t).length = t.length := List.length_map ..
def lsD : Option Nm → D
  | none => .non
  | some n => .str (tx n)
def MeF (e : En) : List (Str × D) := [("told", .lst (tlD e.told)), ("answer", e.ans.d), ("last", lsD e.last)]
structure Mo where
  a : Addr
  dx : Addr
  e : En
def Mo.m (C : Addr) (m : Mo) : Addr × MO := (m.a, .ins C m.dx (MeF m.e))
structure Tu where
  a : Addr
  dx : Addr
  tl : Addr
  n : Nm
  f : Fo
  told : Td
  kept : Bool
  mo : Option Mo
def moD : Option Mo → D
  | none => .non
  | some m => .ref m.a
def TuF (u : Tu) : List (Str × D) := [("name", .str (tx u.n)), ("told", .ref u.tl), ("is_kept", .bl u.kept), ("_formula", u.f.d), ("_memo", moD u.mo)]
def Tu.m (C : Addr) (u : Tu) : Mu := [(u.a, .ins C u.dx (TuF u)), (u.tl, .lst (tlD u.told))]
def Tu.kp (C : Addr) (u : Tu) : Mu := match u.mo with
  | some m => if u.kept then [m.m C] else []
  | none => []
/-- a memo is what a run of the formula found -/
structure MOk (f : Fo) (e : En) : Prop where
  asked : Asked f e.told
  dn : e.last = none → ∃ w, nx f e.told = .done e.ans w
  rg : ∀ m, e.last = some m → e.ans = .cyc ∧ ∃ u, nx f e.told = .ask m u
structure Tu.Ok (u : Tu) : Prop where
  f : OkF 6 u.f
  asked : Asked u.f u.told
  kept : u.kept = true → ∃ m, u.mo = some m ∧ MOk u.f m.e ∧ m.e.told.take u.told.length = u.told
theorem asked_small {f : Fo} {t : Td} (h : OkF 6 f) (a : Asked f t) : t.length ≤ 729 := Nat.le_trans (asked_len a) (lvs_ok h)
theorem Tu.Ok.small {u : Tu} (o : u.Ok) : u.told.length ≤ 729 := asked_small o.f o.asked
def nxD : Rs → D
  | .ask n _ => .str (tx n)
  | .done _ _ => .non
def sndD : D → D
  | .tup [_, y] => y
  | d => d
theorem tl_snd (t : Td) : (tlD t).map sndD = (vals t).map Vl.d := by
  unfold tlD vals
  rw [List.map_map, List.map_map]
  rfl
def W_mei (C : Addr) : Wt := fun ds M k => ∃ (a dx : Addr) (e : En), ds = [.ref a, .lst (tlD e.told), e.ans.d, lsD e.last] ∧ M = [(a, .ins C dx [])] ∧ k .non [(a, .ins C dx (MeF e))]
def W_tui (C : Addr) : Wt := fun ds M k => ∃ (a dx : Addr) (n : Nm) (f : Fo) (mo : Option Mo), ds = [.ref a, .str (tx n), f.d, moD mo] ∧ M = [(a, .ins C dx [])] ∧ ∀ tl, k .non (Tu.m C ⟨a, dx, tl, n, f, [], mo.isSome, mo⟩)
def W_tev (CE C : Addr) : Wt := fun ds M k => ∃ (u : Tu), ds = [.ref u.a] ∧ M = u.m C ∧ u.Ok ∧ ∀ e dx M', EvR CE dx e (vals u.told) (nx u.f u.told) M' → k (.ref e) (M' ++ u.m C)
def W_tnx (CM C : Addr) : Wt := fun ds M k => ∃ (u : Tu), ds = [.ref u.a] ∧ M = u.m C ++ u.kp CM ∧ u.Ok ∧ k (nxD (nx u.f u.told)) (u.m C ++ u.kp CM)
def W_trs (CM C : Addr) : Wt := fun ds M k => ∃ (u : Tu) (v : Vl) (w : Nat), ds = [.ref u.a] ∧ M = u.m C ++ u.kp CM ∧ u.Ok ∧ nx u.f u.told = .done v w ∧ k v.d (u.m C ++ u.kp CM)
/-- does it still go by its memo -/
def Tu.keeps (u : Tu) (v : Vl) : Bool := u.kept && match u.mo with
  | some m => (match m.e.told[u.told.length]? with
    | some p => decide (p.2 = v)
    | none => false)
  | none => false
def Tu.hears (u : Tu) (n : Nm) (v : Vl) : Tu := { u with told := u.told ++ [(n, v)], kept := u.keeps v }
def W_thr (CM C : Addr) : Wt := fun ds M k => ∃ (u : Tu) (n : Nm) (v : Vl), ds = [.ref u.a, .str (tx n), v.d] ∧ M = u.m C ++ u.kp CM ∧ u.Ok ∧ (∃ w, nx u.f u.told = .ask n w) ∧ k .non ((u.hears n v).m C ++ u.kp CM)
section
variable {P : Program} {w : World} {K : PySem.W.Frag} {mg : Str → Option Value} {base : Heap} {CE CM C : Addr}
theorem m_meinit (kM : Cl_Memo K mg CM) (T : Top K mg w) : C8.Mak P w K mg base 1 "Memo" CM (Spc K (W_mei CM)) [] := mak_of kM.m kM.mk1 kM.mk2 kM.d___init__ fun f fd F => by
  exact spc_ok F sc_Memo___init__ (fun ds M k h => by obtain ⟨a, dx, e, rfl, _⟩ := h; rfl) fun cdv A outer s H E hr => ⟨_, (pss_cons (sfld_K (K := K) (pv 0) (pv 1))
      (pss_cons (sfld_K (K := K) (pv 0) (pv 2))
      (pss_one (sfld_K (K := K) (pv 0) (pv 3))))), fun ds M kk hw => by
    obtain ⟨a, dx, e, rfl, rfl, q⟩ := hw
    refine as_start (δ' := [some (.ref a), some (.lst (tlD e.told)), some e.ans.d, some (lsD e.last)]) rfl ?_
    refine as_seq (as_sfld ?_)
    walk_at "tg"
    refine ⟨a, CM, dx, _, [], [], rfl, rfl, kM.cl, kM.n_told, by show 0 < 1000; decide, ?_⟩
    refine as_seq (as_sfld ?_)
    walk_at "tg"
    refine ⟨a, CM, dx, _, [], [], rfl, rfl, kM.cl, kM.n_answer, by show 1 < 1000; decide, ?_⟩
    refine as_sfld ?_
    walk_at "tg"
    refine ⟨a, CM, dx, _, [], [], rfl, rfl, kM.cl, kM.n_last, by show 2 < 1000; decide, ?_⟩
    exact q⟩
theorem m_tuinit (kT : Cl_Turn K mg C) (T : Top K mg w) : C8.Mak P w K mg base 1 "Turn" C (Spc K (W_tui C)) [] := mak_of kT.m kT.mk1 kT.mk2 kT.d___init__ fun f fd F => by
  exact spc_ok F sc_Turn___init__ (fun ds M k h => by obtain ⟨a, dx, n, f, mo, rfl, _⟩ := h; rfl) fun cdv A outer s H E hr => ⟨_, (pss_cons (sfld_K (K := K) (pv 0) (pv 1))
      (pss_cons (sfld_K (K := K) (pv 0) (pe_lstM (pe_lst pa_nil)))
      (pss_cons (sfld_K (K := K) (pv 0) (pe_cmpR op_notN1 (pv 3) pe_non (nomark _)))
      (pss_cons (sfld_K (K := K) (pv 0) (pv 2))
      (pss_one (sfld_K (K := K) (pv 0) (pv 3))))))), fun ds M kk hw => by
    obtain ⟨a, dx, n, fo, mo, rfl, rfl, q⟩ := hw
    refine as_start (δ' := [some (.ref a), some (.str (tx n)), some fo.d, some (moD mo)]) rfl ?_
    refine as_seq (as_sfld ?_)
    walk_at "tg"
    refine ⟨a, C, dx, _, [], [], rfl, rfl, kT.cl, kT.n_name, by show 0 < 1000; decide, ?_⟩
    refine as_seq (as_sfld ?_)
    walk_at "tg"
    intro tl
    walk_at "tg"
    refine ⟨a, C, dx, _, [], [_], rfl, rfl, kT.cl, kT.n_told, by show 1 < 1000; decide, ?_⟩
    refine as_seq (as_sfld ?_)
    walk_at "tg"
    have e : (!isNon (moD mo)) = mo.isSome := by cases mo <;> rfl
    rw [e]
    refine ⟨a, C, dx, _, [], [_], rfl, rfl, kT.cl, kT.n_is_kept, by show 2 < 1000; decide, ?_⟩
    refine as_seq (as_sfld ?_)
    walk_at "tg"
    refine ⟨a, C, dx, _, [], [_], rfl, rfl, kT.cl, kT.n__formula, by show 3 < 1000; decide, ?_⟩
    refine as_sfld ?_
    walk_at "tg"
    refine ⟨a, C, dx, _, [], [_], rfl, rfl, kT.cl, kT.n__memo, by show 4 < 1000; decide, ?_⟩
    exact q tl⟩
theorem m_tuev (kT : Cl_Turn K mg C) (kE : Cl_Evaluation K mg CE) (T : Top K mg w) : C8.Met P w K mg base 13 C "_evaluation" (Spc K (W_tev CE C)) [] := met_of kT.cl kT.d__evaluation fun f fd F => by
  have c_Evaluation := m_evinit (P := P) (w := w) (base := base) kE T
  exact spc_ok F sc_Turn__evaluation (fun ds M k h => by obtain ⟨u, rfl, _⟩ := h; rfl) fun cdv A outer s H E hr => ⟨_, (pss_one (ps_ret (pe_mk c_Evaluation hr (by first | decide | omega) (by rfl) (pa_cons (fld_K (K := K) (pv 0)) (pa_cons (pe_lc (own := [("_", 1), ("answer", 2)]) (g := gTup K 2 (gCons (gName 1) (gCons (gName 2) gNil))) rfl sc_Turn__evaluation.nd (seq_K (K := K) (fld_K (K := K) (pv 0))) (blkOk_by (own := [("_", 1), ("answer", 2)]) (N := ["self", "_", "answer"]) (sc := defScope s_Turn__evaluation) (by decide +kernel)) (fun _ _ _ _ _ => (gtup_K (K := K) (n := 2) rfl (pgs_cons (pg_name (i := 1) sc_Turn__evaluation.nd rfl (Or.inl rfl)) (pgs_cons (pg_name (i := 2) sc_Turn__evaluation.nd rfl (Or.inl rfl)) pgs_nil)))) (fun _ _ _ _ _ => pts_nil) (fun _ _ _ _ _ => (pv 2))) pa_nil))))), fun ds M kk hw => by
    obtain ⟨u, rfl, rfl, ok, q⟩ := hw
    have hsz := sizeLine_eq
    have hsm := ok.small
    refine as_start (δ' := [some (.ref u.a), none, none]) rfl ?_
    refine as_ret (ae_make (aa_cons (ae_fldm (ae_var rfl ⟨u.a, C, u.dx, _, u.f.d, rfl, List.mem_cons_self, kT.cl, kT.n__formula, rfl, ?_⟩))))
    refine aa_cons (ae_lcF (a := u.tl) (ds := tlD u.told) (ownG_tup (ownGs_cons (by simp) (ownGs_cons (by simp) ownGs_nil))) sndD ?_ rfl ?_ ?_)
    · refine ae_fldm (ae_var rfl ⟨u.a, C, u.dx, _, .ref u.tl, rfl, List.mem_cons_self, kT.cl, kT.n_told, rfl, ?_⟩)
      exact ⟨rfl, rfl, List.mem_cons_of_mem _ (List.mem_singleton_self _), by rw [tlD_len]; omega⟩
    · intro d hd
      obtain ⟨p, _, rfl⟩ := List.mem_map.mp hd
      unfold tdD
      walk_at "tg"
      exact ⟨rfl, rfl⟩
    · rw [tl_snd]
      refine aa_nil fun e dx => ⟨fun d M => d = .non ∧ EvR CE dx e (vals u.told) (nx u.f u.told) M, ⟨e, dx, u.f, vals u.told, rfl, rfl, ok.f, by rw [vals_len]; omega, fun M' h => ⟨rfl, h⟩⟩, ?_⟩
      rintro _ M' ⟨rfl, h⟩
      exact ⟨rfl, q e dx M' h⟩⟩
end

theorem eqD_vl (v x : Vl) : eqD v.d x.d = decide (v = x) := by
  cases v with
  | non => cases x <;> rfl
  | cyc =>
    cases x with
    | cyc => exact eqv_self (eqb_vl .cyc).1
    | non => rfl
    | int i => rfl
  | int i =>
    cases x with
    | non => rfl
    | cyc => rfl
    | int j =>
      show (i == j) = _
      by_cases c : i = j
      · subst c; simp
      · rw [beq_eq_false_iff_ne.mpr c, decide_eq_false fun z => c (Vl.int.inj z)]
theorem Tu.kp_kept {u : Tu} {C : Addr} {m : Mo} (h : u.kept = true) (hm : u.mo = some m) : u.kp C = [m.m C] := by
  unfold Tu.kp
  rw [hm, h]
  rfl
theorem Tu.kp_not {u : Tu} {C : Addr} (h : u.kept = false) : u.kp C = [] := by
  unfold Tu.kp
  rw [h]
  cases u.mo <;> rfl
theorem pre_get {t s : Td} (h : s.take t.length = t) (hl : t.length < s.length) : ∃ n v, s[t.length]? = some (n, v) := ⟨_, _, List.getElem?_eq_getElem hl⟩
theorem pre_le {t s : Td} (h : s.take t.length = t) : t.length ≤ s.length := by
  have := congrArg List.length h
  rw [List.length_take] at this
  omega
/-- what a turn that goes by its memo asks next -/
theorem memo_ask {f : Fo} {m : En} {t : Td} (o : MOk f m) (h : m.told.take t.length = t) : (t.length < m.told.length → ∃ n v w, m.told[t.length]? = some (n, v) ∧ nx f t = .ask n w) ∧
    (¬ t.length < m.told.length → t = m.told ∧ ((m.last = none ∧ ∃ w, nx f t = .done m.ans w) ∨ ∃ n w, m.last = some n ∧ nx f t = .ask n w)) := by
  refine ⟨fun hl => ?_, fun hl => ?_⟩
  · obtain ⟨n, v, w, e, a⟩ := o.asked.open hl
    rw [h] at a
    exact ⟨n, v, w, e, a⟩
  · have hle := pre_le h
    have e : t.length = m.told.length := by omega
    rw [e, List.take_length] at h
    subst h
    refine ⟨rfl, ?_⟩
    cases hl : m.last with
    | none => exact .inl ⟨rfl, o.dn hl⟩
    | some n =>
      obtain ⟨_, w, hw⟩ := o.rg n hl
      exact .inr ⟨n, w, rfl, hw⟩
section
variable {P : Program} {w : World} {K : PySem.W.Frag} {mg : Str → Option Value} {base : Heap} {CE CM C : Addr}
theorem m_tunext (kT : Cl_Turn K mg C) (kM : Cl_Memo K mg CM) (kE : Cl_Evaluation K mg CE) (T : Top K mg w) : C8.Met P w K mg base 14 C "next_name" (Spc K (W_tnx CM C)) [] := met_of kT.cl kT.d_next_name fun f fd F => by
  have c_Turn__evaluation := m_tuev (P := P) (w := w) (base := base) kT kE T
  exact spc_ok F sc_Turn_next_name (fun ds M k h => by obtain ⟨u, rfl, _⟩ := h; rfl) fun cdv A outer s H E hr => ⟨_, (pss_cons (ps_if (pt_not (tru_K (K := K) (fld_K (K := K) (pv 0))))
      (pss_one (ps_ret (fld_K (K := K) (C8.pe_mt0 c_Turn__evaluation hr (by first | decide | omega) (pv 0)))))
      pss_nil)
      (pss_cons (ps_if (pt_cmpR op_lt (pe_callB (len_K (K := K)) (by rfl) T.m_len (by decide +kernel) (pa_cons (fld_K (K := K) (pv 0)) pa_nil)) (pe_callB (len_K (K := K)) (by rfl) T.m_len (by decide +kernel) (pa_cons (fld_K (K := K) (fld_K (K := K) (pv 0))) pa_nil)) (nomark _))
      (pss_one (ps_ret (pe_ix (ix_K (K := K)) (pe_ix (ix_K (K := K)) (fld_K (K := K) (fld_K (K := K) (pv 0))) (pe_callB (len_K (K := K)) (by rfl) T.m_len (by decide +kernel) (pa_cons (fld_K (K := K) (pv 0)) pa_nil)) (fun _ _ => rfl)) pe_int (fun _ _ => rfl))))
      pss_nil)
      (pss_one (ps_ret (fld_K (K := K) (fld_K (K := K) (pv 0))))))), fun ds M kk hw => by
    obtain ⟨u, rfl, rfl, ok, q⟩ := hw
    have hsz := sizeLine_eq
    have hsm := ok.small
    refine as_start (δ' := [some (.ref u.a)]) rfl ?_
    refine as_seq (as_if ?_)
    walk_at "tg"
    refine ae_fldm (ae_var rfl ⟨u.a, C, u.dx, _, .bl u.kept, rfl, List.mem_cons_self, kT.cl, kT.n_is_kept, rfl, ?_⟩)
    cases hk : u.kept with
    | false =>
      walk_at "tg1"
      walk_at "tg1"
      refine as_ret ?_
      refine ae_lose' (ae_fldm (ae_methP (ae_var rfl ⟨u.a, u.dx, _, rfl, List.mem_cons_self, rfl, aa_nil ?_⟩)))
      refine ⟨u.m C, u.kp CM, fun d M => ∃ e dx M', d = .ref e ∧ M = M' ++ u.m C ∧ EvR CE dx e (vals u.told) (nx u.f u.told) M', List.Perm.refl _, ⟨u, rfl, rfl, ok, fun e dx M' h => ⟨e, dx, M', rfl, rfl, h⟩⟩, ?_⟩
      rintro _ _ ⟨e, dx, M', rfl, rfl, h⟩
      have hp : ((M' ++ u.m C) ++ u.kp CM).Perm ((u.m C ++ u.kp CM) ++ M') := by
        rw [List.append_assoc]
        exact List.perm_append_comm
      rcases h with ⟨m, w, d, hr, _, rfl⟩ | ⟨w, d, hr, _, rfl⟩ | ⟨v, w, hr, _, rfl⟩
      · refine ⟨e, CE, dx, _, .str (tx m), rfl, List.mem_append_left _ (List.mem_append_left _ (List.mem_singleton_self _)), kE.cl, kE.n_wanted, rfl, _, _, hp, ?_⟩
        rw [hr] at q
        exact q
      · refine ⟨e, CE, dx, _, .non, rfl, List.mem_append_left _ (List.mem_append_left _ (List.mem_singleton_self _)), kE.cl, kE.n_wanted, rfl, _, _, hp, ?_⟩
        rw [hr] at q
        exact q
      · refine ⟨e, CE, dx, _, .non, rfl, List.mem_append_left _ (List.mem_append_left _ (List.mem_singleton_self _)), kE.cl, kE.n_wanted, rfl, _, _, hp, ?_⟩
        rw [hr] at q
        exact q
    | true =>
      obtain ⟨m, hm, mok, hpre⟩ := ok.kept hk
      have hmem : (m.a, MO.ins CM m.dx (MeF m.e)) ∈ u.m C ++ u.kp CM := by
        rw [Tu.kp_kept hk hm]
        exact List.mem_append_right _ (List.mem_singleton_self _)
      have htu : (u.a, MO.ins C u.dx (TuF u)) ∈ u.m C ++ u.kp CM := List.mem_cons_self
      have htl : (u.tl, MO.lst (tlD u.told)) ∈ u.m C ++ u.kp CM := List.mem_cons_of_mem _ List.mem_cons_self
      have hms := asked_small ok.f mok.asked
      obtain ⟨a1, a2⟩ := memo_ask mok hpre
      have memo : ∀ {δ : DS} {k : D → Mu → Prop}, δ[0]? = some (some (.ref u.a)) → k (.ref m.a) (u.m C ++ u.kp CM) → AE K (tFld K (tVar 0) "_memo") δ (u.m C ++ u.kp CM) k := fun h0 h1 =>
        ae_fldm (ae_var h0 ⟨u.a, C, u.dx, _, .ref m.a, rfl, htu, kT.cl, kT.n__memo, by show some (moD u.mo) = _; rw [hm]; rfl, h1⟩)
      have told : ∀ {δ : DS} {k : D → Mu → Prop}, δ[0]? = some (some (.ref u.a)) → k (.ref u.tl) (u.m C ++ u.kp CM) → AE K (tFld K (tVar 0) "told") δ (u.m C ++ u.kp CM) k := fun h0 h1 =>
        ae_fldm (ae_var h0 ⟨u.a, C, u.dx, _, .ref u.tl, rfl, htu, kT.cl, kT.n_told, rfl, h1⟩)
      obtain ⟨N1, N2, hN⟩ := List.append_of_mem htl
      walk_at "tg1"
      walk_at "tg1"
      walk_at "tg1"
      refine as_seq (as_if ?_)
      walk_at "tg"
      refine told rfl ?_
      walk_at "tg"
      refine ae_fldm (memo rfl ⟨m.a, CM, m.dx, _, .lst (tlD m.e.told), rfl, hmem, kM.cl, kM.n_told, rfl, ?_⟩)
      walk_at "tg"
      rw [tlD_len, tlD_len]
      refine dcase (fun c => ?_) (fun c => ?_)
      · obtain ⟨n, v, w, e1, e2⟩ := a1 (by omega)
        rw [e2] at q
        refine as_ret (ae_op (ae_op (ae_fldm (memo rfl ⟨m.a, CM, m.dx, _, .lst (tlD m.e.told), rfl, hmem, kM.cl, kM.n_told, rfl, ?_⟩))))
        walk_at "tg"
        refine told rfl ?_
        walk_at "tg"
        rw [tlD_len]
        refine aix_L (d := tdD (n, v)) (atI_nat (by unfold tlD; rw [List.getElem?_map, e1]; rfl)) ?_
        unfold tdD
        walk_at "tg"
        exact q
      · obtain ⟨e1, e2⟩ := a2 (by omega)
        walk_at "tg"
        refine ae_fldm (memo rfl ⟨m.a, CM, m.dx, _, lsD m.e.last, rfl, hmem, kM.cl, kM.n_last, rfl, ?_⟩)
        rcases e2 with ⟨h1, w, h2⟩ | ⟨n, w, h1, h2⟩
        · rw [h1]
          rw [h2] at q
          exact q
        · rw [h1]
          rw [h2] at q
          exact q⟩
theorem m_turesult (kT : Cl_Turn K mg C) (kM : Cl_Memo K mg CM) (kE : Cl_Evaluation K mg CE) (T : Top K mg w) : C8.Met P w K mg base 14 C "result" (Spc K (W_trs CM C)) [] := met_of kT.cl kT.d_result fun f fd F => by
  have c_Turn__evaluation := m_tuev (P := P) (w := w) (base := base) kT kE T
  have c_Evaluation_result := m_evresult (P := P) (w := w) (base := base) kE T
  exact spc_ok F sc_Turn_result (fun ds M k h => by obtain ⟨u, v, w, rfl, _⟩ := h; rfl) fun cdv A outer s H E hr => ⟨_, (pss_cons (ps_if (tru_K (K := K) (fld_K (K := K) (pv 0)))
      (pss_one (ps_ret (fld_K (K := K) (fld_K (K := K) (pv 0)))))
      pss_nil)
      (pss_one (ps_ret (C8.pe_mt0 c_Evaluation_result hr (by first | decide | omega) (C8.pe_mt0 c_Turn__evaluation hr (by first | decide | omega) (pv 0)))))), fun ds M kk hw => by
    obtain ⟨u, v, z, rfl, rfl, ok, hd, q⟩ := hw
    have hsz := sizeLine_eq
    refine as_start (δ' := [some (.ref u.a)]) rfl ?_
    refine as_seq (as_if ?_)
    walk_at "tg"
    refine ae_fldm (ae_var rfl ⟨u.a, C, u.dx, _, .bl u.kept, rfl, List.mem_cons_self, kT.cl, kT.n_is_kept, rfl, ?_⟩)
    cases hk : u.kept with
    | false =>
      walk_at "tg1"
      walk_at "tg1"
      walk_at "tg1"
      refine as_ret ?_
      refine ae_lose' (ae_methP (ae_methP (ae_var rfl ⟨u.a, u.dx, _, rfl, List.mem_cons_self, rfl, aa_nil ?_⟩)))
      refine ⟨u.m C, u.kp CM, fun d M => ∃ e dx M', d = .ref e ∧ M = M' ++ u.m C ∧ EvR CE dx e (vals u.told) (nx u.f u.told) M', List.Perm.refl _, ⟨u, rfl, rfl, ok, fun e dx M' h => ⟨e, dx, M', rfl, rfl, h⟩⟩, ?_⟩
      rintro _ _ ⟨e, dx, M', rfl, rfl, h⟩
      rw [hd] at h
      have hp : ((M' ++ u.m C) ++ u.kp CM).Perm ((u.m C ++ u.kp CM) ++ M') := by
        rw [List.append_assoc]
        exact List.perm_append_comm
      have hp2 : (M' ++ (u.m C ++ u.kp CM)).Perm ((u.m C ++ u.kp CM) ++ M') := List.perm_append_comm
      have mem : ∃ fs, (e, MO.ins CE dx fs) ∈ (M' ++ u.m C) ++ u.kp CM ∧ fs.lookup ("result" : Str) = none := by
        rcases h with ⟨m, w, d, hr, _, rfl⟩ | ⟨w, d, hr, _, rfl⟩ | ⟨v', w, hr, _, rfl⟩ <;> exact ⟨_, List.mem_append_left _ (List.mem_append_left _ (List.mem_singleton_self _)), rfl⟩
      obtain ⟨fs, hm1, hm2⟩ := mem
      refine ⟨e, dx, fs, rfl, hm1, hm2, aa_nil ?_⟩
      refine ⟨M', u.m C ++ u.kp CM, fun d M => d = v.d ∧ M = M', by rw [List.append_assoc], ⟨e, dx, vals u.told, v, z, rfl, h, rfl, rfl⟩, ?_⟩
      rintro _ _ ⟨rfl, rfl⟩
      exact ⟨_, _, hp2, q⟩
    | true =>
      obtain ⟨m, hm, mok, hpre⟩ := ok.kept hk
      have hmem : (m.a, MO.ins CM m.dx (MeF m.e)) ∈ u.m C ++ u.kp CM := by
        rw [Tu.kp_kept hk hm]
        exact List.mem_append_right _ (List.mem_singleton_self _)
      have htu : (u.a, MO.ins C u.dx (TuF u)) ∈ u.m C ++ u.kp CM := List.mem_cons_self
      obtain ⟨a1, a2⟩ := memo_ask mok hpre
      have hv : m.e.ans = v := by
        by_cases c : u.told.length < m.e.told.length
        · obtain ⟨n, x, w, _, e2⟩ := a1 c
          rw [hd] at e2
          cases e2
        · obtain ⟨_, e2⟩ := a2 c
          rcases e2 with ⟨_, w, h2⟩ | ⟨n, w, _, h2⟩
          · rw [hd] at h2
            cases h2
            rfl
          · rw [hd] at h2
            cases h2
      walk_at "tg1"
      walk_at "tg1"
      refine as_ret (ae_fldm (ae_fldm (ae_var rfl ⟨u.a, C, u.dx, _, .ref m.a, rfl, htu, kT.cl, kT.n__memo, by show some (moD u.mo) = _; rw [hm]; rfl, ?_⟩)))
      refine ⟨m.a, CM, m.dx, _, m.e.ans.d, rfl, hmem, kM.cl, kM.n_answer, rfl, ?_⟩
      rw [hv]
      exact q⟩
end

section
variable {P : Program} {w : World} {K : PySem.W.Frag} {mg : Str → Option Value} {base : Heap} {CE CM C : Addr}
theorem m_tuhear (kT : Cl_Turn K mg C) (kM : Cl_Memo K mg CM) (T : Top K mg w) : C8.Met P w K mg base 1 C "hear" (Spc K (W_thr CM C)) [] := met_of kT.cl kT.d_hear fun f fd F => by
  exact spc_ok F sc_Turn_hear (fun ds M k h => by obtain ⟨u, n, v, rfl, _⟩ := h; rfl) fun cdv A outer s H E hr => ⟨_, (pss_cons (ps_set (i := 3) sc_Turn_hear.nd rfl (Or.inl rfl) (pe_callB (len_K (K := K)) (by rfl) T.m_len (by decide +kernel) (pa_cons (fld_K (K := K) (pv 0)) pa_nil)))
      (pss_cons (ps_if (pw_and (tru_K (K := K) (fld_K (K := K) (pv 0))) (pw_and1 (pw_or (pt_cmpR (eqU_K (K := K) hr) (pv 3) (pe_callB (len_K (K := K)) (by rfl) T.m_len (by decide +kernel) (pa_cons (fld_K (K := K) (fld_K (K := K) (pv 0))) pa_nil)) (nomark _)) (pw_or1 (pt_cmpR (neU_K (K := K) hr) (pe_ix (ix_K (K := K)) (pe_ix (ix_K (K := K)) (fld_K (K := K) (fld_K (K := K) (pv 0))) (pv 3) (fun _ _ => rfl)) pe_int (fun _ _ => rfl)) (pv 2) (nomark _)))).pt)).pt
      (pss_one (sfld_K (K := K) (pv 0) pe_bl))
      pss_nil)
      (pss_one (ps_expr (app_K (K := K) (pe_bm PySem.F.plainAttrs_list PySem.F.slot_list_append PySem.F.type_list_append mt_append (fld_K (K := K) (pv 0)) (pa_cons (pe_tup (pa_cons (pv 1) (pa_cons (pv 2) pa_nil))) pa_nil))))))), fun ds M kk hw => by
    obtain ⟨u, n, v, rfl, rfl, ok, ⟨z, hz⟩, q⟩ := hw
    have hsz := sizeLine_eq
    have hsm := ok.small
    refine as_start (δ' := [some (.ref u.a), some (.str (tx n)), some v.d, none]) rfl ?_
    have htu : (u.a, MO.ins C u.dx (TuF u)) ∈ u.m C ++ u.kp CM := List.mem_cons_self
    have htl : (u.tl, MO.lst (tlD u.told)) ∈ u.m C ++ u.kp CM := List.mem_cons_of_mem _ List.mem_cons_self
    have told : ∀ {δ : DS} {k : D → Mu → Prop}, δ[0]? = some (some (.ref u.a)) → k (.ref u.tl) (u.m C ++ u.kp CM) → AE K (tFld K (tVar 0) "told") δ (u.m C ++ u.kp CM) k := fun h0 h1 =>
      ae_fldm (ae_var h0 ⟨u.a, C, u.dx, _, .ref u.tl, rfl, htu, kT.cl, kT.n_told, rfl, h1⟩)
    refine as_seq ?_
    walk_at "tg1"
    walk_at "tg1"
    walk_at "tg1"
    refine told rfl ?_
    walk_at "tg"
    rw [tlD_len]
    show AS K _ _ (u.m C ++ u.kp CM) _
    let u2 : Tu := { u with kept := u.keeps v }
    refine as_cut (fun δ' M' => δ' = [some (.ref u.a), some (.str (tx n)), some v.d, some (.int (u.told.length : Nat))] ∧ M' = u2.m C ++ u.kp CM) ?_ ?_
    · have setF : ∀ {δ : DS}, δ = [some (.ref u.a), some (.str (tx n)), some v.d, some (.int (u.told.length : Nat))] → u.keeps v = false →
          AS K (sFld K (tVar 0) (tC (.bl false)) "is_kept") δ (u.m C ++ u.kp CM) { nx := fun δ' M' => δ' = [some (.ref u.a), some (.str (tx n)), some v.d, some (.int (u.told.length : Nat))] ∧ M' = u2.m C ++ u.kp CM, rt := kk } := fun hδ hk => by
        refine as_sfld (ae_bl (ae_var (d := .ref u.a) (by rw [hδ]; rfl) ⟨u.a, C, u.dx, TuF u, [], _, rfl, rfl, kT.cl, kT.n_is_kept, by show 5 < 1000; decide, hδ, ?_⟩))
        show _ = (u.a, MO.ins C u.dx (TuF u2)) :: (u.tl, MO.lst (tlD u.told)) :: u.kp CM
        have e : TuF u2 = putFD "is_kept" (.bl false) (TuF u) := by
          have e2 : u2 = { u with kept := false } := by
            show ({ u with kept := u.keeps v } : Tu) = _
            rw [hk]
          rw [e2]
          rfl
        rw [e]
        rfl
      cases hk : u.kept with
      | false =>
        have hkv : u.keeps v = false := by unfold Tu.keeps; rw [hk]; rfl
        refine as_if (at_and (at_tru (ae_fldm (ae_var rfl ⟨u.a, C, u.dx, _, .bl u.kept, rfl, htu, kT.cl, kT.n_is_kept, rfl, ?_⟩))))
        rw [hk]
        walk_at "tg"
        refine ⟨rfl, ?_⟩
        have e : u2 = u := by
          show ({ u with kept := u.keeps v } : Tu) = u
          rw [hkv, ← hk]
        rw [e]
      | true =>
        obtain ⟨m, hm, mok, hpre⟩ := ok.kept hk
        have hmem : (m.a, MO.ins CM m.dx (MeF m.e)) ∈ u.m C ++ u.kp CM := by
          rw [Tu.kp_kept hk hm]
          exact List.mem_append_right _ (List.mem_singleton_self _)
        have hms := asked_small ok.f mok.asked
        have memo : ∀ {δ : DS} {k : D → Mu → Prop}, δ[0]? = some (some (.ref u.a)) → k (.ref m.a) (u.m C ++ u.kp CM) → AE K (tFld K (tVar 0) "_memo") δ (u.m C ++ u.kp CM) k := fun h0 h1 =>
          ae_fldm (ae_var h0 ⟨u.a, C, u.dx, _, .ref m.a, rfl, htu, kT.cl, kT.n__memo, by show some (moD u.mo) = _; rw [hm]; rfl, h1⟩)
        refine as_if (at_and (at_tru (ae_fldm (ae_var rfl ⟨u.a, C, u.dx, _, .bl u.kept, rfl, htu, kT.cl, kT.n_is_kept, rfl, ?_⟩))))
        rw [hk]
        walk_at "tg"
        refine ae_fldm (memo rfl ⟨m.a, CM, m.dx, _, .lst (tlD m.e.told), rfl, hmem, kM.cl, kM.n_told, rfl, ?_⟩)
        walk_at "tg"
        rw [tlD_len]
        refine ar_eqS (b := decide (u.told.length = m.e.told.length)) (by show some (decide ((u.told.length : Int) = (m.e.told.length : Int))) = _; congr 1; exact decide_eq_decide.mpr (by omega)) ?_
        walk_at "tg"
        refine dcaseR (fun c => ?_) (fun c => ?_)
        · have hle := pre_le hpre
          obtain ⟨n', x, e1⟩ := pre_get hpre (by omega)
          walk_at "tg"
          have hkv : u.keeps v = decide (x = v) := by
            unfold Tu.keeps
            rw [hk, hm]
            dsimp only
            rw [e1]
            exact Bool.true_and _
          refine ae_fldm (memo rfl ⟨m.a, CM, m.dx, _, .lst (tlD m.e.told), rfl, hmem, kM.cl, kM.n_told, rfl, ?_⟩)
          walk_at "tg"
          refine aix_L (d := tdD (n', x)) (atI_nat (by unfold tlD; rw [List.getElem?_map, e1]; rfl)) ?_
          unfold tdD
          walk_at "tg"
          refine ar_neT (eqb_vl x) (eqb_vl v) ?_
          rw [eqD_vl]
          walk_at "tg"
          refine dcaseN (fun c2 => ?_) (fun c2 => ?_)
          · exact setF rfl (by rw [hkv, decide_eq_false c2])
          · walk_at "tg"
            refine ⟨rfl, ?_⟩
            have e : u2 = u := by
              show ({ u with kept := u.keeps v } : Tu) = u
              rw [hkv, decide_eq_true c2, ← hk]
            rw [e]
        · have e1 : m.e.told[u.told.length]? = none := List.getElem?_eq_none_iff.mpr (by omega)
          refine ⟨fun _ => setF rfl ?_, fun z => nomatch z⟩
          unfold Tu.keeps
          rw [hk, hm]
          dsimp only
          rw [e1]
          rfl
    · rintro _ _ ⟨rfl, rfl⟩
      refine as_drop (ae_lm (ae_fldm (ae_var rfl ⟨u.a, C, u.dx, TuF u2, .ref u.tl, rfl, List.mem_cons_self, kT.cl, kT.n_told, rfl, ?_⟩)))
      walk_at "tg"
      refine app1 (by rw [tlD_len]; show u.told.length < _; omega) ?_
      have e : tlD u2.told ++ [.tup [.str (tx n), v.d]] = tlD (u.hears n v).told := by
        show tlD u.told ++ [tdD (n, v)] = tlD (u.told ++ [(n, v)])
        unfold tlD
        rw [List.map_append]
        rfl
      rw [e]
      exact q⟩
end

/-! ### rows of pairs as dicts -/
section
variable {α : Type}
def lkA (l : List (Nm × α)) (n : Nm) : Option α := (l.find? fun p => decide (p.1 = n)).map (·.2)
def puA (l : List (Nm × α)) (n : Nm) (x : α) : List (Nm × α) := if (l.any fun p => decide (p.1 = n)) = true then l.map (fun p => if p.1 = n then (p.1, x) else p) else l ++ [(n, x)]
def drA (l : List (Nm × α)) (n : Nm) : List (Nm × α) := l.filter fun p => decide (p.1 ≠ n)
def kvD (g : α → D) (l : List (Nm × α)) : List (Key × D) := l.map fun p => (.inr (tx p.1), g p.2)
theorem tx_inj {a b : List Nat} (h : tx a = tx b) : a = b := by
  have := congrArg (fun s : Str => s.cps.toList) h
  rwa [tx_cps, tx_cps] at this
theorem key_eq {a b : Nm} : (Sum.inr (tx a) : Key) = .inr (tx b) ↔ a = b := ⟨fun h => tx_inj (Sum.inr.inj h), fun h => by rw [h]⟩
theorem kvD_len (g : α → D) (l : List (Nm × α)) : (kvD g l).length = l.length := List.length_map ..
theorem valD_kv {g : α → D} {n : Nm} : ∀ {l : List (Nm × α)}, valD (kvD g l) (.inr (tx n)) = (lkA l n).map g
  | [] => rfl
  | (m, x) :: r => by
    have ih := valD_kv (g := g) (n := n) (l := r)
    unfold valD lkA kvD at ih ⊢
    rw [List.map_cons, List.find?_cons, List.find?_cons]
    by_cases c : m = n
    · subst c
      rw [decide_eq_true (key_eq.mpr rfl), decide_eq_true rfl]
      rfl
    · rw [decide_eq_false (fun h => c (key_eq.mp h)), decide_eq_false c]
      exact ih
theorem any_kv {g : α → D} {n : Nm} (l : List (Nm × α)) : ((kvD g l).any fun kv => decide (kv.1 = Sum.inr (tx n))) = l.any fun p => decide (p.1 = n) := by
  unfold kvD
  rw [List.any_map]
  congr 1
  funext p
  exact decide_eq_decide.mpr key_eq
theorem putD_kv {g : α → D} {n : Nm} {x : α} (l : List (Nm × α)) : putD (kvD g l) (.inr (tx n)) (g x) = kvD g (puA l n x) := by
  unfold putD puA
  rw [any_kv]
  split
  · unfold kvD
    rw [List.map_map, List.map_map]
    congr 1
    funext p
    show (if (Sum.inr (tx p.1) : Key) = .inr (tx n) then _ else _) = _
    by_cases c : p.1 = n
    · rw [if_pos (key_eq.mpr c)]
      show _ = ((Sum.inr (tx (if p.1 = n then (p.1, x) else p).1) : Key), g (if p.1 = n then (p.1, x) else p).2)
      rw [if_pos c]
    · rw [if_neg fun h => c (key_eq.mp h)]
      show _ = ((Sum.inr (tx (if p.1 = n then (p.1, x) else p).1) : Key), g (if p.1 = n then (p.1, x) else p).2)
      rw [if_neg c]
  · unfold kvD
    rw [List.map_append]
    rfl
theorem dropD_kv {g : α → D} {n : Nm} (l : List (Nm × α)) : dropD (kvD g l) (.inr (tx n)) = kvD g (drA l n) := by
  unfold dropD kvD drA
  rw [List.filter_map]
  congr 1
  congr 1
  funext p
  show decide ((Sum.inr (tx p.1) : Key) ≠ .inr (tx n)) = decide (p.1 ≠ n)
  exact decide_eq_decide.mpr (not_congr key_eq)
theorem lkA_cons {m n : Nm} {x : α} {r : List (Nm × α)} : lkA ((m, x) :: r) n = if m = n then some x else lkA r n := by
  unfold lkA
  rw [List.find?_cons]
  by_cases c : m = n
  · rw [decide_eq_true c, if_pos c]
    rfl
  · rw [decide_eq_false c, if_neg c]
theorem lkA_none {n : Nm} : ∀ {l : List (Nm × α)}, lkA l n = none ↔ n ∉ l.map (·.1)
  | [] => by simp [lkA]
  | (m, x) :: r => by
    rw [lkA_cons, List.map_cons, List.mem_cons]
    by_cases c : m = n
    · rw [if_pos c]
      simp [c]
    · rw [if_neg c, lkA_none]
      simp [Ne.symm c]
theorem lkA_mem {n : Nm} {x : α} : ∀ {l : List (Nm × α)}, lkA l n = some x → (n, x) ∈ l
  | [], h => by cases h
  | (m, y) :: r, h => by
    rw [lkA_cons] at h
    by_cases c : m = n
    · rw [if_pos c] at h
      cases h
      rw [c]
      exact List.mem_cons_self
    · rw [if_neg c] at h
      exact List.mem_cons_of_mem _ (lkA_mem h)
theorem any_mem {n : Nm} {l : List (Nm × α)} : (l.any fun p => decide (p.1 = n)) = true ↔ n ∈ l.map (·.1) := by
  rw [List.any_eq_true]
  constructor
  · rintro ⟨p, hp, h⟩
    rw [← of_decide_eq_true h]
    exact List.mem_map.mpr ⟨p, hp, rfl⟩
  · intro h
    obtain ⟨p, hp, e⟩ := List.mem_map.mp h
    exact ⟨p, hp, decide_eq_true e⟩
theorem lkA_app {n : Nm} {l r : List (Nm × α)} : lkA (l ++ r) n = (lkA l n).or (lkA r n) := by
  induction l with
  | nil => rfl
  | cons p l ih =>
    obtain ⟨m, x⟩ := p
    rw [List.cons_append, lkA_cons, lkA_cons, ih]
    split <;> rfl
theorem lkA_pu {n m : Nm} {x : α} {l : List (Nm × α)} : lkA (puA l n x) m = if m = n then some x else lkA l m := by
  unfold puA
  split
  · rename_i h
    have hm := any_mem.mp h
    clear h
    induction l with
    | nil => cases hm
    | cons p l ih =>
      obtain ⟨q, y⟩ := p
      rw [List.map_cons]
      by_cases c : q = n
      · subst c
        rw [if_pos rfl, lkA_cons, lkA_cons]
        by_cases c2 : q = m
        · rw [if_pos c2, if_pos c2.symm]
        · rw [if_neg c2, if_neg fun z => c2 z.symm, if_neg c2]
          by_cases c3 : q ∈ l.map (·.1)
          · rw [ih c3, if_neg fun z => c2 z.symm]
          · congr 1
            have : l.map (fun p => if p.1 = q then (p.1, x) else p) = l := by
              exact (List.map_congr_left (g := id) fun p hp => by
                show (if p.1 = q then (p.1, x) else p) = p
                exact if_neg fun z => c3 (List.mem_map.mpr ⟨p, hp, z⟩)).trans (List.map_id l)
            rw [this]
      · rw [if_neg c, lkA_cons, lkA_cons]
        have hm2 : n ∈ l.map (·.1) := by
          rcases List.mem_cons.mp hm with e | e
          · exact absurd e.symm c
          · exact e
        rw [ih hm2]
        by_cases c2 : q = m
        · rw [if_pos c2, if_pos c2, if_neg fun z => c (c2.trans z)]
        · rw [if_neg c2, if_neg c2]
  · rename_i h
    have hn : n ∉ l.map (·.1) := fun z => h (any_mem.mpr z)
    rw [lkA_app, lkA_cons]
    by_cases c : n = m
    · subst c
      rw [lkA_none.mpr hn, if_pos rfl, if_pos rfl]
      rfl
    · rw [if_neg c, if_neg fun z => c z.symm]
      show (lkA l m).or none = _
      exact Option.or_none
theorem keys_pu {n : Nm} {x : α} {l : List (Nm × α)} : (puA l n x).map (·.1) = if n ∈ l.map (·.1) then l.map (·.1) else l.map (·.1) ++ [n] := by
  unfold puA
  by_cases c : n ∈ l.map (·.1)
  · rw [if_pos (any_mem.mpr c), if_pos c, List.map_map]
    congr 1
    funext p
    show (if p.1 = n then (p.1, x) else p).1 = p.1
    split <;> rfl
  · rw [if_neg fun z => c (any_mem.mp z), if_neg c, List.map_append]
    rfl
theorem nodup_pu {n : Nm} {x : α} {l : List (Nm × α)} (h : (l.map (·.1)).Nodup) : ((puA l n x).map (·.1)).Nodup := by
  rw [keys_pu]
  split
  · exact h
  · rename_i c
    rw [List.nodup_append]
    refine ⟨h, by simp, fun a ha b hb => ?_⟩
    rw [List.mem_singleton.mp hb]
    exact fun z => c (z ▸ ha)
theorem lkA_dr {n m : Nm} {l : List (Nm × α)} : lkA (drA l n) m = if m = n then none else lkA l m := by
  induction l with
  | nil => simp [drA, lkA]
  | cons p l ih =>
    obtain ⟨q, y⟩ := p
    by_cases c : q = n
    · have e : drA ((q, y) :: l) n = drA l n := List.filter_cons_of_neg (by simp [c])
      rw [e, ih, lkA_cons]
      by_cases c2 : m = n
      · rw [if_pos c2, if_pos c2]
      · rw [if_neg c2, if_neg c2, if_neg fun z => c2 (z.symm.trans c)]
    · have e : drA ((q, y) :: l) n = (q, y) :: drA l n := List.filter_cons_of_pos (by simp [c])
      rw [e, lkA_cons, ih, lkA_cons]
      by_cases c2 : q = m
      · rw [if_pos c2, if_pos c2, if_neg fun z => c (c2.trans z)]
      · rw [if_neg c2, if_neg c2]
theorem nodup_dr {n : Nm} {l : List (Nm × α)} (h : (l.map (·.1)).Nodup) : ((drA l n).map (·.1)).Nodup := h.sublist (List.filter_sublist.map _)
end
/-! ### cells -/
def ruD : Ru → D
  | .inp v => .tup [.str (Str.ofString "value"), v.d]
  | .fml f => .tup [.str (Str.ofString "formula"), f.d]
def flD (b : Bool) : D := .str (if b then Str.ofString "kept" else Str.ofString "run")
structure Cs where
  rs : List (Nm × Ru)
  ms : List (Nm × Mo)
  an : List (Nm × Bool)
def Cs.R (S : Cs) : Nm → Option Ru := lkA S.rs
def Cs.A (S : Cs) : Fm := fun n => if (lkA S.an n).isSome then (lkA S.ms n).map (·.e) else none
structure Ca where
  a : Addr
  dx : Addr
  lr : Addr
  lm : Addr
  la : Addr
def CoF (c : Ca) : List (Str × D) := [("_rules", .ref c.lr), ("_memos", .ref c.lm), ("_answered", .ref c.la)]
def Cs.mo (S : Cs) (CM : Addr) : Mu := S.ms.map fun p => p.2.m CM
def Cs.m (C CM : Addr) (c : Ca) (S : Cs) : Mu := [(c.a, .ins C c.dx (CoF c)), (c.lr, .dK (kvD ruD S.rs)), (c.lm, .dK (kvD (fun m => .ref m.a) S.ms)), (c.la, .dK (kvD flD S.an))] ++ S.mo CM
/-- a value that a cell can have -/
def VlOk : Vl → Prop
  | .non => True
  | .int i => -1000000 ≤ i ∧ i ≤ 1000000
  | .cyc => False
structure Cs.Ok (S : Cs) : Prop where
  nr : (S.rs.map (·.1)).Nodup
  lr : S.rs.length ≤ 24
  ru : ∀ n r, S.R n = some r → match r with
    | .inp v => VlOk v
    | .fml f => OkF 6 f
  nm : (S.ms.map (·.1)).Nodup
  ms : ∀ n m, lkA S.ms n = some m → ∃ f, S.R n = some (.fml f) ∧ MOk f m.e
  na : (S.an.map (·.1)).Nodup
  an : ∀ n b, lkA S.an n = some b → ∃ m, lkA S.ms n = some m
  aok : Aok S.R S.A
def Cs.isAns (S : Cs) (n : Nm) : Bool := match S.R n with
  | some (.fml _) => (lkA S.an n).isSome
  | _ => true
def Cs.worth (S : Cs) (n : Nm) : Vl := (known S.R S.A n).getD .non
theorem Cs.isAns_known {S : Cs} (ok : S.Ok) {n : Nm} (h : S.isAns n = true) : known S.R S.A n = some (S.worth n) := by
  unfold Cs.worth
  have : ∃ v, known S.R S.A n = some v := by
    unfold Cs.isAns at h
    unfold known
    cases hr : S.R n with
    | none => exact ⟨_, rfl⟩
    | some r =>
      cases r with
      | inp v => exact ⟨_, rfl⟩
      | fml f =>
        rw [hr] at h
        obtain ⟨b, hb⟩ := Option.isSome_iff_exists.mp h
        obtain ⟨m, hm⟩ := ok.an n b hb
        refine ⟨m.e.ans, ?_⟩
        show (S.A n).map En.ans = _
        unfold Cs.A
        rw [hb, hm]
        rfl
  obtain ⟨v, hv⟩ := this
  rw [hv]
  rfl
theorem Cs.lr_in {C CM : Addr} {c : Ca} {S : Cs} : (c.lr, MO.dK (kvD ruD S.rs)) ∈ S.m C CM c := List.mem_append_left _ (by simp)
theorem Cs.lm_in {C CM : Addr} {c : Ca} {S : Cs} : (c.lm, MO.dK (kvD (fun m : Mo => .ref m.a) S.ms)) ∈ S.m C CM c := List.mem_append_left _ (by simp)
theorem Cs.la_in {C CM : Addr} {c : Ca} {S : Cs} : (c.la, MO.dK (kvD flD S.an)) ∈ S.m C CM c := List.mem_append_left _ (by simp)
theorem Cs.a_in {C CM : Addr} {c : Ca} {S : Cs} : (c.a, MO.ins C c.dx (CoF c)) ∈ S.m C CM c := List.mem_append_left _ (by simp)
theorem Cs.mo_in {C CM : Addr} {c : Ca} {S : Cs} {n : Nm} {m : Mo} (h : lkA S.ms n = some m) : m.m CM ∈ S.m C CM c := List.mem_append_right _ (List.mem_map.mpr ⟨(n, m), lkA_mem h, rfl⟩)

/-! ### equal data is the same -/
mutual
def Nb : D → Prop
  | .non => True
  | .int _ => True
  | .str _ => True
  | .tup ds => Nbs ds
  | _ => False
def Nbs : List D → Prop
  | [] => True
  | d :: ds => Nb d ∧ Nbs ds
end
mutual
theorem eq_inj : ∀ (x y : D), Nb x → Nb y → eqD x y = true → x = y
  | .non, y, _, hy, h => by cases y <;> first | rfl | exact hy.elim | exact (Bool.noConfusion (show false = true from h))
  | .int i, y, _, hy, h => by
    cases y with
    | int j =>
      have : (i == j) = true := h
      rw [beq_iff_eq.mp this]
    | non => exact Bool.noConfusion (show false = true from h)
    | str z => exact Bool.noConfusion (show false = true from h)
    | tup ds => exact Bool.noConfusion (show false = true from h)
    | _ => exact hy.elim
  | .str z, y, _, hy, h => by
    cases y with
    | str w =>
      have : (z == w) = true := h
      rw [beq_iff_eq.mp this]
    | non => exact Bool.noConfusion (show false = true from h)
    | int z => exact Bool.noConfusion (show false = true from h)
    | tup ds => exact Bool.noConfusion (show false = true from h)
    | _ => exact hy.elim
  | .tup xs, y, hx, hy, h => by
    cases y with
    | tup ys => rw [eqs_inj xs ys hx hy h]
    | non => exact Bool.noConfusion (show false = true from h)
    | int z => exact Bool.noConfusion (show false = true from h)
    | str ds => exact Bool.noConfusion (show false = true from h)
    | _ => exact hy.elim
  | .bl _, _, hx, _, _ => hx.elim
  | .ty _, _, hx, _, _ => hx.elim
  | .ref _, _, hx, _, _ => hx.elim
  | .lst _, _, hx, _, _ => hx.elim
  | .lsk _, _, hx, _, _ => hx.elim
theorem eqs_inj : ∀ (xs ys : List D), Nbs xs → Nbs ys → PyData.eqvAll (toPys xs) (toPys ys) = true → xs = ys
  | [], [], _, _, _ => rfl
  | [], y :: ys, _, _, h => Bool.noConfusion (show false = true from h)
  | x :: xs, [], _, _, h => Bool.noConfusion (show false = true from h)
  | x :: xs, y :: ys, hx, hy, h => by
    have h2 : (eqD x y && PyData.eqvAll (toPys xs) (toPys ys)) = true := h
    rw [Bool.and_eq_true] at h2
    rw [eq_inj x y hx.1 hy.1 h2.1, eqs_inj xs ys hx.2 hy.2 h2.2]
end
theorem nb_fo : ∀ f : Fo, Nb f.d
  | .non => trivial
  | .int _ => trivial
  | .nm _ => trivial
  | .cyc _ => ⟨trivial, trivial, trivial⟩
  | .op _ a b => ⟨trivial, nb_fo a, nb_fo b, trivial⟩
  | .ifs a b c => ⟨trivial, nb_fo a, nb_fo b, nb_fo c, trivial⟩
theorem nb_ru : ∀ r : Ru, Nb (ruD r)
  | .inp v => ⟨trivial, by cases v <;> trivial, trivial⟩
  | .fml f => ⟨trivial, nb_fo f, trivial⟩
theorem hd_ascii (h : Hd2) : ∀ c ∈ h.s.cps.toList, c < 128 := by cases h <;> decide +kernel
theorem tx_ascii {l : List Nat} (h : nameB l = true) : ∀ c ∈ (tx l).cps.toList, c < 128 := by
  rw [tx_cps]
  intro c hc
  unfold nameB at h
  simp only [Bool.and_eq_true] at h
  have h2 := List.all_eq_true.mp h.2 c hc
  have h3 : ∀ c, Txt.contains (tx cst_LETTERS) ⟨#[c]⟩ = true → c ∈ cst_LETTERS := fun c hc => by
    have h9 : Txt.contains (tx cst_LETTERS) ⟨#[c]⟩ = decide (c ∈ (tx cst_LETTERS).cps.toList) := PySem.StrLaws.found_one (tx cst_LETTERS) c
    rw [h9, tx_cps] at hc
    exact of_decide_eq_true hc
  have h4 : ∀ c ∈ cst_LETTERS, c < 128 := by decide +kernel
  exact h4 c (h3 c h2)
theorem eqb_fo : ∀ {n : Nat} {f : Fo}, OkF n f → Pln f.d ∧ (toPy f.d).depth ≤ n + 2
  | n, .non, _ => ⟨trivial, by simp [Fo.d, toPy, PyData.depth]⟩
  | n, .int i, _ => ⟨trivial, by simp [Fo.d, toPy, PyData.depth]⟩
  | n, .nm l, h => by
    have hn : NmF l := by cases n <;> exact h
    exact ⟨tx_ascii hn.1, by simp [Fo.d, toPy, PyData.depth]⟩
  | 0, .cyc l, h => h.elim
  | n + 1, .cyc l, h => ⟨⟨by show ∀ c ∈ cycS.cps.toList, c < 128; decide +kernel, tx_ascii h.1, trivial⟩, by
    simp only [Fo.d, toPy, toPys, PyData.depth, PyData.depthAll]; omega⟩
  | 0, .op _ _ _, h => h.elim
  | n + 1, .op hd a b, h => by
    obtain ⟨a1, a2⟩ := eqb_fo h.1
    obtain ⟨b1, b2⟩ := eqb_fo h.2
    refine ⟨⟨hd_ascii hd, a1, b1, trivial⟩, ?_⟩
    simp only [Fo.d, toPy, toPys, PyData.depth, PyData.depthAll]
    omega
  | 0, .ifs _ _ _, h => h.elim
  | n + 1, .ifs a b c, h => by
    obtain ⟨a1, a2⟩ := eqb_fo h.1
    obtain ⟨b1, b2⟩ := eqb_fo h.2.1
    obtain ⟨c1, c2⟩ := eqb_fo h.2.2
    refine ⟨⟨by show ∀ c ∈ ifS.cps.toList, c < 128; decide +kernel, a1, b1, c1, trivial⟩, ?_⟩
    simp only [Fo.d, toPy, toPys, PyData.depth, PyData.depthAll]
    omega
def RuOk : Ru → Prop
  | .inp v => VlOk v
  | .fml f => OkF 6 f
theorem Cs.Ok.rule {S : Cs} (ok : S.Ok) {n : Nm} {r : Ru} (h : S.R n = some r) : RuOk r := by
  have := ok.ru n r h
  cases r <;> exact this
theorem RuOk.eqb {r : Ru} (h : RuOk r) : Eqb (ruD r) := by
  cases r with
  | inp v =>
    refine ⟨⟨by show ∀ c ∈ (Str.ofString "value").cps.toList, c < 128; decide +kernel, (eqb_vl v).1, trivial⟩, ?_⟩
    cases v <;> simp [ruD, Vl.d, toPy, toPys, PyData.depth, PyData.depthAll]
  | fml f =>
    obtain ⟨h1, h2⟩ := eqb_fo (n := 6) h
    refine ⟨⟨by show ∀ c ∈ (Str.ofString "formula").cps.toList, c < 128; decide +kernel, h1, trivial⟩, ?_⟩
    simp only [ruD, toPy, toPys, PyData.depth, PyData.depthAll]
    omega
theorem vl_inj {v x : Vl} (h : v.d = x.d) : v = x := by
  cases v <;> cases x <;> first | rfl | (cases h; rfl) | cases h
theorem fo_inj : ∀ {f g : Fo}, f.d = g.d → f = g
  | .non, g, h => by cases g <;> first | rfl | cases h
  | .int i, g, h => by cases g <;> first | (injection h with h; rw [h]) | cases h
  | .nm l, g, h => by cases g <;> first | (injection h with h; rw [tx_inj h]) | cases h
  | .cyc l, g, h => by
    cases g with
    | cyc l' =>
      injection h with h
      injection h with _ h
      injection h with h _
      injection h with h
      rw [tx_inj h]
    | op hd a b => injection h with h; injection h with _ h; injection h with _ h; cases h
    | ifs a b c => injection h with h; injection h with _ h; injection h with _ h; cases h
    | _ => cases h
  | .op hd a b, g, h => by
    cases g with
    | op hd' a' b' =>
      injection h with h
      injection h with h0 h
      injection h with h1 h
      injection h with h2 _
      injection h0 with h0
      have e : hd = hd' := by
        cases hd <;> cases hd' <;> first | rfl | exact absurd h0 (by decide +kernel)
      rw [e, fo_inj h1, fo_inj h2]
    | cyc l => injection h with h; injection h with _ h; injection h with _ h; cases h
    | ifs a b c => injection h with h; injection h with _ h; injection h with _ h; injection h with _ h; cases h
    | _ => cases h
  | .ifs a b c, g, h => by
    cases g with
    | ifs a' b' c' =>
      injection h with h
      injection h with h0 h
      injection h with h1 h
      injection h with h2 h
      injection h with h3 _
      rw [fo_inj h1, fo_inj h2, fo_inj h3]
    | cyc l => injection h with h; injection h with _ h; injection h with _ h; cases h
    | op hd a b => injection h with h; injection h with _ h; injection h with _ h; injection h with _ h; cases h
    | _ => cases h
theorem ru_inj {r r' : Ru} (h : ruD r = ruD r') : r = r' := by
  cases r with
  | inp v =>
    cases r' with
    | inp x =>
      injection h with h
      injection h with _ h
      injection h with h _
      rw [vl_inj h]
    | fml f =>
      injection h with h
      injection h with h _
      injection h with h
      exact absurd h (by decide +kernel)
  | fml f =>
    cases r' with
    | inp x =>
      injection h with h
      injection h with h _
      injection h with h
      exact absurd h (by decide +kernel)
    | fml g =>
      injection h with h
      injection h with _ h
      injection h with h _
      rw [fo_inj h]
theorem eqD_ru {r r' : Ru} (h : RuOk r) : eqD (ruD r) (ruD r') = true ↔ r = r' := ⟨fun e => ru_inj (eq_inj _ _ (nb_ru r) (nb_ru r') e), fun e => by rw [← e]; exact eqv_self h.eqb.1⟩

/-! ### the cells' methods -/
def W_cini (C CM : Addr) : Wt := fun ds M k => ∃ (a dx : Addr), ds = [.ref a] ∧ M = [(a, .ins C dx [])] ∧ ∀ lr lm la, k .non (Cs.m C CM ⟨a, dx, lr, lm, la⟩ ⟨[], [], []⟩)
def W_cck (C CM DN : Addr) : WtP := fun ds M k kp => ∃ (c : Ca) (S : Cs) (n : Nm), ds = [.ref c.a, .str (tx n)] ∧ M = S.m C CM c ∧ (((∃ r, S.R n = some r) ∧ k .non (S.m C CM c)) ∨ (S.R n = none ∧ kp DN (S.m C CM c)))
def W_cia (C CM : Addr) : Wt := fun ds M k => ∃ (c : Ca) (S : Cs) (n : Nm), ds = [.ref c.a, .str (tx n)] ∧ M = S.m C CM c ∧ k (.bl (S.isAns n)) (S.m C CM c)
def W_can (C CM : Addr) : Wt := fun ds M k => ∃ (c : Ca) (S : Cs) (n : Nm), ds = [.ref c.a, .str (tx n)] ∧ M = S.m C CM c ∧ S.Ok ∧ S.isAns n = true ∧ k (S.worth n).d (S.m C CM c)
theorem val_tx : Str.ofString "value" = tx [118, 97, 108, 117, 101] := by decide +kernel
section
variable {P : Program} {w : World} {K : PySem.W.Frag} {mg : Str → Option Value} {base : Heap} {CM CT C : Addr}
theorem m_cinit (kC : Cl_Cells K mg C) (T : Top K mg w) : C8.Mak P w K mg base 1 "Cells" C (Spc K (W_cini C CM)) [] := mak_of kC.m kC.mk1 kC.mk2 kC.d___init__ fun f fd F => by
  exact spc_ok F sc_Cells___init__ (fun ds M k h => by obtain ⟨a, dx, rfl, _⟩ := h; rfl) fun cdv A outer s H E hr => ⟨_, (pss_cons (sfld_K (K := K) (pv 0) pe_dnewK)
      (pss_cons (sfld_K (K := K) (pv 0) pe_dnewK)
      (pss_one (sfld_K (K := K) (pv 0) pe_dnewK)))), fun ds M kk hw => by
    obtain ⟨a, dx, rfl, rfl, q⟩ := hw
    refine as_start (δ' := [some (.ref a)]) rfl ?_
    refine as_seq ?_
    refine as_sfld ?_
    walk_at "tg"
    intro lr
    walk_at "tg"
    refine ⟨a, C, dx, _, [], [_], rfl, rfl, kC.cl, kC.n__rules, by show 0 < 1000; decide, ?_⟩
    refine as_seq ?_
    refine as_sfld ?_
    walk_at "tg"
    intro lm
    walk_at "tg"
    refine ⟨a, C, dx, _, [], [_, _], rfl, rfl, kC.cl, kC.n__memos, by show 1 < 1000; decide, ?_⟩
    refine as_sfld ?_
    walk_at "tg"
    intro la
    walk_at "tg"
    refine ⟨a, C, dx, _, [], [_, _, _], rfl, rfl, kC.cl, kC.n__answered, by show 2 < 1000; decide, ?_⟩
    exact q lr lm la⟩
theorem fl_r (kC : Cl_Cells K mg C) {δ : DS} {k : D → Mu → Prop} {M : Mu} {c : Ca} (h : δ[0]? = some (some (.ref c.a))) (hm : (c.a, MO.ins C c.dx (CoF c)) ∈ M) (q : k (.ref c.lr) M) : AE K (tFld K (tVar 0) "_rules") δ M k :=
  ae_fldm (ae_var h ⟨c.a, C, c.dx, CoF c, .ref c.lr, rfl, hm, kC.cl, kC.n__rules, rfl, q⟩)
theorem fl_m (kC : Cl_Cells K mg C) {δ : DS} {k : D → Mu → Prop} {M : Mu} {c : Ca} (h : δ[0]? = some (some (.ref c.a))) (hm : (c.a, MO.ins C c.dx (CoF c)) ∈ M) (q : k (.ref c.lm) M) : AE K (tFld K (tVar 0) "_memos") δ M k :=
  ae_fldm (ae_var h ⟨c.a, C, c.dx, CoF c, .ref c.lm, rfl, hm, kC.cl, kC.n__memos, rfl, q⟩)
theorem fl_a (kC : Cl_Cells K mg C) {δ : DS} {k : D → Mu → Prop} {M : Mu} {c : Ca} (h : δ[0]? = some (some (.ref c.a))) (hm : (c.a, MO.ins C c.dx (CoF c)) ∈ M) (q : k (.ref c.la) M) : AE K (tFld K (tVar 0) "_answered") δ M k :=
  ae_fldm (ae_var h ⟨c.a, C, c.dx, CoF c, .ref c.la, rfl, hm, kC.cl, kC.n__answered, rfl, q⟩)
theorem m_cck (kC : Cl_Cells K mg C) (T : Top K mg w) {DN : Addr} (e_NoCell : ErrP K mg "NoCell" DN) : MetX P w K mg base 1 C "_check_cell" (SpcP K (W_cck C CM DN)) := metX_of kC.cl kC.d__check_cell fun f fd F => by
  exact spc_okP F sc_Cells__check_cell (fun ds M k kp h => by obtain ⟨c, S, n, rfl, _⟩ := h; rfl) fun cdv A outer s H E hr => ⟨_, (pss_one (ps_if (pt_cmpR (notinDk_K (hu_of hr)) (pv 1) (fld_K (K := K) (pv 0)) (by rfl))
      (pss_one (ps_raiseP rfl (takes_of rfl rfl rfl rfl) e_NoCell (by rfl)))
      pss_nil)), fun ds M kk kp hw => by
    obtain ⟨c, S, n, rfl, rfl, q⟩ := hw
    refine as_start (δ' := [some (.ref c.a), some (.str (tx n))]) rfl ?_
    refine as_if (at_test (ae_op (ae_var rfl (fl_r kC rfl Cs.a_in (ar_notinDm Cs.lr_in (key := .inr (tx n)) rfl ?_)))))
    rw [valD_kv]
    rcases q with ⟨⟨r, hr⟩, q⟩ | ⟨hr, q⟩
    · have e : lkA S.rs n = some r := hr
      rw [e]
      walk_at "tg"
      exact q
    · have e : lkA S.rs n = none := hr
      rw [e]
      walk_at "tg"
      refine as_raiseP rfl ?_
      exact q⟩
theorem m_cia (kC : Cl_Cells K mg C) (T : Top K mg w) : C8.Met P w K mg base 1 C "_is_answered" (Spc K (W_cia C CM)) [] := met_of kC.cl kC.d__is_answered fun f fd F => by
  exact spc_ok F sc_Cells__is_answered (fun ds M k h => by obtain ⟨c, S, n, rfl, _⟩ := h; rfl) fun cdv A outer s H E hr => ⟨_, (pss_one (ps_ret (pe_or (pe_cmpR (notinDk_K (hu_of hr)) (pv 1) (fld_K (K := K) (pv 0)) (by rfl)) (pe_or (pe_cmpR op_eq (pe_ix (ix_K (K := K)) (pe_dget (hu_of hr) (fld_K (K := K) (pv 0)) (pv 1) (fun _ _ => rfl)) pe_int (fun _ _ => rfl)) pe_str (nomark _)) (pe_one (pe_cmpR (inDk_K (hu_of hr)) (pv 1) (fld_K (K := K) (pv 0)) (by rfl))))))), fun ds M kk hw => by
    obtain ⟨c, S, n, rfl, rfl, q⟩ := hw
    refine as_start (δ' := [some (.ref c.a), some (.str (tx n))]) rfl ?_
    walk_at "tg"
    refine fl_r kC rfl Cs.a_in ?_
    refine ar_notinDm Cs.lr_in (key := .inr (tx n)) rfl ?_
    rw [valD_kv]
    unfold Cs.isAns Cs.R at q
    cases hr : lkA S.rs n with
    | none =>
      rw [hr] at q
      walk_at "tg"
      exact q
    | some r =>
      rw [hr] at q
      walk_at "tg"
      refine ae_dgetm (fl_r kC rfl Cs.a_in (ae_var rfl ⟨c.lr, _, .inr (tx n), ruD r, rfl, rfl, Cs.lr_in, by rw [valD_kv, hr]; rfl, ?_⟩))
      cases r with
      | inp v =>
        unfold ruD
        walk_at "tg"
        exact q
      | fml f =>
        unfold ruD
        walk_at "tg"
        refine fl_a kC rfl Cs.a_in ?_
        refine ar_inDm Cs.la_in (key := .inr (tx n)) rfl ?_
        rw [valD_kv]
        walk_at "tg"
        have e : ((lkA S.an n).map flD).isSome = (lkA S.an n).isSome := by cases lkA S.an n <;> rfl
        rw [e]
        exact q⟩
end

def Cs.begun (S : Cs) (n : Nm) : Cs := ⟨S.rs, drA S.ms n, []⟩
def Cs.gives (S : Cs) (n : Nm) (r : Ru) : Cs := ⟨puA S.rs n r, drA S.ms n, []⟩
def W_cbr (C CM : Addr) : Wt := fun ds M k => ∃ (c : Ca) (S : Cs) (n : Nm), ds = [.ref c.a, .str (tx n)] ∧ M = S.m C CM c ∧ ∀ la J, k .non ((S.begun n).m C CM { c with la := la } ++ J)
def W_cgr (C CM : Addr) : WtP := fun ds M k kp => ∃ (c : Ca) (S : Cs) (n : Nm) (r : Ru), ds = [.ref c.a, .str (tx n), ruD r] ∧ M = S.m C CM c ∧ S.Ok ∧ RuOk r ∧ (S.R n = none → S.rs.length < 24) ∧
  (S.R n = some r → k .non (S.m C CM c)) ∧ (S.R n ≠ some r → ∀ la J, k .non ((S.gives n r).m C CM { c with la := la } ++ J))
/-- a row of pairs, the pairs of a name behind -/
theorem drA_perm {α β : Type} (g : Nm × α → β) (l : List (Nm × α)) (n : Nm) : ∃ J, (l.map g).Perm ((drA l n).map g ++ J) := by
  refine ⟨(l.filter fun p => !decide (p.1 ≠ n)).map g, ?_⟩
  rw [← List.map_append]
  exact ((List.filter_append_perm (fun p : Nm × α => decide (p.1 ≠ n)) l).map g).symm
theorem perm_new {x1 x2 x3 o z : Addr × MO} {Y DM J : Mu} (h : Y.Perm (DM ++ J)) : (x1 :: (([x2, x3, o] ++ Y) ++ [z])).Perm (([x1, x2, x3, z] ++ DM) ++ (o :: J)) := by
  refine List.Perm.cons _ (List.Perm.cons _ (List.Perm.cons _ ?_))
  show (o :: (Y ++ [z])).Perm (z :: (DM ++ (o :: J)))
  have h1 : (o :: (Y ++ [z])).Perm (z :: (o :: Y)) := (List.perm_append_comm (l₁ := o :: Y) (l₂ := [z]))
  refine h1.trans (List.Perm.cons _ ?_)
  exact (List.Perm.cons _ h).trans List.perm_middle.symm
section
variable {P : Program} {w : World} {K : PySem.W.Frag} {mg : Str → Option Value} {base : Heap} {CM CT C : Addr}
theorem m_can (kC : Cl_Cells K mg C) (kM : Cl_Memo K mg CM) (T : Top K mg w) : C8.Met P w K mg base 1 C "_answer" (Spc K (W_can C CM)) [] := met_of kC.cl kC.d__answer fun f fd F => by
  exact spc_ok F sc_Cells__answer (fun ds M k h => by obtain ⟨c, S, n, rfl, _⟩ := h; rfl) fun cdv A outer s H E hr => ⟨_, (pss_cons (ps_if (pt_cmpR (notinDk_K (hu_of hr)) (pv 1) (fld_K (K := K) (pv 0)) (by rfl))
      (pss_one (ps_ret pe_non))
      pss_nil)
      (pss_cons (ps_if (pt_cmpR op_eq (pe_ix (ix_K (K := K)) (pe_dget (hu_of hr) (fld_K (K := K) (pv 0)) (pv 1) (fun _ _ => rfl)) pe_int (fun _ _ => rfl)) pe_str (nomark _))
      (pss_one (ps_ret (pe_ix (ix_K (K := K)) (pe_dget (hu_of hr) (fld_K (K := K) (pv 0)) (pv 1) (fun _ _ => rfl)) pe_int (fun _ _ => rfl))))
      pss_nil)
      (pss_one (ps_ret (fld_K (K := K) (pe_dget (hu_of hr) (fld_K (K := K) (pv 0)) (pv 1) (fun _ _ => rfl))))))), fun ds M kk hw => by
    obtain ⟨c, S, n, rfl, rfl, ok, ha, q⟩ := hw
    refine as_start (δ' := [some (.ref c.a), some (.str (tx n))]) rfl ?_
    refine as_seq (as_if (at_test (ae_op (ae_var rfl (fl_r kC rfl Cs.a_in (ar_notinDm Cs.lr_in (key := .inr (tx n)) rfl ?_))))))
    rw [valD_kv]
    unfold Cs.worth known at q
    unfold Cs.isAns at ha
    cases hr : lkA S.rs n with
    | none =>
      have hr' : S.R n = none := hr
      rw [hr'] at q
      walk_at "tg"
      exact q
    | some r =>
      have hr' : S.R n = some r := hr
      rw [hr'] at q ha
      walk_at "tg"
      have rule : ∀ {δ : DS} {k : D → Mu → Prop}, δ[0]? = some (some (.ref c.a)) → δ[1]? = some (some (.str (tx n))) → k (ruD r) (S.m C CM c) → AE K (tDGet (tFld K (tVar 0) "_rules") (tVar 1)) δ (S.m C CM c) k := fun h0 h1 h2 =>
        ae_dgetm (fl_r kC h0 Cs.a_in (ae_var h1 ⟨c.lr, _, .inr (tx n), ruD r, rfl, rfl, Cs.lr_in, by rw [valD_kv, hr]; rfl, h2⟩))
      refine as_seq ?_
      walk_at "tg"
      refine rule rfl rfl ?_
      cases r with
      | inp v =>
        unfold ruD
        walk_at "tg"
        refine rule rfl rfl ?_
        unfold ruD
        walk_at "tg"
        exact q
      | fml f =>
        unfold ruD
        walk_at "tg"
        obtain ⟨b, hb⟩ := Option.isSome_iff_exists.mp ha
        obtain ⟨m, hm⟩ := ok.an n b hb
        refine ae_fldm (ae_dgetm (fl_m kC rfl Cs.a_in (ae_var rfl ⟨c.lm, _, .inr (tx n), .ref m.a, rfl, rfl, Cs.lm_in, by rw [valD_kv, hm]; rfl, ?_⟩)))
        refine ⟨m.a, CM, m.dx, _, m.e.ans.d, rfl, Cs.mo_in hm, kM.cl, kM.n_answer, rfl, ?_⟩
        have e : ((S.A n).map En.ans).getD .non = m.e.ans := by
          unfold Cs.A
          rw [hb, hm]
          rfl
        rw [← e]
        exact q⟩
theorem m_cbr (kC : Cl_Cells K mg C) (T : Top K mg w) : C8.Met P w K mg base 1 C "_begin_revision" (Spc K (W_cbr C CM)) [] := met_of kC.cl kC.d__begin_revision fun f fd F => by
  exact spc_ok F sc_Cells__begin_revision (fun ds M k h => by obtain ⟨c, S, n, rfl, _⟩ := h; rfl) fun cdv A outer s H E hr => ⟨_, (pss_cons (ps_expr (pe_dpop2 (fld_K (K := K) (pv 0)) (pv 1) pe_non ⟨rfl, rfl, rfl, rfl⟩))
      (pss_one (sfld_K (K := K) (pv 0) pe_dnewK))), fun ds M kk hw => by
    obtain ⟨c, S, n, rfl, rfl, q⟩ := hw
    refine as_start (δ' := [some (.ref c.a), some (.str (tx n))]) rfl ?_
    obtain ⟨J, hJ⟩ := drA_perm (fun p : Nm × Mo => p.2.m CM) S.ms n
    refine as_cut (fun δ' M' => δ' = [some (.ref c.a), some (.str (tx n))] ∧ M' = [(c.a, .ins C c.dx (CoF c)), (c.lr, .dK (kvD ruD S.rs)), (c.lm, .dK (kvD (fun m => .ref m.a) (drA S.ms n))), (c.la, .dK (kvD flD S.an))] ++ S.mo CM) ?_ ?_
    · refine as_drop (ae_dpop2 (fl_m kC rfl Cs.a_in ⟨⟨c.lm, _, rfl, Cs.lm_in⟩, ae_var rfl (ae_non ⟨c.lm, kvD (fun m => .ref m.a) S.ms, [_, _], _, .inr (tx n), rfl, rfl, rfl, fun v hv => ?_, fun hv => ?_⟩)⟩))
      · rw [dropD_kv]
        exact ⟨rfl, rfl⟩
      · have e : drA S.ms n = S.ms := by
          rw [valD_kv] at hv
          have hn : lkA S.ms n = none := by
            cases e : lkA S.ms n with
            | none => rfl
            | some x => rw [e] at hv; cases hv
          unfold drA
          rw [List.filter_eq_self]
          intro p hp
          have := lkA_none.mp hn
          exact decide_eq_true fun z => this (List.mem_map.mpr ⟨p, hp, z⟩)
        rw [e]
        exact ⟨rfl, rfl⟩
    · rintro _ _ ⟨rfl, rfl⟩
      refine as_nxP (as_sfld ?_)
      walk_at "tg"
      intro la
      walk_at "tg"
      refine ⟨c.a, C, c.dx, CoF c, [], _, rfl, rfl, kC.cl, kC.n__answered, by show 3 < 1000; decide, ?_⟩
      exact ⟨_, perm_new hJ, q la _⟩⟩
theorem m_cgr (kC : Cl_Cells K mg C) (T : Top K mg w) : MetX P w K mg base 2 C "_give_rule" (SpcP K (W_cgr C CM)) := metX_of kC.cl kC.d__give_rule fun f fd F => by
  obtain ⟨D0, D1, D2, D3, ⟨e_BadName, e_BadValue, e_NoCell, e_TooManyCells⟩, _⟩ := T.xp
  have c_Cells__begin_revision := m_cbr (P := P) (w := w) (base := base) (CM := CM) kC T
  obtain ⟨t_MOST_CELLS, g_MOST_CELLS⟩ := T.g_MOST_CELLS
  exact spc_okP F sc_Cells__give_rule (fun ds M k kp h => by obtain ⟨c, S, n, r, rfl, _⟩ := h; rfl) fun cdv A outer s H E hr => ⟨_, (pss_cons (ps_if (pw_and (pt_cmpR (notinDk_K (hu_of hr)) (pv 1) (fld_K (K := K) (pv 0)) (by rfl)) (pw_and1 (pt_cmpR (eqU_K (K := K) hr) (pe_callB lenDk_K (by rfl) T.m_len (by decide +kernel) (pa_cons (fld_K (K := K) (pv 0)) pa_nil)) (pe_glob (v := V.int 24) (by rfl) g_MOST_CELLS ⟨_, rfl⟩) (nomark _)))).pt
      (pss_one (ps_raiseP rfl (takes_of rfl rfl rfl rfl) e_TooManyCells (by rfl)))
      pss_nil)
      (pss_one (ps_if (pt_cmpR (neU_K (K := K) hr) (pe_dget1 (hu_of hr) (fld_K (K := K) (pv 0)) (pv 1) ⟨rfl, rfl, rfl, rfl⟩) (pv 2) (nomark _))
      (pss_cons (ps_asg (pv 2) (pg_sub (fld_K (K := K) (pv 0)) (pv 1) (set_any (hu_of hr))))
      (pss_one (ps_expr (C8.pe_mt c_Cells__begin_revision hr (by first | decide | omega) (pv 0) (pa_cons (pv 1) pa_nil)))))
      pss_nil))), fun ds M kk kp hw => by
    obtain ⟨c, S, n, r, rfl, rfl, ok, hro, h24, q1, q2⟩ := hw
    have hsz := sizeLine_eq
    have hlr := ok.lr
    refine as_start (δ' := [some (.ref c.a), some (.str (tx n)), some (ruD r)]) rfl ?_
    refine as_cut (fun δ' M' => δ' = [some (.ref c.a), some (.str (tx n)), some (ruD r)] ∧ M' = S.m C CM c) ?_ ?_
    · refine as_if (at_and (at_test (ae_op (ae_var rfl (fl_r kC rfl Cs.a_in (ar_notinDm Cs.lr_in (key := .inr (tx n)) rfl ?_))))))
      rw [valD_kv]
      cases hr : lkA S.rs n with
      | some r' =>
        walk_at "tg"
        exact ⟨rfl, rfl⟩
      | none =>
        walk_at "tg"
        refine fl_r kC rfl Cs.a_in ?_
        walk_at "tg"
        refine ac_lenDm Cs.lr_in ?_
        walk_at "tg"
        rw [kvD_len]
        have := h24 hr
        refine ar_eqS (b := false) (by show some (decide ((S.rs.length : Int) = 24)) = some false; rw [decide_eq_false]; omega) ?_
        walk_at "tg"
        exact ⟨rfl, rfl⟩
    · rintro _ _ ⟨rfl, rfl⟩
      refine as_if (at_test (ae_op (ae_dget1m (fl_r kC rfl Cs.a_in ⟨⟨c.lr, _, rfl, Cs.lr_in⟩, ae_var rfl ⟨c.lr, _, .inr (tx n), rfl, rfl, Cs.lr_in, ?_⟩⟩))))
      rw [valD_kv]
      have go : S.R n ≠ some r → AS K (tSeq (tAsg (tVar 2) (gSub (tFld K (tVar 0) "_rules") (tVar 1) rSetU)) (tDrop (tMeth C "_begin_revision" (Spc K (W_cbr C CM)) [] C8.E0 (tVar 0) (tCons (tVar 1) tNil)))) [some (.ref c.a), some (.str (tx n)), some (ruD r)] (S.m C CM c)
          { nx := fun _ M' => kk .non M', rt := kk, ps := fun C _ M' => kp C M', P := fun C _ H' => E (.ref C) none H' } := fun hne => by
        let S1 : Cs := ⟨puA S.rs n r, S.ms, S.an⟩
        refine as_cut (fun δ' M' => δ' = [some (.ref c.a), some (.str (tx n)), some (ruD r)] ∧ M' = S1.m C CM c) ?_ ?_
        · refine as_asg (ae_var rfl (ag_setU (fl_r kC rfl Cs.a_in (ae_var rfl (put_d (M1 := [_]) (kvs := kvD ruD S.rs) (key := .inr (tx n)) rfl rfl (by rw [kvD_len]; omega) ?_)))))
          rw [putD_kv]
          exact ⟨rfl, rfl⟩
        · rintro _ _ ⟨rfl, rfl⟩
          refine as_drop (ae_meth (ae_var rfl ⟨c.a, c.dx, _, rfl, ⟨[], _, rfl⟩, rfl, aa_cons (ae_var rfl (aa_nil ?_))⟩))
          refine ⟨S1.m C CM c, [], fun d M => ∃ la J, d = .non ∧ M = (S1.begun n).m C CM { c with la := la } ++ J, (List.append_nil _).symm, ⟨c, S1, n, rfl, rfl, fun la J => ⟨la, J, rfl, rfl⟩⟩, ?_⟩
          rintro _ _ ⟨la, J, rfl, rfl⟩
          rw [List.append_nil]
          exact q2 hne la J
      cases hr : lkA S.rs n with
      | none =>
        have hr' : S.R n = none := hr
        refine ae_var rfl (ar_neT (x := .non) ⟨trivial, by decide⟩ hro.eqb ?_)
        have e : eqD .non (ruD r) = false := by cases r <;> rfl
        refine ⟨_, rfl, ?_⟩
        rw [e]
        exact ⟨fun _ => go (by rw [hr']; exact fun z => nomatch z), fun z => nomatch z⟩
      | some r' =>
        have hr' : S.R n = some r' := hr
        refine ae_var rfl (ar_neT (ok.rule hr').eqb hro.eqb ?_)
        refine ⟨_, rfl, ?_⟩
        show ((!eqD (ruD r') (ruD r)) = true → _) ∧ ((!eqD (ruD r') (ruD r)) = false → _)
        by_cases e : r' = r
        · subst e
          rw [(eqD_ru hro).mpr rfl]
          refine ⟨(fun z => nomatch z), fun _ => as_next (q1 hr')⟩
        · have e2 : eqD (ruD r') (ruD r) = false := by
            cases h : eqD (ruD r') (ruD r) with
            | false => rfl
            | true => exact absurd ((eqD_ru (ok.rule hr')).mp h) e
          rw [e2]
          exact ⟨fun _ => go (by rw [hr']; exact fun z => e (Option.some.inj z)), fun z => nomatch z⟩⟩
end

def W_ckn (D0 PT : Addr) : WtP := fun ds M k kp => ∃ l : List Nat, ds = [.str (tx l)] ∧ M = [(PT, .tb)] ∧ l.length ≤ 1000000 ∧ ((nameB l = true ∧ k .non [(PT, .tb)]) ∨ (nameB l = false ∧ kp D0 [(PT, .tb)]))
def W_isv : Wt := fun ds M k => ∃ v : Vl, ds = [v.d] ∧ M = [] ∧ VlOk v ∧ k (.bl true) []
def SetK (C CM PT : Addr) (c : Ca) (S : Cs) (n : Nm) (r : Ru) (k : D → Mu → Prop) : Prop := (S.R n = some r → k .non (S.m C CM c ++ [(PT, .tb)])) ∧ (S.R n ≠ some r → ∀ la J, k .non (((S.gives n r).m C CM { c with la := la } ++ J) ++ [(PT, .tb)]))
def W_cput (C CM PT : Addr) : WtP := fun ds M k kp => ∃ (c : Ca) (S : Cs) (n : Nm) (v : Vl), ds = [.ref c.a, .str (tx n), v.d] ∧ M = (PT, .tb) :: S.m C CM c ∧ S.Ok ∧ NmF n ∧ VlOk v ∧ (S.R n = none → S.rs.length < 24) ∧ SetK C CM PT c S n (.inp v) k
def W_cdef (C CM PT : Addr) : WtP := fun ds M k kp => ∃ (c : Ca) (S : Cs) (n : Nm) (f : Fo), ds = [.ref c.a, .str (tx n), f.d] ∧ M = (PT, .tb) :: S.m C CM c ∧ S.Ok ∧ NmF n ∧ OkF 6 f ∧ (S.R n = none → S.rs.length < 24) ∧ SetK C CM PT c S n (.fml f) k
section
variable {P : Program} {w : World} {K : PySem.W.Frag} {mg : Str → Option Value} {base : Heap} {C CM Ce PT D0 D1 : Addr}
theorem p_check_name (T : Top K mg w) (B : DefB K mg base "is_name" s_is_name ["text"] PT) (e_BadName : ErrP K mg "BadName" D0) : CalX P w K mg base 2 "check_name" (SpcP K (W_ckn D0 PT)) := calX_of T.d_check_name fun f fd F => by
  have c_is_name := c_is_name (P := P) (w := w) T B
  exact spc_okP F sc_check_name (fun ds M k kp h => by obtain ⟨l, rfl, _⟩ := h; rfl) fun cdv A outer s H E hr => ⟨_, (pss_one (ps_if (pt_not (tru_K (K := K) (pe_c c_is_name hr (by first | decide | omega) (by rfl) (pa_cons (pv 0) pa_nil))))
      (pss_one (ps_raiseP rfl (takes_of rfl rfl rfl rfl) e_BadName (by rfl)))
      pss_nil)), fun ds M kk kp hw => by
    obtain ⟨l, rfl, rfl, hl, hw⟩ := hw
    refine as_start (δ' := [some (.str (tx l))]) rfl ?_
    walk_at "tg"
    refine ⟨[_], [], fun d M => d = .bl (nameB l) ∧ M = [(PT, .tb)], rfl, ⟨l, rfl, rfl, hl, rfl, rfl⟩, ?_⟩
    rintro _ _ ⟨rfl, rfl⟩
    rcases hw with ⟨hb, q⟩ | ⟨hb, q⟩
    · rw [hb]
      walk_at "tg"
      exact q
    · rw [hb]
      walk_at "tg"
      exact as_raiseP rfl q⟩
theorem c_is_value (T : Top K mg w) : Cal P w K mg base 1 "is_value" (Spc K W_isv) [] := cal_of T.d_is_value fun f fd F => by
  obtain ⟨t_LARGEST, g_LARGEST⟩ := T.g_LARGEST
  exact spc_ok F sc_is_value (fun ds M k h => by obtain ⟨i, rfl, _⟩ := h; rfl) fun cdv A outer s H E hr => ⟨_, (pss_cons (ps_if (pt_cmpR op_isN1 (pv 0) pe_non (nomark _))
      (pss_one (ps_ret pe_bl))
      pss_nil)
      (pss_one (ps_ret (pe_and (pe_not (pe_callB (isi_K (K := K)) (by rfl) T.m_isinstance (by decide +kernel) (pa_cons (pv 0) (pa_cons (pe_bltn (v := .ty "bool") (by rfl) T.m_bool (by decide +kernel) rfl) pa_nil)))) (pe_one (pe_chain op_le op_le (pe_un un_neg (pe_glob (v := V.int 1000000) (by rfl) g_LARGEST ⟨_, rfl⟩)) (pv 0) (pe_glob (v := V.int 1000000) (by rfl) g_LARGEST ⟨_, rfl⟩))))))), fun ds M kk hw => by
    obtain ⟨v, rfl, rfl, hv, q⟩ := hw
    refine as_start (δ' := [some v.d]) rfl ?_
    refine as_seq ?_
    cases v with
    | cyc => exact hv.elim
    | non =>
      walk_at "tg"
      exact q
    | int i =>
      obtain ⟨h1, h2⟩ := hv
      show AS K _ [some (.int i)] _ _
      walk_at "tg"
      refine dcase (fun c1 => ?_) (fun c1 => absurd h1 c1)
      walk_at "tg"
      rw [decide_eq_true h2]
      exact q⟩
theorem p_put (kC : Cl_Cells K mg C) (T : Top K mg w) (B : DefB K mg base "is_name" s_is_name ["text"] PT) (e_BadName : ErrP K mg "BadName" D0) (e_BadValue : ErrP K mg "BadValue" D1) : MetX P w K mg base 3 C "put" (SpcP K (W_cput C CM PT)) := metX_of kC.cl kC.d_put fun f fd F => by
  have p_check_name := p_check_name (P := P) (w := w) T B e_BadName
  have c_is_value := c_is_value (P := P) (w := w) (base := base) T
  have p_Cells__give_rule := m_cgr (P := P) (w := w) (base := base) (CM := CM) kC T
  exact spc_okP F sc_Cells_put (fun ds M k kp h => by obtain ⟨c, S, n, v, rfl, _⟩ := h; rfl) fun cdv A outer s H E hr => ⟨_, (pss_cons (ps_expr (pe_cX (takes_of rfl rfl rfl rfl) p_check_name hr (by first | decide | omega) (by rfl) (pa_cons (pv 1) pa_nil)))
      (pss_cons (ps_if (pt_not (tru_K (K := K) (pe_c c_is_value hr (by first | decide | omega) (by rfl) (pa_cons (pv 2) pa_nil))))
      (pss_one (ps_raiseP rfl (takes_of rfl rfl rfl rfl) e_BadValue (by rfl)))
      pss_nil)
      (pss_one (ps_expr (pe_mtE (takes_of rfl rfl rfl rfl) p_Cells__give_rule hr (by first | decide | omega) (pv 0) (pa_cons (pv 1) (pa_cons (pe_tup (pa_cons pe_str (pa_cons (pv 2) pa_nil))) pa_nil))))))), fun ds M kk kp hw => by
    obtain ⟨c, S, n, v, rfl, rfl, ok, hn, hv, h24, q1, q2⟩ := hw
    refine as_start (δ' := [some (.ref c.a), some (.str (tx n)), some v.d]) rfl ?_
    refine as_seq (as_dropP (aep_call rfl (aa_cons (ae_var rfl (aa_nil ?_)))))
    refine ⟨[(PT, .tb)], S.m C CM c, fun d M => M = [(PT, .tb)], fun _ _ => False, rfl, ⟨n, rfl, rfl, by have := hn.2; omega, .inl ⟨hn.1, rfl⟩⟩, ?_, fun _ _ z => z.elim⟩
    rintro _ _ rfl
    refine as_seq (as_if (at_not (at_tru (ae_call (aa_cons (ae_var rfl (aa_nil ?_)))))))
    refine ⟨[], _, fun d M => d = .bl true ∧ M = [], rfl, ⟨v, rfl, rfl, hv, rfl, rfl⟩, ?_⟩
    rintro _ _ ⟨rfl, rfl⟩
    refine ⟨trivial, fun z => Bool.noConfusion z, fun _ => as_next ?_⟩
    show AS K _ _ _ _
    refine as_perm (M' := S.m C CM c ++ [(PT, .tb)]) (List.perm_append_comm (l₁ := [(PT, MO.tb)])) ?_
    refine as_dropP (aep_meth rfl (ae_var rfl ⟨c.a, c.dx, _, rfl, ⟨[], _, rfl⟩, rfl, aa_cons (ae_var rfl ?_)⟩))
    walk_at "tg"
    refine ⟨S.m C CM c, [(PT, .tb)], fun d M => d = .non ∧ ((S.R n = some (.inp v) ∧ M = S.m C CM c) ∨ (S.R n ≠ some (.inp v) ∧ ∃ la J, M = (S.gives n (.inp v)).m C CM { c with la := la } ++ J)), fun _ _ => False, rfl,
      ⟨c, S, n, .inp v, rfl, rfl, ok, hv, h24, fun h => ⟨rfl, .inl ⟨h, rfl⟩⟩, fun h la J => ⟨rfl, .inr ⟨h, la, J, rfl⟩⟩⟩, ?_, fun _ _ z => z.elim⟩
    rintro _ _ ⟨rfl, ⟨h, rfl⟩ | ⟨h, la, J, rfl⟩⟩
    · exact q1 h
    · exact q2 h la J⟩
theorem p_define (kC : Cl_Cells K mg C) (T : Top K mg w) (B : DefB K mg base "is_name" s_is_name ["text"] PT) (e_BadFormula : ErrT_BadFormula K mg Ce) (e_BadName : ErrP K mg "BadName" D0) : MetX P w K mg base 19 C "define" (SpcP K (W_cdef C CM PT)) := metX_of kC.cl kC.d_define fun f fd F => by
  have p_check_name := p_check_name (P := P) (w := w) T B e_BadName
  have x_check_formula := x_check_formula (P := P) (w := w) T B e_BadFormula
  have p_Cells__give_rule := m_cgr (P := P) (w := w) (base := base) (CM := CM) kC T
  exact spc_okP F sc_Cells_define (fun ds M k kp h => by obtain ⟨c, S, n, f, rfl, _⟩ := h; rfl) fun cdv A outer s H E hr => ⟨_, (pss_cons (ps_expr (pe_cX (takes_of rfl rfl rfl rfl) p_check_name hr (by first | decide | omega) (by rfl) (pa_cons (pv 1) pa_nil)))
      (pss_cons (ps_expr (pe_cX takes_none x_check_formula hr (by first | decide | omega) (by rfl) (pa_cons (pv 2) pa_nil)))
      (pss_one (ps_expr (pe_mtE (takes_of rfl rfl rfl rfl) p_Cells__give_rule hr (by first | decide | omega) (pv 0) (pa_cons (pv 1) (pa_cons (pe_tup (pa_cons pe_str (pa_cons (pv 2) pa_nil))) pa_nil))))))), fun ds M kk kp hw => by
    obtain ⟨c, S, n, f, rfl, rfl, ok, hn, hf, h24, q1, q2⟩ := hw
    refine as_start (δ' := [some (.ref c.a), some (.str (tx n)), some f.d]) rfl ?_
    refine as_seq (as_dropP (aep_call rfl (aa_cons (ae_var rfl (aa_nil ?_)))))
    refine ⟨[(PT, .tb)], S.m C CM c, fun d M => M = [(PT, .tb)], fun _ _ => False, rfl, ⟨n, rfl, rfl, by have := hn.2; omega, .inl ⟨hn.1, rfl⟩⟩, ?_, fun _ _ z => z.elim⟩
    rintro _ _ rfl
    refine as_seq (as_drop (ae_callN (aa_cons (ae_var rfl (aa_nil ?_)))))
    refine ⟨[(PT, .tb)], S.m C CM c, fun d M => M = [(PT, .tb)], rfl, ⟨f.d, rfl, rfl, .inl ⟨good_of hf, rfl⟩⟩, ?_⟩
    rintro _ _ rfl
    refine as_perm (M' := S.m C CM c ++ [(PT, .tb)]) (List.perm_append_comm (l₁ := [(PT, MO.tb)])) ?_
    refine as_dropP (aep_meth rfl (ae_var rfl ⟨c.a, c.dx, _, rfl, ⟨[], _, rfl⟩, rfl, aa_cons (ae_var rfl ?_)⟩))
    walk_at "tg"
    refine ⟨S.m C CM c, [(PT, .tb)], fun d M => d = .non ∧ ((S.R n = some (.fml f) ∧ M = S.m C CM c) ∨ (S.R n ≠ some (.fml f) ∧ ∃ la J, M = (S.gives n (.fml f)).m C CM { c with la := la } ++ J)), fun _ _ => False, rfl,
      ⟨c, S, n, .fml f, rfl, rfl, ok, hf, h24, fun h => ⟨rfl, .inl ⟨h, rfl⟩⟩, fun h la J => ⟨rfl, .inr ⟨h, la, J, rfl⟩⟩⟩, ?_, fun _ _ z => z.elim⟩
    rintro _ _ ⟨rfl, ⟨h, rfl⟩ | ⟨h, la, J, rfl⟩⟩
    · exact q1 h
    · exact q2 h la J⟩
end

/-! ### turns under way -/
def keptB (mo : Option Mo) (t : Td) : Bool := match mo with
  | some m => decide (m.e.told.take t.length = t)
  | none => false
structure StOk (S : Cs) (ts : List Tu) : Prop where
  ok : ∀ u ∈ ts, u.Ok
  rule : ∀ u ∈ ts, S.R u.n = some (.fml u.f)
  open_ : ∀ u ∈ ts, lkA S.an u.n = none
  kn : ∀ u ∈ ts, Kn (known S.R S.A) u.told
  mo : ∀ u ∈ ts, u.mo = lkA S.ms u.n
  kept : ∀ u ∈ ts, u.kept = keptB u.mo u.told
  nd : (ts.map Tu.n).Nodup
  chain : ∀ i u v, ts[i]? = some u → ts[i + 1]? = some v → ∃ w, nx u.f u.told = .ask v.n w
inductive Rch (F : Fm) (a : Nm) : Nm → Prop
  | refl : Rch F a a
  | told {n m : Nm} {e : En} {v : Vl} : Rch F a n → F n = some e → (m, v) ∈ e.told → Rch F a m
  | last {n m : Nm} {e : En} : Rch F a n → F n = some e → e.last = some m → Rch F a m
/-- what becomes of the cells while a name is asked -/
structure Ext (a : Nm) (S0 S : Cs) (ts : List Tu) : Prop where
  rs : S.rs = S0.rs
  an : ∀ n b, lkA S0.an n = some b → lkA S.an n = some b ∧ lkA S.ms n = lkA S0.ms n
  ms : ∀ n, lkA S.an n = none → lkA S.ms n = lkA S0.ms n
  new : ∀ n b, lkA S.an n = some b → lkA S0.an n = none → ∃ m, lkA S.ms n = some m ∧ b = keptB (lkA S0.ms n) m.e.told
  rch : ∀ F τ, Phi S.R F τ → Whole S.R F → (∀ n b, lkA S.an n = some b → lkA S0.an n = none → Rch F a n) ∧ ∀ u ∈ ts, Rch F a u.n
theorem kept_snoc {u : Tu} {n : Nm} {v : Vl} (ok : u.Ok) (hk : u.kept = keptB u.mo u.told) {w : Nat} (hn : nx u.f u.told = .ask n w) : u.keeps v = keptB u.mo (u.told ++ [(n, v)]) := by
  unfold Tu.keeps
  cases hm : u.mo with
  | none =>
    show (u.kept && false) = false
    exact Bool.and_false _
  | some m =>
    rw [hm] at hk
    have hk : u.kept = decide (m.e.told.take u.told.length = u.told) := hk
    show (u.kept && (match m.e.told[u.told.length]? with
      | some p => decide (p.2 = v)
      | none => false)) = decide (m.e.told.take (u.told ++ [(n, v)]).length = u.told ++ [(n, v)])
    rw [List.length_append, List.length_singleton, List.take_add_one]
    by_cases c : m.e.told.take u.told.length = u.told
    · rw [decide_eq_true c] at hk
      obtain ⟨m', hm', mok, _⟩ := ok.kept hk
      rw [hm] at hm'
      cases hm'
      rw [hk, Bool.true_and, c]
      cases e : m.e.told[u.told.length]? with
      | none =>
        show false = decide (u.told ++ [] = u.told ++ [(n, v)])
        symm
        apply decide_eq_false
        intro z
        have := congrArg List.length z
        simp at this
      | some p =>
        obtain ⟨n', x⟩ := p
        have hl := (List.getElem?_eq_some_iff.mp e).1
        obtain ⟨n2, v2, w2, e2, e3⟩ := (memo_ask mok c).1 hl
        rw [e] at e2
        cases e2
        rw [hn] at e3
        cases e3
        show decide (x = v) = decide (u.told ++ [(n, x)] = u.told ++ [(n, v)])
        apply decide_eq_decide.mpr
        constructor
        · intro z; rw [z]
        · intro z
          have := List.append_cancel_left z
          simpa using this
    · rw [decide_eq_false c] at hk
      rw [hk, Bool.false_and]
      symm
      apply decide_eq_false
      intro z
      refine c ?_
      have hl : (m.e.told.take u.told.length).length = u.told.length := by
        have h1 := congrArg List.length z
        rw [List.length_append, List.length_append, List.length_singleton] at h1
        have h2 : (m.e.told[u.told.length]?).toList.length ≤ 1 := by cases m.e.told[u.told.length]? <;> simp
        have h3 : (m.e.told.take u.told.length).length ≤ u.told.length := by rw [List.length_take]; omega
        omega
      exact (List.append_inj z hl).1
theorem Tu.Ok.hears {u : Tu} {n : Nm} {v : Vl} (ok : u.Ok) (hk : u.kept = keptB u.mo u.told) {w : Nat} (hn : nx u.f u.told = .ask n w) : (u.hears n v).Ok := by
  have e := kept_snoc (v := v) ok hk hn
  refine ⟨ok.f, asked_snoc ok.asked hn, fun h => ?_⟩
  have h2 : u.keeps v = true := h
  have hkk : u.kept = true := by
    unfold Tu.keeps at h2
    rw [Bool.and_eq_true] at h2
    exact h2.1
  obtain ⟨m, hm, mok, _⟩ := ok.kept hkk
  refine ⟨m, hm, mok, ?_⟩
  rw [h2, hm] at e
  exact of_decide_eq_true e.symm
theorem known_of {S S' : Cs} (hr : S'.rs = S.rs) (h : ∀ n e, S.A n = some e → S'.A n = some e) : ∀ n v, known S.R S.A n = some v → known S'.R S'.A n = some v := by
  have e : S'.R = S.R := by unfold Cs.R; rw [hr]
  rw [e]
  exact known_mono h
/-- what the top turn asks next is in what it will have been told, or what it asked last -/
theorem next_in {R : Nm → Option Ru} {F : Fm} {τ : Nm → Nat} (p : Phi R F τ) {n : Nm} {f : Fo} {e : En} {t : Td} {m : Nm} {w : Nat} (hr : R n = some (.fml f)) (he : F n = some e) (ht : Asked f t) (kt : Kn (known R F) t) (hn : nx f t = .ask m w)
    (hx : ∀ m', e.last = some m' → (∃ v, (m', v) ∈ t) → False) : (∃ v, (m, v) ∈ e.told) ∨ e.last = some m := by
  have ae := p.asked n e f he hr
  have ke := p.kn n e he
  by_cases hl : t.length < e.told.length
  · have e1 := pre_or ht ae kt ke (by omega)
    obtain ⟨m', x, u', g1, g2⟩ := ae.open hl
    rw [e1, hn] at g2
    cases g2
    exact .inl ⟨x, List.mem_of_getElem? g1⟩
  · have e1 := pre_or ae ht ke kt (by omega)
    by_cases hl2 : e.told.length < t.length
    · obtain ⟨m', x, u', g1, g2⟩ := ht.open hl2
      rw [e1] at g2
      cases hlast : e.last with
      | none =>
        obtain ⟨w', hd⟩ := p.dn n e f he hr hlast
        rw [hd] at g2
        cases g2
      | some l =>
        obtain ⟨_, ⟨u3, h2⟩, _⟩ := p.rg n e f l he hr hlast
        rw [h2] at g2
        cases g2
        exact (hx _ hlast ⟨x, List.mem_of_getElem? g1⟩).elim
    · have hll : e.told.length = t.length := by omega
      rw [hll, List.take_length] at e1
      cases hlast : e.last with
      | none =>
        obtain ⟨w', hd⟩ := p.dn n e f he hr hlast
        rw [← e1, hn] at hd
        cases hd
      | some l =>
        obtain ⟨_, ⟨u3, h2⟩, _⟩ := p.rg n e f l he hr hlast
        rw [← e1, hn] at h2
        cases h2
        exact .inr rfl
/-- how far it is to the end -/
def unb (S : Cs) (ts : List Tu) (p : Nm × Ru) : Bool := (match p.2 with
  | .fml _ => true
  | .inp _ => false) && (lkA S.an p.1).isNone && !decide (p.1 ∈ ts.map Tu.n)
def left (ts : List Tu) : Nat := (ts.map fun u => 1000 - u.told.length).sum
def mez (S : Cs) (ts : List Tu) : Nat := (S.rs.filter (unb S ts)).length * 1001 + left ts
theorem filter_le {α : Type} {p q : α → Bool} : ∀ {l : List α}, (∀ x ∈ l, q x = true → p x = true) → (l.filter q).length ≤ (l.filter p).length
  | [], _ => Nat.le_refl _
  | x :: r, h => by
    have ih := filter_le (p := p) (q := q) (l := r) fun y hy => h y (List.mem_cons_of_mem _ hy)
    cases hq : q x with
    | true =>
      rw [List.filter_cons_of_pos hq, List.filter_cons_of_pos (h x List.mem_cons_self hq), List.length_cons, List.length_cons]
      omega
    | false =>
      rw [List.filter_cons_of_neg (by rw [hq]; decide)]
      cases hp : p x with
      | true =>
        rw [List.filter_cons_of_pos hp, List.length_cons]
        omega
      | false =>
        rw [List.filter_cons_of_neg (by rw [hp]; decide)]
        exact ih
theorem filter_lt {α : Type} {p q : α → Bool} {x : α} : ∀ {l : List α}, (∀ x ∈ l, q x = true → p x = true) → x ∈ l → p x = true → q x = false → (l.filter q).length < (l.filter p).length
  | [], _, hx, _, _ => nomatch hx
  | y :: r, h, hx, hp, hq => by
    have hr : ∀ z ∈ r, q z = true → p z = true := fun z hz => h z (List.mem_cons_of_mem _ hz)
    rcases List.mem_cons.mp hx with e | hx
    · subst e
      rw [List.filter_cons_of_pos hp, List.filter_cons_of_neg (by rw [hq]; decide), List.length_cons]
      have := filter_le hr
      omega
    · have ih := filter_lt hr hx hp hq
      cases hqy : q y with
      | true =>
        rw [List.filter_cons_of_pos hqy, List.filter_cons_of_pos (h y List.mem_cons_self hqy), List.length_cons, List.length_cons]
        omega
      | false =>
        rw [List.filter_cons_of_neg (by rw [hqy]; decide)]
        cases hpy : p y with
        | true =>
          rw [List.filter_cons_of_pos hpy, List.length_cons]
          omega
        | false =>
          rw [List.filter_cons_of_neg (by rw [hpy]; decide)]
          exact ih
theorem left_app (ts ts' : List Tu) : left (ts ++ ts') = left ts + left ts' := by
  unfold left
  rw [List.map_append, List.sum_append]
theorem left_one (u : Tu) : left [u] = 1000 - u.told.length := by
  unfold left
  simp

/-! ### one step of asking -/
def Cs.closes (S : Cs) (u : Tu) (a dx : Addr) (v : Vl) (l : Option Nm) : Cs := ⟨S.rs, puA S.ms u.n ⟨a, dx, ⟨u.told, v, l⟩⟩, puA S.an u.n u.kept⟩
theorem Cs.closes_A {S : Cs} {u : Tu} {a dx : Addr} {v : Vl} {l : Option Nm} : (S.closes u a dx v l).A = putF S.A u.n ⟨u.told, v, l⟩ := by
  funext n
  show (if (lkA (puA S.an u.n u.kept) n).isSome then (lkA (puA S.ms u.n _) n).map (·.e) else none) = _
  unfold putF
  rw [lkA_pu, lkA_pu]
  by_cases c : n = u.n
  · rw [if_pos c, if_pos c, if_pos c]
    rfl
  · rw [if_neg c, if_neg c, if_neg c]
    rfl
theorem isAns_no {S : Cs} {n : Nm} (h : S.isAns n = false) : ∃ f, S.R n = some (.fml f) ∧ lkA S.an n = none := by
  unfold Cs.isAns at h
  cases hr : S.R n with
  | none => rw [hr] at h; cases h
  | some r =>
    rw [hr] at h
    cases r with
    | inp v => cases h
    | fml f =>
      refine ⟨f, rfl, ?_⟩
      have h2 : (lkA S.an n).isSome = false := h
      cases e : lkA S.an n with
      | none => rfl
      | some b => rw [e] at h2; cases h2
theorem A_none {S : Cs} {n : Nm} (h : lkA S.an n = none) : S.A n = none := by
  unfold Cs.A
  rw [h]
  rfl
theorem last_get {ts : List Tu} {u : Tu} : (ts ++ [u])[ts.length]? = some u := by
  rw [List.getElem?_append_right (Nat.le_refl _), Nat.sub_self]
  rfl
section
variable {S S0 : Cs} {ts : List Tu} {u : Tu} {a : Nm}
theorem hears_st {n : Nm} {w : Nat} (ok : S.Ok) (st : StOk S (ts ++ [u])) (hn : nx u.f u.told = .ask n w) (ha : S.isAns n = true) : StOk S (ts ++ [u.hears n (S.worth n)]) := by
  have hu : u ∈ ts ++ [u] := by simp
  have mem : ∀ {x}, x ∈ ts ++ [u.hears n (S.worth n)] → x ∈ ts ∨ x = u.hears n (S.worth n) := fun h => (List.mem_append.mp h).imp id List.mem_singleton.mp
  have old : ∀ {x}, x ∈ ts → x ∈ ts ++ [u] := fun h => List.mem_append_left _ h
  refine ⟨fun x hx => ?_, fun x hx => ?_, fun x hx => ?_, fun x hx => ?_, fun x hx => ?_, fun x hx => ?_, ?_, fun i x y hx hy => ?_⟩
  · rcases mem hx with h | rfl
    · exact st.ok x (old h)
    · exact (st.ok u hu).hears (st.kept u hu) hn
  · rcases mem hx with h | rfl
    · exact st.rule x (old h)
    · exact st.rule u hu
  · rcases mem hx with h | rfl
    · exact st.open_ x (old h)
    · exact st.open_ u hu
  · rcases mem hx with h | rfl
    · exact st.kn x (old h)
    · intro m v hm
      rcases List.mem_append.mp hm with h | h
      · exact st.kn u hu m v h
      · obtain ⟨rfl, rfl⟩ : m = n ∧ v = S.worth n := by simpa using h
        exact Cs.isAns_known ok ha
  · rcases mem hx with h | rfl
    · exact st.mo x (old h)
    · exact st.mo u hu
  · rcases mem hx with h | rfl
    · exact st.kept x (old h)
    · exact kept_snoc (st.ok u hu) (st.kept u hu) hn
  · have := st.nd
    rw [List.map_append] at this ⊢
    exact this
  · by_cases hi : i + 1 < ts.length
    · rw [List.getElem?_append_left (by omega)] at hx
      rw [List.getElem?_append_left hi] at hy
      exact st.chain i x y (by rw [List.getElem?_append_left (by omega)]; exact hx) (by rw [List.getElem?_append_left hi]; exact hy)
    · by_cases hi2 : i + 1 = ts.length
      · rw [List.getElem?_append_left (by omega)] at hx
        rw [hi2, last_get] at hy
        cases hy
        exact st.chain i x u (by rw [List.getElem?_append_left (by omega)]; exact hx) (by rw [hi2, last_get])
      · exfalso
        rw [List.getElem?_append_right (by omega)] at hy
        have : i + 1 - ts.length ≠ 0 := by omega
        cases q : i + 1 - ts.length with
        | zero => exact this q
        | succ k => rw [q] at hy; simp at hy
theorem hears_ext {n : Nm} {v : Vl} (ex : Ext a S0 S (ts ++ [u])) : Ext a S0 S (ts ++ [u.hears n v]) :=
  ⟨ex.rs, ex.an, ex.ms, ex.new, fun F τ p wh => ⟨(ex.rch F τ p wh).1, fun x hx => by
    rcases List.mem_append.mp hx with h | h
    · exact (ex.rch F τ p wh).2 x (List.mem_append_left _ h)
    · rw [List.mem_singleton.mp h]
      exact (ex.rch F τ p wh).2 u (by simp)⟩⟩
theorem hears_mez {n : Nm} {v : Vl} (o : u.Ok) : mez S (ts ++ [u.hears n v]) < mez S (ts ++ [u]) := by
  have h1 : unb S (ts ++ [u.hears n v]) = unb S (ts ++ [u]) := by
    funext p
    unfold unb
    rw [List.map_append, List.map_append]
    rfl
  have := o.small
  unfold mez
  rw [h1, left_app, left_app, left_one, left_one]
  show _ + (_ + (1000 - (u.told ++ [(n, v)]).length)) < _
  rw [List.length_append, List.length_singleton]
  omega
/-- a turn for a name that is asked -/
theorem pushes_st {n : Nm} {w : Nat} {f : Fo} {b dx tl : Addr} (ok : S.Ok) (st : StOk S (ts ++ [u])) (hn : nx u.f u.told = .ask n w) (hr : S.R n = some (.fml f)) (ha : lkA S.an n = none) (hni : n ∉ (ts ++ [u]).map Tu.n) :
    StOk S ((ts ++ [u]) ++ [⟨b, dx, tl, n, f, [], (lkA S.ms n).isSome, lkA S.ms n⟩]) := by
  have mem : ∀ {x}, x ∈ (ts ++ [u]) ++ [⟨b, dx, tl, n, f, [], (lkA S.ms n).isSome, lkA S.ms n⟩] → x ∈ ts ++ [u] ∨ x = ⟨b, dx, tl, n, f, [], (lkA S.ms n).isSome, lkA S.ms n⟩ := fun h => (List.mem_append.mp h).imp id List.mem_singleton.mp
  refine ⟨fun x hx => ?_, fun x hx => ?_, fun x hx => ?_, fun x hx => ?_, fun x hx => ?_, fun x hx => ?_, ?_, fun i x y hx hy => ?_⟩
  · rcases mem hx with h | rfl
    · exact st.ok x h
    · refine ⟨?_, asked_nil f, fun h => ?_⟩
      · exact ok.ru n _ hr
      · cases e : lkA S.ms n with
        | none => rw [e] at h; cases h
        | some m =>
          obtain ⟨g, hg, mok⟩ := ok.ms n m e
          rw [hr] at hg
          cases hg
          exact ⟨m, rfl, mok, rfl⟩
  · rcases mem hx with h | rfl
    · exact st.rule x h
    · exact hr
  · rcases mem hx with h | rfl
    · exact st.open_ x h
    · exact ha
  · rcases mem hx with h | rfl
    · exact st.kn x h
    · exact fun _ _ h => nomatch h
  · rcases mem hx with h | rfl
    · exact st.mo x h
    · rfl
  · rcases mem hx with h | rfl
    · exact st.kept x h
    · show (lkA S.ms n).isSome = keptB (lkA S.ms n) []
      cases lkA S.ms n <;> rfl
  · have h1 := st.nd
    rw [List.map_append]
    rw [List.nodup_append]
    refine ⟨h1, by simp, fun x hx y hy => ?_⟩
    have e : y = n := by simpa using hy
    rw [e]
    exact fun z => hni (z ▸ hx)
  · by_cases hi : i + 1 < (ts ++ [u]).length
    · rw [List.getElem?_append_left (by omega)] at hx
      rw [List.getElem?_append_left hi] at hy
      exact st.chain i x y hx hy
    · by_cases hi2 : i + 1 = (ts ++ [u]).length
      · rw [List.getElem?_append_left (by omega)] at hx
        rw [hi2, last_get] at hy
        cases hy
        rw [List.length_append, List.length_singleton] at hi2
        have hi3 : i = ts.length := by omega
        rw [hi3, last_get] at hx
        cases hx
        exact ⟨w, hn⟩
      · exfalso
        rw [List.getElem?_append_right (by omega)] at hy
        have : i + 1 - (ts ++ [u]).length ≠ 0 := by omega
        cases q : i + 1 - (ts ++ [u]).length with
        | zero => exact this q
        | succ k => rw [q] at hy; simp at hy
theorem pushes_ext {n : Nm} {w : Nat} {v : Tu} (hv : v.n = n) (ok : S.Ok) (st : StOk S (ts ++ [u])) (hn : nx u.f u.told = .ask n w) (ex : Ext a S0 S (ts ++ [u])) : Ext a S0 S ((ts ++ [u]) ++ [v]) := by
  refine ⟨ex.rs, ex.an, ex.ms, ex.new, fun F τ p wh => ⟨(ex.rch F τ p wh).1, fun x hx => ?_⟩⟩
  have hu : u ∈ ts ++ [u] := by simp
  rcases List.mem_append.mp hx with h | h
  · exact (ex.rch F τ p wh).2 x h
  · rw [List.mem_singleton.mp h, hv]
    have hr := st.rule u hu
    obtain ⟨e, he⟩ := wh u.n u.f hr
    have hs := ok.aok.sub F τ p wh
    have ru := (ex.rch F τ p wh).2 u hu
    rcases next_in p hr he (st.ok u hu).asked ((st.kn u hu).mono (known_mono hs)) hn (fun m' hl ⟨x, hx⟩ => by
      obtain ⟨_, _, ⟨e', he'⟩, _, lk⟩ := p.rg u.n e u.f m' he hr hl
      obtain ⟨fm, hfm⟩ := p.dom m' e' he'
      obtain ⟨em, hem⟩ := kn_in (st.kn u hu) hx hfm
      obtain ⟨en, hen⟩ := ok.aok.back hs lk ⟨em, hem⟩
      rw [A_none (st.open_ u hu)] at hen
      cases hen) with ⟨x, h⟩ | h
    · exact .told ru he h
    · exact .last ru he h
theorem pushes_mez {n : Nm} {f : Fo} {v : Tu} (hv : v.n = n) (ht : v.told = []) (hr : S.R n = some (.fml f)) (ha : lkA S.an n = none) (hni : n ∉ (ts ++ [u]).map Tu.n) : mez S ((ts ++ [u]) ++ [v]) < mez S (ts ++ [u]) := by
  have h1 : (S.rs.filter (unb S ((ts ++ [u]) ++ [v]))).length < (S.rs.filter (unb S (ts ++ [u]))).length := by
    refine filter_lt (x := (n, .fml f)) (fun x _ hx => ?_) (lkA_mem (show lkA S.rs n = some (.fml f) from hr)) ?_ ?_
    · unfold unb at hx ⊢
      rw [Bool.and_eq_true] at hx ⊢
      refine ⟨hx.1, ?_⟩
      have h2 := hx.2
      rw [Bool.not_eq_true', decide_eq_false_iff_not] at h2 ⊢
      intro z
      refine h2 ?_
      rw [List.map_append]
      exact List.mem_append_left _ z
    · unfold unb
      rw [ha, decide_eq_false hni]
      rfl
    · unfold unb
      have : n ∈ ((ts ++ [u]) ++ [v]).map Tu.n := by
        rw [List.map_append]
        exact List.mem_append_right _ (by simp [hv])
      rw [decide_eq_true this]
      simp
  unfold mez
  rw [left_app (ts ++ [u]) [v], left_one, ht]
  show _ + (_ + (1000 - 0)) < _
  omega
/-- a turn is closed -/
theorem closes_ok {v : Vl} {w : Nat} {b dx : Addr} (ok : S.Ok) (st : StOk S (ts ++ [u])) (hd : nx u.f u.told = .done v w) : (S.closes u b dx v none).Ok := by
  have hu : u ∈ ts ++ [u] := by simp
  have hr := st.rule u hu
  refine ⟨ok.nr, ok.lr, ok.ru, nodup_pu ok.nm, fun n m h => ?_, nodup_pu ok.na, fun n x h => ?_, ?_⟩
  · have h : lkA (puA S.ms u.n _) n = some m := h
    rw [lkA_pu] at h
    by_cases c : n = u.n
    · rw [if_pos c] at h
      cases h
      rw [c]
      exact ⟨u.f, hr, (st.ok u hu).asked, fun _ => ⟨w, hd⟩, fun _ z => nomatch z⟩
    · rw [if_neg c] at h
      exact ok.ms n m h
  · have h : lkA (puA S.an u.n u.kept) n = some x := h
    show ∃ m, lkA (puA S.ms u.n _) n = some m
    rw [lkA_pu] at h ⊢
    by_cases c : n = u.n
    · rw [if_pos c]
      exact ⟨_, rfl⟩
    · rw [if_neg c] at h ⊢
      exact ok.an n x h
  · rw [Cs.closes_A]
    exact ok.aok.done hr (A_none (st.open_ u hu)) (st.ok u hu).asked (st.kn u hu) hd
theorem closes_st {v : Vl} {l : Option Nm} {b dx : Addr} (st : StOk S (ts ++ [u])) : StOk (S.closes u b dx v l) ts := by
  have hu : u ∈ ts ++ [u] := by simp
  have old : ∀ {x}, x ∈ ts → x ∈ ts ++ [u] := fun h => List.mem_append_left _ h
  have nd := st.nd
  rw [List.map_append, List.nodup_append] at nd
  have ne : ∀ x ∈ ts, x.n ≠ u.n := fun x hx => nd.2.2 x.n (List.mem_map.mpr ⟨x, hx, rfl⟩) u.n (by simp)
  have hA : ∀ n e, S.A n = some e → (S.closes u b dx v l).A n = some e := fun n e h => by
    rw [Cs.closes_A]
    exact putF_ext (A_none (st.open_ u hu)) n e h
  refine ⟨fun x hx => st.ok x (old hx), fun x hx => st.rule x (old hx), fun x hx => ?_, fun x hx => (st.kn x (old hx)).mono (known_of rfl hA), fun x hx => ?_, fun x hx => st.kept x (old hx), nd.1, fun i x y hx hy => ?_⟩
  · show lkA (puA S.an u.n u.kept) x.n = none
    rw [lkA_pu, if_neg (ne x hx)]
    exact st.open_ x (old hx)
  · show x.mo = lkA (puA S.ms u.n _) x.n
    rw [lkA_pu, if_neg (ne x hx)]
    exact st.mo x (old hx)
  · have hl := (List.getElem?_eq_some_iff.mp hy).1
    exact st.chain i x y (by rw [List.getElem?_append_left (by omega)]; exact hx) (by rw [List.getElem?_append_left hl]; exact hy)
theorem closes_ext {v : Vl} {l : Option Nm} {b dx : Addr} (st : StOk S (ts ++ [u])) (ex : Ext a S0 S (ts ++ [u])) : Ext a S0 (S.closes u b dx v l) ts := by
  have hu : u ∈ ts ++ [u] := by simp
  have hop := st.open_ u hu
  have hop0 : lkA S0.an u.n = none := by
    cases e : lkA S0.an u.n with
    | none => rfl
    | some x =>
      have := (ex.an u.n x e).1
      rw [hop] at this
      cases this
  refine ⟨ex.rs, fun n x h => ?_, fun n h => ?_, fun n x h h0 => ?_, fun F τ p wh => ⟨fun n x h h0 => ?_, fun x hx => (ex.rch F τ p wh).2 x (List.mem_append_left _ hx)⟩⟩
  · have hne : n ≠ u.n := fun z => by rw [z, hop0] at h; cases h
    show lkA (puA S.an u.n u.kept) n = some x ∧ lkA (puA S.ms u.n _) n = _
    rw [lkA_pu, lkA_pu, if_neg hne, if_neg hne]
    exact ex.an n x h
  · have h : lkA (puA S.an u.n u.kept) n = none := h
    show lkA (puA S.ms u.n _) n = _
    rw [lkA_pu] at h ⊢
    by_cases c : n = u.n
    · rw [if_pos c] at h
      cases h
    · rw [if_neg c] at h ⊢
      exact ex.ms n h
  · have h : lkA (puA S.an u.n u.kept) n = some x := h
    show ∃ m, lkA (puA S.ms u.n _) n = some m ∧ _
    rw [lkA_pu] at h ⊢
    by_cases c : n = u.n
    · rw [if_pos c] at h ⊢
      cases h
      refine ⟨_, rfl, ?_⟩
      rw [st.kept u hu, st.mo u hu, ex.ms u.n hop, c]
    · rw [if_neg c] at h ⊢
      exact ex.new n x h h0
  · have h : lkA (puA S.an u.n u.kept) n = some x := h
    rw [lkA_pu] at h
    by_cases c : n = u.n
    · rw [c]
      exact (ex.rch F τ p wh).2 u hu
    · rw [if_neg c] at h
      exact (ex.rch F τ p wh).1 n x h h0
theorem closes_mez {v : Vl} {l : Option Nm} {b dx : Addr} (o : u.Ok) : mez (S.closes u b dx v l) ts < mez S (ts ++ [u]) := by
  have h1 : (S.rs.filter (unb (S.closes u b dx v l) ts)).length ≤ (S.rs.filter (unb S (ts ++ [u]))).length := by
    refine filter_le fun x _ hx => ?_
    unfold unb at hx ⊢
    rw [Bool.and_eq_true, Bool.and_eq_true] at hx ⊢
    obtain ⟨⟨h1, h2⟩, h3⟩ := hx
    have h2 : (lkA (puA S.an u.n u.kept) x.1).isNone = true := h2
    rw [lkA_pu] at h2
    by_cases c : x.1 = u.n
    · rw [if_pos c] at h2
      cases h2
    · rw [if_neg c] at h2
      refine ⟨⟨h1, h2⟩, ?_⟩
      rw [Bool.not_eq_true', decide_eq_false_iff_not] at h3 ⊢
      rw [List.map_append, List.mem_append]
      rintro (z | z)
      · exact h3 z
      · exact c (by simpa using z)
  have := o.small
  unfold mez
  rw [left_app, left_one]
  show (S.rs.filter _).length * 1001 + _ < _
  omega
end

/-! ### asking -/
def rfs (ts : List Tu) : List D := ts.map fun u => .ref u.a
def flt (CT : Addr) (ts : List Tu) : Mu := ts.flatMap (Tu.m CT)
def W_ctn (C CM CT : Addr) : Wt := fun ds M k => ∃ (c : Ca) (S : Cs) (n : Nm) (f : Fo), ds = [.ref c.a, .str (tx n)] ∧ M = S.m C CM c ∧ S.R n = some (.fml f) ∧ ∀ a dx tl, k (.ref a) (Tu.m CT ⟨a, dx, tl, n, f, [], (lkA S.ms n).isSome, lkA S.ms n⟩ ++ S.m C CM c)
def W_ccl (C CM CT : Addr) : Wt := fun ds M k => ∃ (c : Ca) (S : Cs) (u : Tu) (v : Vl) (l : Option Nm), ds = [.ref c.a, .ref u.a, v.d, lsD l] ∧ M = S.m C CM c ++ u.m CT ∧ (S.ms.map (·.1)).Nodup ∧ S.ms.length ≤ 1000 ∧ S.an.length ≤ 1000 ∧
  ∀ a dx J, k .non ((S.closes u a dx v l).m C CM c ++ J)
theorem puA_perm {α β : Type} (g : Nm × α → β) {l : List (Nm × α)} {n : Nm} {x : α} (hg : ∀ n m y, g (n, y) = g (m, y)) (nd : (l.map (·.1)).Nodup) : ∃ J, (g (n, x) :: l.map g).Perm ((puA l n x).map g ++ J) := by
  unfold puA
  split
  · rename_i h
    have hm := any_mem.mp h
    clear h
    induction l with
    | nil => cases hm
    | cons p l ih =>
      obtain ⟨q, y⟩ := p
      obtain ⟨n1, n2⟩ := List.nodup_cons.mp nd
      rw [List.map_cons, List.map_cons, List.map_cons]
      by_cases c : q = n
      · subst c
        rw [if_pos rfl]
        have e : l.map (fun p => if p.1 = q then (p.1, x) else p) = l := (List.map_congr_left (g := id) fun p hp => by
          show (if p.1 = q then (p.1, x) else p) = p
          exact if_neg fun z => n1 (List.mem_map.mpr ⟨p, hp, z⟩)).trans (List.map_id l)
        rw [e]
        exact ⟨[g (q, y)], List.Perm.cons _ (List.perm_append_comm (l₁ := [g (q, y)]))⟩
      · rw [if_neg c]
        obtain ⟨J, hJ⟩ := ih n2 (by
          rcases List.mem_cons.mp hm with e | e
          · exact absurd e.symm c
          · exact e)
        exact ⟨J, (List.Perm.swap _ _ _).trans (List.Perm.cons _ hJ)⟩
  · refine ⟨[], ?_⟩
    rw [List.append_nil, List.map_append]
    exact List.perm_append_comm (l₁ := [g (n, x)])
section
variable {P : Program} {w : World} {K : PySem.W.Frag} {mg : Str → Option Value} {base : Heap} {C CM CT CE : Addr}
theorem m_ctn (kC : Cl_Cells K mg C) (kT : Cl_Turn K mg CT) (T : Top K mg w) : C8.Met P w K mg base 3 C "_turn" (Spc K (W_ctn C CM CT)) [] := met_of kC.cl kC.d__turn fun f fd F => by
  have c_Turn := m_tuinit (P := P) (w := w) (base := base) kT T
  exact spc_ok F sc_Cells__turn (fun ds M k h => by obtain ⟨c, S, n, f, rfl, _⟩ := h; rfl) fun cdv A outer s H E hr => ⟨_, (pss_one (ps_ret (pe_mk c_Turn hr (by first | decide | omega) (by rfl) (pa_cons (pv 1) (pa_cons (pe_ix (ix_K (K := K)) (pe_dget (hu_of hr) (fld_K (K := K) (pv 0)) (pv 1) (fun _ _ => rfl)) pe_int (fun _ _ => rfl)) (pa_cons (pe_dget1 (hu_of hr) (fld_K (K := K) (pv 0)) (pv 1) ⟨rfl, rfl, rfl, rfl⟩) pa_nil)))))), fun ds M kk hw => by
    obtain ⟨c, S, n, fo, rfl, rfl, hr, q⟩ := hw
    have hr' : lkA S.rs n = some (.fml fo) := hr
    refine as_start (δ' := [some (.ref c.a), some (.str (tx n))]) rfl ?_
    refine as_ret (ae_make (aa_cons (ae_var rfl (aa_cons (ae_op (ae_dgetm (fl_r kC rfl Cs.a_in (ae_var rfl ⟨c.lr, _, .inr (tx n), ruD (.fml fo), rfl, rfl, Cs.lr_in, by rw [valD_kv, hr']; rfl, ?_⟩))))))))
    unfold ruD
    walk_at "tg"
    refine ae_dget1m (fl_m kC rfl Cs.a_in ⟨⟨c.lm, _, rfl, Cs.lm_in⟩, ae_var rfl ⟨c.lm, _, .inr (tx n), rfl, rfl, Cs.lm_in, ?_⟩⟩)
    rw [valD_kv]
    have e : ((lkA S.ms n).map fun m => D.ref m.a).getD .non = moD (lkA S.ms n) := by cases lkA S.ms n <;> rfl
    rw [e]
    refine aa_nil fun a dx => ⟨fun d M => ∃ tl, d = .non ∧ M = Tu.m CT ⟨a, dx, tl, n, fo, [], (lkA S.ms n).isSome, lkA S.ms n⟩, ⟨a, dx, n, fo, lkA S.ms n, rfl, rfl, fun tl => ⟨tl, rfl, rfl⟩⟩, ?_⟩
    rintro _ _ ⟨tl, rfl, rfl⟩
    exact ⟨rfl, q a dx tl⟩⟩
theorem m_ccl (kC : Cl_Cells K mg C) (kT : Cl_Turn K mg CT) (kM : Cl_Memo K mg CM) (T : Top K mg w) : C8.Met P w K mg base 3 C "_close" (Spc K (W_ccl C CM CT)) [] := met_of kC.cl kC.d__close fun f fd F => by
  have c_Memo := m_meinit (P := P) (w := w) (base := base) kM T
  obtain ⟨t_KEPT, g_KEPT⟩ := T.g_KEPT; obtain ⟨t_RUN, g_RUN⟩ := T.g_RUN
  exact spc_ok F sc_Cells__close (fun ds M k h => by obtain ⟨c, S, u, v, l, rfl, _⟩ := h; rfl) fun cdv A outer s H E hr => ⟨_, (pss_cons (ps_asg (pe_mk c_Memo hr (by first | decide | omega) (by rfl) (pa_cons (fld_K (K := K) (pv 1)) (pa_cons (pv 2) (pa_cons (pv 3) pa_nil)))) (pg_sub (fld_K (K := K) (pv 0)) (fld_K (K := K) (pv 1)) (set_any (hu_of hr))))
      (pss_one (ps_asg (pe_ifExp (tru_K (K := K) (fld_K (K := K) (pv 1))) (pe_glob (v := V.str (tx cst_KEPT)) (by rfl) g_KEPT ⟨_, rfl⟩) (pe_glob (v := V.str (tx cst_RUN)) (by rfl) g_RUN ⟨_, rfl⟩)) (pg_sub (fld_K (K := K) (pv 0)) (fld_K (K := K) (pv 1)) (set_any (hu_of hr)))))), fun ds M kk hw => by
    obtain ⟨c, S, u, v, l, rfl, rfl, nd, hl1, hl2, q⟩ := hw
    have hsz := sizeLine_eq
    refine as_start (δ' := [some (.ref c.a), some (.ref u.a), some v.d, some (lsD l)]) rfl ?_
    have htu : (u.a, MO.ins CT u.dx (TuF u)) ∈ S.m C CM c ++ u.m CT := List.mem_append_right _ List.mem_cons_self
    refine as_seq (as_asg (ae_make (aa_cons (k_freeze (a := u.tl) (ds := tlD u.told) (M1 := S.m C CM c ++ [(u.a, .ins CT u.dx (TuF u))]) (M2 := []) (ae_fldm (ae_var rfl ⟨u.a, CT, u.dx, TuF u, .ref u.tl, rfl, htu, kT.cl, kT.n_told, rfl, ?_⟩))))))
    refine ⟨rfl, by rw [List.append_assoc]; rfl, ?_⟩
    rw [List.append_nil]
    refine aa_cons (ae_var rfl (aa_cons (ae_var rfl (aa_nil fun a dx => ⟨fun d M => d = .non ∧ M = [(a, .ins CM dx (MeF ⟨u.told, v, l⟩))], ⟨a, dx, ⟨u.told, v, l⟩, rfl, rfl, rfl, rfl⟩, ?_⟩))))
    rintro _ _ ⟨rfl, rfl⟩
    refine ⟨rfl, ?_⟩
    have name : ∀ {δ : DS} {k : D → Mu → Prop} {M : Mu}, δ[1]? = some (some (.ref u.a)) → (u.a, MO.ins CT u.dx (TuF u)) ∈ M → k (.str (tx u.n)) M → AE K (tFld K (tVar 1) "name") δ M k := fun h0 h1 h2 =>
      ae_fldm (ae_var h0 ⟨u.a, CT, u.dx, TuF u, .str (tx u.n), rfl, h1, kT.cl, kT.n_name, rfl, h2⟩)
    let m : Mo := ⟨a, dx, ⟨u.told, v, l⟩⟩
    have mem : ∀ {x : Addr × MO}, x ∈ S.m C CM c → x ∈ [m.m CM] ++ (S.m C CM c ++ [(u.a, MO.ins CT u.dx (TuF u))]) := fun h => List.mem_append_right _ (List.mem_append_left _ h)
    have memu : (u.a, MO.ins CT u.dx (TuF u)) ∈ [m.m CM] ++ (S.m C CM c ++ [(u.a, MO.ins CT u.dx (TuF u))]) := List.mem_append_right _ (List.mem_append_right _ (List.mem_singleton_self _))
    refine ag_setU (fl_m kC rfl (mem Cs.a_in) (name rfl memu (put_d (M1 := [_, _, _]) (kvs := kvD (fun m : Mo => .ref m.a) S.ms) (key := .inr (tx u.n)) rfl rfl (by rw [kvD_len]; omega) ?_)))
    have e1 : putD (kvD (fun m : Mo => .ref m.a) S.ms) (.inr (tx u.n)) (.ref a) = kvD (fun m : Mo => .ref m.a) (puA S.ms u.n m) := putD_kv (g := fun m : Mo => .ref m.a) (x := m) S.ms
    rw [e1]
    show AS K _ _ ([m.m CM, (c.a, .ins C c.dx (CoF c)), (c.lr, .dK (kvD ruD S.rs)), (c.lm, .dK (kvD (fun m : Mo => .ref m.a) (puA S.ms u.n m))), (c.la, .dK (kvD flD S.an))] ++ (S.mo CM ++ [(u.a, .ins CT u.dx (TuF u))])) _
    refine as_nxP (as_asg (ae_if (at_tru (ae_fldm (ae_var rfl ⟨u.a, CT, u.dx, TuF u, .bl u.kept, rfl, by simp, kT.cl, kT.n_is_kept, rfl, ?_⟩)))))
    have fin : ∀ {d : D}, d = flD u.kept → AG K (gSub (tFld K (tVar 0) "_answered") (tFld K (tVar 1) "name") rSetU) d [some (.ref c.a), some (.ref u.a), some v.d, some (lsD l)]
        ([m.m CM, (c.a, .ins C c.dx (CoF c)), (c.lr, .dK (kvD ruD S.rs)), (c.lm, .dK (kvD (fun m : Mo => .ref m.a) (puA S.ms u.n m))), (c.la, .dK (kvD flD S.an))] ++ (S.mo CM ++ [(u.a, .ins CT u.dx (TuF u))]))
        (fun δ' M' => ∃ M2, M'.Perm M2 ∧ kk .non M2) := fun hd => by
      subst hd
      refine ag_setU (fl_a kC rfl (by simp) (name rfl (by simp) (put_d (M1 := [_, _, _, _]) (kvs := kvD flD S.an) (key := .inr (tx u.n)) rfl rfl (by rw [kvD_len]; omega) ?_)))
      rw [putD_kv]
      obtain ⟨J, hJ⟩ := puA_perm (fun p : Nm × Mo => p.2.m CM) (n := u.n) (x := m) (fun _ _ _ => rfl) nd
      refine ⟨_, ?_, q a dx (J ++ [(u.a, .ins CT u.dx (TuF u))])⟩
      show (m.m CM :: ([(c.a, .ins C c.dx (CoF c)), (c.lr, .dK (kvD ruD S.rs)), (c.lm, .dK (kvD (fun m : Mo => .ref m.a) (puA S.ms u.n m))), (c.la, .dK (kvD flD (puA S.an u.n u.kept)))] ++ (S.mo CM ++ [(u.a, .ins CT u.dx (TuF u))]))).Perm
        (([(c.a, .ins C c.dx (CoF c)), (c.lr, .dK (kvD ruD S.rs)), (c.lm, .dK (kvD (fun m : Mo => .ref m.a) (puA S.ms u.n m))), (c.la, .dK (kvD flD (puA S.an u.n u.kept)))] ++ (puA S.ms u.n m).map fun p => p.2.m CM) ++ (J ++ [(u.a, .ins CT u.dx (TuF u))]))
      rw [List.append_assoc]
      refine (List.perm_middle (l₁ := [(c.a, MO.ins C c.dx (CoF c)), (c.lr, .dK (kvD ruD S.rs)), (c.lm, .dK (kvD (fun m : Mo => .ref m.a) (puA S.ms u.n m))), (c.la, .dK (kvD flD (puA S.an u.n u.kept)))])).symm.trans (List.Perm.append_left _ ?_)
      rw [← List.append_assoc, ← List.cons_append]
      exact List.Perm.append_right _ hJ
    have ek : tx cst_KEPT = Str.ofString "kept" := by decide +kernel
    have er : tx cst_RUN = Str.ofString "run" := by decide +kernel
    cases hk : u.kept with
    | true =>
      refine ⟨trivial, fun _ => ae_str ?_, fun z => nomatch z⟩
      exact fin (by rw [hk, ek]; rfl)
    | false =>
      refine ⟨trivial, fun z => (nomatch z), fun _ => ae_str ?_⟩
      exact fin (by rw [hk, er]; rfl)⟩
end

/-! ### going on -/
def St (C CM CT tr : Addr) (c : Ca) (S : Cs) (ts : List Tu) : Mu := S.m C CM c ++ ((tr, .lst (rfs ts)) :: flt CT ts)
/-- nobody asks in a ring -/
def NoRing (R : Nm → Option Ru) : Prop := ∃ ρ : Nm → Nat, ∀ n f t m w g, R n = some (.fml f) → nx f t = .ask m w → R m = some (.fml g) → ρ m < ρ n
def W_cgo (C CM CT : Addr) : Wt := fun ds M k => ∃ (c : Ca) (S : Cs) (ts : List Tu) (u : Tu) (tr : Addr), ds = [.ref c.a, .ref tr] ∧ M = St C CM CT tr c S (ts ++ [u]) ∧ S.Ok ∧ StOk S (ts ++ [u]) ∧ NoRing S.R ∧
  (∀ v w, nx u.f u.told = .done v w → ∀ a dx J, k .non (St C CM CT tr c (S.closes u a dx v none) ts ++ J)) ∧
  (∀ n w, nx u.f u.told = .ask n w → S.isAns n = true → k .non (St C CM CT tr c S (ts ++ [u.hears n (S.worth n)]))) ∧
  (∀ n w f, nx u.f u.told = .ask n w → S.isAns n = false → S.R n = some (.fml f) → n ∉ (ts ++ [u]).map Tu.n → ∀ a dx tl, k .non (St C CM CT tr c S ((ts ++ [u]) ++ [⟨a, dx, tl, n, f, [], (lkA S.ms n).isSome, lkA S.ms n⟩])))
theorem len_sub {α β : Type} {l : List (Nm × α)} {r : List (Nm × β)} (nd : (l.map (·.1)).Nodup) (h : ∀ n x, lkA l n = some x → ∃ y, lkA r n = some y) : l.length ≤ r.length := by
  have := nodup_sub (L := r.map (·.1)) nd fun n hn => by
    cases e : lkA l n with
    | none => exact absurd hn (lkA_none.mp e)
    | some x =>
      obtain ⟨y, hy⟩ := h n x e
      exact List.mem_map.mpr ⟨(n, y), lkA_mem hy, rfl⟩
  rwa [List.length_map, List.length_map] at this
theorem Cs.Ok.small {S : Cs} (ok : S.Ok) : S.ms.length ≤ 24 ∧ S.an.length ≤ 24 := by
  have h1 : S.ms.length ≤ S.rs.length := len_sub ok.nm fun n m h => by
    obtain ⟨f, hf, _⟩ := ok.ms n m h
    exact ⟨_, hf⟩
  have h2 : S.an.length ≤ S.ms.length := len_sub ok.na fun n b h => ok.an n b h
  have := ok.lr
  omega
theorem atI_last {α : Type} {l : List α} {x : α} : atI (l ++ [x]) (-1) = some x := by
  unfold atI
  rw [List.length_append, List.length_singleton]
  have e : ixN (l.length + 1) (-1) = some l.length := by
    unfold ixN
    split
    · omega
    · split
      · congr 1
        omega
      · omega
  rw [e]
  show (l ++ [x])[l.length]? = some x
  rw [List.getElem?_append_right (Nat.le_refl _), Nat.sub_self]
  rfl
theorem flt_app (CT : Addr) (ts ts' : List Tu) : flt CT (ts ++ ts') = flt CT ts ++ flt CT ts' := by
  unfold flt
  rw [List.flatMap_append]
theorem flt_one (CT : Addr) (u : Tu) : flt CT [u] = u.m CT := by
  unfold flt
  simp
theorem rfs_app (ts : List Tu) (u : Tu) : rfs (ts ++ [u]) = rfs ts ++ [.ref u.a] := by
  unfold rfs
  rw [List.map_append]
  rfl
/-- the top turn, with its memo, ahead of the rest -/
theorem perm_top (C CM CT tr : Addr) (c : Ca) (S : Cs) (ts : List Tu) (u : Tu) (hm : u.mo = lkA S.ms u.n) : ∃ R, ∀ (d : List D) (v : Mu), (S.m C CM c ++ ((tr, .lst d) :: (flt CT ts ++ v))).Perm ((v ++ u.kp CM) ++ ((tr, .lst d) :: R)) := by
  have h : ∃ R, (S.m C CM c).Perm (u.kp CM ++ R) := by
    unfold Tu.kp
    cases hu : u.mo with
    | none => exact ⟨_, List.Perm.refl _⟩
    | some m =>
      dsimp only
      split
      · rw [hm] at hu
        obtain ⟨l1, l2, e⟩ := List.append_of_mem (Cs.mo_in (C := C) (CM := CM) (c := c) hu)
        exact ⟨l1 ++ l2, by rw [e]; exact List.perm_middle⟩
      · exact ⟨_, List.Perm.refl _⟩
  obtain ⟨R, hR⟩ := h
  refine ⟨R ++ flt CT ts, fun d v => ?_⟩
  refine (List.Perm.append_right _ hR).trans ?_
  have e1 : ((u.kp CM ++ R) ++ ((tr, MO.lst d) :: (flt CT ts ++ v))).Perm ((((tr, MO.lst d) :: (flt CT ts ++ v))) ++ (u.kp CM ++ R)) := List.perm_append_comm
  refine e1.trans ?_
  have e2 : ((v ++ u.kp CM) ++ ((tr, MO.lst d) :: (R ++ flt CT ts))).Perm ((tr, MO.lst d) :: ((v ++ u.kp CM) ++ (R ++ flt CT ts))) := List.perm_middle
  refine List.Perm.trans ?_ e2.symm
  refine List.Perm.cons _ ?_
  show ((flt CT ts ++ v) ++ (u.kp CM ++ R)).Perm _
  have e3 : ((flt CT ts ++ v) ++ (u.kp CM ++ R)).Perm ((v ++ flt CT ts) ++ (u.kp CM ++ R)) := List.Perm.append_right _ List.perm_append_comm
  refine e3.trans ?_
  rw [List.append_assoc, List.append_assoc]
  refine List.Perm.append_left _ ?_
  have e4 : (flt CT ts ++ (u.kp CM ++ R)).Perm ((u.kp CM ++ R) ++ flt CT ts) := List.perm_append_comm
  rw [List.append_assoc] at e4
  exact e4
theorem chain_rank {S : Cs} {ts : List Tu} {ρ : Nm → Nat} (st : StOk S ts) (hρ : ∀ n f t m w g, S.R n = some (.fml f) → nx f t = .ask m w → S.R m = some (.fml g) → ρ m < ρ n) : ∀ (k i : Nat) (u v : Tu), ts[i]? = some u → ts[i + k]? = some v → ρ v.n ≤ ρ u.n
  | 0, i, u, v, hu, hv => by
    rw [Nat.add_zero, hu] at hv
    cases hv
    exact Nat.le_refl _
  | k + 1, i, u, v, hu, hv => by
    have hl := (List.getElem?_eq_some_iff.mp hv).1
    have hm : ts[i + 1]? = some ts[i + 1] := List.getElem?_eq_getElem (by omega)
    obtain ⟨w, hw⟩ := st.chain i u _ hu hm
    have h1 := hρ u.n u.f u.told _ w _ (st.rule u (List.mem_of_getElem? hu)) hw (st.rule _ (List.mem_of_getElem? hm))
    have h2 := chain_rank st hρ k (i + 1) _ v hm (by rw [show i + 1 + k = i + (k + 1) by omega]; exact hv)
    omega
/-- whom the top asks is not under it -/
theorem no_ring {S : Cs} {ts : List Tu} {u : Tu} {n : Nm} {w : Nat} {f : Fo} (st : StOk S (ts ++ [u])) (nr : NoRing S.R) (hn : nx u.f u.told = .ask n w) (hf : S.R n = some (.fml f)) : n ∉ (ts ++ [u]).map Tu.n := by
  obtain ⟨ρ, hρ⟩ := nr
  intro h
  obtain ⟨x, hx, e⟩ := List.mem_map.mp h
  obtain ⟨i, hi, ei⟩ := List.mem_iff_getElem.mp hx
  rw [List.length_append, List.length_singleton] at hi
  have hg : (ts ++ [u])[i]? = some x := by rw [← ei]; exact List.getElem?_eq_getElem _
  have h1 := chain_rank st hρ (ts.length - i) i x u hg (by rw [show i + (ts.length - i) = ts.length by omega]; exact last_get)
  have h2 := hρ u.n u.f u.told n w f (st.rule u (by simp)) hn hf
  rw [e] at h1
  omega

/-! ### a ring is closed -/
inductive Clo : Cs → List Tu → Cs → Prop
  | nil (S : Cs) : Clo S [] S
  | cons {S S' : Cs} {u : Tu} {r : List Tu} {a dx : Addr} {m : Nm} {w : Nat} : nx u.f u.told = .ask m w → Clo (S.closes u a dx .cyc (some m)) r S' → Clo S (u :: r) S'
def W_ccr (C CM CT : Addr) : Wt := fun ds M k => ∃ (c : Ca) (S : Cs) (ts us : List Tu) (u : Tu) (tr : Addr), ds = [.ref c.a, .ref tr, .str (tx u.n)] ∧ M = St C CM CT tr c S (ts ++ us) ∧ (∃ r, us = u :: r) ∧ StOk S (ts ++ us) ∧
  (S.ms.map (·.1)).Nodup ∧ S.ms.length + us.length ≤ 1000 ∧ S.an.length + us.length ≤ 1000 ∧ (ts ++ us).length ≤ 1000 ∧ (∀ x ∈ us, ∃ m w, nx x.f x.told = .ask m w) ∧ ∀ S' J, Clo S us S' → k .non (St C CM CT tr c S' ts ++ J)
theorem perm_any (C CM tr : Addr) (c : Ca) (S : Cs) (u : Tu) (hm : u.mo = lkA S.ms u.n) : ∃ R, ∀ (Y : Mu) (d : List D) (v : Mu), (S.m C CM c ++ ((tr, .lst d) :: (Y ++ v))).Perm ((v ++ u.kp CM) ++ ((tr, .lst d) :: (R ++ Y))) := by
  have h : ∃ R, (S.m C CM c).Perm (u.kp CM ++ R) := by
    unfold Tu.kp
    cases hu : u.mo with
    | none => exact ⟨_, List.Perm.refl _⟩
    | some m =>
      dsimp only
      split
      · rw [hm] at hu
        obtain ⟨l1, l2, e⟩ := List.append_of_mem (Cs.mo_in (C := C) (CM := CM) (c := c) hu)
        exact ⟨l1 ++ l2, by rw [e]; exact List.perm_middle⟩
      · exact ⟨_, List.Perm.refl _⟩
  obtain ⟨R, hR⟩ := h
  refine ⟨R, fun Y d v => ?_⟩
  refine (List.Perm.append_right _ hR).trans ?_
  have e1 : ((u.kp CM ++ R) ++ ((tr, MO.lst d) :: (Y ++ v))).Perm ((((tr, MO.lst d) :: (Y ++ v))) ++ (u.kp CM ++ R)) := List.perm_append_comm
  refine e1.trans ?_
  have e2 : ((v ++ u.kp CM) ++ ((tr, MO.lst d) :: (R ++ Y))).Perm ((tr, MO.lst d) :: ((v ++ u.kp CM) ++ (R ++ Y))) := List.perm_middle
  refine List.Perm.trans ?_ e2.symm
  refine List.Perm.cons _ ?_
  show ((Y ++ v) ++ (u.kp CM ++ R)).Perm _
  have e3 : ((Y ++ v) ++ (u.kp CM ++ R)).Perm ((v ++ Y) ++ (u.kp CM ++ R)) := List.Perm.append_right _ List.perm_append_comm
  refine e3.trans ?_
  rw [List.append_assoc, List.append_assoc]
  refine List.Perm.append_left _ ?_
  have e4 : (Y ++ (u.kp CM ++ R)).Perm ((u.kp CM ++ R) ++ Y) := List.perm_append_comm
  rw [List.append_assoc] at e4
  exact e4
theorem cut_dropR {α : Type} (l : List α) (j : Nat) : Tg.cutD l (some (j : Int)) none = l.drop j := by
  unfold Tg.cutD
  rw [HT.sIx_nat, HT.sIx_none]
  by_cases h : j ≤ l.length
  · rw [Nat.min_eq_left h]
    exact List.take_of_length_le (by rw [List.length_drop]; omega)
  · rw [Nat.min_eq_right (by omega), List.drop_of_length_le (Nat.le_refl l.length), List.drop_of_length_le (by omega : l.length ≤ j)]
    simp
theorem puA_len {α : Type} {l : List (Nm × α)} {n : Nm} {x : α} : (puA l n x).length ≤ l.length + 1 := by
  unfold puA
  split <;> simp
theorem perm_ring {A B D' J X : Mu} {t : Addr × MO} : (A ++ (t :: ((B ++ (X ++ D')) ++ J))).Perm (A ++ (t :: (((B ++ D') ++ J) ++ X))) := by
  refine List.Perm.append_left _ (List.Perm.cons _ ?_)
  have e1 : ((B ++ (X ++ D')) ++ J) = B ++ (X ++ (D' ++ J)) := by simp
  have e2 : (((B ++ D') ++ J) ++ X) = B ++ ((D' ++ J) ++ X) := by simp
  rw [e1, e2]
  exact List.Perm.append_left _ List.perm_append_comm
section
variable {P : Program} {w : World} {K : PySem.W.Frag} {mg : Str → Option Value} {base : Heap} {C CM CT CE : Addr}
theorem m_ccr (kC : Cl_Cells K mg C) (kT : Cl_Turn K mg CT) (kM : Cl_Memo K mg CM) (kE : Cl_Evaluation K mg CE) (T : Top K mg w) : C8.Met P w K mg base 15 C "_close_ring" (Spc K (W_ccr C CM CT)) [] := met_of kC.cl kC.d__close_ring fun f fd F => by
  have c_Turn_next_name := m_tunext (P := P) (w := w) (base := base) kT kM kE T
  have c_Cells__close := m_ccl (P := P) (w := w) (base := base) kC kT kM T
  obtain ⟨t_CYCLIC, g_CYCLIC⟩ := T.g_CYCLIC
  exact spc_ok F sc_Cells__close_ring (fun ds M k h => by obtain ⟨c, S, ts, us, u, tr, rfl, _⟩ := h; rfl) fun cdv A outer s H E hr => ⟨_, (pss_cons (ps_set (i := 3) sc_Cells__close_ring.nd rfl (Or.inl rfl) (idxL_K (K := K) (pe_bm PySem.F.plainAttrs_list PySem.F.slot_list_index PySem.F.type_list_index L2.mt_index (pe_lc (own := [("turn", 4)]) (g := gName 4) rfl sc_Cells__close_ring.nd (seq_K (K := K) (pv 1)) (blkOk_by (own := [("turn", 4)]) (N := ["self", "turns", "name", "first", "turn"]) (sc := defScope s_Cells__close_ring) (by decide +kernel)) (fun _ _ _ _ _ => (pg_name (i := 4) sc_Cells__close_ring.nd rfl (Or.inl rfl))) (fun _ _ _ _ _ => pts_nil) (fun _ _ _ _ _ => (fld_K (K := K) (pv 4)))) (pa_cons (pv 2) pa_nil))))
      (pss_cons (ps_for PassesOwn.never rfl (seq_K (K := K) (pe_slice (sl_K (K := K)) (pv 1) (po_some (pv 3)) po_none)) (pg_name (i := 4) sc_Cells__close_ring.nd rfl (Or.inl rfl))
      (pss_one (ps_expr (C8.pe_mt c_Cells__close hr (by first | decide | omega) (pv 0) (pa_cons (pv 4) (pa_cons (pe_glob (v := V.str (tx cst_CYCLIC)) (by rfl) g_CYCLIC ⟨_, rfl⟩) (pa_cons (C8.pe_mt0 c_Turn_next_name hr (by first | decide | omega) (pv 4)) pa_nil)))))))
      (pss_one (ps_delT (pv 1) (po_some (pv 3)))))), fun ds M kk hw => by
    obtain ⟨c, S, ts, us, u, tr, rfl, rfl, ⟨rest, hus⟩, st, nd, hl1, hl2, hl3, asks, q⟩ := hw
    have hsz := sizeLine_eq
    refine as_start (δ' := [some (.ref c.a), some (.ref tr), some (.str (tx u.n)), none, none]) rfl ?_
    have htr : (tr, MO.lst (rfs (ts ++ us))) ∈ St C CM CT tr c S (ts ++ us) := List.mem_append_right _ List.mem_cons_self
    refine as_seq (as_set (ae_lm (ae_lcG (a := tr) (ds := rfs (ts ++ us)) (es := ((ts ++ us).map fun x => tx x.n).map D.str) (ownG_name (by simp)) ?_ ?_ ?_ ?_)))
    · refine ae_var rfl ⟨rfl, rfl, htr, ?_⟩
      unfold rfs
      rw [List.length_map]
      omega
    · unfold rfs
      rw [List.length_map, List.length_map, List.length_map]
    · intro i d e hd he
      unfold rfs at hd
      rw [List.getElem?_map] at hd
      rw [List.getElem?_map, List.getElem?_map] at he
      cases hx : (ts ++ us)[i]? with
      | none => rw [hx] at hd; cases hd
      | some x =>
        rw [hx] at hd he
        cases hd
        cases he
        refine ag_name (ae_fldm (ae_var rfl ⟨x.a, CT, x.dx, TuF x, .str (tx x.n), rfl, ?_, kT.cl, kT.n_name, rfl, rfl, rfl⟩))
        exact List.mem_append_right _ (List.mem_cons_of_mem _ (List.mem_flatMap.mpr ⟨x, List.mem_of_getElem? hx, List.mem_cons_self⟩))
    · refine ⟨.inl ⟨_, rfl⟩, aa_cons (ae_var rfl (aa_nil (am_indexL (j := ts.length) ?_ ?_ ?_)))⟩
      · rw [List.getElem?_map, List.getElem?_append_right (Nat.le_refl _), Nat.sub_self, hus]
        rfl
      · intro m hm e
        rw [List.getElem?_map, List.getElem?_append_left hm] at e
        obtain ⟨x, hx, e2⟩ := Option.map_eq_some_iff.mp e
        have nd := st.nd
        rw [List.map_append, List.nodup_append] at nd
        exact nd.2.2 x.n (List.mem_map.mpr ⟨x, List.mem_of_getElem? hx, rfl⟩) u.n (by rw [hus]; simp) (tx_inj e2)
      · refine as_seq (as_for (ai_seq (ae_sl (ae_var rfl (ao_some (ae_var rfl ⟨_, rfl, ao_none (asl_M htr ?_)⟩))))))
        have hcut : Tg.cutD (rfs (ts ++ us)) (some ((ts.length : Nat) : Int)) none = rfs us := by
          rw [cut_dropR]
          unfold rfs
          rw [List.map_append, List.drop_left' (List.length_map ..)]
        rw [hcut]
        refine ⟨_, rfl, fun i δ' M' => ∃ (Si : Cs) (J : Mu) (y : Option D), (∀ S', Clo Si (us.drop i) S' → Clo S us S') ∧ (Si.ms.map (·.1)).Nodup ∧ Si.ms.length + (us.drop i).length ≤ 1000 ∧ Si.an.length + (us.drop i).length ≤ 1000 ∧
          (∀ x ∈ us.drop i, x.mo = lkA Si.ms x.n) ∧ M'.Perm (Si.m C CM c ++ ((tr, .lst (rfs (ts ++ us))) :: ((flt CT ts ++ flt CT (us.drop i)) ++ J))) ∧
          δ' = [some (.ref c.a), some (.ref tr), some (.str (tx u.n)), some (.int (ts.length : Nat)), y], ⟨S, [], _, fun S' h => h, nd, hl1, hl2, fun x hx => st.mo x (List.mem_append_right _ hx), ?_, rfl⟩, ?_, ?_⟩
        · unfold St
          rw [flt_app, List.append_nil]
          exact List.Perm.refl _
        · rintro i d δ' M' hd ⟨Si, J, y, hclo, ndi, h1, h2, hmo, hp, rfl⟩
          unfold rfs at hd
          rw [List.getElem?_map] at hd
          obtain ⟨x, hx, rfl⟩ := Option.map_eq_some_iff.mp hd
          have hil : i < us.length := (List.getElem?_eq_some_iff.mp hx).1
          have hdr : us.drop i = x :: us.drop (i + 1) := by
            rw [List.drop_eq_getElem_cons hil, (List.getElem?_eq_some_iff.mp hx).2]
          rw [hdr] at hclo h1 h2 hmo hp
          rw [List.length_cons] at h1 h2
          obtain ⟨m, z, hnx⟩ := asks x (List.mem_of_getElem? hx)
          obtain ⟨R, hR⟩ := perm_any C CM tr c Si x (hmo x (by simp))
          have hflt : flt CT (x :: us.drop (i + 1)) = x.m CT ++ flt CT (us.drop (i + 1)) := rfl
          rw [hflt] at hp
          refine ag_name (as_perm (hp.trans perm_ring) ?_)
          have htu : (x.a, MO.ins CT x.dx (TuF x)) ∈ Si.m C CM c ++ ((tr, .lst (rfs (ts ++ us))) :: (((flt CT ts ++ flt CT (us.drop (i + 1))) ++ J) ++ x.m CT)) := List.mem_append_right _ (List.mem_cons_of_mem _ (List.mem_append_right _ List.mem_cons_self))
          have hca : (c.a, MO.ins C c.dx (CoF c)) ∈ Si.m C CM c ++ ((tr, .lst (rfs (ts ++ us))) :: (((flt CT ts ++ flt CT (us.drop (i + 1))) ++ J) ++ x.m CT)) := List.mem_append_left _ Cs.a_in
          refine as_drop (ae_methP (ae_var rfl ⟨c.a, c.dx, _, rfl, hca, rfl, aa_cons (ae_var rfl (aa_cons (ae_str (aa_cons (ae_methS (ae_var rfl ⟨x.a, x.dx, _, rfl, htu, rfl, aa_nil ?_⟩))))))⟩))
          refine ⟨x.m CT ++ x.kp CM, _, hR _ _ _, ⟨x, rfl, rfl, st.ok x (List.mem_append_right _ (List.mem_of_getElem? hx)), rfl, ?_⟩⟩
          rw [hnx]
          refine aa_nil ⟨Si.m C CM c ++ x.m CT, (tr, .lst (rfs (ts ++ us))) :: ((flt CT ts ++ flt CT (us.drop (i + 1))) ++ J), fun d M => ∃ a dx J, d = .non ∧ M = (Si.closes x a dx .cyc (some m)).m C CM c ++ J, ?_,
            ⟨c, Si, x, .cyc, some m, by rw [← cyc_tx]; rfl, rfl, ndi, by omega, by omega, fun a dx J => ⟨a, dx, J, rfl, rfl⟩⟩, ?_⟩
          · rw [List.append_assoc (Si.m C CM c) (x.m CT)]
            exact List.Perm.append_left _ (List.perm_append_comm (l₁ := (tr, MO.lst (rfs (ts ++ us))) :: ((flt CT ts ++ flt CT (us.drop (i + 1))) ++ J)))
          · rintro _ _ ⟨a, dx, J', rfl, rfl⟩
            have p1 := puA_len (l := Si.ms) (n := x.n) (x := ⟨a, dx, ⟨x.told, .cyc, some m⟩⟩)
            have p2 := puA_len (l := Si.an) (n := x.n) (x := x.kept)
            refine ⟨Si.closes x a dx .cyc (some m), J ++ J', _, fun S' h => hclo S' (.cons hnx h), nodup_pu ndi, ?_, ?_, fun x' hx' => ?_, ?_, rfl⟩
            · show (puA Si.ms x.n _).length + _ ≤ 1000
              omega
            · show (puA Si.an x.n x.kept).length + _ ≤ 1000
              omega
            · show x'.mo = lkA (puA Si.ms x.n _) x'.n
              have n1 := st.nd
              rw [List.map_append, List.nodup_append] at n1
              have n2 : ((us.drop i).map Tu.n).Nodup := n1.2.1.sublist ((List.drop_sublist i us).map _)
              rw [hdr, List.map_cons] at n2
              have n3 := (List.nodup_cons.mp n2).1
              rw [lkA_pu, if_neg (fun z => n3 (List.mem_map.mpr ⟨x', hx', z⟩))]
              exact hmo x' (List.mem_cons_of_mem _ hx')
            · rw [List.append_assoc]
              refine List.Perm.append_left _ ?_
              refine (List.perm_append_comm (l₁ := J')).trans ?_
              show ((tr, MO.lst (rfs (ts ++ us))) :: (((flt CT ts ++ flt CT (us.drop (i + 1))) ++ J) ++ J')).Perm _
              rw [List.append_assoc]
        · rintro δ' M' ⟨Si, J, y, hclo, ndi, h1, h2, hmo, hp, rfl⟩
          have hul : (rfs us).length = us.length := List.length_map ..
          rw [hul, List.drop_length] at hclo hp
          have e : (rfs (ts ++ us)).take ts.length = rfs ts := by
            unfold rfs
            rw [List.map_append, List.take_left' (List.length_map ..)]
          refine as_perm hp (as_delT (ae_var rfl (ao_some (ae_var rfl ⟨_, rfl, tr, rfs (ts ++ us), Si.m C CM c, _, ts.length, rfl, rfl, rfl, by unfold rfs; rw [List.length_map, List.length_append]; omega, ?_⟩))))
          rw [e]
          have := q Si J (hclo Si (.nil Si))
          unfold St at this
          have hf : flt CT [] = [] := rfl
          rw [hf, List.append_nil]
          rw [List.append_assoc] at this
          exact this⟩
end

/-! ### a ring that is closed, in plain Lean -/
def askOf (x : Tu) : Nm := match nx x.f x.told with
  | .ask m _ => m
  | _ => x.n
theorem askOf_ask {x : Tu} {m : Nm} {w : Nat} (h : nx x.f x.told = .ask m w) : askOf x = m := by
  unfold askOf
  rw [h]
theorem Clo.rs {S S' : Cs} {us : List Tu} (h : Clo S us S') : S'.rs = S.rs := by
  induction h with
  | nil => rfl
  | cons _ _ ih => exact ih
theorem Clo.away {S S' : Cs} {us : List Tu} (h : Clo S us S') : ∀ n, n ∉ us.map Tu.n → lkA S'.an n = lkA S.an n ∧ lkA S'.ms n = lkA S.ms n := by
  induction h with
  | nil => exact fun n _ => ⟨rfl, rfl⟩
  | @cons S S' u r a dx m w h1 h2 ih =>
    intro n hn
    rw [List.map_cons, List.mem_cons, not_or] at hn
    obtain ⟨e1, e2⟩ := ih n hn.2
    rw [e1, e2]
    show lkA (puA S.an u.n u.kept) n = _ ∧ lkA (puA S.ms u.n _) n = _
    rw [lkA_pu, lkA_pu, if_neg hn.1, if_neg hn.1]
    exact ⟨rfl, rfl⟩
theorem Clo.at_ {S S' : Cs} {us : List Tu} (h : Clo S us S') : (us.map Tu.n).Nodup → ∀ x ∈ us, lkA S'.an x.n = some x.kept ∧ ∃ a dx w, lkA S'.ms x.n = some ⟨a, dx, ⟨x.told, .cyc, some (askOf x)⟩⟩ ∧ nx x.f x.told = .ask (askOf x) w := by
  induction h with
  | nil => exact fun _ x hx => nomatch hx
  | @cons S S' u r a dx m w h1 h2 ih =>
    intro nd x hx
    rw [List.map_cons] at nd
    obtain ⟨n1, n2⟩ := List.nodup_cons.mp nd
    rcases List.mem_cons.mp hx with rfl | hx
    · obtain ⟨e1, e2⟩ := h2.away x.n n1
      rw [e1, e2]
      refine ⟨?_, a, dx, w, ?_, by rw [askOf_ask h1]; exact h1⟩
      · show lkA (puA S.an x.n x.kept) x.n = _
        rw [lkA_pu, if_pos rfl]
      · show lkA (puA S.ms x.n _) x.n = _
        rw [lkA_pu, if_pos rfl, askOf_ask h1]
    · exact ih n2 x hx
theorem Clo.nds {S S' : Cs} {us : List Tu} (h : Clo S us S') : (S.ms.map (·.1)).Nodup → (S.an.map (·.1)).Nodup → (S'.ms.map (·.1)).Nodup ∧ (S'.an.map (·.1)).Nodup := by
  induction h with
  | nil => exact fun a b => ⟨a, b⟩
  | cons _ _ ih => exact fun a b => ih (nodup_pu a) (nodup_pu b)
theorem name_inj {us : List Tu} (nd : (us.map Tu.n).Nodup) {x y : Tu} (hx : x ∈ us) (hy : y ∈ us) (e : x.n = y.n) : x = y := by
  obtain ⟨i, hi, ei⟩ := List.mem_iff_getElem.mp hx
  obtain ⟨j, hj, ej⟩ := List.mem_iff_getElem.mp hy
  have h1 : (us.map Tu.n)[i]? = some x.n := by rw [List.getElem?_map, List.getElem?_eq_getElem hi, ei]; rfl
  have h2 : (us.map Tu.n)[j]? = some x.n := by rw [List.getElem?_map, List.getElem?_eq_getElem hj, ej, e]; rfl
  have h3 := (List.getElem?_inj (List.getElem?_eq_some_iff.mp h1).1 nd).mp (h1.trans h2.symm)
  subst h3
  rw [← ei, ← ej]
/-- turns that ask one another around -/
structure Rng (us : List Tu) : Prop where
  nd : (us.map Tu.n).Nodup
  ask : ∀ x ∈ us, ∃ w, nx x.f x.told = .ask (askOf x) w
  next : ∀ i x y, us[i]? = some x → us[i + 1]? = some y → askOf x = y.n
  round : ∀ x y, us[us.length - 1]? = some x → us[0]? = some y → askOf x = y.n
def fdT (us : List Tu) (n : Nm) : Option Tu := us.find? fun x => decide (x.n = n)
theorem fdT_mem {us : List Tu} (nd : (us.map Tu.n).Nodup) {x : Tu} (hx : x ∈ us) : fdT us x.n = some x := by
  unfold fdT
  cases h : us.find? fun y => decide (y.n = x.n) with
  | none =>
    have := List.find?_eq_none.mp h x hx
    simp at this
  | some y =>
    have h1 := List.mem_of_find?_eq_some h
    have h2 : y.n = x.n := of_decide_eq_true (List.find?_some (p := fun y : Tu => decide (y.n = x.n)) h)
    rw [name_inj nd h1 hx h2]
def rgS (us : List Tu) (n : Nm) : Nm := match fdT us n with
  | some x => askOf x
  | none => n
def rgT (us : List Tu) (n : Nm) : Td := match fdT us n with
  | some x => x.told
  | none => []
theorem rgS_mem {us : List Tu} (nd : (us.map Tu.n).Nodup) {x : Tu} (hx : x ∈ us) : rgS us x.n = askOf x := by
  unfold rgS
  rw [fdT_mem nd hx]
theorem rgT_mem {us : List Tu} (nd : (us.map Tu.n).Nodup) {x : Tu} (hx : x ∈ us) : rgT us x.n = x.told := by
  unfold rgT
  rw [fdT_mem nd hx]
theorem rng_walk {us : List Tu} (rg : Rng us) : ∀ (j i : Nat) (x y : Tu), us[i]? = some x → us[i + j]? = some y → itn (rgS us) j x.n = y.n
  | 0, i, x, y, hx, hy => by
    rw [Nat.add_zero, hx] at hy
    cases hy
    rfl
  | j + 1, i, x, y, hx, hy => by
    have hl := (List.getElem?_eq_some_iff.mp hy).1
    have hm : us[i + 1]? = some us[i + 1] := List.getElem?_eq_getElem (by omega)
    show itn (rgS us) j (rgS us x.n) = y.n
    rw [rgS_mem rg.nd (List.mem_of_getElem? hx), rg.next i x _ hx hm]
    exact rng_walk rg j (i + 1) _ y hm (by rw [show i + 1 + j = i + (j + 1) by omega]; exact hy)
theorem rng_in {us : List Tu} (rg : Rng us) {x : Tu} (hx : x ∈ us) : ∃ y ∈ us, askOf x = y.n := by
  obtain ⟨i, hi, ei⟩ := List.mem_iff_getElem.mp hx
  have gx : us[i]? = some x := by rw [List.getElem?_eq_getElem hi, ei]
  by_cases c : i + 1 < us.length
  · have gy : us[i + 1]? = some us[i + 1] := List.getElem?_eq_getElem c
    exact ⟨_, List.getElem_mem c, rg.next i x _ gx gy⟩
  · have g0 : us[0]? = some us[0] := List.getElem?_eq_getElem (by omega)
    exact ⟨_, List.getElem_mem (by omega), rg.round x _ (by rw [show us.length - 1 = i by omega]; exact gx) g0⟩
theorem rng_back {us : List Tu} (rg : Rng us) {x : Tu} (hx : x ∈ us) : ∃ k, itn (rgS us) k (rgS us x.n) = x.n := by
  obtain ⟨i, hi, ei⟩ := List.mem_iff_getElem.mp hx
  have gx : us[i]? = some x := by rw [List.getElem?_eq_getElem hi, ei]
  have g0 : us[0]? = some us[0] := List.getElem?_eq_getElem (by omega)
  have gl : us[us.length - 1]? = some us[us.length - 1] := List.getElem?_eq_getElem (by omega)
  have w1 := rng_walk rg (us.length - 1 - i) i x _ gx (by rw [show i + (us.length - 1 - i) = us.length - 1 by omega]; exact gl)
  have w2 := rng_walk rg i 0 _ x g0 (by rw [Nat.zero_add]; exact gx)
  have w3 : rgS us (us[us.length - 1].n) = us[0].n := by rw [rgS_mem rg.nd (List.getElem_mem _), rg.round _ _ gl g0]
  have w4 : itn (rgS us) ((us.length - 1 - i) + (1 + i)) x.n = x.n := by
    rw [itn_add, w1, itn_add]
    show itn (rgS us) i (rgS us _) = _
    rw [w3, w2]
  refine ⟨us.length - 1, ?_⟩
  have e : (us.length - 1 - i) + (1 + i) = (us.length - 1) + 1 := by omega
  rw [e] at w4
  exact w4
section
variable {S S' S0 : Cs} {ts us : List Tu} {a : Nm}
theorem clo_A (rg : Rng us) (h : Clo S us S') : S'.A = fun n => match fdT us n with
    | some x => some ⟨x.told, .cyc, some (askOf x)⟩
    | none => S.A n := by
  funext n
  cases hf : fdT us n with
  | some x =>
    have h1 := List.mem_of_find?_eq_some hf
    have h2 : x.n = n := of_decide_eq_true (List.find?_some (p := fun y : Tu => decide (y.n = n)) hf)
    obtain ⟨e1, b, dx, w, e2, _⟩ := h.at_ rg.nd x h1
    rw [h2] at e1 e2
    unfold Cs.A
    rw [e1, e2]
    rfl
  | none =>
    have hn : n ∉ us.map Tu.n := fun z => by
      obtain ⟨x, hx, e⟩ := List.mem_map.mp z
      have := List.find?_eq_none.mp hf x hx
      simp [e] at this
    obtain ⟨e1, e2⟩ := h.away n hn
    unfold Cs.A
    rw [e1, e2]
theorem clo_ring (st : StOk S (ts ++ us)) (rg : Rng us) : Ring S.R S.A (fun n => n ∈ us.map Tu.n) (rgS us) (rgT us) := by
  refine ⟨fun n hn => ?_, fun n hn => ?_, fun n hn => ?_⟩
  · obtain ⟨x, hx, rfl⟩ := List.mem_map.mp hn
    rw [rgS_mem rg.nd hx]
    obtain ⟨y, hy, e⟩ := rng_in rg hx
    rw [e]
    exact List.mem_map.mpr ⟨y, hy, rfl⟩
  · obtain ⟨x, hx, rfl⟩ := List.mem_map.mp hn
    exact rng_back rg hx
  · obtain ⟨x, hx, rfl⟩ := List.mem_map.mp hn
    have hx' : x ∈ ts ++ us := List.mem_append_right _ hx
    obtain ⟨w, hw⟩ := rg.ask x hx
    rw [rgS_mem rg.nd hx, rgT_mem rg.nd hx]
    exact ⟨A_none (st.open_ x hx'), x.f, w, st.rule x hx', (st.ok x hx').asked, st.kn x hx', hw⟩
theorem fdT_in {n : Nm} {x : Tu} (h : fdT us n = some x) : x ∈ us ∧ x.n = n :=
  ⟨List.mem_of_find?_eq_some h, of_decide_eq_true (List.find?_some (p := fun y : Tu => decide (y.n = n)) h)⟩
theorem fdT_out {n : Nm} (h : fdT us n = none) : n ∉ us.map Tu.n := fun z => by
  obtain ⟨x, hx, e⟩ := List.mem_map.mp z
  have := List.find?_eq_none.mp h x hx
  simp [e] at this
theorem clo_putR (rg : Rng us) (h : Clo S us S') : S'.A = putR S.A (fun n => n ∈ us.map Tu.n) (rgS us) (rgT us) := by
  rw [clo_A rg h]
  funext n
  unfold putR
  cases hf : fdT us n with
  | some x =>
    obtain ⟨h1, h2⟩ := fdT_in hf
    subst h2
    have hm : x.n ∈ us.map Tu.n := List.mem_map.mpr ⟨x, h1, rfl⟩
    show some _ = if x.n ∈ us.map Tu.n then _ else _
    rw [if_pos hm, rgS_mem rg.nd h1, rgT_mem rg.nd h1]
  | none =>
    show S.A n = if n ∈ us.map Tu.n then _ else _
    rw [if_neg (fdT_out hf)]
theorem clo_ext {n : Nm} {e : En} (st : StOk S (ts ++ us)) (rg : Rng us) (h : Clo S us S') (he : S.A n = some e) : S'.A n = some e := by
  rw [clo_putR rg h]
  exact putR_ext (clo_ring st rg) n e he
theorem clo_ok (ok : S.Ok) (st : StOk S (ts ++ us)) (rg : Rng us) (h : Clo S us S') : S'.Ok := by
  have hrs := h.rs
  have hR : S'.R = S.R := by unfold Cs.R; rw [hrs]
  obtain ⟨n1, n2⟩ := h.nds ok.nm ok.na
  refine ⟨by rw [hrs]; exact ok.nr, by rw [hrs]; exact ok.lr, by rw [hR]; exact ok.ru, n1, fun n m hm => ?_, n2, fun n b hb => ?_, ?_⟩
  · rw [hR]
    cases hf : fdT us n with
    | some x =>
      obtain ⟨h1, h2⟩ := fdT_in hf
      subst h2
      have hx' : x ∈ ts ++ us := List.mem_append_right _ h1
      obtain ⟨_, b, dx, w, e2, e3⟩ := h.at_ rg.nd x h1
      rw [e2] at hm
      cases hm
      exact ⟨x.f, st.rule x hx', (st.ok x hx').asked, (fun z => nomatch z), fun m hm => by
        cases hm
        exact ⟨rfl, w, e3⟩⟩
    | none =>
      rw [(h.away n (fdT_out hf)).2] at hm
      exact ok.ms n m hm
  · cases hf : fdT us n with
    | some x =>
      obtain ⟨h1, h2⟩ := fdT_in hf
      subst h2
      obtain ⟨_, b, dx, w, e2, e3⟩ := h.at_ rg.nd x h1
      exact ⟨_, e2⟩
    | none =>
      obtain ⟨e1, e2⟩ := h.away n (fdT_out hf)
      rw [e1] at hb
      rw [e2]
      exact ok.an n b hb
  · rw [hR, clo_putR rg h]
    exact ok.aok.ring (clo_ring st rg)
theorem clo_st (st : StOk S (ts ++ us)) (rg : Rng us) (h : Clo S us S') : StOk S' ts := by
  have hR : S'.R = S.R := by unfold Cs.R; rw [h.rs]
  have old : ∀ {x}, x ∈ ts → x ∈ ts ++ us := fun h => List.mem_append_left _ h
  have nd := st.nd
  rw [List.map_append, List.nodup_append] at nd
  have ne : ∀ x ∈ ts, x.n ∉ us.map Tu.n := fun x hx z => nd.2.2 x.n (List.mem_map.mpr ⟨x, hx, rfl⟩) x.n z rfl
  refine ⟨fun x hx => st.ok x (old hx), fun x hx => by rw [hR]; exact st.rule x (old hx), fun x hx => ?_, fun x hx => (st.kn x (old hx)).mono (known_of h.rs fun n e he => clo_ext st rg h he), fun x hx => ?_, fun x hx => st.kept x (old hx), nd.1, fun i x y hx hy => ?_⟩
  · rw [(h.away x.n (ne x hx)).1]
    exact st.open_ x (old hx)
  · rw [(h.away x.n (ne x hx)).2]
    exact st.mo x (old hx)
  · have hl := (List.getElem?_eq_some_iff.mp hy).1
    exact st.chain i x y (by rw [List.getElem?_append_left (by omega)]; exact hx) (by rw [List.getElem?_append_left hl]; exact hy)
theorem clo_extends (st : StOk S (ts ++ us)) (rg : Rng us) (h : Clo S us S') (ex : Ext a S0 S (ts ++ us)) : Ext a S0 S' ts := by
  have hop : ∀ x ∈ us, lkA S.an x.n = none := fun x hx => st.open_ x (List.mem_append_right _ hx)
  have hop0 : ∀ x ∈ us, lkA S0.an x.n = none := fun x hx => by
    cases e : lkA S0.an x.n with
    | none => rfl
    | some b =>
      have := (ex.an x.n b e).1
      rw [hop x hx] at this
      cases this
  refine ⟨by rw [h.rs]; exact ex.rs, fun n b hb => ?_, fun n hn => ?_, fun n b hb h0 => ?_, fun F τ p wh => ?_⟩
  · have hn : n ∉ us.map Tu.n := fun z => by
      obtain ⟨x, hx, rfl⟩ := List.mem_map.mp z
      rw [hop0 x hx] at hb
      cases hb
    obtain ⟨e1, e2⟩ := h.away n hn
    rw [e1, e2]
    exact ex.an n b hb
  · have hu : n ∉ us.map Tu.n := fun z => by
      obtain ⟨x, hx, rfl⟩ := List.mem_map.mp z
      rw [(h.at_ rg.nd x hx).1] at hn
      cases hn
    obtain ⟨e1, e2⟩ := h.away n hu
    rw [e1] at hn
    rw [e2]
    exact ex.ms n hn
  · cases hf : fdT us n with
    | some x =>
      obtain ⟨h1, h2⟩ := fdT_in hf
      subst h2
      obtain ⟨e1, b', dx, w, e2, _⟩ := h.at_ rg.nd x h1
      rw [e1] at hb
      cases hb
      refine ⟨_, e2, ?_⟩
      have hx' : x ∈ ts ++ us := List.mem_append_right _ h1
      show x.kept = keptB _ x.told
      rw [st.kept x hx', st.mo x hx', ex.ms x.n (hop x h1)]
    | none =>
      obtain ⟨e1, e2⟩ := h.away n (fdT_out hf)
      rw [e1] at hb
      rw [e2]
      exact ex.new n b hb h0
  · have hR : S'.R = S.R := by unfold Cs.R; rw [h.rs]
    rw [hR] at p wh
    obtain ⟨r1, r2⟩ := ex.rch F τ p wh
    refine ⟨fun n b hb h0 => ?_, fun x hx => r2 x (List.mem_append_left _ hx)⟩
    cases hf : fdT us n with
    | some x =>
      obtain ⟨h1, h2⟩ := fdT_in hf
      subst h2
      exact r2 x (List.mem_append_right _ h1)
    | none =>
      rw [(h.away n (fdT_out hf)).1] at hb
      exact r1 n b hb h0
theorem clo_mez (st : StOk S (ts ++ us)) (rg : Rng us) (hne : us ≠ []) (h : Clo S us S') : mez S' ts < mez S (ts ++ us) := by
  have h1 : (S'.rs.filter (unb S' ts)).length ≤ (S.rs.filter (unb S (ts ++ us))).length := by
    rw [h.rs]
    refine filter_le fun x _ hx => ?_
    unfold unb at hx ⊢
    rw [Bool.and_eq_true, Bool.and_eq_true] at hx ⊢
    obtain ⟨⟨h1, h2⟩, h3⟩ := hx
    have hu : x.1 ∉ us.map Tu.n := fun z => by
      obtain ⟨y, hy, e⟩ := List.mem_map.mp z
      rw [← e, (h.at_ rg.nd y hy).1] at h2
      cases h2
    rw [(h.away x.1 hu).1] at h2
    refine ⟨⟨h1, h2⟩, ?_⟩
    rw [Bool.not_eq_true', decide_eq_false_iff_not] at h3 ⊢
    rw [List.map_append, List.mem_append]
    rintro (z | z)
    · exact h3 z
    · exact hu z
  cases us with
  | nil => exact absurd rfl hne
  | cons u r =>
    have o := st.ok u (by simp)
    have := o.small
    have h2 : left (u :: r) = (1000 - u.told.length) + left r := by unfold left; rw [List.map_cons, List.sum_cons]
    unfold mez
    rw [left_app, h2]
    omega
end

/-! ### going on, where there may be rings -/
def W_cg2 (C CM CT : Addr) : Wt := fun ds M k => ∃ (c : Ca) (S : Cs) (ts : List Tu) (u : Tu) (tr : Addr), ds = [.ref c.a, .ref tr] ∧ M = St C CM CT tr c S (ts ++ [u]) ∧ S.Ok ∧ StOk S (ts ++ [u]) ∧
  (∀ v w, nx u.f u.told = .done v w → ∀ a dx J, k .non (St C CM CT tr c (S.closes u a dx v none) ts ++ J)) ∧
  (∀ n w, nx u.f u.told = .ask n w → S.isAns n = true → k .non (St C CM CT tr c S (ts ++ [u.hears n (S.worth n)]))) ∧
  (∀ n w f, nx u.f u.told = .ask n w → S.isAns n = false → S.R n = some (.fml f) → n ∉ (ts ++ [u]).map Tu.n → ∀ a dx tl, k .non (St C CM CT tr c S ((ts ++ [u]) ++ [⟨a, dx, tl, n, f, [], (lkA S.ms n).isSome, lkA S.ms n⟩]))) ∧
  ∀ ts0 us S' J, ts ++ [u] = ts0 ++ us → us ≠ [] → Rng us → Clo S us S' → k .non (St C CM CT tr c S' ts0 ++ J)
theorem rng_of {S : Cs} {ts ts0 us : List Tu} {u : Tu} {n : Nm} {w : Nat} (st : StOk S (ts ++ [u])) (hn : nx u.f u.told = .ask n w) (e : ts ++ [u] = ts0 ++ us) (hd : ∃ x r, us = x :: r ∧ x.n = n) : Rng us := by
  rw [e] at st
  obtain ⟨x0, r0, hus, h0⟩ := hd
  have hpos : 0 < us.length := by rw [hus]; simp
  have get : ∀ i, (ts0 ++ us)[ts0.length + i]? = us[i]? := fun i => by
    rw [List.getElem?_append_right (by omega)]
    congr 1
    omega
  have last : us[us.length - 1]? = some u := by
    rw [← get, ← e]
    have hl : (ts ++ [u]).length = (ts0 ++ us).length := by rw [e]
    rw [List.length_append, List.length_append, List.length_singleton] at hl
    rw [show ts0.length + (us.length - 1) = ts.length by omega]
    exact last_get
  have nd := st.nd
  rw [List.map_append, List.nodup_append] at nd
  have next : ∀ i x y, us[i]? = some x → us[i + 1]? = some y → ∃ w, nx x.f x.told = .ask y.n w := fun i x y hx hy =>
    st.chain (ts0.length + i) x y (by rw [get]; exact hx) (by rw [Nat.add_assoc, get]; exact hy)
  refine ⟨nd.2.1, fun x hx => ?_, fun i x y hx hy => ?_, fun x y hx hy => ?_⟩
  · obtain ⟨i, hi, ei⟩ := List.mem_iff_getElem.mp hx
    have gx : us[i]? = some x := by rw [List.getElem?_eq_getElem hi, ei]
    by_cases c : i + 1 < us.length
    · obtain ⟨w', hw⟩ := next i x _ gx (List.getElem?_eq_getElem c)
      exact ⟨w', by rw [askOf_ask hw]; exact hw⟩
    · rw [show us.length - 1 = i by omega, gx] at last
      cases last
      exact ⟨w, by rw [askOf_ask hn]; exact hn⟩
  · obtain ⟨w', hw⟩ := next i x y hx hy
    exact askOf_ask hw
  · rw [last] at hx
    cases hx
    rw [hus] at hy
    cases hy
    rw [askOf_ask hn, h0]
section
variable {P : Program} {w : World} {K : PySem.W.Frag} {mg : Str → Option Value} {base : Heap} {C CM CT CE : Addr}
theorem m_cg2 (kC : Cl_Cells K mg C) (kT : Cl_Turn K mg CT) (kM : Cl_Memo K mg CM) (kE : Cl_Evaluation K mg CE) (T : Top K mg w) : C8.Met P w K mg base 16 C "_go_on" (Spc K (W_cg2 C CM CT)) [] := met_of kC.cl kC.d__go_on fun f fd F => by
  have c_Turn_next_name := m_tunext (P := P) (w := w) (base := base) kT kM kE T
  have c_Turn_result := m_turesult (P := P) (w := w) (base := base) kT kM kE T
  have c_Turn_hear := m_tuhear (P := P) (w := w) (base := base) kT kM T
  have c_Cells__close := m_ccl (P := P) (w := w) (base := base) kC kT kM T
  have c_Cells__is_answered := m_cia (P := P) (w := w) (base := base) (CM := CM) kC T
  have c_Cells__answer := m_can (P := P) (w := w) (base := base) kC kM T
  have c_Cells__turn := m_ctn (P := P) (w := w) (base := base) (CM := CM) kC kT T
  have c_Cells__close_ring := m_ccr (P := P) (w := w) (base := base) kC kT kM kE T
  exact spc_ok F sc_Cells__go_on (fun ds M k h => by obtain ⟨c, S, ts, u, tr, rfl, _⟩ := h; rfl) fun cdv A outer s H E hr => ⟨_, (pss_cons (ps_set (i := 2) sc_Cells__go_on.nd rfl (Or.inl rfl) (pe_ix (ix_K (K := K)) (pv 1) (pe_un un_neg pe_int) (fun _ _ => rfl)))
      (pss_cons (ps_set (i := 3) sc_Cells__go_on.nd rfl (Or.inl rfl) (C8.pe_mt0 c_Turn_next_name hr (by first | decide | omega) (pv 2)))
      (pss_one (ps_if (pt_cmpR op_isN1 (pv 3) pe_non (nomark _))
      (pss_cons (ps_expr (C8.pe_mt c_Cells__close hr (by first | decide | omega) (pv 0) (pa_cons (pv 2) (pa_cons (C8.pe_mt0 c_Turn_result hr (by first | decide | omega) (pv 2)) (pa_cons pe_non pa_nil)))))
      (pss_one (ps_expr (pe_bm0 PySem.F.plainAttrs_list PySem.F.slot_list_pop PySem.F.type_list_pop mt_pop (pv 1)))))
      (pss_one (ps_if (tru_K (K := K) (C8.pe_mt c_Cells__is_answered hr (by first | decide | omega) (pv 0) (pa_cons (pv 3) pa_nil)))
      (pss_one (ps_expr (C8.pe_mt c_Turn_hear hr (by first | decide | omega) (pv 2) (pa_cons (pv 3) (pa_cons (C8.pe_mt c_Cells__answer hr (by first | decide | omega) (pv 0) (pa_cons (pv 3) pa_nil)) pa_nil)))))
      (pss_one (ps_if (pt_cmpR (in_K (K := K)) (pv 3) (pe_lc (own := [("other", 4)]) (g := gName 4) rfl sc_Cells__go_on.nd (seq_K (K := K) (pv 1)) (blkOk_by (own := [("other", 4)]) (N := ["self", "turns", "turn", "name", "other"]) (sc := defScope s_Cells__go_on) (by decide +kernel)) (fun _ _ _ _ _ => (pg_name (i := 4) sc_Cells__go_on.nd rfl (Or.inl rfl))) (fun _ _ _ _ _ => pts_nil) (fun _ _ _ _ _ => (fld_K (K := K) (pv 4)))) (by rfl))
      (pss_one (ps_expr (C8.pe_mt c_Cells__close_ring hr (by first | decide | omega) (pv 0) (pa_cons (pv 1) (pa_cons (pv 3) pa_nil)))))
      (pss_one (ps_expr (app_K (K := K) (pe_bm PySem.F.plainAttrs_list PySem.F.slot_list_append PySem.F.type_list_append mt_append (pv 1) (pa_cons (C8.pe_mt c_Cells__turn hr (by first | decide | omega) (pv 0) (pa_cons (pv 3) pa_nil)) pa_nil))))))))))))), fun ds M kk hw => by
    obtain ⟨c, S, ts, u, tr, rfl, rfl, ok, st, q1, q2, q3, q4⟩ := hw
    have hsz := sizeLine_eq
    have hsm := ok.small
    refine as_start (δ' := [some (.ref c.a), some (.ref tr), none, none, none]) rfl ?_
    have hu : u ∈ ts ++ [u] := by simp
    obtain ⟨R, hR⟩ := perm_top C CM CT tr c S ts u (st.mo u hu)
    have eM : St C CM CT tr c S (ts ++ [u]) = S.m C CM c ++ ((tr, .lst (rfs ts ++ [.ref u.a])) :: (flt CT ts ++ u.m CT)) := by
      unfold St
      rw [flt_app, flt_one, rfs_app]
    rw [eM]
    have htr : (tr, MO.lst (rfs ts ++ [.ref u.a])) ∈ S.m C CM c ++ ((tr, .lst (rfs ts ++ [.ref u.a])) :: (flt CT ts ++ u.m CT)) := List.mem_append_right _ List.mem_cons_self
    have htu : (u.a, MO.ins CT u.dx (TuF u)) ∈ S.m C CM c ++ ((tr, .lst (rfs ts ++ [.ref u.a])) :: (flt CT ts ++ u.m CT)) := List.mem_append_right _ (List.mem_cons_of_mem _ (List.mem_append_right _ List.mem_cons_self))
    have hca : (c.a, MO.ins C c.dx (CoF c)) ∈ S.m C CM c ++ ((tr, .lst (rfs ts ++ [.ref u.a])) :: (flt CT ts ++ u.m CT)) := List.mem_append_left _ Cs.a_in
    refine as_seq (as_set (ae_op (ae_var rfl (ae_un (ae_int (au_neg (aix_M (ds := rfs ts ++ [.ref u.a]) (M1 := S.m C CM c) rfl atI_last ?_)))))))
    refine as_seq (as_set (ae_methS (ae_var rfl ⟨u.a, u.dx, _, rfl, htu, rfl, aa_nil ?_⟩)))
    refine ⟨u.m CT ++ u.kp CM, _, hR _ _, ⟨u, rfl, rfl, st.ok u hu, rfl, ?_⟩⟩
    cases hnx : nx u.f u.told with
    | done v z =>
      refine as_if (at_test (ae_op (ae_var rfl (ae_non (ar_isN ?_)))))
      refine ⟨_, rfl, fun _ => ?_, fun z => nomatch z⟩
      refine as_seq (as_drop (ae_methP (ae_var rfl ⟨c.a, c.dx, _, rfl, hca, rfl, ?_⟩)))
      refine aa_cons (ae_var rfl (aa_cons (ae_methS (ae_var rfl ⟨u.a, u.dx, _, rfl, htu, rfl, aa_nil ?_⟩))))
      refine ⟨u.m CT ++ u.kp CM, _, hR _ _, ⟨u, v, z, rfl, rfl, st.ok u hu, hnx, rfl, ?_⟩⟩
      refine aa_cons (ae_non (aa_nil ?_))
      refine ⟨S.m C CM c ++ u.m CT, (tr, .lst (rfs ts ++ [.ref u.a])) :: flt CT ts, fun d M => ∃ a dx J, d = .non ∧ M = (S.closes u a dx v none).m C CM c ++ J, ?_, ⟨c, S, u, v, none, rfl, rfl, ok.nm, by omega, by omega, fun a dx J => ⟨a, dx, J, rfl, rfl⟩⟩, ?_⟩
      · rw [List.append_assoc]
        exact List.Perm.append_left _ (List.perm_append_comm (l₁ := (tr, MO.lst (rfs ts ++ [.ref u.a])) :: flt CT ts))
      · rintro _ _ ⟨a, dx, J, rfl, rfl⟩
        show AS K _ _ _ _
        refine as_nxP (as_drop (ae_pop0 (ae_var rfl ⟨tr, rfs ts, .ref u.a, (S.closes u a dx v none).m C CM c ++ J, flt CT ts, rfl, rfl, ?_⟩)))
        refine ⟨_, ?_, q1 v z hnx a dx J⟩
        unfold St
        rw [List.append_assoc, List.append_assoc]
        exact List.Perm.append_left _ List.perm_append_comm
    | ask n z =>
      refine as_if (at_test (ae_op (ae_var rfl (ae_non (ar_isN ?_)))))
      refine ⟨_, rfl, fun z => (nomatch z), fun _ => ?_⟩
      refine as_if (at_tru (ae_methS (ae_var rfl ⟨c.a, c.dx, _, rfl, hca, rfl, aa_cons (ae_var rfl (aa_nil ?_))⟩)))
      refine ⟨S.m C CM c, _, List.Perm.refl _, ⟨c, S, n, rfl, rfl, rfl, trivial, ?_⟩⟩
      cases ha : S.isAns n with
      | true =>
        refine ⟨fun _ => ?_, fun z => nomatch z⟩
        refine as_nxP (as_drop (ae_methP (ae_var rfl ⟨u.a, u.dx, _, rfl, htu, rfl, aa_cons (ae_var rfl (aa_cons (ae_methS (ae_var rfl ⟨c.a, c.dx, _, rfl, hca, rfl, aa_cons (ae_var rfl (aa_nil ?_))⟩))))⟩)))
        refine ⟨S.m C CM c, _, List.Perm.refl _, ⟨c, S, n, rfl, rfl, ok, ha, rfl, aa_nil ?_⟩⟩
        refine ⟨u.m CT ++ u.kp CM, _, fun d M => M = (u.hears n (S.worth n)).m CT ++ u.kp CM, hR _ _, ⟨u, n, S.worth n, rfl, rfl, st.ok u hu, ⟨z, hnx⟩, rfl⟩, ?_⟩
        rintro d _ rfl
        refine ⟨_, ?_, q2 n z hnx ha⟩
        unfold St
        rw [flt_app, flt_one, rfs_app]
        exact (hR _ _).symm
      | false =>
        obtain ⟨fo, hf, han⟩ := isAns_no ha
        refine ⟨fun z => (nomatch z), fun _ => ?_⟩
        refine as_if (at_test (ae_op (ae_var rfl (ae_lcG (a := tr) (ds := rfs ts ++ [.ref u.a]) (es := ((ts ++ [u]).map fun x => tx x.n).map D.str) (ownG_name (by simp)) ?_ ?_ ?_ ?_))))
        · refine ae_var rfl ⟨rfl, rfl, htr, ?_⟩
          rw [← rfs_app]
          unfold rfs
          have h9 := nodup_sub (L := S.rs.map (·.1)) st.nd fun x hx => by
            obtain ⟨y, hy, rfl⟩ := List.mem_map.mp hx
            exact List.mem_map.mpr ⟨_, lkA_mem (show lkA S.rs y.n = some (.fml y.f) from st.rule y hy), rfl⟩
          have := ok.lr
          rw [List.length_map, List.length_map] at h9
          rw [List.length_map]
          omega
        · rw [← rfs_app]
          unfold rfs
          rw [List.length_map, List.length_map, List.length_map]
        · intro i d e hd he
          rw [← rfs_app] at hd
          unfold rfs at hd
          rw [List.getElem?_map] at hd
          rw [List.getElem?_map, List.getElem?_map] at he
          cases hx : (ts ++ [u])[i]? with
          | none => rw [hx] at hd; cases hd
          | some x =>
            rw [hx] at hd he
            cases hd
            cases he
            refine ag_name (ae_fldm (ae_var rfl ⟨x.a, CT, x.dx, TuF x, .str (tx x.n), rfl, ?_, kT.cl, kT.n_name, rfl, rfl, rfl⟩))
            refine List.mem_append_right _ (List.mem_cons_of_mem _ ?_)
            rw [← flt_one CT u, ← flt_app]
            exact List.mem_flatMap.mpr ⟨x, List.mem_of_getElem? hx, List.mem_cons_self⟩
        · refine ain_strsL ?_
          by_cases hni : n ∈ (ts ++ [u]).map Tu.n
          · have e : decide (tx n ∈ (ts ++ [u]).map fun x => tx x.n) = true := decide_eq_true (by
              obtain ⟨x, hx, e⟩ := List.mem_map.mp hni
              exact List.mem_map.mpr ⟨x, hx, by rw [e]⟩)
            rw [e]
            refine ⟨_, rfl, fun _ => ?_, fun z => nomatch z⟩
            obtain ⟨x, hx, en⟩ := List.mem_map.mp hni
            obtain ⟨ts0, r, et⟩ := List.append_of_mem hx
            have rg := rng_of st hnx et ⟨x, r, rfl, en⟩
            have hlen : (ts ++ [u]).length ≤ 24 := by
              have h9 := nodup_sub (L := S.rs.map (·.1)) st.nd fun x hx => by
                obtain ⟨y, hy, rfl⟩ := List.mem_map.mp hx
                exact List.mem_map.mpr ⟨_, lkA_mem (show lkA S.rs y.n = some (.fml y.f) from st.rule y hy), rfl⟩
              have := ok.lr
              rw [List.length_map, List.length_map] at h9
              omega
            have hlen2 : (x :: r).length ≤ 24 := by
              have : (ts ++ [u]).length = (ts0 ++ x :: r).length := by rw [et]
              rw [List.length_append (as := ts0)] at this
              omega
            refine as_drop (ae_methP (ae_var rfl ⟨c.a, c.dx, _, rfl, hca, rfl, aa_cons (ae_var rfl (aa_cons (ae_var rfl (aa_nil ?_))))⟩))
            refine ⟨St C CM CT tr c S (ts0 ++ x :: r), [], fun d M => d = .non ∧ ∃ S' J, Clo S (x :: r) S' ∧ M = St C CM CT tr c S' ts0 ++ J, ?_, ⟨c, S, ts0, x :: r, x, tr, by rw [en]; rfl, rfl, ⟨r, rfl⟩, by rw [← et]; exact st, ok.nm, by omega, by omega, by rw [← et]; omega, fun y hy => ?_, fun S' J h => ⟨rfl, S', J, h, rfl⟩⟩, ?_⟩
            · rw [List.append_nil, ← et, ← eM]
            · obtain ⟨w', hw'⟩ := rg.ask y hy
              exact ⟨_, w', hw'⟩
            · rintro _ _ ⟨rfl, S', J, h, rfl⟩
              rw [List.append_nil]
              exact q4 ts0 (x :: r) S' J et (fun z => nomatch z) rg h
          have e : decide (tx n ∈ (ts ++ [u]).map fun x => tx x.n) = false := decide_eq_false fun h => by
            obtain ⟨x, hx, e⟩ := List.mem_map.mp h
            exact hni (List.mem_map.mpr ⟨x, hx, tx_inj e⟩)
          rw [e]
          refine ⟨_, rfl, fun z => (nomatch z), fun _ => ?_⟩
          refine as_nxP (as_drop (ae_lm (ae_var rfl ⟨lstM_ref (N1 := S.m C CM c) rfl, aa_cons (ae_methP (ae_var rfl ⟨c.a, c.dx, _, rfl, hca, rfl, aa_cons (ae_var rfl (aa_nil ?_))⟩))⟩)))
          refine ⟨S.m C CM c, _, fun d M => ∃ a dx tl, d = .ref a ∧ M = Tu.m CT ⟨a, dx, tl, n, fo, [], (lkA S.ms n).isSome, lkA S.ms n⟩ ++ S.m C CM c, List.Perm.refl _, ⟨c, S, n, fo, rfl, rfl, hf, fun a dx tl => ⟨a, dx, tl, rfl, rfl⟩⟩, ?_⟩
          rintro _ _ ⟨a, dx, tl, rfl, rfl⟩
          have hlen : (rfs ts ++ [D.ref u.a]).length < sizeLine := by
            have h9 := nodup_sub (L := S.rs.map (·.1)) st.nd fun x hx => by
              obtain ⟨y, hy, rfl⟩ := List.mem_map.mp hx
              exact List.mem_map.mpr ⟨_, lkA_mem (show lkA S.rs y.n = some (.fml y.f) from st.rule y hy), rfl⟩
            have := ok.lr
            rw [← rfs_app]
            unfold rfs
            rw [List.length_map, List.length_map] at h9
            rw [List.length_map]
            omega
          refine aa_nil (am_append (M1 := Tu.m CT ⟨a, dx, tl, n, fo, [], (lkA S.ms n).isSome, lkA S.ms n⟩ ++ S.m C CM c) (ds := rfs ts ++ [.ref u.a]) (M2 := flt CT ts ++ u.m CT) rfl hlen ?_)
          refine ⟨_, ?_, q3 n z fo hnx ha hf hni a dx tl⟩
          unfold St
          rw [rfs_app, rfs_app, flt_app, flt_one, flt_app, flt_one]
          show ((Tu.m CT ⟨a, dx, tl, n, fo, [], (lkA S.ms n).isSome, lkA S.ms n⟩ ++ S.m C CM c) ++ ((tr, MO.lst ((rfs ts ++ [D.ref u.a]) ++ [D.ref a])) :: (flt CT ts ++ u.m CT))).Perm _
          rw [List.append_assoc]
          refine (List.perm_append_comm).trans ?_
          rw [List.append_assoc]
          exact List.Perm.refl _⟩
end

/-! ### asking whole, where there may be rings -/
def Btm (a : Nm) (S : Cs) (ts : List Tu) : Prop := (ts = [] → S.isAns a = true) ∧ ∀ u r, ts = u :: r → u.n = a
theorem isAns_of {S : Cs} {n : Nm} {b : Bool} (h : lkA S.an n = some b) : S.isAns n = true := by
  unfold Cs.isAns
  cases S.R n with
  | none => rfl
  | some r =>
    cases r with
    | inp v => rfl
    | fml f =>
      show (lkA S.an n).isSome = true
      rw [h]
      rfl
theorem btm_hears {a n : Nm} {S : Cs} {ts : List Tu} {u : Tu} {v : Vl} (b : Btm a S (ts ++ [u])) : Btm a S (ts ++ [u.hears n v]) := by
  refine ⟨fun h => by simp at h, fun x r h => ?_⟩
  cases ts with
  | nil =>
    have e : u.hears n v = x := (List.cons.inj h).1
    rw [← e]
    exact b.2 u [] rfl
  | cons y ys =>
    have e : y = x := (List.cons.inj h).1
    rw [← e]
    exact b.2 y (ys ++ [u]) rfl
theorem btm_push {a : Nm} {S : Cs} {ts : List Tu} {u v : Tu} (b : Btm a S (ts ++ [u])) : Btm a S ((ts ++ [u]) ++ [v]) := by
  refine ⟨fun h => by simp at h, fun x r h => ?_⟩
  cases ts with
  | nil =>
    have e : u = x := (List.cons.inj h).1
    rw [← e]
    exact b.2 u [] rfl
  | cons y ys =>
    have e : y = x := (List.cons.inj h).1
    rw [← e]
    exact b.2 y (ys ++ [u]) rfl
theorem btm_close {a : Nm} {S : Cs} {ts : List Tu} {u : Tu} {x dx : Addr} {v : Vl} {l : Option Nm} (b : Btm a S (ts ++ [u])) : Btm a (S.closes u x dx v l) ts := by
  refine ⟨fun h => ?_, fun y r h => ?_⟩
  · subst h
    have e := b.2 u [] rfl
    refine isAns_of (b := u.kept) ?_
    show lkA (puA S.an u.n u.kept) a = _
    rw [lkA_pu, if_pos e.symm]
  · subst h
    exact b.2 y (r ++ [u]) rfl
theorem ext_refl {a : Nm} {S : Cs} {ts : List Tu} (h : ∀ u ∈ ts, u.n = a) : Ext a S S ts :=
  ⟨rfl, fun _ _ h => ⟨h, rfl⟩, fun _ _ => rfl, fun n b h h0 => (by rw [h] at h0; cases h0), fun F τ _ _ => ⟨fun n b h h0 => (by rw [h] at h0; cases h0), fun u hu => by rw [h u hu]; exact .refl⟩⟩
theorem start_st {S : Cs} {n : Nm} {f : Fo} {a dx tl : Addr} (ok : S.Ok) (hr : S.R n = some (.fml f)) (ha : lkA S.an n = none) : StOk S [⟨a, dx, tl, n, f, [], (lkA S.ms n).isSome, lkA S.ms n⟩] := by
  refine ⟨fun x hx => ?_, fun x hx => ?_, fun x hx => ?_, fun x hx => ?_, fun x hx => ?_, fun x hx => ?_, ?_, fun i x y hx hy => ?_⟩
  · rw [List.mem_singleton.mp hx]
    refine ⟨ok.ru n _ hr, asked_nil f, fun h => ?_⟩
    cases e : lkA S.ms n with
    | none => rw [e] at h; cases h
    | some m =>
      obtain ⟨g, hg, mok⟩ := ok.ms n m e
      rw [hr] at hg
      cases hg
      exact ⟨m, rfl, mok, rfl⟩
  · rw [List.mem_singleton.mp hx]; exact hr
  · rw [List.mem_singleton.mp hx]; exact ha
  · rw [List.mem_singleton.mp hx]; exact fun _ _ h => nomatch h
  · rw [List.mem_singleton.mp hx]
  · rw [List.mem_singleton.mp hx]
    show (lkA S.ms n).isSome = keptB (lkA S.ms n) []
    cases lkA S.ms n <;> rfl
  · simp
  · simp at hy
theorem btm_clo {a : Nm} {S S' : Cs} {ts us : List Tu} (rg : Rng us) (hne : us ≠ []) (h : Clo S us S') (b : Btm a S (ts ++ us)) : Btm a S' ts := by
  refine ⟨fun e => ?_, fun y r e => ?_⟩
  · subst e
    cases us with
    | nil => exact absurd rfl hne
    | cons x r =>
      have e := b.2 x r rfl
      have h9 := (h.at_ rg.nd x (by simp)).1
      rw [e] at h9
      exact isAns_of h9
  · subst e
    exact b.2 y (r ++ us) rfl
def W_cas2 (C CM : Addr) : WtP := fun ds M k kp => ∃ (c : Ca) (S : Cs) (n : Nm), ds = [.ref c.a, .str (tx n)] ∧ M = S.m C CM c ∧ S.Ok ∧ (∃ r, S.R n = some r) ∧
  ∀ S' J, S'.Ok → Ext n S S' [] → S'.isAns n = true → k (S'.worth n).d (S'.m C CM c ++ J)
section
variable {P : Program} {w : World} {K : PySem.W.Frag} {mg : Str → Option Value} {base : Heap} {C CM CT CE DN : Addr}
theorem p_cas2 (kC : Cl_Cells K mg C) (kT : Cl_Turn K mg CT) (kM : Cl_Memo K mg CM) (kE : Cl_Evaluation K mg CE) (T : Top K mg w) (e_NoCell : ErrP K mg "NoCell" DN) : MetX P w K mg base 17 C "ask" (SpcP K (W_cas2 C CM)) := metX_of kC.cl kC.d_ask fun f fd F => by
  have p_Cells__check_cell := m_cck (P := P) (w := w) (base := base) (CM := CM) kC T e_NoCell
  have c_Cells__is_answered := m_cia (P := P) (w := w) (base := base) (CM := CM) kC T
  have c_Cells__answer := m_can (P := P) (w := w) (base := base) kC kM T
  have c_Cells__turn := m_ctn (P := P) (w := w) (base := base) (CM := CM) kC kT T
  have c_Cells__go_on := m_cg2 (P := P) (w := w) (base := base) kC kT kM kE T
  exact spc_okP F sc_Cells_ask (fun ds M k kp h => by obtain ⟨c, S, n, rfl, _⟩ := h; rfl) fun cdv A outer s H E hr => ⟨_, (pss_cons (ps_expr (pe_mtE (takes_of rfl rfl rfl rfl) p_Cells__check_cell hr (by first | decide | omega) (pv 0) (pa_cons (pv 1) pa_nil)))
      (pss_cons (ps_set (i := 2) sc_Cells_ask.nd rfl (Or.inl rfl) (pe_lstM (pe_lst pa_nil)))
      (pss_cons (ps_if (pt_not (tru_K (K := K) (C8.pe_mt c_Cells__is_answered hr (by first | decide | omega) (pv 0) (pa_cons (pv 1) pa_nil))))
      (pss_one (ps_expr (app_K (K := K) (pe_bm PySem.F.plainAttrs_list PySem.F.slot_list_append PySem.F.type_list_append mt_append (pv 2) (pa_cons (C8.pe_mt c_Cells__turn hr (by first | decide | omega) (pv 0) (pa_cons (pv 1) pa_nil)) pa_nil)))))
      pss_nil)
      (pss_cons (ps_while (passes_of rfl) (tru_K (K := K) (pv 2))
      (pss_one (ps_expr (C8.pe_mt c_Cells__go_on hr (by first | decide | omega) (pv 0) (pa_cons (pv 2) pa_nil)))))
      (pss_one (ps_ret (C8.pe_mt c_Cells__answer hr (by first | decide | omega) (pv 0) (pa_cons (pv 1) pa_nil)))))))), fun ds M kk kp hw => by
    obtain ⟨c, S, n, rfl, rfl, ok, hr, q⟩ := hw
    have hsz := sizeLine_eq
    refine as_start (δ' := [some (.ref c.a), some (.str (tx n)), none]) rfl ?_
    refine as_seq (as_dropP (aep_meth rfl (ae_var rfl ⟨c.a, c.dx, _, rfl, ⟨[], _, rfl⟩, rfl, aa_cons (ae_var rfl (aa_nil ?_))⟩)))
    refine ⟨S.m C CM c, [], fun d M => M = S.m C CM c, fun _ _ => False, (List.append_nil _).symm, ⟨c, S, n, rfl, rfl, .inl ⟨hr, rfl⟩⟩, ?_, fun _ _ z => z.elim⟩
    rintro _ _ rfl
    rw [List.append_nil]
    refine as_seq ?_
    walk_at "tg"
    intro tr
    show AS K _ [some (.ref c.a), some (.str (tx n)), some (.ref tr)] (S.m C CM c ++ [(tr, .lst [])]) _
    have hca : (c.a, MO.ins C c.dx (CoF c)) ∈ S.m C CM c ++ [(tr, MO.lst [])] := List.mem_append_left _ Cs.a_in
    refine as_cut (fun δ' M' => ∃ ts, δ' = [some (.ref c.a), some (.str (tx n)), some (.ref tr)] ∧ M' = St C CM CT tr c S ts ∧ StOk S ts ∧ Ext n S S ts ∧ Btm n S ts) ?_ ?_
    · refine as_if (at_not (at_tru (ae_methS (ae_var rfl ⟨c.a, c.dx, _, rfl, hca, rfl, aa_cons (ae_var rfl (aa_nil ?_))⟩))))
      refine ⟨S.m C CM c, _, List.Perm.refl _, ⟨c, S, n, rfl, rfl, rfl, trivial, ?_⟩⟩
      cases ha : S.isAns n with
      | true =>
        refine ⟨fun z => (nomatch z), fun _ => as_next ⟨[], rfl, rfl, ⟨(fun _ h => nomatch h), (fun _ h => nomatch h), (fun _ h => nomatch h), (fun _ h => nomatch h), (fun _ h => nomatch h), (fun _ h => nomatch h), List.nodup_nil, fun i u v h => by simp at h⟩, ext_refl (fun _ h => nomatch h), ⟨fun _ => ha, fun u r h => nomatch h⟩⟩⟩
      | false =>
        obtain ⟨fo, hf, han⟩ := isAns_no ha
        refine ⟨fun _ => ?_, fun z => nomatch z⟩
        refine as_nxP (as_drop (ae_lm (ae_var rfl ⟨lstM_ref (N1 := S.m C CM c) rfl, aa_cons (ae_methP (ae_var rfl ⟨c.a, c.dx, _, rfl, hca, rfl, aa_cons (ae_var rfl (aa_nil ?_))⟩))⟩)))
        refine ⟨S.m C CM c, _, fun d M => ∃ a dx tl, d = .ref a ∧ M = Tu.m CT ⟨a, dx, tl, n, fo, [], (lkA S.ms n).isSome, lkA S.ms n⟩ ++ S.m C CM c, List.Perm.refl _, ⟨c, S, n, fo, rfl, rfl, hf, fun a dx tl => ⟨a, dx, tl, rfl, rfl⟩⟩, ?_⟩
        rintro _ _ ⟨a, dx, tl, rfl, rfl⟩
        refine aa_nil (am_append (M1 := Tu.m CT ⟨a, dx, tl, n, fo, [], (lkA S.ms n).isSome, lkA S.ms n⟩ ++ S.m C CM c) (ds := []) (M2 := []) rfl (by rw [hsz]; decide) ?_)
        refine ⟨_, ?_, [_], rfl, rfl, start_st (a := a) (dx := dx) (tl := tl) ok hf han, ext_refl (fun u hu => by rw [List.mem_singleton.mp hu]), ⟨fun h => by simp at h, fun u r h => by rw [← (List.cons.inj h).1]⟩⟩
        unfold St
        rw [flt_one]
        show ((Tu.m CT ⟨a, dx, tl, n, fo, [], (lkA S.ms n).isSome, lkA S.ms n⟩ ++ S.m C CM c) ++ [(tr, MO.lst [D.ref a])]).Perm _
        rw [List.append_assoc]
        refine (List.perm_append_comm).trans ?_
        rw [List.append_assoc]
        exact List.Perm.refl _
    · rintro _ _ ⟨ts, rfl, rfl, st0, ex0, b0⟩
      refine as_seq (as_while (fun m δ' M' => ∃ S' ts, δ' = [some (.ref c.a), some (.str (tx n)), some (.ref tr)] ∧ M' = St C CM CT tr c S' ts ∧ S'.Ok ∧ StOk S' ts ∧ Ext n S S' ts ∧ Btm n S' ts ∧ m = mez S' ts) (mez S ts) ⟨S, ts, rfl, rfl, ok, st0, ex0, b0, rfl⟩ ?_)
      rintro m δ' M' ⟨S', ts, rfl, rfl, ok', st, ex, b, rfl⟩
      refine at_truM (ae_var rfl ⟨tr, rfs ts, S'.m C CM c, flt CT ts, rfl, rfl, ?_⟩)
      have hR : S'.R = S.R := by unfold Cs.R; rw [ex.rs]
      rcases List.eq_nil_or_concat ts with e | ⟨ts', u, e⟩
      · subst e
        refine ⟨fun z => (nomatch z), fun _ => ?_⟩
        show AS K _ _ (S'.m C CM c ++ [(tr, MO.lst [])]) _
        have hca' : (c.a, MO.ins C c.dx (CoF c)) ∈ S'.m C CM c ++ [(tr, MO.lst [])] := List.mem_append_left _ Cs.a_in
        refine as_ret (ae_methS (ae_var rfl ⟨c.a, c.dx, _, rfl, hca', rfl, aa_cons (ae_var rfl (aa_nil ?_))⟩))
        exact ⟨S'.m C CM c, _, List.Perm.refl _, ⟨c, S', n, rfl, rfl, ok', b.1 rfl, rfl, q S' _ ok' ex (b.1 rfl)⟩⟩
      · rw [List.concat_eq_append] at e
        subst e
        have ht : (!(rfs (ts' ++ [u])).isEmpty) = true := by
          rw [rfs_app]
          cases rfs ts' <;> rfl
        rw [ht]
        refine ⟨fun _ => ?_, fun z => nomatch z⟩
        have hu : u ∈ ts' ++ [u] := by simp
        refine as_nxL (as_drop (ae_methP (ae_var rfl ⟨c.a, c.dx, _, rfl, List.mem_append_left _ Cs.a_in, rfl, aa_cons (ae_var rfl (aa_nil ?_))⟩)))
        refine ⟨St C CM CT tr c S' (ts' ++ [u]), [], fun d M => ∃ S2 ts2 J, M = St C CM CT tr c S2 ts2 ++ J ∧ S2.Ok ∧ StOk S2 ts2 ∧ Ext n S S2 ts2 ∧ Btm n S2 ts2 ∧ mez S2 ts2 < mez S' (ts' ++ [u]), by rw [List.append_nil], ⟨c, S', ts', u, tr, rfl, rfl, ok', st, ?_, ?_, ?_, ?_⟩, ?_⟩
        · intro v z hd a dx J
          exact ⟨_, _, J, rfl, closes_ok ok' st hd, closes_st st, closes_ext st ex, btm_close b, closes_mez (st.ok u hu)⟩
        · intro n' z hn ha
          exact ⟨_, _, [], by rw [List.append_nil], ok', hears_st ok' st hn ha, hears_ext ex, btm_hears b, hears_mez (st.ok u hu)⟩
        · intro n' z fo hn ha hf hni a dx tl
          obtain ⟨_, _, han⟩ := isAns_no ha
          exact ⟨_, _, [], by rw [List.append_nil], ok', pushes_st ok' st hn hf han hni, pushes_ext rfl ok' st hn ex, btm_push b, pushes_mez rfl rfl hf han hni⟩
        · intro ts0 us S2 J et hne rg h
          rw [et] at st ex b ⊢
          exact ⟨S2, ts0, J, rfl, clo_ok ok' st rg h, clo_st st rg h, clo_extends st rg h ex, btm_clo rg hne h b, clo_mez st rg hne h⟩
        · rintro d _ ⟨S2, ts2, J, rfl, ok2, st2, ex2, b2, hm⟩
          rw [List.append_nil]
          exact ⟨_, J, List.Perm.refl _, mez S2 ts2, hm, S2, ts2, rfl, rfl, ok2, st2, ex2, b2, rfl⟩⟩
end

/-! ### reads -/
def En.rds (e : En) : Td := e.told ++ match e.last with
  | none => []
  | some l => [(l, .cyc)]
def rdD : Option Mo → D
  | none => .non
  | some m => .lst (tlD m.e.rds)
def W_crd (C CM : Addr) : WtP := fun ds M k kp => ∃ (c : Ca) (S : Cs) (n : Nm), ds = [.ref c.a, .str (tx n)] ∧ M = S.m C CM c ∧ S.Ok ∧ (∃ r, S.R n = some r) ∧ k (rdD (lkA S.ms n)) (S.m C CM c)
section
variable {P : Program} {w : World} {K : PySem.W.Frag} {mg : Str → Option Value} {base : Heap} {C CM CT CE DN : Addr}
theorem p_crd (kC : Cl_Cells K mg C) (kM : Cl_Memo K mg CM) (T : Top K mg w) (e_NoCell : ErrP K mg "NoCell" DN) : MetX P w K mg base 2 C "reads" (SpcP K (W_crd C CM)) := metX_of kC.cl kC.d_reads fun f fd F => by
  have p_Cells__check_cell := m_cck (P := P) (w := w) (base := base) (CM := CM) kC T e_NoCell
  obtain ⟨t_CYCLIC, g_CYCLIC⟩ := T.g_CYCLIC
  exact spc_okP F sc_Cells_reads (fun ds M k kp h => by obtain ⟨c, S, n, rfl, _⟩ := h; rfl) fun cdv A outer s H E hr => ⟨_, (pss_cons (ps_expr (pe_mtE (takes_of rfl rfl rfl rfl) p_Cells__check_cell hr (by first | decide | omega) (pv 0) (pa_cons (pv 1) pa_nil)))
      (pss_cons (ps_if (pt_cmpR (notinDk_K (hu_of hr)) (pv 1) (fld_K (K := K) (pv 0)) (by rfl))
      (pss_one (ps_ret pe_non))
      pss_nil)
      (pss_cons (ps_set (i := 2) sc_Cells_reads.nd rfl (Or.inl rfl) (pe_dget (hu_of hr) (fld_K (K := K) (pv 0)) (pv 1) (fun _ _ => rfl)))
      (pss_cons (ps_if (pt_cmpR op_isN1 (fld_K (K := K) (pv 2)) pe_non (nomark _))
      (pss_one (ps_ret (pe_callTy (list_K (K := K)) (by rfl) T.m_list (by decide +kernel) (pa_cons (fld_K (K := K) (pv 2)) pa_nil))))
      pss_nil)
      (pss_one (ps_ret (pe_op (add_K (K := K)) (fld_K (K := K) (pv 2)) (pe_lst (pa_cons (pe_tup (pa_cons (fld_K (K := K) (pv 2)) (pa_cons (pe_glob (v := V.str (tx cst_CYCLIC)) (by rfl) g_CYCLIC ⟨_, rfl⟩) pa_nil))) pa_nil))))))))), fun ds M kk kp hw => by
    obtain ⟨c, S, n, rfl, rfl, ok, hr, q⟩ := hw
    have hsz := sizeLine_eq
    refine as_start (δ' := [some (.ref c.a), some (.str (tx n)), none]) rfl ?_
    refine as_seq (as_dropP (aep_meth rfl (ae_var rfl ⟨c.a, c.dx, _, rfl, ⟨[], _, rfl⟩, rfl, aa_cons (ae_var rfl (aa_nil ?_))⟩)))
    refine ⟨S.m C CM c, [], fun d M => M = S.m C CM c, fun _ _ => False, (List.append_nil _).symm, ⟨c, S, n, rfl, rfl, .inl ⟨hr, rfl⟩⟩, ?_, fun _ _ z => z.elim⟩
    rintro _ _ rfl
    rw [List.append_nil]
    refine as_seq (as_if (at_test (ae_op (ae_var rfl (fl_m kC rfl Cs.a_in (ar_notinDm Cs.lm_in (key := .inr (tx n)) rfl ?_))))))
    rw [valD_kv]
    cases hm : lkA S.ms n with
    | none =>
      rw [hm] at q
      refine ⟨_, rfl, fun _ => as_ret (ae_non q), fun z => nomatch z⟩
    | some m =>
      rw [hm] at q
      obtain ⟨fo, hfo, mok⟩ := ok.ms n m hm
      have hsm := asked_small (ok.ru n _ hfo) mok.asked
      refine ⟨_, rfl, fun z => (nomatch z), fun _ => as_next ?_⟩
      refine as_seq (as_set (ae_dgetm (fl_m kC rfl Cs.a_in (ae_var rfl ⟨c.lm, _, .inr (tx n), .ref m.a, rfl, rfl, Cs.lm_in, by rw [valD_kv, hm]; rfl, ?_⟩))))
      have told : ∀ {δ : DS} {k : D → Mu → Prop}, δ[2]? = some (some (.ref m.a)) → k (.lst (tlD m.e.told)) (S.m C CM c) → AE K (tFld K (tVar 2) "told") δ (S.m C CM c) k := fun h0 h1 =>
        ae_fldm (ae_var h0 ⟨m.a, CM, m.dx, MeF m.e, _, rfl, Cs.mo_in hm, kM.cl, kM.n_told, rfl, h1⟩)
      have last : ∀ {δ : DS} {k : D → Mu → Prop}, δ[2]? = some (some (.ref m.a)) → k (lsD m.e.last) (S.m C CM c) → AE K (tFld K (tVar 2) "last") δ (S.m C CM c) k := fun h0 h1 =>
        ae_fldm (ae_var h0 ⟨m.a, CM, m.dx, MeF m.e, _, rfl, Cs.mo_in hm, kM.cl, kM.n_last, rfl, h1⟩)
      refine as_seq (as_if (at_test (ae_op (last rfl (ae_non (ar_isN ?_))))))
      have q : kk (.lst (tlD m.e.rds)) (S.m C CM c) := q
      unfold En.rds at q
      cases hl : m.e.last with
      | none =>
        rw [hl, List.append_nil] at q
        refine ⟨_, rfl, fun _ => ?_, fun z => nomatch z⟩
        refine as_ret (ae_cb (aa_cons (told rfl (aa_nil (ac_list (.inl rfl) q)))))
      | some l =>
        rw [hl] at q
        refine ⟨_, rfl, fun z => (nomatch z), fun _ => as_next ?_⟩
        refine as_ret (ae_op (told rfl ?_))
        walk_at "tg"
        refine last rfl ?_
        rw [hl]
        walk_at "tg"
        refine au_lst (by rw [tlD_len]; show _ + 1 ≤ _; omega) ?_
        have e : tlD (m.e.told ++ [(l, .cyc)]) = tlD m.e.told ++ [.tup [lsD (some l), .str (tx cst_CYCLIC)]] := by
          unfold tlD
          rw [List.map_append, ← cyc_tx]
          rfl
        rw [← e]
        exact q⟩
end

section
variable {P : Program} {w : World} {K : PySem.W.Frag} {mg : Str → Option Value} {base : Heap}
theorem cells_at {cs : List Int} {i : Int} (h0 : 0 ≤ i) (h : i < (cs.length : Int)) : ∃ c, c ∈ cs ∧ atI (cs.map D.int) i = some (.int c) := by
  obtain ⟨j, rfl⟩ : ∃ j : Nat, i = (j : Int) := ⟨i.toNat, by omega⟩
  have hj : j < cs.length := by omega
  refine ⟨cs[j], List.getElem_mem hj, ?_⟩
  exact atI_nat (by rw [List.getElem?_map, List.getElem?_eq_getElem hj]; rfl)
theorem c__law_pool (T : Top K mg w) : Cal P w K mg base 1 "_law_pool" (Spc K W_pool) [] := cal_of T.d__law_pool fun f fd F =>
  spc_ok F sc__law_pool (fun ds M k h => by obtain ⟨ns, rfl, _⟩ := h; rfl) fun cdv A outer s H E hr => ⟨_, (pss_one (ps_ret (pe_lstM (pe_lst (pa_cons (pe_lc (own := [("cell", 1)]) (g := gName 1) rfl sc__law_pool.nd (seq_K (K := K) (pv 0)) (blkOk_by (own := [("cell", 1)]) (N := ["script", "cell"]) (sc := defScope s__law_pool) (by decide +kernel)) (fun _ _ _ _ _ => (pg_name (i := 1) sc__law_pool.nd rfl (Or.inl rfl))) (fun _ _ _ _ _ => pts_nil) (fun _ _ _ _ _ => (pe_ifExp (pt_cmpR op_ge (pv 1) pe_int (nomark _)) (pe_op op_mul pe_int (pv 1)) (pe_op op_sub (pe_op op_mul (pe_un un_neg pe_int) (pv 1)) pe_int)))) (pa_cons pe_int (pa_cons pe_int (pa_cons pe_int pa_nil)))))))), fun ds M kk hw => by
    obtain ⟨ns, rfl, rfl, hl, q⟩ := hw
    refine as_start (δ' := [some (.lsk (ns.map D.int)), none]) rfl ?_
    walk_at "tg"
    refine ae_lc (ownG_name (by simp)) ?_
    walk_at "tg"
    refine ⟨by rw [List.length_map]; exact small1000 (by omega), fun i acc M' => M' = [] ∧ ∃ cs : List Int, acc = cs.map D.int ∧ ∀ c ∈ cs, 0 ≤ c, ⟨rfl, [], rfl, by simp⟩, ?_, ?_⟩
    · rintro i d acc M' hd ⟨rfl, cs, rfl, hc⟩
      obtain ⟨j, rfl⟩ : ∃ j, d = .int j := by
        rw [List.getElem?_map] at hd
        cases e : ns[i]? with
        | none => rw [e] at hd; cases hd
        | some j => rw [e] at hd; exact ⟨j, by simpa using hd.symm⟩
      walk_at "tg"
      refine dcase (fun c => ?_) (fun c => ?_)
      · walk_at "tg"
        exact ⟨rfl, cs ++ [2 * j], by simp, fun x hx => by
          rcases List.mem_append.mp hx with hx | hx
          · exact hc x hx
          · have e : x = 2 * j := by simpa using hx
            omega⟩
      · walk_at "tg"
        exact ⟨rfl, cs ++ [-2 * j - 1], by simp, fun x hx => by
          rcases List.mem_append.mp hx with hx | hx
          · exact hc x hx
          · have e : x = -2 * j - 1 := by simpa using hx
            omega⟩
    · rintro acc M' ⟨rfl, cs, rfl, hc⟩
      walk_at "tg"
      intro a
      exact q a ⟨cs, 0, 0, 17⟩ ⟨hc, Int.le_refl 0, Int.le_refl 0, by show (0 : Int) ≤ 17; decide, by show (17 : Int) < 2147483647; decide⟩⟩
theorem take_step (T : Top K mg w) (n : Nat) (c__law_take : Cal P w K mg base n "_law_take" (Spc K (W_take n)) []) : Cal P w K mg base (n + 1) "_law_take" (Spc K (W_take (n + 1))) [] := cal_of T.d__law_take fun f fd F =>
  spc_ok F sc__law_take (fun ds M k h => by obtain ⟨a, p, many, rfl, _⟩ := h; rfl) fun cdv A outer s H E hr => ⟨_, (pss_cons (ps_if (pt_cmpR op_gt (pe_ix (ix_K (K := K)) (pv 0) pe_int (fun _ _ => rfl)) pe_int (nomark _))
      (pss_cons (ps_set (i := 2) sc__law_take.nd rfl (Or.inl rfl) (pe_op op_mod (pe_callTy call_intU (by rfl) T.m_int (by decide +kernel) (pa_cons (pe_ix (ix_K (K := K)) (pv 0) pe_int (fun _ _ => rfl)) pa_nil)) (pv 1)))
      (pss_cons (ps_asg (pe_op op_fdiv (pe_ix (ix_K (K := K)) (pv 0) pe_int (fun _ _ => rfl)) (pv 1)) (pg_sub (pv 0) pe_int (set_any (hu_of hr))))
      (pss_one (ps_ret (pv 2)))))
      pss_nil)
      (pss_cons (ps_set (i := 3) sc__law_take.nd rfl (Or.inl rfl) pe_int)
      (pss_cons (ps_if (pt_cmpR op_lt (pe_ix (ix_K (K := K)) (pv 0) pe_int (fun _ _ => rfl)) (pe_callB (len_K (K := K)) (by rfl) T.m_len (by decide +kernel) (pa_cons (pe_ix (ix_K (K := K)) (pv 0) pe_int (fun _ _ => rfl)) pa_nil)) (nomark _))
      (pss_one (ps_set (i := 3) sc__law_take.nd rfl (Or.inl rfl) (pe_ix (ix_K (K := K)) (pe_ix (ix_K (K := K)) (pv 0) pe_int (fun _ _ => rfl)) (pe_ix (ix_K (K := K)) (pv 0) pe_int (fun _ _ => rfl)) (fun _ _ => rfl))))
      pss_nil)
      (pss_cons (ps_asg (pe_op (add_K (K := K)) (pe_ix (ix_K (K := K)) (pv 0) pe_int (fun _ _ => rfl)) pe_int) (pg_sub (pv 0) pe_int (set_any (hu_of hr))))
      (pss_cons (ps_if (pt_cmpR op_ge (pv 3) (pe_op op_pow pe_int pe_int) (nomark _))
      (pss_cons (ps_asg (pe_op op_fdiv (pv 3) pe_int) (pg_sub (pv 0) pe_int (set_any (hu_of hr))))
      (pss_one (ps_ret (pe_c c__law_take hr (by first | decide | omega) (by rfl) (pa_cons (pv 0) (pa_cons (pv 1) pa_nil))))))
      pss_nil)
      (pss_cons (ps_asg (pe_op op_mod (pe_callTy call_intU (by rfl) T.m_int (by decide +kernel) (pa_cons (pe_op (add_K (K := K)) (pe_op (add_K (K := K)) (pe_op op_mul (pe_ix (ix_K (K := K)) (pv 0) pe_int (fun _ _ => rfl)) pe_int) (pe_op op_mul (pv 3) pe_int)) (pe_op op_mul (pe_ix (ix_K (K := K)) (pv 0) pe_int (fun _ _ => rfl)) pe_int)) pa_nil)) pe_int) (pg_sub (pv 0) pe_int (set_any (hu_of hr))))
      (pss_cons (ps_set (i := 4) sc__law_take.nd rfl (Or.inl rfl) (pe_op op_mod (pe_callTy call_intU (by rfl) T.m_int (by decide +kernel) (pa_cons (pe_op (add_K (K := K)) (pe_op (add_K (K := K)) (pe_op op_mul (pe_ix (ix_K (K := K)) (pv 0) pe_int (fun _ _ => rfl)) (pe_ix (ix_K (K := K)) (pv 0) pe_int (fun _ _ => rfl))) (pe_op op_mul (pe_ix (ix_K (K := K)) (pv 0) pe_int (fun _ _ => rfl)) pe_int)) pe_int) pa_nil)) pe_int))
      (pss_one (ps_ret (pe_op op_mod (pe_callTy call_intU (by rfl) T.m_int (by decide +kernel) (pa_cons (pe_op op_fdiv (pv 4) pe_int) pa_nil)) (pv 1))))))))))), fun ds M kk hw => by
    obtain ⟨a, p, many, rfl, rfl, ok, h0, h1, hn, hb, q⟩ := hw
    have s0 := ok.seed0
    have s1 := ok.seed1
    have b0 := ok.big
    refine as_start (δ' := [some (.ref a), some (.int many), none, none, none]) rfl ?_
    refine as_seq ?_
    walk_at "tg"
    refine dcase (fun c => ?_) (fun c => ?_)
    · walk_at "tg"
      exact q _ { p with big := p.big / many } ⟨ok.cells, ok.pos, Int.ediv_nonneg b0 (by omega), s0, s1⟩ (Int.emod_nonneg _ (by omega)) (Int.emod_lt_of_pos _ h0)
    · have hn2 : 2 ≤ n + 1 := by rcases hb with z | z <;> omega
      walk_at "tg"
      refine as_cut (fun δ' M' => ∃ c : Int, 0 ≤ c ∧ δ' = [some (.ref a), some (.int many), none, some (.int c), none] ∧ M' = [(a, .lst p.d)]) ?_ ?_
      · walk_at "tg"
        refine dcase (fun c => ?_) (fun c => ?_)
        · have c' : p.pos < (p.cells.length : Int) := by rw [List.length_map] at c; exact c
          obtain ⟨x, hx, hat⟩ := cells_at ok.pos c'
          walk_at "tg"
          refine aix_L hat ?_
          walk_at "tg"
          exact ⟨x, ok.cells x hx, rfl, rfl⟩
        · walk_at "tg"
          exact ⟨0, Int.le_refl 0, rfl, rfl⟩
      · rintro δ' M' ⟨c, hc, rfl, rfl⟩
        walk_at "tg"
        refine as_seq ?_
        walk_at "tg"
        have p0 := ok.pos
        refine dcase (fun c1 => ?_) (fun c1 => ?_)
        · walk_at "tg"
          have e18 : (10 : Int) ^ Int.toNat 18 = 1000000000000000000 := by decide
          rw [e18] at c1
          exact ⟨[_], [], kk, rfl, ⟨a, { p with pos := p.pos + 1, big := c / 2 }, many, rfl, rfl, ⟨ok.cells, by show 0 ≤ p.pos + 1; omega, by show 0 ≤ c / 2; omega, s0, s1⟩, h0, h1, by omega, .inl (by show 0 < c / 2; omega), fun r p' ok' r0 r1 => q r p' ok' r0 r1⟩, fun d Mc' h => by rw [List.append_nil]; exact h⟩
        · walk_at "tg"
          exact q _ { p with pos := p.pos + 1, seed := (p.seed * 48271 + c * 69621 + (p.pos + 1) * 613) % 2147483647 } ⟨ok.cells, by show 0 ≤ p.pos + 1; omega, b0, Int.emod_nonneg _ (by decide), Int.emod_lt_of_pos _ (by decide)⟩ (Int.emod_nonneg _ (by omega)) (Int.emod_lt_of_pos _ h0)⟩
theorem c__law_take (T : Top K mg w) : ∀ n : Nat, Cal P w K mg base n "_law_take" (Spc K (W_take n)) []
  | 0 => cal_none T.d__law_take fun ds M k h => by
    obtain ⟨_, _, _, _, _, _, _, _, h, _⟩ := h
    omega
  | n + 1 => take_step T n (c__law_take T n)
end

/-! ### texts sign by sign -/
def ones (l : List Nat) : List (List Nat) := l.map fun c => [c]
theorem ones_flat (l : List Nat) : (ones l).flatten = l := by
  induction l with
  | nil => rfl
  | cons c r ih =>
    show ([c] :: ones r).flatten = c :: r
    rw [List.flatten_cons, ih]
    rfl
theorem ones_sum (l : List Nat) : ((ones l).map (·.length)).sum = l.length := by
  induction l with
  | nil => rfl
  | cons c r ih =>
    show ([c].length :: (ones r).map (·.length)).sum = r.length + 1
    rw [List.sum_cons, ih]
    show 1 + r.length = r.length + 1
    omega
def strsD (ls : List (List Nat)) : List D := ls.map fun z => .str (tx z)
theorem strsD_snoc (l : List Nat) (c : Nat) : strsD (ones l) ++ [.str (tx [c])] = strsD (ones (l ++ [c])) := by simp [strsD, ones]
theorem strsD_len (l : List Nat) : (strsD (ones l)).length = l.length := by simp [strsD, ones]

/-! ### what the law draws: names -/
def LetS : List Nat := cst_LETTERS
def NmOk (l : List Nat) : Prop := 1 ≤ l.length ∧ l.length ≤ 12 ∧ ∀ c ∈ l, c ∈ LetS
theorem nm_ok {l : List Nat} (h : NmOk l) : NmF l := by
  obtain ⟨h1, h2, h3⟩ := h
  refine ⟨?_, h2⟩
  unfold nameB
  rw [decide_eq_true h1, decide_eq_true h2, Bool.true_and, Bool.true_and, List.all_eq_true]
  intro c hc
  have all : ∀ c ∈ LetS, Txt.contains (tx cst_LETTERS) ⟨#[c]⟩ = true := by decide +kernel
  exact all c (h3 c hc)
theorem abc_eq : Str.ofString "abcdefghijklmnopqrstuvwxyz" = Tg.tx LetS := by decide +kernel
theorem abc_get {r : Int} (h0 : 0 ≤ r) (h1 : r < 26) : ∃ c, c ∈ LetS ∧ atI LetS r = some c := by
  obtain ⟨i, rfl⟩ : ∃ i : Nat, r = (i : Int) := ⟨r.toNat, by omega⟩
  have hi : i < LetS.length := by show i < 26; omega
  exact ⟨LetS[i], List.getElem_mem hi, atI_nat (List.getElem?_eq_getElem hi)⟩
theorem word_get {r : Int} (h0 : 0 ≤ r) (h1 : r < 5) : ∃ l, NmOk l ∧ atI [D.str (Str.ofString "plus"), .str (Str.ofString "least"), .str (Str.ofString "or"), .str (Str.ofString "if"), .str (Str.ofString "cyclic")] r = some (.str (tx l)) := by
  have e1 : Str.ofString "plus" = tx [112, 108, 117, 115] := by decide +kernel
  have e2 : Str.ofString "least" = tx [108, 101, 97, 115, 116] := by decide +kernel
  have e3 : Str.ofString "or" = tx [111, 114] := by decide +kernel
  have e4 : Str.ofString "if" = tx [105, 102] := by decide +kernel
  have e5 : Str.ofString "cyclic" = tx [99, 121, 99, 108, 105, 99] := by decide +kernel
  rw [e1, e2, e3, e4, e5]
  have h : r = 0 ∨ r = 1 ∨ r = 2 ∨ r = 3 ∨ r = 4 := by omega
  rcases h with rfl | rfl | rfl | rfl | rfl
  · exact ⟨_, ⟨by decide, by decide, by decide⟩, rfl⟩
  · exact ⟨_, ⟨by decide, by decide, by decide⟩, rfl⟩
  · exact ⟨_, ⟨by decide, by decide, by decide⟩, rfl⟩
  · exact ⟨_, ⟨by decide, by decide, by decide⟩, rfl⟩
  · exact ⟨_, ⟨by decide, by decide, by decide⟩, rfl⟩
theorem cut_takeN {α : Type} (l : List α) (j : Nat) : Tg.cutD l none (some (j : Int)) = l.take j := by
  unfold Tg.cutD
  have e0 : HT.sIx l.length 0 none = 0 := rfl
  rw [HT.sIx_nat, e0, List.drop_zero, Nat.sub_zero]
  by_cases h : j ≤ l.length
  · rw [Nat.min_eq_left h]
  · rw [Nat.min_eq_right (by omega), List.take_of_length_le (Nat.le_refl _), List.take_of_length_le (by omega)]
theorem cut_dropN {α : Type} (l : List α) (j : Nat) : Tg.cutD l (some (j : Int)) none = l.drop j := by
  unfold Tg.cutD
  rw [HT.sIx_nat, HT.sIx_none]
  by_cases h : j ≤ l.length
  · rw [Nat.min_eq_left h]
    exact List.take_of_length_le (by rw [List.length_drop]; omega)
  · rw [Nat.min_eq_right (by omega), List.drop_of_length_le (Nat.le_refl l.length), List.drop_of_length_le (by omega : l.length ≤ j)]
    simp
def nmsD (ns : List (List Nat)) : List D := ns.map fun l => .str (tx l)
def W_nmsN : Wt := fun ds M k => ∃ (a : Addr) (p : Pool) (n : Nat), ds = [.ref a, .int (n : Nat)] ∧ M = [(a, .lst p.d)] ∧ p.Ok ∧ n ≤ 9 ∧ ∀ (ns : List (List Nat)) (p' : Pool), p'.Ok → ns.length = n → (∀ l ∈ ns, NmOk l) → ns.Nodup → k (.lst (nmsD ns)) [(a, .lst p'.d)]
/-- the names that were tried stand all in the row: they begin with letters of their own -/
def Tried (ns : List (List Nat)) (j : Nat) (l : List Nat) : Prop := ∃ tr : List (List Nat), tr.Nodup ∧ (∀ x ∈ tr, x ∈ ns ∧ ∃ i c, i + 1 < j ∧ LetS[i]? = some c ∧ x.head? = some c) ∧ j ≤ tr.length + 1 ∧ (1 ≤ j → ∃ c, LetS[j - 1]? = some c ∧ l.head? = some c)
theorem tried_nil (ns : List (List Nat)) (l : List Nat) : Tried ns 0 l := ⟨[], List.nodup_nil, (fun x h => nomatch h), Nat.zero_le _, fun h => by omega⟩
theorem letS_inj {i j c : Nat} (h1 : LetS[i]? = some c) (h2 : LetS[j]? = some c) : i = j := by
  have nd : LetS.Nodup := by decide
  exact (List.getElem?_inj (List.getElem?_eq_some_iff.mp h1).1 nd).mp (by rw [h1, h2])
theorem Tried.step {ns : List (List Nat)} {j c : Nat} {l : List Nat} (t : Tried ns j l) (hl : l ∈ ns) (hc : LetS[j]? = some c) : Tried ns (j + 1) ([c] ++ l.take 11) := by
  obtain ⟨tr, nd, all, len, hd⟩ := t
  by_cases h0 : j = 0
  · subst h0
    exact ⟨[], List.nodup_nil, (fun x h => nomatch h), Nat.le_refl _, fun _ => ⟨c, hc, rfl⟩⟩
  · obtain ⟨c1, h1, h2⟩ := hd (by omega)
    refine ⟨l :: tr, List.nodup_cons.mpr ⟨fun hx => ?_, nd⟩, fun x hx => ?_, by rw [List.length_cons]; omega, fun _ => ⟨c, hc, rfl⟩⟩
    · obtain ⟨_, i, c2, hi, h3, h4⟩ := all l hx
      rw [h2] at h4
      cases h4
      have := letS_inj h1 h3
      omega
    · rcases List.mem_cons.mp hx with rfl | hx
      · exact ⟨hl, j - 1, c1, by omega, h1, h2⟩
      · obtain ⟨g, i, c2, hi, h3⟩ := all x hx
        exact ⟨g, i, c2, by omega, h3⟩
theorem tried_all {ns : List (List Nat)} {l : List Nat} (h : ns.length ≤ 9) : ¬ Tried ns 26 l := fun t => by
  obtain ⟨tr, nd, all, len, _⟩ := t
  have := nodup_sub nd fun x hx => (all x hx).1
  omega
theorem nodup_snoc {ns : List (List Nat)} {l : List Nat} (nd : ns.Nodup) (h : l ∉ ns) : (ns ++ [l]).Nodup := List.nodup_append.mpr ⟨nd, by simp, fun a ha b hb => by
  rw [List.mem_singleton.mp hb]
  exact fun z => h (z ▸ ha)⟩
theorem in_tx {ns : List (List Nat)} {l : List Nat} (h : tx l ∈ ns.map tx) : l ∈ ns := by
  obtain ⟨x, hx, e⟩ := List.mem_map.mp h
  exact tx_inj e ▸ hx
theorem not_in_tx {ns : List (List Nat)} {l : List Nat} (h : tx l ∉ ns.map tx) : l ∉ ns := fun z => h (List.mem_map.mpr ⟨l, z, rfl⟩)
theorem nmsD_strs (ns : List (List Nat)) : nmsD ns = (ns.map tx).map D.str := by simp [nmsD]
section
variable {P : Program} {w : World} {K : PySem.W.Frag} {mg : Str → Option Value} {base : Heap}
theorem c__law_names (T : Top K mg w) : Cal P w K mg base 3 "_law_names" (Spc K W_nmsN) [] := cal_of T.d__law_names fun f fd F => by
  have c__law_take := c__law_take (P := P) (w := w) (base := base) T 2
  exact spc_ok F sc__law_names (fun ds M k h => by obtain ⟨a, p, n, rfl, _⟩ := h; rfl) fun cdv A outer s H E hr => ⟨_, (pss_cons (ps_set (i := 2) sc__law_names.nd rfl (Or.inl rfl) (pe_tup (pa_cons pe_str (pa_cons pe_str (pa_cons pe_str (pa_cons pe_str (pa_cons pe_str pa_nil)))))))
      (pss_cons (ps_set (i := 3) sc__law_names.nd rfl (Or.inl rfl) (pe_lstM (pe_lst pa_nil)))
      (pss_cons (ps_for PassesOwn.never rfl (pi_range1 (by rfl) T.m_range (pa_cons (pv 1) pa_nil)) (pg_name (i := 4) sc__law_names.nd rfl (Or.inl rfl))
      (pss_cons (ps_set (i := 5) sc__law_names.nd rfl (Or.inl rfl) (pe_c c__law_take hr (by first | decide | omega) (by rfl) (pa_cons (pv 0) (pa_cons pe_int pa_nil))))
      (pss_cons (ps_set (i := 6) sc__law_names.nd rfl (Or.inl rfl) (join_K (K := K) (pe_join pe_str (pe_lc (own := [("place", 7)]) (g := gName 7) rfl sc__law_names.nd (pi_range1 (by rfl) T.m_range (pa_cons (pe_op (add_K (K := K)) (pv 5) pe_int) pa_nil)) (blkOk_by (own := [("place", 7)]) (N := ["pool", "many", "words", "names", "k", "size", "name", "place", "letter"]) (sc := defScope s__law_names) (by decide +kernel)) (fun _ _ _ _ _ => (pg_name (i := 7) sc__law_names.nd rfl (Or.inl rfl))) (fun _ _ _ _ _ => pts_nil) (fun _ _ _ _ _ => (pe_ix (ix_K (K := K)) pe_str (pe_c c__law_take hr (by first | decide | omega) (by rfl) (pa_cons (pv 0) (pa_cons pe_int pa_nil))) (fun _ _ => rfl)))))))
      (pss_cons (ps_if (pt_cmpR op_eq (pe_c c__law_take hr (by first | decide | omega) (by rfl) (pa_cons (pv 0) (pa_cons pe_int pa_nil))) pe_int (nomark _))
      (pss_one (ps_set (i := 6) sc__law_names.nd rfl (Or.inl rfl) (pe_ix (ix_K (K := K)) (pv 2) (pe_c c__law_take hr (by first | decide | omega) (by rfl) (pa_cons (pv 0) (pa_cons pe_int pa_nil))) (fun _ _ => rfl))))
      pss_nil)
      (pss_cons (ps_for PassesOwn.never rfl (seq_K (K := K) pe_str) (pg_name (i := 8) sc__law_names.nd rfl (Or.inl rfl))
      (pss_cons (ps_if (pt_cmpR (notin_K (K := K)) (pv 6) (pv 3) (by rfl))
      (pss_one ps_break)
      pss_nil)
      (pss_one (ps_set (i := 6) sc__law_names.nd rfl (Or.inl rfl) (pe_op (add_K (K := K)) (pv 8) (pe_slice (sl_K (K := K)) (pv 6) po_none (po_some pe_int)))))))
      (pss_one (ps_expr (app_K (K := K) (pe_bm PySem.F.plainAttrs_list PySem.F.slot_list_append PySem.F.type_list_append mt_append (pv 3) (pa_cons (pv 6) pa_nil))))))))))
      (pss_one (ps_ret (pv 3)))))), fun ds M kk hw => by
    obtain ⟨a, p, n, rfl, rfl, ok, hn9, q⟩ := hw
    have hsz := sizeLine_eq
    refine as_start (δ' := [some (.ref a), some (.int (n : Nat)), none, none, none, none, none, none, none]) rfl ?_
    walk_at "tg"
    intro na
    refine as_seq ?_
    walk_at "tg"
    refine ⟨by omega, by omega, fun i δ' M' => ∃ (ns : List (List Nat)) (p' : Pool) (x4 x5 x6 x7 x8 : Option D), p'.Ok ∧ ns.length = i ∧ ((∀ l ∈ ns, NmOk l) ∧ ns.Nodup) ∧ M' = [(a, .lst p'.d), (na, .lst (nmsD ns))] ∧
      δ' = [some (.ref a), some (.int (n : Nat)), some (.tup [D.str (Str.ofString "plus"), .str (Str.ofString "least"), .str (Str.ofString "or"), .str (Str.ofString "if"), .str (Str.ofString "cyclic")]), some (.ref na), x4, x5, x6, x7, x8], ⟨[], p, _, _, _, _, _, ok, rfl, ⟨by simp, List.nodup_nil⟩, rfl, rfl⟩, ?_, ?_⟩
    · rintro i d δ' M' hd ⟨ns, p1, x4, x5, x6, x7, x8, ok1, hl, ⟨hn, nd⟩, rfl, rfl⟩
      obtain ⟨hi, rfl⟩ := rng_get hd
      have hi3 : i < n := by omega
      walk_at "tg"
      refine ⟨[_], [(na, .lst (nmsD ns))], takeK _ _, rfl, take_ok ok1 (by decide) (by decide) (by decide), ?_⟩
      rintro _ _ ⟨r, p2, ok2, r0, r1, rfl, rfl⟩
      refine as_seq ?_
      walk_at "tg"
      refine ae_lc (ownG_name (by simp)) ?_
      walk_at "tg"
      obtain ⟨m, hm⟩ : ∃ m : Nat, r + 1 = (m : Int) := ⟨(r + 1).toNat, by omega⟩
      rw [hm]
      refine ⟨by omega, by omega, ?_⟩
      rw [Int.toNat_natCast]
      refine ⟨by rw [rng_len, hsz]; omega, fun j acc M' => ∃ (l : List Nat) (p' : Pool), p'.Ok ∧ (∀ c ∈ l, c ∈ LetS) ∧ l.length = j ∧ acc = strsD (ones l) ∧ M' = [(a, .lst p'.d), (na, .lst (nmsD ns))], ⟨[], p2, ok2, by simp, rfl, rfl, rfl⟩, ?_, ?_⟩
      · rintro j d acc M' hd ⟨l, p', ok', hl', rfl, rfl, rfl⟩
        walk_at "tg"
        refine ⟨[_], [(na, .lst (nmsD ns))], takeK _ _, rfl, take_ok ok' (by decide) (by decide) (by decide), ?_⟩
        rintro _ _ ⟨r3, p3, ok3, j0, j1, rfl, rfl⟩
        obtain ⟨c, hc, hat3⟩ := abc_get j0 j1
        rw [abc_eq]
        refine au_ixS (by rw [hsz]; exact (by decide : 26 ≤ 16777216)) hat3 ?_
        exact ⟨l ++ [c], p3, ok3, fun x hx => by
          rcases List.mem_append.mp hx with hx | hx
          · exact hl' x hx
          · rw [List.mem_singleton.mp hx]; exact hc, by rw [List.length_append]; rfl, strsD_snoc l c, rfl⟩
      · rintro acc M' ⟨l, p3, ok3, hl', hll, rfl, rfl⟩
        rw [rng_len] at hll
        walk_at "tg"
        refine am_join (ls := ones l) (by rw [ones_sum]; omega) ?_
        rw [ones_flat]
        have nm0 : NmOk l := ⟨by omega, by omega, hl'⟩
        refine as_cut (fun δ' M' => ∃ (l : List Nat) (p' : Pool) (x5 x7 x8 : Option D), p'.Ok ∧ NmOk l ∧ M' = [(a, .lst p'.d), (na, .lst (nmsD ns))] ∧
          δ' = [some (.ref a), some (.int (n : Nat)), some (.tup [D.str (Str.ofString "plus"), .str (Str.ofString "least"), .str (Str.ofString "or"), .str (Str.ofString "if"), .str (Str.ofString "cyclic")]), some (.ref na), some (.int (0 + (i : Nat))), x5, some (.str (tx l)), x7, x8]) ?_ ?_
        · walk_at "tg"
          refine ⟨[_], [(na, .lst (nmsD ns))], takeK _ _, rfl, take_ok ok3 (by decide) (by decide) (by decide), ?_⟩
          rintro _ _ ⟨r4, p4, ok4, j0, j1, rfl, rfl⟩
          walk_at "tg"
          refine dcase (fun c1 => ?_) (fun c1 => ?_)
          · walk_at "tg"
            refine ⟨[_], [(na, .lst (nmsD ns))], takeK _ _, rfl, take_ok ok4 (by decide) (by decide) (by decide), ?_⟩
            rintro _ _ ⟨r5, p5, ok5, k0, k1, rfl, rfl⟩
            obtain ⟨l2, hl2, hat⟩ := word_get k0 k1
            refine aix_T hat ?_
            exact ⟨l2, p5, _, _, _, ok5, hl2, rfl, rfl⟩
          · walk_at "tg"
            exact ⟨l, p4, _, _, _, ok4, nm0, rfl, rfl⟩
        · rintro δ' M' ⟨l, p4, x5, x7, x8, ok4, nm1, rfl, rfl⟩
          refine as_cut (fun δ' M' => ∃ (l : List Nat) (x7 x8 : Option D), NmOk l ∧ l ∉ ns ∧ M' = [(a, .lst p4.d), (na, .lst (nmsD ns))] ∧
            δ' = [some (.ref a), some (.int (n : Nat)), some (.tup [D.str (Str.ofString "plus"), .str (Str.ofString "least"), .str (Str.ofString "or"), .str (Str.ofString "if"), .str (Str.ofString "cyclic")]), some (.ref na), some (.int (0 + (i : Nat))), x5, some (.str (tx l)), x7, x8]) ?_ ?_
          · walk_at "tg"
            refine ⟨fun j δ' M' => ∃ (l : List Nat) (x7 x8 : Option D), NmOk l ∧ Tried ns j l ∧ M' = [(a, .lst p4.d), (na, .lst (nmsD ns))] ∧
              δ' = [some (.ref a), some (.int (n : Nat)), some (.tup [D.str (Str.ofString "plus"), .str (Str.ofString "least"), .str (Str.ofString "or"), .str (Str.ofString "if"), .str (Str.ofString "cyclic")]), some (.ref na), some (.int (0 + (i : Nat))), x5, some (.str (tx l)), x7, x8], ⟨l, _, _, nm1, tried_nil ns l, rfl, rfl⟩, ?_, ?_⟩
            · rintro j d δ' M' hd ⟨l, x7, x8, nm2, td, rfl, rfl⟩
              obtain ⟨c, hc, hcj, rfl⟩ : ∃ c, c ∈ LetS ∧ LetS[j]? = some c ∧ d = .str (tx [c]) := by
                rw [abc_eq] at hd
                unfold Tg.signs at hd
                rw [List.getElem?_map] at hd
                obtain ⟨c, hc, rfl⟩ := Option.map_eq_some_iff.mp hd
                have hc' := List.mem_of_getElem? hc
                rw [tx_cps] at hc'
                exact ⟨c, hc', by rw [tx_cps] at hc; exact hc, rfl⟩
              obtain ⟨n1, n2, n3⟩ := nm2
              walk_at "tg"
              refine as_seq ?_
              walk_at "tg"
              rw [nmsD_strs]
              refine anin_strsM (M1 := [_]) (M2 := []) rfl ?_
              walk_at "tg"
              refine dcaseN (fun c2 => ?_) (fun c2 => ?_)
              · walk_at "tg"
                rw [← nmsD_strs]
                exact ⟨l, _, _, ⟨n1, n2, n3⟩, not_in_tx c2, rfl, rfl⟩
              · walk_at "tg"
                refine asl_str (by omega) ?_
                have hcut : Tg.cutD l none (some 11) = l.take 11 := cut_takeN l 11
                rw [hcut]
                refine au_str (by rw [List.length_singleton, List.length_take]; omega) ?_
                rw [← nmsD_strs]
                refine ⟨[c] ++ l.take 11, _, _, ⟨by simp, by rw [List.length_append, List.length_singleton, List.length_take]; omega, fun x hx => ?_⟩, td.step (in_tx c2) hcj, rfl, rfl⟩
                rcases List.mem_append.mp hx with hx | hx
                · rw [List.mem_singleton.mp hx]; exact hc
                · exact n3 x (List.mem_of_mem_take hx)
            · rintro δ' M' ⟨l, x7, x8, nm2, td, rfl, rfl⟩
              have h26 : (Tg.signs (Str.ofString "abcdefghijklmnopqrstuvwxyz")).length = 26 := by decide +kernel
              rw [h26] at td
              exact absurd td (tried_all (by omega))
          · rintro δ' M' ⟨l, x7, x8, nm2, new, rfl, rfl⟩
            walk_at "tg"
            refine app1 (by rw [nmsD, List.length_map, hsz]; omega) ?_
            refine ⟨ns ++ [l], p4, _, _, _, _, _, ok4, by rw [List.length_append, hl]; rfl, ⟨fun x hx => ?_, nodup_snoc nd new⟩, by simp [nmsD], rfl⟩
            rcases List.mem_append.mp hx with hx | hx
            · exact hn x hx
            · rw [List.mem_singleton.mp hx]; exact nm2
    · rintro δ' M' ⟨ns, p1, x4, x5, x6, x7, x8, ok1, hl, ⟨hn, nd⟩, rfl, rfl⟩
      show AS K _ _ _ _
      refine frz1 (s := 3) rfl ?_
      walk_at "tg"
      exact q ns p1 ok1 (by rw [hl, rng_len]; omega) hn nd⟩
end

/-- the names that a formula uses -/
def Use (ns : List Nm) : Fo → Prop
  | .nm l => l ∈ ns
  | .cyc l => l ∈ ns
  | .op _ a b => Use ns a ∧ Use ns b
  | .ifs a b c => Use ns a ∧ Use ns b ∧ Use ns c
  | _ => True
def Vl.f : Vl → Fo
  | .int i => .int i
  | _ => .non
theorem vl_f {v : Vl} (h : VlOk v) : v.f.d = v.d := by
  cases v with
  | cyc => exact h.elim
  | _ => rfl
theorem okF_v {v : Vl} (h : VlOk v) : ∀ n, OkF n v.f := fun n => by
  cases v with
  | cyc => exact h.elim
  | non => cases n <;> exact trivial
  | int i => cases n <;> exact h
theorem use_v {v : Vl} (ns : List Nm) : Use ns v.f := by cases v <;> exact trivial
def W_dval : Wt := fun ds M k => ∃ (a : Addr) (p : Pool), ds = [.ref a] ∧ M = [(a, .lst p.d)] ∧ p.Ok ∧ ∀ (v : Vl) (p' : Pool), p'.Ok → VlOk v → k v.d [(a, .lst p'.d)]
def W_dfo (n : Nat) : Wt := fun ds M k => ∃ (a : Addr) (p : Pool) (ns : List (List Nat)), ds = [.ref a, .lst (nmsD ns), .int (n : Nat)] ∧ M = [(a, .lst p.d)] ∧ p.Ok ∧ (1 ≤ ns.length ∧ ns.length ≤ 9) ∧ (∀ l ∈ ns, NmOk l) ∧ ∀ (f : Fo) (p' : Pool), p'.Ok → OkF n f ∧ Use ns f → k f.d [(a, .lst p'.d)]
def W_dfo' : Nat → Wt
  | 0 => fun _ _ _ => False
  | n + 1 => W_dfo n
theorem okF_nm {l : List Nat} (h : NmOk l) : ∀ n, OkF n (.nm l)
  | 0 => nm_ok h
  | _ + 1 => nm_ok h
theorem nms_get {ns : List (List Nat)} {r : Int} (hn : ∀ l ∈ ns, NmOk l) (h0 : 0 ≤ r) (h1 : r < (ns.length : Int)) : ∃ l, (NmOk l ∧ l ∈ ns) ∧ atI (nmsD ns) r = some (.str (tx l)) := by
  obtain ⟨i, rfl⟩ : ∃ i : Nat, r = (i : Int) := ⟨r.toNat, by omega⟩
  have hi : i < ns.length := by omega
  exact ⟨ns[i], ⟨hn _ (List.getElem_mem hi), List.getElem_mem hi⟩, atI_nat (by rw [nmsD, List.getElem?_map, List.getElem?_eq_getElem hi]; rfl)⟩
section
variable {P : Program} {w : World} {K : PySem.W.Frag} {mg : Str → Option Value} {base : Heap}
theorem c__law_value (T : Top K mg w) : Cal P w K mg base 3 "_law_value" (Spc K W_dval) [] := cal_of T.d__law_value fun f fd F => by
  have c__law_take := c__law_take (P := P) (w := w) (base := base) T 2
  exact spc_ok F sc__law_value (fun ds M k h => by obtain ⟨a, p, rfl, _⟩ := h; rfl) fun cdv A outer s H E hr => ⟨_, (pss_cons (ps_set (i := 1) sc__law_value.nd rfl (Or.inl rfl) (pe_c c__law_take hr (by first | decide | omega) (by rfl) (pa_cons (pv 0) (pa_cons pe_int pa_nil))))
      (pss_cons (ps_if (pt_cmpR op_eq (pv 1) pe_int (nomark _))
      (pss_one (ps_ret pe_non))
      pss_nil)
      (pss_cons (ps_if (pt_cmpR op_eq (pv 1) pe_int (nomark _))
      (pss_one (ps_ret (pe_op op_mul (pe_c c__law_take hr (by first | decide | omega) (by rfl) (pa_cons (pv 0) (pa_cons pe_int pa_nil))) (pe_ix (ix_K (K := K)) (pe_tup (pa_cons pe_int (pa_cons (pe_un un_neg pe_int) pa_nil))) (pe_c c__law_take hr (by first | decide | omega) (by rfl) (pa_cons (pv 0) (pa_cons pe_int pa_nil))) (fun _ _ => rfl)))))
      pss_nil)
      (pss_one (ps_ret (pe_op op_sub (pe_c c__law_take hr (by first | decide | omega) (by rfl) (pa_cons (pv 0) (pa_cons pe_int pa_nil))) pe_int)))))), fun ds M kk hw => by
    obtain ⟨a, p, rfl, rfl, ok, q⟩ := hw
    have hsz := sizeLine_eq
    refine as_start (δ' := [some (.ref a), none]) rfl ?_
    walk_at "tg"
    walk_at "take"
    rintro _ _ ⟨r, p1, ok1, r0, r1, rfl, rfl⟩
    refine as_seq ?_
    walk_at "tg"
    refine dcase (fun c => ?_) (fun c => ?_)
    · walk_at "tg"
      exact q .non p1 ok1 trivial
    · walk_at "tg"
      refine as_seq ?_
      walk_at "tg"
      have num : ∀ i : Int, -1000000 ≤ i → i ≤ 1000000 → VlOk (.int i) := fun i h1 h2 => ⟨h1, h2⟩
      refine dcase (fun c2 => ?_) (fun c2 => ?_)
      · walk_at "tg"
        walk_at "take"
        rintro _ _ ⟨r2, p2, ok2, k0, k1, rfl, rfl⟩
        walk_at "tg"
        walk_at "take"
        rintro _ _ ⟨r3, p3, ok3, j0, j1, rfl, rfl⟩
        obtain ⟨z, hz, hat⟩ : ∃ z : Int, (z = 1 ∨ z = -1) ∧ atI [D.int 1, D.int (-1)] r3 = some (.int z) := by
          have h : r3 = 0 ∨ r3 = 1 := by omega
          rcases h with rfl | rfl
          · exact ⟨1, .inl rfl, rfl⟩
          · exact ⟨-1, .inr rfl, rfl⟩
        refine aix_T hat ?_
        have hm : -1000000 ≤ r2 * z ∧ r2 * z ≤ 1000000 := by
          rcases hz with rfl | rfl <;> omega
        walk_at "tg"
        exact q (.int (r2 * z)) p3 ok3 (num _ hm.1 hm.2)
      · walk_at "tg"
        walk_at "take"
        rintro _ _ ⟨r2, p2, ok2, k0, k1, rfl, rfl⟩
        walk_at "tg"
        exact q (.int (r2 - 1)) p2 ok2 (num _ (by omega) (by omega))⟩
theorem c_formula1 (T : Top K mg w) (n : Nat) (c__law_formula : Cal P w K mg base (3 + n) "_law_formula" (Spc K (W_dfo' n)) []) : Cal P w K mg base (4 + n) "_law_formula" (Spc K (W_dfo n)) [] := cal_of T.d__law_formula fun f fd F => by
  have c__law_take := c__law_take (P := P) (w := w) (base := base) T 2
  have c__law_value := c__law_value (P := P) (w := w) (base := base) T
  have hlev : 4 + n = (3 + n) + 1 := by omega
  rw [hlev]
  exact spc_ok F sc__law_formula (fun ds M k h => by obtain ⟨a, p, ns, rfl, _⟩ := h; rfl) fun cdv A outer s H E hr => ⟨_, (pss_cons (ps_set (i := 3) sc__law_formula.nd rfl (Or.inl rfl) (pe_c c__law_take hr (by first | decide | omega) (by rfl) (pa_cons (pv 0) (pa_cons pe_int pa_nil))))
      (pss_cons (ps_if (pw_or (pt_cmpR op_lt (pv 2) pe_int (nomark _)) (pw_or1 (pt_cmpR op_lt (pv 3) pe_int (nomark _)))).pt
      (pss_cons (ps_if (pt_cmpR op_eq (pv 3) pe_int (nomark _))
      (pss_one (ps_ret (pe_c c__law_value hr (by first | decide | omega) (by rfl) (pa_cons (pv 0) pa_nil))))
      pss_nil)
      (pss_one (ps_ret (pe_ix (ix_K (K := K)) (pv 1) (pe_c c__law_take hr (by first | decide | omega) (by rfl) (pa_cons (pv 0) (pa_cons (pe_callB (len_K (K := K)) (by rfl) T.m_len (by decide +kernel) (pa_cons (pv 1) pa_nil)) pa_nil))) (fun _ _ => rfl)))))
      pss_nil)
      (pss_cons (ps_if (pt_cmpR op_eq (pv 3) pe_int (nomark _))
      (pss_one (ps_ret (pe_tup (pa_cons pe_str (pa_cons (pe_ix (ix_K (K := K)) (pv 1) (pe_c c__law_take hr (by first | decide | omega) (by rfl) (pa_cons (pv 0) (pa_cons (pe_callB (len_K (K := K)) (by rfl) T.m_len (by decide +kernel) (pa_cons (pv 1) pa_nil)) pa_nil))) (fun _ _ => rfl)) pa_nil)))))
      pss_nil)
      (pss_cons (ps_set (i := 4) sc__law_formula.nd rfl (Or.inl rfl) (pe_ix (ix_K (K := K)) (pe_tup (pa_cons pe_str (pa_cons pe_str (pa_cons pe_str (pa_cons pe_str (pa_cons pe_str (pa_cons pe_str pa_nil))))))) (pe_op op_sub (pv 3) pe_int) (fun _ _ => rfl)))
      (pss_cons (ps_setLc (i := 5) (own := [("k", 6)]) (g := gName 6) rfl sc__law_formula.nd rfl rfl (sw_true rfl rfl rfl (by decide +kernel)) (pi_range1 (by rfl) T.m_range (pa_cons (pe_ifExp (pt_cmpR op_eq (pv 4) pe_str (nomark _)) pe_int pe_int) pa_nil)) (blkOk_by (own := [("k", 6)]) (N := ["pool", "names", "depth", "kind", "head", "parts", "k"]) (sc := defScope s__law_formula) (by decide +kernel)) (fun _ _ _ _ _ => (pg_name (i := 6) sc__law_formula.nd rfl (Or.inl rfl))) (fun _ _ _ _ _ => pts_nil) (fun _ _ _ _ _ => (pe_c c__law_formula hr (by first | decide | omega) (by rfl) (pa_cons (pv 0) (pa_cons (pv 1) (pa_cons (pe_op op_sub (pv 2) pe_int) pa_nil))))))
      (pss_one (ps_ret (pe_op (add_K (K := K)) (pe_tup (pa_cons (pv 4) pa_nil)) (pe_callTy (tup_K (K := K)) (by rfl) T.m_tuple (by decide +kernel) (pa_cons (pv 5) pa_nil)))))))))), fun ds M kk hw => by
    obtain ⟨a, p, ns, rfl, rfl, ok, h3, hn, q⟩ := hw
    have hsz := sizeLine_eq
    have h3' : ((nmsD ns).length : Int) = (ns.length : Nat) := by rw [nmsD, List.length_map]
    refine as_start (δ' := [some (.ref a), some (.lst (nmsD ns)), some (.int (n : Nat)), none, none, none, none]) rfl ?_
    walk_at "tg"
    walk_at "take"
    rintro _ _ ⟨r, p1, ok1, r0, r1, rfl, rfl⟩
    refine as_cut (fun δ' M' => δ' = [some (.ref a), some (.lst (nmsD ns)), some (.int (n : Nat)), some (.int r), none, none, none] ∧ M' = [(a, .lst p1.d)] ∧ 3 ≤ r ∧ 1 ≤ n) ?_ ?_
    · have base : AS K (tSeq (tIfS (tTest (tOp rEq (tVar 3) (tC (.int 0)))) (tRet (tCall (Spc K W_dval) [] C8.E0 (tCons (tVar 0) tNil))) tNext) (tRet (tOp (rIx K) (tVar 1) (tCall (Spc K (W_take 2)) [] C8.E0 (tCons (tVar 0) (tCons (tCB (rLenU K) (tCons (tVar 1) tNil)) tNil)))))) [some (.ref a), some (.lst (nmsD ns)), some (.int (n : Nat)), some (.int r), none, none, none] [(a, .lst p1.d)]
          { nx := fun δ' M' => δ' = [some (.ref a), some (.lst (nmsD ns)), some (.int (n : Nat)), some (.int r), none, none, none] ∧ M' = [(a, .lst p1.d)] ∧ 3 ≤ r ∧ 1 ≤ n, rt := kk } := by
        refine as_seq ?_
        walk_at "tg"
        refine dcase (fun c => ?_) (fun c => ?_)
        · walk_at "tg"
          refine ⟨[_], [], fun d M => ∃ (v : Vl) (p' : Pool), d = v.d ∧ M = [(a, .lst p'.d)] ∧ p'.Ok ∧ VlOk v, rfl, ⟨a, p1, rfl, rfl, ok1, fun f p' ok' hf => ⟨f, p', rfl, rfl, ok', hf⟩⟩, ?_⟩
          rintro _ _ ⟨v, p', rfl, rfl, ok', hf⟩
          rw [← vl_f hf]
          exact q v.f p' ok' ⟨okF_v hf n, use_v ns⟩
        · walk_at "tg"
          rw [h3']
          walk_at "take"
          rintro _ _ ⟨r2, p2, ok2, k0, k1, rfl, rfl⟩
          obtain ⟨l, ⟨hl, hin⟩, hat⟩ := nms_get hn k0 k1
          refine aix_L hat ?_
          exact q (.nm l) p2 ok2 ⟨okF_nm hl n, hin⟩
      walk_at "tg"
      refine dcaseR (fun c1 => ?_) (fun _ => ⟨fun _ => base, fun z => Bool.noConfusion z⟩)
      walk_at "tg"
      refine dcase (fun _ => base) (fun c2 => ?_)
      walk_at "tg"
      exact ⟨rfl, rfl, by omega, by omega⟩
    · rintro δ' M' ⟨rfl, rfl, c3, c4⟩
      obtain ⟨m, rfl⟩ : ∃ m, n = m + 1 := ⟨n - 1, by omega⟩
      refine as_seq ?_
      walk_at "tg"
      refine dcase (fun c => ?_) (fun c => ?_)
      · walk_at "tg"
        rw [h3']
        walk_at "take"
        rintro _ _ ⟨r2, p2, ok2, k0, k1, rfl, rfl⟩
        obtain ⟨l, ⟨hl, hin⟩, hat⟩ := nms_get hn k0 k1
        refine aix_L hat ?_
        walk_at "tg"
        exact q (.cyc l) p2 ok2 ⟨nm_ok hl, hin⟩
      · walk_at "tg"
        obtain ⟨hd, hat, hhd⟩ : ∃ hd : Str, atI [D.str (Str.ofString "plus"), .str (Str.ofString "least"), .str (Str.ofString "or"), .str ifS, .str (Str.ofString "or"), .str (Str.ofString "plus")] (r - 4) = some (.str hd) ∧ ((hd = ifS) ∨ ∃ h : Hd2, hd = h.s ∧ h.s ≠ ifS) := by
          have h : r = 4 ∨ r = 5 ∨ r = 6 ∨ r = 7 ∨ r = 8 ∨ r = 9 := by omega
          have n1 : Str.ofString "plus" ≠ ifS := by decide +kernel
          have n2 : Str.ofString "least" ≠ ifS := by decide +kernel
          have n3 : Str.ofString "or" ≠ ifS := by decide +kernel
          rcases h with rfl | rfl | rfl | rfl | rfl | rfl
          · exact ⟨_, rfl, .inr ⟨.plus, rfl, n1⟩⟩
          · exact ⟨_, rfl, .inr ⟨.least, rfl, n2⟩⟩
          · exact ⟨_, rfl, .inr ⟨.or, rfl, n3⟩⟩
          · exact ⟨_, rfl, .inl rfl⟩
          · exact ⟨_, rfl, .inr ⟨.or, rfl, n3⟩⟩
          · exact ⟨_, rfl, .inr ⟨.plus, rfl, n1⟩⟩
        refine ⟨by rw [hsz]; exact (by decide : 6 ≤ 16777216), ?_⟩
        walk_at "tg"
        refine aix_T hat ?_
        refine as_seq ?_
        walk_at "tg"
        refine ae_lc (ownG_name (by simp)) ?_
        walk_at "tg"
        have fin : ∀ j : Nat, (j = 3 ∧ hd = ifS) ∨ (j = 2 ∧ ∃ h : Hd2, hd = h.s) → ∀ (acc : List D) (fs : List Fo) (p' : Pool), p'.Ok → fs.length = j → (∀ f ∈ fs, OkF m f ∧ Use ns f) → acc = fs.map Fo.d → kk (.tup (.str hd :: acc)) [(a, .lst p'.d)] := fun j hj acc fs p' ok' hl hf e => by
          subst e
          rcases hj with ⟨rfl, rfl⟩ | ⟨rfl, h, rfl⟩
          · match fs, hl, hf with
            | [x, y, z], _, hf => exact q (.ifs x y z) p' ok' ⟨⟨(hf x (by simp)).1, (hf y (by simp)).1, (hf z (by simp)).1⟩, ⟨(hf x (by simp)).2, (hf y (by simp)).2, (hf z (by simp)).2⟩⟩
          · match fs, hl, hf with
            | [x, y], _, hf => exact q (.op h x y) p' ok' ⟨⟨(hf x (by simp)).1, (hf y (by simp)).1⟩, ⟨(hf x (by simp)).2, (hf y (by simp)).2⟩⟩
        refine dcase (fun c5 => ?_) (fun c5 => ?_)
        · have hj := fin 3 (.inl ⟨rfl, c5⟩)
          walk_at "tg"
          refine ⟨by decide, by decide, by rw [rng_len, hsz]; decide, fun i acc M' => ∃ (fs : List Fo) (p' : Pool), p'.Ok ∧ fs.length = i ∧ (∀ f ∈ fs, OkF m f ∧ Use ns f) ∧ acc = fs.map Fo.d ∧ M' = [(a, .lst p'.d)], ⟨[], p1, ok1, rfl, by simp, rfl, rfl⟩, ?_, ?_⟩
          · rintro i d acc M' hd' ⟨fs, p2, ok2, hl, hf, rfl, rfl⟩
            obtain ⟨hi, rfl⟩ := rng_get hd'
            have hi' : i < 3 := hi
            walk_at "tg"
            have em : ((m + 1 : Nat) : Int) - 1 = (m : Nat) := by omega
            rw [em]
            refine ⟨[_], [], fun d M => ∃ (f : Fo) (p' : Pool), d = f.d ∧ M = [(a, .lst p'.d)] ∧ p'.Ok ∧ (OkF m f ∧ Use ns f), rfl, ⟨a, p2, ns, rfl, rfl, ok2, h3, hn, fun f p' ok' hf => ⟨f, p', rfl, rfl, ok', hf⟩⟩, ?_⟩
            rintro _ _ ⟨f, p', rfl, rfl, ok', hf'⟩
            refine ⟨fs ++ [f], p', ok', by rw [List.length_append, hl]; rfl, fun x hx => ?_, by simp, rfl⟩
            rcases List.mem_append.mp hx with hx | hx
            · exact hf x hx
            · rw [List.mem_singleton.mp hx]; exact hf'
          · rintro acc M' ⟨fs, p2, ok2, hl, hf, rfl, rfl⟩
            have hl' : fs.length = 3 := hl
            walk_at "tg"
            refine au_tup (by rw [List.length_singleton, List.length_map, hsz]; omega) ?_
            exact hj _ fs p2 ok2 hl' hf rfl
        · have hj := fin 2 (.inr ⟨rfl, by
            rcases hhd with h | ⟨h, e, _⟩
            · exact absurd h c5
            · exact ⟨h, e⟩⟩)
          walk_at "tg"
          refine ⟨by decide, by decide, by rw [rng_len, hsz]; decide, fun i acc M' => ∃ (fs : List Fo) (p' : Pool), p'.Ok ∧ fs.length = i ∧ (∀ f ∈ fs, OkF m f ∧ Use ns f) ∧ acc = fs.map Fo.d ∧ M' = [(a, .lst p'.d)], ⟨[], p1, ok1, rfl, by simp, rfl, rfl⟩, ?_, ?_⟩
          · rintro i d acc M' hd' ⟨fs, p2, ok2, hl, hf, rfl, rfl⟩
            obtain ⟨hi, rfl⟩ := rng_get hd'
            have hi' : i < 2 := hi
            walk_at "tg"
            have em : ((m + 1 : Nat) : Int) - 1 = (m : Nat) := by omega
            rw [em]
            refine ⟨[_], [], fun d M => ∃ (f : Fo) (p' : Pool), d = f.d ∧ M = [(a, .lst p'.d)] ∧ p'.Ok ∧ (OkF m f ∧ Use ns f), rfl, ⟨a, p2, ns, rfl, rfl, ok2, h3, hn, fun f p' ok' hf => ⟨f, p', rfl, rfl, ok', hf⟩⟩, ?_⟩
            rintro _ _ ⟨f, p', rfl, rfl, ok', hf'⟩
            refine ⟨fs ++ [f], p', ok', by rw [List.length_append, hl]; rfl, fun x hx => ?_, by simp, rfl⟩
            rcases List.mem_append.mp hx with hx | hx
            · exact hf x hx
            · rw [List.mem_singleton.mp hx]; exact hf'
          · rintro acc M' ⟨fs, p2, ok2, hl, hf, rfl, rfl⟩
            have hl' : fs.length = 2 := hl
            walk_at "tg"
            refine au_tup (by rw [List.length_singleton, List.length_map, hsz]; omega) ?_
            exact hj _ fs p2 ok2 hl' hf rfl⟩
theorem c__law_formula (T : Top K mg w) : ∀ n : Nat, Cal P w K mg base (4 + n) "_law_formula" (Spc K (W_dfo n)) []
  | 0 => c_formula1 T 0 (cal_none T.d__law_formula fun _ _ _ h => h)
  | n + 1 => c_formula1 T (n + 1) (by
    have e : 3 + (n + 1) = 4 + n := by omega
    rw [e]
    exact c__law_formula T n)
end

/-! ### the same value (law k72): nothing, numbers, texts, rows of these -/
def Dep : Nat → D → Prop
  | 0, d => match d with
    | .non => True
    | .int _ => True
    | .str _ => True
    | _ => False
  | n + 1, d => match d with
    | .non => True
    | .int _ => True
    | .str _ => True
    | .tup ds => ds.length ≤ 100000 ∧ ∀ x ∈ ds, Dep n x
    | _ => False
def W_same (n : Nat) : Wt := fun ds M k => ∃ (m : Nat) (d : D), n = m + 1 ∧ ds = [d, d] ∧ M = [] ∧ Dep m d ∧ k (.bl true) []
def trueK : D → Mu → Prop := fun d M => d = .bl true ∧ M = []
theorem all_true (n : Nat) : ((List.replicate n true).all id) = true := by
  rw [List.all_eq_true]
  intro x hx
  rw [List.eq_of_mem_replicate hx]
  rfl
section
variable {P : Program} {w : World} {K : PySem.W.Frag} {mg : Str → Option Value} {base : Heap}
theorem same_step (T : Top K mg w) (n : Nat) (c__law_same : Cal P w K mg base (n + 1) "_law_same" (Spc K (W_same n)) []) : Cal P w K mg base (n + 2) "_law_same" (Spc K (W_same (n + 1))) [] := cal_of T.d__law_same fun f fd F => by
  exact spc_ok F sc__law_same (fun ds M k h => by obtain ⟨m, d, _, rfl, _⟩ := h; rfl) fun cdv A outer s H E hr => ⟨_, (pss_cons (ps_if (pt_cmpR op_isN1 (pv 1) pe_non (nomark _))
      (pss_one (ps_ret (pe_cmpR op_isN1 (pv 0) pe_non (nomark _))))
      pss_nil)
      (pss_cons (ps_if (pw_or (pt_cmpR op_ne (pe_callB (isi_K (K := K)) (by rfl) T.m_isinstance (by decide +kernel) (pa_cons (pv 1) (pa_cons (pe_bltn (v := .ty "tuple") (by rfl) T.m_tuple (by decide +kernel) rfl) pa_nil))) (pe_callB (isi_K (K := K)) (by rfl) T.m_isinstance (by decide +kernel) (pa_cons (pv 0) (pa_cons (pe_bltn (v := .ty "tuple") (by rfl) T.m_tuple (by decide +kernel) rfl) pa_nil))) (nomark _)) (pw_or1 (pt_cmpR op_ne (pe_callB (isi_K (K := K)) (by rfl) T.m_isinstance (by decide +kernel) (pa_cons (pv 1) (pa_cons (pe_bltn (v := .ty "list") (by rfl) T.m_list (by decide +kernel) rfl) pa_nil))) (pe_callB (isi_K (K := K)) (by rfl) T.m_isinstance (by decide +kernel) (pa_cons (pv 0) (pa_cons (pe_bltn (v := .ty "list") (by rfl) T.m_list (by decide +kernel) rfl) pa_nil))) (nomark _)))).pt
      (pss_one (ps_ret pe_bl))
      pss_nil)
      (pss_cons (ps_if (pw_or (tru_K (K := K) (pe_callB (isi_K (K := K)) (by rfl) T.m_isinstance (by decide +kernel) (pa_cons (pv 1) (pa_cons (pe_bltn (v := .ty "tuple") (by rfl) T.m_tuple (by decide +kernel) rfl) pa_nil)))) (pw_or1 (tru_K (K := K) (pe_callB (isi_K (K := K)) (by rfl) T.m_isinstance (by decide +kernel) (pa_cons (pv 1) (pa_cons (pe_bltn (v := .ty "list") (by rfl) T.m_list (by decide +kernel) rfl) pa_nil)))))).pt
      (pss_one (ps_ret (pe_and (pe_cmpR op_eq (pe_callB (len_K (K := K)) (by rfl) T.m_len (by decide +kernel) (pa_cons (pv 0) pa_nil)) (pe_callB (len_K (K := K)) (by rfl) T.m_len (by decide +kernel) (pa_cons (pv 1) pa_nil)) (nomark _)) (pe_one (pe_callB (all_K (K := K) rfl) (by rfl) T.m_all (by decide +kernel) (pa_cons (pe_lc (own := [("k", 2)]) (g := gName 2) rfl sc__law_same.nd (pi_range1 (by rfl) T.m_range (pa_cons (pe_callB (len_K (K := K)) (by rfl) T.m_len (by decide +kernel) (pa_cons (pv 1) pa_nil)) pa_nil)) (blkOk_by (own := [("k", 2)]) (N := ["actual", "due", "k"]) (sc := defScope s__law_same) (by decide +kernel)) (fun _ _ _ _ _ => (pg_name (i := 2) sc__law_same.nd rfl (Or.inl rfl))) (fun _ _ _ _ _ => pts_nil) (fun _ _ _ _ _ => (pe_c c__law_same hr (by first | decide | omega) (by rfl) (pa_cons (pe_ix (ix_K (K := K)) (pv 0) (pv 2) (fun _ _ => rfl)) (pa_cons (pe_ix (ix_K (K := K)) (pv 1) (pv 2) (fun _ _ => rfl)) pa_nil))))) pa_nil))))))
      pss_nil)
      (pss_cons (ps_if (pw_or (pt_cmpR op_ne (pe_callB (isi_K (K := K)) (by rfl) T.m_isinstance (by decide +kernel) (pa_cons (pv 1) (pa_cons (pe_bltn (v := .ty "bool") (by rfl) T.m_bool (by decide +kernel) rfl) pa_nil))) (pe_callB (isi_K (K := K)) (by rfl) T.m_isinstance (by decide +kernel) (pa_cons (pv 0) (pa_cons (pe_bltn (v := .ty "bool") (by rfl) T.m_bool (by decide +kernel) rfl) pa_nil))) (nomark _)) (pw_or1 (pt_cmpR op_ne (pe_callB (isi_K (K := K)) (by rfl) T.m_isinstance (by decide +kernel) (pa_cons (pv 1) (pa_cons (pe_bltn (v := .ty "str") (by rfl) T.m_str (by decide +kernel) rfl) pa_nil))) (pe_callB (isi_K (K := K)) (by rfl) T.m_isinstance (by decide +kernel) (pa_cons (pv 0) (pa_cons (pe_bltn (v := .ty "str") (by rfl) T.m_str (by decide +kernel) rfl) pa_nil))) (nomark _)))).pt
      (pss_one (ps_ret pe_bl))
      pss_nil)
      (pss_one (ps_ret (pe_and (pe_cmpR op_eq (pe_callB (isi_K (K := K)) (by rfl) T.m_isinstance (by decide +kernel) (pa_cons (pv 1) (pa_cons (pe_bltn (v := .ty "int") (by rfl) T.m_int (by decide +kernel) rfl) pa_nil))) (pe_callB (isi_K (K := K)) (by rfl) T.m_isinstance (by decide +kernel) (pa_cons (pv 0) (pa_cons (pe_bltn (v := .ty "int") (by rfl) T.m_int (by decide +kernel) rfl) pa_nil))) (nomark _)) (pe_one (pe_cmpR op_eq (pv 0) (pv 1) (nomark _)))))))))), fun ds M kk hw => by
    obtain ⟨m, d, hm, rfl, rfl, hd, q⟩ := hw
    have hm : m = n := by omega
    subst hm
    have hsz := sizeLine_eq
    refine as_start (δ' := [some d, some d, none]) rfl ?_
    have seqs : ∀ (ds : List D) (k : Nat), k < ds.length → ∃ x, x ∈ ds ∧ atI ds (0 + (k : Nat)) = some x := fun ds k hk => by
      rw [Int.zero_add]
      exact ⟨ds[k], List.getElem_mem hk, atI_nat (List.getElem?_eq_getElem hk)⟩
    cases d with
    | non =>
      refine as_seq ?_
      walk_at "tg"
      exact q
    | int i =>
      repeat (refine as_seq ?_; walk_at "tg")
      rw [decide_eq_true rfl]
      exact q
    | str z =>
      repeat (refine as_seq ?_; walk_at "tg")
      rw [decide_eq_true rfl]
      exact q
    | tup ds =>
      cases m with
      | zero => exact hd.elim
      | succ m =>
        obtain ⟨hl, hx⟩ := hd
        repeat (refine as_seq ?_; walk_at "tg")
        refine dcase (fun _ => ?_) (fun z => absurd rfl z)
        walk_at "tg"
        refine ae_lc (ownG_name (by simp)) ?_
        walk_at "tg"
        refine ⟨by omega, by omega, by rw [rng_len]; omega, fun i acc M' => M' = [] ∧ acc = (List.replicate i true).map D.bl, ⟨rfl, rfl⟩, ?_, ?_⟩
        · rintro i d acc M' hd ⟨rfl, rfl⟩
          obtain ⟨hi, rfl⟩ := rng_get hd
          obtain ⟨x, hx1, hx2⟩ := seqs ds i (by omega)
          walk_at "tg"
          refine aix_T hx2 ?_
          walk_at "tg"
          refine aix_T hx2 ?_
          walk_at "tg"
          refine ⟨[], _, trueK, rfl, ⟨m, x, rfl, rfl, rfl, hx x hx1, rfl, rfl⟩, ?_⟩
          rintro _ _ ⟨rfl, rfl⟩
          exact ⟨rfl, by rw [List.replicate_succ', List.map_append]; rfl⟩
        · rintro acc M' ⟨rfl, rfl⟩
          walk_at "tg"
          refine ac_all ?_
          rw [all_true]
          exact q
    | bl b => cases m <;> exact hd.elim
    | lst ds => cases m <;> exact hd.elim
    | ty n => cases m <;> exact hd.elim
    | ref a => cases m <;> exact hd.elim
    | lsk ds => cases m <;> exact hd.elim⟩
theorem c__law_same (T : Top K mg w) : ∀ n : Nat, Cal P w K mg base (n + 1) "_law_same" (Spc K (W_same n)) []
  | 0 => cal_none T.d__law_same fun ds M k h => by
    obtain ⟨_, _, h, _⟩ := h
    omega
  | n + 1 => same_step T n (c__law_same T n)
end

/-! ### the law's own evaluation -/
def rsD : Rs → D
  | .ask n u => .tup [.str (Str.ofString "ask"), .str (tx n), .int (u : Nat)]
  | .done v u => .tup [.str (Str.ofString "done"), v.d, .int (u : Nat)]
def W_lsum : Wt := fun ds M k => ∃ (h : Hd2) (x y : Vl), ds = [.str h.s, x.d, y.d] ∧ M = [] ∧ h ≠ .or ∧ x ≠ .cyc ∧ y ≠ .cyc ∧ k (sumV h x y).d []
def W_lnx (n : Nat) : Wt := fun ds M k => ∃ (f : Fo) (t : List Vl) (u : Nat), ds = [f.d, .lst (t.map Vl.d), .int (u : Nat)] ∧ M = [] ∧ OkF n f ∧ u ≤ t.length ∧ t.length ≤ 1000 ∧ k (rsD (evl f t u)) []
def W_lnx' : Nat → Wt
  | 0 => fun _ _ _ => False
  | n + 1 => W_lnx n
theorem ar_cyc2 {K : PySem.W.Frag} {M : Mu} {k : D → Mu → Prop} {v : Vl} (q : k (.bl (decide (v = .cyc))) M) : AR K (rEqU K) v.d (.str cycS) M k :=
  ar_eqT (eqb_vl v) (eqb_vl .cyc) (by show k (.bl (eqD v.d (.str cycS))) M; rw [eqD_cyc]; exact q)
theorem vals_at {t : List Vl} {u : Nat} {v : Vl} (h : t[u]? = some v) : atI (t.map Vl.d) (u : Nat) = some v.d := atI_nat (by rw [List.getElem?_map, h]; rfl)
section
variable {P : Program} {w : World} {K : PySem.W.Frag} {mg : Str → Option Value} {base : Heap}
theorem c__law_sum (T : Top K mg w) : Cal P w K mg base 1 "_law_sum" (Spc K W_lsum) [] := cal_of T.d__law_sum fun f fd F => by
  exact spc_ok F sc__law_sum (fun ds M k h => by obtain ⟨h, x, y, rfl, _⟩ := h; rfl) fun cdv A outer s H E hr => ⟨_, (pss_cons (ps_if (pt_cmpR op_isN1 (pv 1) pe_non (nomark _))
      (pss_one (ps_ret (pv 2)))
      pss_nil)
      (pss_cons (ps_if (pt_cmpR op_isN1 (pv 2) pe_non (nomark _))
      (pss_one (ps_ret (pv 1)))
      pss_nil)
      (pss_cons (ps_if (pt_cmpR (eqU_K (K := K) hr) (pv 0) pe_str (nomark _))
      (pss_one (ps_ret (pe_ifExp (pt_cmpR op_lt (pv 1) (pv 2) (nomark _)) (pv 1) (pv 2))))
      pss_nil)
      (pss_cons (ps_set (i := 3) sc__law_sum.nd rfl (Or.inl rfl) (pe_op (add_K (K := K)) (pv 1) (pv 2)))
      (pss_cons (ps_if (pt_cmpR op_gt (pv 3) pe_int (nomark _))
      (pss_one (ps_ret pe_int))
      pss_nil)
      (pss_one (ps_ret (pe_ifExp (pt_cmpR op_lt (pv 3) (pe_un un_neg pe_int) (nomark _)) (pe_un un_neg pe_int) (pv 3))))))))), fun ds M kk hw => by
    obtain ⟨h, x, y, rfl, rfl, ho, hx, hy, q⟩ := hw
    refine as_start (δ' := [some (.str h.s), some x.d, some y.d, none]) rfl ?_
    refine as_seq ?_
    cases x with
    | cyc => exact absurd rfl hx
    | non =>
      show AS K _ [some (.str h.s), some .non, some y.d, none] _ _
      walk_at "tg"
      exact q
    | int i =>
      show AS K _ [some (.str h.s), some (.int i), some y.d, none] _ _
      walk_at "tg"
      refine as_seq ?_
      cases y with
      | cyc => exact absurd rfl hy
      | non =>
        show AS K _ [some (.str h.s), some (.int i), some .non, none] _ _
        walk_at "tg"
        exact q
      | int j =>
        show AS K _ [some (.str h.s), some (.int i), some (.int j), none] _ _
        walk_at "tg"
        cases h with
        | or => exact absurd rfl ho
        | least =>
          refine as_seq ?_
          walk_at "tg"
          refine ar_eqS (b := true) (by decide +kernel) ?_
          walk_at "tg"
          have e : sumV .least (.int i) (.int j) = .int (if i < j then i else j) := rfl
          rw [e] at q
          refine dcase (fun c => ?_) (fun c => ?_)
          · rw [if_pos c] at q
            walk_at "tg"
            exact q
          · rw [if_neg c] at q
            walk_at "tg"
            exact q
        | plus =>
          refine as_seq ?_
          walk_at "tg"
          refine ar_eqS (b := false) (by decide +kernel) ?_
          walk_at "tg"
          have e : sumV .plus (.int i) (.int j) = .int (clampI (i + j)) := rfl
          rw [e] at q
          unfold clampI at q
          refine as_seq ?_
          walk_at "tg"
          refine dcase (fun c => ?_) (fun c => ?_)
          · rw [if_pos c] at q
            walk_at "tg"
            exact q
          · rw [if_neg c] at q
            walk_at "tg"
            refine dcase (fun c2 => ?_) (fun c2 => ?_)
            · rw [if_pos c2] at q
              walk_at "tg"
              exact q
            · rw [if_neg c2] at q
              walk_at "tg"
              exact q⟩
theorem c_lnx1 (T : Top K mg w) (n : Nat) (c__law_next : Cal P w K mg base (1 + n) "_law_next" (Spc K (W_lnx' n)) []) : Cal P w K mg base (2 + n) "_law_next" (Spc K (W_lnx n)) [] := cal_of T.d__law_next fun f fd F => by
  have c__law_sum := c__law_sum (P := P) (w := w) (base := base) T
  rw [show 2 + n = (1 + n) + 1 by omega]
  exact spc_ok F sc__law_next (fun ds M k h => by obtain ⟨f, t, u, rfl, _⟩ := h; rfl) fun cdv A outer s H E hr => ⟨_, (pss_cons (ps_if (pw_or (tru_K (K := K) (pe_callB (isi_K (K := K)) (by rfl) T.m_isinstance (by decide +kernel) (pa_cons (pv 0) (pa_cons (pe_bltn (v := .ty "str") (by rfl) T.m_str (by decide +kernel) rfl) pa_nil)))) (pw_or1 (pw_and (tru_K (K := K) (pe_callB (isi_K (K := K)) (by rfl) T.m_isinstance (by decide +kernel) (pa_cons (pv 0) (pa_cons (pe_bltn (v := .ty "tuple") (by rfl) T.m_tuple (by decide +kernel) rfl) pa_nil)))) (pw_and1 (pt_cmpR (eqU_K (K := K) hr) (pe_ix (ix_K (K := K)) (pv 0) pe_int (fun _ _ => rfl)) pe_str (nomark _)))).pt)).pt
      (pss_cons (ps_if (pt_cmpR op_ge (pv 2) (pe_callB (len_K (K := K)) (by rfl) T.m_len (by decide +kernel) (pa_cons (pv 1) pa_nil)) (nomark _))
      (pss_one (ps_ret (pe_tup (pa_cons pe_str (pa_cons (pe_ifExp (tru_K (K := K) (pe_callB (isi_K (K := K)) (by rfl) T.m_isinstance (by decide +kernel) (pa_cons (pv 0) (pa_cons (pe_bltn (v := .ty "str") (by rfl) T.m_str (by decide +kernel) rfl) pa_nil)))) (pv 0) (pe_ix (ix_K (K := K)) (pv 0) pe_int (fun _ _ => rfl))) (pa_cons (pv 2) pa_nil))))))
      pss_nil)
      (pss_cons (ps_if (tru_K (K := K) (pe_callB (isi_K (K := K)) (by rfl) T.m_isinstance (by decide +kernel) (pa_cons (pv 0) (pa_cons (pe_bltn (v := .ty "str") (by rfl) T.m_str (by decide +kernel) rfl) pa_nil))))
      (pss_one (ps_ret (pe_tup (pa_cons pe_str (pa_cons (pe_ix (ix_K (K := K)) (pv 1) (pv 2) (fun _ _ => rfl)) (pa_cons (pe_op (add_K (K := K)) (pv 2) pe_int) pa_nil))))))
      pss_nil)
      (pss_one (ps_ret (pe_tup (pa_cons pe_str (pa_cons (pe_callTy call_intU (by rfl) T.m_int (by decide +kernel) (pa_cons (pe_cmpR (eqU_K (K := K) hr) (pe_ix (ix_K (K := K)) (pv 1) (pv 2) (fun _ _ => rfl)) pe_str (nomark _)) pa_nil)) (pa_cons (pe_op (add_K (K := K)) (pv 2) pe_int) pa_nil))))))))
      pss_nil)
      (pss_cons (ps_if (pt_not (tru_K (K := K) (pe_callB (isi_K (K := K)) (by rfl) T.m_isinstance (by decide +kernel) (pa_cons (pv 0) (pa_cons (pe_bltn (v := .ty "tuple") (by rfl) T.m_tuple (by decide +kernel) rfl) pa_nil)))))
      (pss_one (ps_ret (pe_tup (pa_cons pe_str (pa_cons (pv 0) (pa_cons (pv 2) pa_nil))))))
      pss_nil)
      (pss_cons (ps_set (i := 3) sc__law_next.nd rfl (Or.inl rfl) (pe_c c__law_next hr (by first | decide | omega) (by rfl) (pa_cons (pe_ix (ix_K (K := K)) (pv 0) pe_int (fun _ _ => rfl)) (pa_cons (pv 1) (pa_cons (pv 2) pa_nil)))))
      (pss_cons (ps_if (pw_or (pt_cmpR (eqU_K (K := K) hr) (pe_ix (ix_K (K := K)) (pv 3) pe_int (fun _ _ => rfl)) pe_str (nomark _)) (pw_or1 (pt_cmpR (eqU_K (K := K) hr) (pe_ix (ix_K (K := K)) (pv 3) pe_int (fun _ _ => rfl)) pe_str (nomark _)))).pt
      (pss_one (ps_ret (pv 3)))
      pss_nil)
      (pss_cons (ps_set (i := 4) sc__law_next.nd rfl (Or.inl rfl) (pe_ix (ix_K (K := K)) (pv 0) pe_int (fun _ _ => rfl)))
      (pss_cons (ps_if (pt_cmpR (eqU_K (K := K) hr) (pv 4) pe_str (nomark _))
      (pss_one (ps_ret (pe_ifExp (pt_cmpR op_isN1 (pe_ix (ix_K (K := K)) (pv 3) pe_int (fun _ _ => rfl)) pe_non (nomark _)) (pe_c c__law_next hr (by first | decide | omega) (by rfl) (pa_cons (pe_ix (ix_K (K := K)) (pv 0) pe_int (fun _ _ => rfl)) (pa_cons (pv 1) (pa_cons (pe_ix (ix_K (K := K)) (pv 3) pe_int (fun _ _ => rfl)) pa_nil)))) (pv 3))))
      pss_nil)
      (pss_cons (ps_if (pt_cmpR (eqU_K (K := K) hr) (pv 4) pe_str (nomark _))
      (pss_one (ps_ret (pe_c c__law_next hr (by first | decide | omega) (by rfl) (pa_cons (pe_ix (ix_K (K := K)) (pv 0) (pe_ifExp (pw_or (pt_cmpR op_isN1 (pe_ix (ix_K (K := K)) (pv 3) pe_int (fun _ _ => rfl)) pe_non (nomark _)) (pw_or1 (pt_cmpR (eqU_K (K := K) hr) (pe_ix (ix_K (K := K)) (pv 3) pe_int (fun _ _ => rfl)) pe_int (nomark _)))).pt pe_int pe_int) (fun _ _ => rfl)) (pa_cons (pv 1) (pa_cons (pe_ix (ix_K (K := K)) (pv 3) pe_int (fun _ _ => rfl)) pa_nil))))))
      pss_nil)
      (pss_cons (ps_set (i := 5) sc__law_next.nd rfl (Or.inl rfl) (pe_c c__law_next hr (by first | decide | omega) (by rfl) (pa_cons (pe_ix (ix_K (K := K)) (pv 0) pe_int (fun _ _ => rfl)) (pa_cons (pv 1) (pa_cons (pe_ix (ix_K (K := K)) (pv 3) pe_int (fun _ _ => rfl)) pa_nil)))))
      (pss_cons (ps_if (pw_or (pt_cmpR (eqU_K (K := K) hr) (pe_ix (ix_K (K := K)) (pv 5) pe_int (fun _ _ => rfl)) pe_str (nomark _)) (pw_or1 (pt_cmpR (eqU_K (K := K) hr) (pe_ix (ix_K (K := K)) (pv 5) pe_int (fun _ _ => rfl)) pe_str (nomark _)))).pt
      (pss_one (ps_ret (pv 5)))
      pss_nil)
      (pss_one (ps_ret (pe_tup (pa_cons pe_str (pa_cons (pe_c c__law_sum hr (by first | decide | omega) (by rfl) (pa_cons (pv 4) (pa_cons (pe_ix (ix_K (K := K)) (pv 3) pe_int (fun _ _ => rfl)) (pa_cons (pe_ix (ix_K (K := K)) (pv 5) pe_int (fun _ _ => rfl)) pa_nil)))) (pa_cons (pe_ix (ix_K (K := K)) (pv 5) pe_int (fun _ _ => rfl)) pa_nil))))))))))))))), fun ds M kk hw => by
    obtain ⟨fo, t, u, rfl, rfl, hok, hu, ht, q⟩ := hw
    have hsz := sizeLine_eq
    refine as_start (δ' := [some fo.d, some (.lst (t.map Vl.d)), some (.int (u : Nat)), none, none, none]) rfl ?_
    have hlen : ((t.map Vl.d).length : Int) = (t.length : Nat) := by rw [List.length_map]
    have call : ∀ {g : Fo} {v : Nat} {m : Nat}, n = m + 1 → OkF m g → v ≤ t.length → W_lnx' n [g.d, .lst (t.map Vl.d), .int (v : Nat)] [] (fun d M => d = rsD (evl g t v) ∧ M = []) := fun {g v m} e h1 h2 => by
      subst e
      exact ⟨g, t, v, rfl, rfl, h1, h2, ht, rfl, rfl⟩
    cases fo with
    | non =>
      show AS K _ [some .non, _, _, none, none, none] _ _
      refine as_seq ?_
      walk_at "tg"
      refine as_seq ?_
      walk_at "tg"
      exact q
    | int i =>
      show AS K _ [some (.int i), _, _, none, none, none] _ _
      refine as_seq ?_
      walk_at "tg"
      refine as_seq ?_
      walk_at "tg"
      exact q
    | nm l =>
      show AS K _ [some (.str (tx l)), _, _, none, none, none] _ _
      refine as_seq ?_
      walk_at "tg"
      refine as_seq ?_
      walk_at "tg"
      rw [List.length_map]
      refine dcase (fun c => ?_) (fun c => ?_)
      · have hn : t[u]? = none := List.getElem?_eq_none_iff.mpr (by omega)
        have e : evl (.nm l) t u = .ask l u := by unfold evl; rw [hn]
        rw [e] at q
        walk_at "tg"
        exact q
      · obtain ⟨v, hn⟩ : ∃ v, t[u]? = some v := ⟨t[u]'(by omega), List.getElem?_eq_getElem (by omega)⟩
        have e : evl (.nm l) t u = .done v (u + 1) := by unfold evl; rw [hn]
        rw [e] at q
        walk_at "tg"
        refine as_seq ?_
        walk_at "tg"
        refine aix_L (vals_at hn) ?_
        walk_at "tg"
        exact q
    | cyc l =>
      show AS K _ [some (.tup [.str cycS, .str (tx l)]), _, _, none, none, none] _ _
      refine as_seq ?_
      walk_at "tg"
      refine ar_eqS (b := true) (by decide +kernel) ?_
      walk_at "tg"
      refine as_seq ?_
      walk_at "tg"
      rw [List.length_map]
      refine dcase (fun c => ?_) (fun c => ?_)
      · have hn : t[u]? = none := List.getElem?_eq_none_iff.mpr (by omega)
        have e : evl (.cyc l) t u = .ask l u := by unfold evl; rw [hn]
        rw [e] at q
        walk_at "tg"
        exact q
      · obtain ⟨v, hn⟩ : ∃ v, t[u]? = some v := ⟨t[u]'(by omega), List.getElem?_eq_getElem (by omega)⟩
        have e : evl (.cyc l) t u = .done (.int (if v = .cyc then 1 else 0)) (u + 1) := by
          unfold evl
          rw [hn]
          all_goals (by_cases c9 : v = .cyc <;> simp [c9])
        rw [e] at q
        walk_at "tg"
        refine as_seq ?_
        walk_at "tg"
        refine aix_L (vals_at hn) ?_
        walk_at "tg"
        refine ar_cyc2 ?_
        walk_at "tg"
        refine ac_intB ?_
        walk_at "tg"
        have e9 : (if decide (v = .cyc) = true then (1 : Int) else 0) = if v = .cyc then 1 else 0 := by
          by_cases c9 : v = .cyc
          · rw [if_pos c9, if_pos (decide_eq_true c9)]
          · rw [if_neg c9, if_neg (by rw [decide_eq_false c9]; decide)]
        rw [e9]
        exact q
    | op h g1 g2 =>
      obtain ⟨m, hm, ok1, ok2⟩ := okF_kid hok
      show AS K _ [some (.tup [.str h.s, g1.d, g2.d]), _, _, none, none, none] _ _
      refine as_seq ?_
      walk_at "tg"
      refine ar_eqS rfl ?_
      rw [hd_cyc]
      walk_at "tg"
      refine as_seq ?_
      walk_at "tg"
      refine ⟨[], [], _, rfl, call hm ok1 hu, ?_⟩
      rintro _ _ ⟨rfl, rfl⟩
      refine as_seq ?_
      have hz := evl_fits g1 t u hu
      cases e1 : evl g1 t u with
      | ask x z =>
        have e : evl (.op h g1 g2) t u = .ask x z := by rw [evl, e1]
        rw [e] at q
        show AS K _ [_, _, _, some (.tup [.str (Str.ofString "ask"), .str (tx x), .int (z : Nat)]), none, none] _ _
        walk_at "tg"
        refine ar_eqS (b := true) (by decide +kernel) ?_
        walk_at "tg"
        exact q
      | done v z =>
        rw [e1] at hz
        have hz2 : z ≤ t.length := hz.2
        show AS K _ [_, _, _, some (.tup [.str (Str.ofString "done"), v.d, .int (z : Nat)]), none, none] _ _
        walk_at "tg"
        refine ar_eqS (b := false) (by decide +kernel) ?_
        walk_at "tg"
        refine ar_cyc2 ?_
        walk_at "tg"
        refine dcase (fun c => ?_) (fun hv => ?_)
        · subst c
          have e : evl (.op h g1 g2) t u = .done .cyc z := by rw [evl, e1]; rfl
          rw [e] at q
          walk_at "tg"
          exact q
        · walk_at "tg"
          refine as_seq ?_
          walk_at "tg"
          refine ar_eqS rfl ?_
          rw [hd_or]
          walk_at "tg"
          refine dcase (fun c => ?_) (fun c => ?_)
          · subst c
            cases v with
            | cyc => exact absurd rfl hv
            | non =>
              have e : evl (.op .or g1 g2) t u = evl g2 t z := by
                rw [evl, e1]
                rfl
              rw [e] at q
              show AS K _ [_, _, _, some (.tup [.str (Str.ofString "done"), .non, .int (z : Nat)]), _, none] _ _
              walk_at "tg"
              refine ⟨[], [], _, rfl, call hm ok2 hz2, ?_⟩
              rintro _ _ ⟨rfl, rfl⟩
              exact q
            | int i =>
              have e : evl (.op .or g1 g2) t u = .done (.int i) z := by
                rw [evl, e1]
                rfl
              rw [e] at q
              show AS K _ [_, _, _, some (.tup [.str (Str.ofString "done"), .int i, .int (z : Nat)]), _, none] _ _
              walk_at "tg"
              exact q
          · walk_at "tg"
            refine as_seq ?_
            walk_at "tg"
            refine ar_eqS rfl ?_
            rw [hd_if]
            walk_at "tg"
            have ej := op_join (g2 := g2) c e1 hv
            refine ⟨[], [], _, rfl, call hm ok2 hz2, ?_⟩
            rintro _ _ ⟨rfl, rfl⟩
            refine as_seq ?_
            cases e2 : evl g2 t z with
            | ask x z2 =>
              rw [e2] at ej
              rw [ej] at q
              show AS K _ [_, _, _, _, _, some (.tup [.str (Str.ofString "ask"), .str (tx x), .int (z2 : Nat)])] _ _
              walk_at "tg"
              refine ar_eqS (b := true) (by decide +kernel) ?_
              walk_at "tg"
              exact q
            | done x z2 =>
              rw [e2] at ej
              rw [ej] at q
              dsimp only at q
              show AS K _ [_, _, _, _, _, some (.tup [.str (Str.ofString "done"), x.d, .int (z2 : Nat)])] _ _
              walk_at "tg"
              refine ar_eqS (b := false) (by decide +kernel) ?_
              walk_at "tg"
              refine ar_cyc2 ?_
              walk_at "tg"
              refine dcase (fun c2 => ?_) (fun hx => ?_)
              · rw [if_pos c2] at q
                subst c2
                walk_at "tg"
                exact q
              · rw [if_neg hx] at q
                walk_at "tg"
                refine ⟨[], [], fun d M => d = (sumV h v x).d ∧ M = [], rfl, ⟨h, v, x, rfl, rfl, c, hv, hx, rfl, rfl⟩, ?_⟩
                rintro _ _ ⟨rfl, rfl⟩
                walk_at "tg"
                exact q
    | ifs g1 g2 g3 =>
      obtain ⟨m, hm, ok1, ok2, ok3⟩ := okF_kids hok
      show AS K _ [some (.tup [.str ifS, g1.d, g2.d, g3.d]), _, _, none, none, none] _ _
      refine as_seq ?_
      walk_at "tg"
      refine ar_eqS (b := false) (by decide +kernel) ?_
      walk_at "tg"
      refine as_seq ?_
      walk_at "tg"
      refine ⟨[], [], _, rfl, call hm ok1 hu, ?_⟩
      rintro _ _ ⟨rfl, rfl⟩
      refine as_seq ?_
      have hz := evl_fits g1 t u hu
      cases e1 : evl g1 t u with
      | ask x z =>
        have e : evl (.ifs g1 g2 g3) t u = .ask x z := by rw [evl, e1]
        rw [e] at q
        show AS K _ [_, _, _, some (.tup [.str (Str.ofString "ask"), .str (tx x), .int (z : Nat)]), none, none] _ _
        walk_at "tg"
        refine ar_eqS (b := true) (by decide +kernel) ?_
        walk_at "tg"
        exact q
      | done v z =>
        rw [e1] at hz
        have hz2 : z ≤ t.length := hz.2
        show AS K _ [_, _, _, some (.tup [.str (Str.ofString "done"), v.d, .int (z : Nat)]), none, none] _ _
        walk_at "tg"
        refine ar_eqS (b := false) (by decide +kernel) ?_
        walk_at "tg"
        refine ar_cyc2 ?_
        walk_at "tg"
        refine dcase (fun c => ?_) (fun hv => ?_)
        · subst c
          have e : evl (.ifs g1 g2 g3) t u = .done .cyc z := by rw [evl, e1]; rfl
          rw [e] at q
          walk_at "tg"
          exact q
        · walk_at "tg"
          refine as_seq ?_
          walk_at "tg"
          refine ar_eqS (b := false) (by decide +kernel) ?_
          walk_at "tg"
          refine as_seq ?_
          walk_at "tg"
          refine ar_eqS (b := true) (by decide +kernel) ?_
          have e : evl (.ifs g1 g2 g3) t u = if v = .non ∨ v = .int 0 then evl g3 t z else evl g2 t z := by
            rw [evl, e1]
            dsimp only
            rw [if_neg hv]
            all_goals (by_cases c9 : v = .non ∨ v = .int 0 <;> simp [c9])
          rw [e] at q
          have third : v = .non ∨ v = .int 0 → kk (rsD (evl g3 t z)) [] := fun c => by rw [if_pos c] at q; exact q
          have second : ¬ (v = .non ∨ v = .int 0) → kk (rsD (evl g2 t z)) [] := fun c => by rw [if_neg c] at q; exact q
          cases v with
          | cyc => exact absurd rfl hv
          | non =>
            walk_at "tg"
            refine ⟨[], [], _, rfl, call hm ok3 hz2, ?_⟩
            rintro _ _ ⟨rfl, rfl⟩
            exact third (.inl rfl)
          | int i =>
            walk_at "tg"
            refine ar_eqS (b := decide (i = 0)) rfl ?_
            walk_at "tg"
            refine dcase (fun c => ?_) (fun c => ?_)
            · walk_at "tg"
              refine ⟨[], [], _, rfl, call hm ok3 hz2, ?_⟩
              rintro _ _ ⟨rfl, rfl⟩
              exact third (.inr (by rw [c]))
            · walk_at "tg"
              refine ⟨[], [], _, rfl, call hm ok2 hz2, ?_⟩
              rintro _ _ ⟨rfl, rfl⟩
              exact second (fun z => by
                rcases z with z | z
                · cases z
                · cases z; exact c rfl)⟩
theorem c__law_next (T : Top K mg w) : ∀ n : Nat, Cal P w K mg base (2 + n) "_law_next" (Spc K (W_lnx n)) []
  | 0 => c_lnx1 T 0 (cal_none T.d__law_next fun _ _ _ h => h)
  | n + 1 => c_lnx1 T (n + 1) (by
    rw [show 1 + (n + 1) = 2 + n by omega]
    exact c__law_next T n)
end

/-! ### the law's own answers -/
structure La where
  ru : Addr
  an : Addr
  rd : Addr
  la : Addr
  st : Addr
structure Ls where
  rs : List (Nm × Ru)
  an : List (Nm × Vl)
  rd : List (Nm × (Addr × Td))
  ls : List (Nm × Option Nm)
def lrD : Ru → D
  | .inp v => .tup [.str (Str.ofString "input"), v.d]
  | .fml f => .tup [.str (Str.ofString "formula"), f.d]
def stKV (a : La) : List (Key × D) := [(.inr (Str.ofString "rules"), .ref a.ru), (.inr (Str.ofString "answers"), .ref a.an), (.inr (Str.ofString "reads"), .ref a.rd), (.inr (Str.ofString "last"), .ref a.la)]
def tlM (rd : List (Nm × (Addr × Td))) : Mu := rd.map fun p => (p.2.1, .lst (tlD p.2.2))
def adD (p : Addr × Td) : D := .ref p.1
def Ls.m (a : La) (S : Ls) : Mu := [(a.ru, .dK (kvD lrD S.rs)), (a.an, .dK (kvD Vl.d S.an)), (a.rd, .dK (kvD adD S.rd)), (a.la, .dK (kvD lsD S.ls)), (a.st, .dK (stKV a))] ++ tlM S.rd
def Ls.R (S : Ls) : Nm → Option Ru := lkA S.rs
def Ls.F (S : Ls) : Fm := fun n => match lkA S.an n, lkA S.rd n with
  | some v, some p => some ⟨p.2, v, (lkA S.ls n).getD none⟩
  | _, _ => none
def Ls.worth (S : Ls) (n : Nm) : Option Vl := match S.R n with
  | none => some .non
  | some (.inp v) => some v
  | some (.fml _) => lkA S.an n
def woD : Option Vl → D
  | some v => .tup [.bl true, v.d]
  | none => .tup [.bl false, .non]
structure Ls.Ok (S : Ls) : Prop where
  lr : S.rs.length ≤ 24
  ru : ∀ n f, S.R n = some (.fml f) → OkF 4 f
  all : ∀ n f, S.R n = some (.fml f) → ∃ p, lkA S.rd n = some p
  dom : ∀ n p, lkA S.rd n = some p → ∃ f, S.R n = some (.fml f)
  nrd : (S.rd.map (·.1)).Nodup
  nan : (S.an.map (·.1)).Nodup
  an : ∀ n v, lkA S.an n = some v → ∃ f, S.R n = some (.fml f)
  asked : ∀ n p f, lkA S.rd n = some p → S.R n = some (.fml f) → Asked f p.2 ∧ Kn (known S.R S.F) p.2
  ls : ∀ n, lkA S.an n = none → (lkA S.ls n).getD none = none
  phi : ∃ τ c, Phi S.R S.F τ ∧ Below S.F τ c
theorem valD_hit {key : Key} {v : D} {r : List (Key × D)} : valD ((key, v) :: r) key = some v := by
  unfold valD
  rw [List.find?_cons_of_pos (by simp)]
  rfl
theorem valD_skip {key q : Key} {v : D} {r : List (Key × D)} (h : decide (key = q) = false) : valD ((key, v) :: r) q = valD r q := by
  unfold valD
  rw [List.find?_cons_of_neg (by show ¬ decide (key = q) = true; rw [h]; decide)]
theorem st_rules {a : La} : valD (stKV a) (.inr (Str.ofString "rules")) = some (.ref a.ru) := valD_hit
theorem st_answers {a : La} : valD (stKV a) (.inr (Str.ofString "answers")) = some (.ref a.an) := by
  unfold stKV
  rw [valD_skip (by decide +kernel)]
  exact valD_hit
theorem st_reads {a : La} : valD (stKV a) (.inr (Str.ofString "reads")) = some (.ref a.rd) := by
  unfold stKV
  rw [valD_skip (by decide +kernel), valD_skip (by decide +kernel)]
  exact valD_hit
theorem st_last {a : La} : valD (stKV a) (.inr (Str.ofString "last")) = some (.ref a.la) := by
  unfold stKV
  rw [valD_skip (by decide +kernel), valD_skip (by decide +kernel), valD_skip (by decide +kernel)]
  exact valD_hit
section
variable {a : La} {S : Ls}
theorem Ls.ru_in : (a.ru, MO.dK (kvD lrD S.rs)) ∈ S.m a := List.mem_append_left _ (by simp)
theorem Ls.an_in : (a.an, MO.dK (kvD Vl.d S.an)) ∈ S.m a := List.mem_append_left _ (by simp)
theorem Ls.rd_in : (a.rd, MO.dK (kvD adD S.rd)) ∈ S.m a := List.mem_append_left _ (by simp)
theorem Ls.st_in : (a.st, MO.dK (stKV a)) ∈ S.m a := List.mem_append_left _ (by simp)
theorem Ls.tl_in {n : Nm} {p : Addr × Td} (h : lkA S.rd n = some p) : (p.1, MO.lst (tlD p.2)) ∈ S.m a := List.mem_append_right _ (List.mem_map.mpr ⟨(n, p), lkA_mem h, rfl⟩)
theorem Ls.worth_known (ok : S.Ok) (n : Nm) : S.worth n = known S.R S.F n := by
  unfold Ls.worth known
  cases hr : S.R n with
  | none => rfl
  | some r =>
    cases r with
    | inp v => rfl
    | fml f =>
      obtain ⟨p, hp⟩ := ok.all n f hr
      show lkA S.an n = (S.F n).map En.ans
      unfold Ls.F
      rw [hp]
      cases lkA S.an n <;> rfl
end
def W_lw : Wt := fun ds M k => ∃ (a : La) (S : Ls) (n : Nm), ds = [.ref a.st, .str (tx n)] ∧ ((a.ru, MO.dK (kvD lrD S.rs)) ∈ M ∧ (a.an, MO.dK (kvD Vl.d S.an)) ∈ M ∧ (a.st, MO.dK (stKV a)) ∈ M) ∧ k (woD (S.worth n)) M
section
variable {P : Program} {w : World} {K : PySem.W.Frag} {mg : Str → Option Value} {base : Heap}
theorem ae_st {δ : DS} {k : D → Mu → Prop} {a : La} {M : Mu} {key : Str} {v : D} (h : δ[0]? = some (some (.ref a.st))) (hm : (a.st, MO.dK (stKV a)) ∈ M) (hv : valD (stKV a) (.inr key) = some v) (q : k v M) : AE K (tDGet (tVar 0) (tC (.str key))) δ M k :=
  ae_dgetm (ae_var h (ae_str ⟨a.st, stKV a, .inr key, v, rfl, rfl, hm, hv, q⟩))
theorem c__law_worth (T : Top K mg w) : Cal P w K mg base 1 "_law_worth" (Spc K W_lw) [] := cal_of T.d__law_worth fun f fd F => by
  exact spc_ok F sc__law_worth (fun ds M k h => by obtain ⟨a, S, n, rfl, _⟩ := h; rfl) fun cdv A outer s H E hr => ⟨_, (pss_cons (ps_if (pt_cmpR (notinDk_K (hu_of hr)) (pv 1) (pe_dget (hu_of hr) (pv 0) pe_str (fun _ _ => rfl)) (by rfl))
      (pss_one (ps_ret (pe_tup (pa_cons pe_bl (pa_cons pe_non pa_nil)))))
      pss_nil)
      (pss_cons (ps_set (i := 2) sc__law_worth.nd rfl (Or.inl rfl) (pe_dget (hu_of hr) (pe_dget (hu_of hr) (pv 0) pe_str (fun _ _ => rfl)) (pv 1) (fun _ _ => rfl)))
      (pss_cons (ps_if (pt_cmpR (eqU_K (K := K) hr) (pe_ix (ix_K (K := K)) (pv 2) pe_int (fun _ _ => rfl)) pe_str (nomark _))
      (pss_one (ps_ret (pe_tup (pa_cons pe_bl (pa_cons (pe_ix (ix_K (K := K)) (pv 2) pe_int (fun _ _ => rfl)) pa_nil)))))
      pss_nil)
      (pss_cons (ps_if (pt_cmpR (inDk_K (hu_of hr)) (pv 1) (pe_dget (hu_of hr) (pv 0) pe_str (fun _ _ => rfl)) (by rfl))
      (pss_one (ps_ret (pe_tup (pa_cons pe_bl (pa_cons (pe_dget (hu_of hr) (pe_dget (hu_of hr) (pv 0) pe_str (fun _ _ => rfl)) (pv 1) (fun _ _ => rfl)) pa_nil)))))
      pss_nil)
      (pss_one (ps_ret (pe_tup (pa_cons pe_bl (pa_cons pe_non pa_nil))))))))), fun ds M kk hw => by
    obtain ⟨a, S, n, rfl, ⟨hru, han, hst⟩, q⟩ := hw
    have hsz := sizeLine_eq
    refine as_start (δ' := [some (.ref a.st), some (.str (tx n)), none]) rfl ?_
    refine as_seq (as_if (at_test (ae_op (ae_var rfl (ae_st rfl hst st_rules (ar_notinDm hru (key := .inr (tx n)) rfl ?_))))))
    rw [valD_kv]
    unfold Ls.worth Ls.R at q
    cases hr : lkA S.rs n with
    | none =>
      rw [hr] at q
      refine ⟨_, rfl, fun _ => ?_, fun z => nomatch z⟩
      walk_at "tg"
      exact q
    | some r =>
      rw [hr] at q
      refine ⟨_, rfl, fun z => (nomatch z), fun _ => as_next ?_⟩
      refine as_seq (as_set (ae_dgetm (ae_st rfl hst st_rules (ae_var rfl ⟨a.ru, _, .inr (tx n), lrD r, rfl, rfl, hru, by rw [valD_kv, hr]; rfl, ?_⟩))))
      cases r with
      | inp v =>
        show AS K _ [_, _, some (.tup [.str (Str.ofString "input"), v.d])] _ _
        refine as_seq ?_
        walk_at "tg"
        refine ar_eqS (b := true) (by decide +kernel) ?_
        walk_at "tg"
        exact q
      | fml f =>
        show AS K _ [_, _, some (.tup [.str (Str.ofString "formula"), f.d])] _ _
        refine as_seq ?_
        walk_at "tg"
        refine ar_eqS (b := false) (by decide +kernel) ?_
        walk_at "tg"
        refine as_seq (as_if (at_test (ae_op (ae_var rfl (ae_st rfl hst st_answers (ar_inDm han (key := .inr (tx n)) rfl ?_))))))
        rw [valD_kv]
        have q : kk (woD (lkA S.an n)) M := q
        cases ha : lkA S.an n with
        | none =>
          rw [ha] at q
          refine ⟨_, rfl, fun z => (nomatch z), fun _ => as_next ?_⟩
          walk_at "tg"
          exact q
        | some v =>
          rw [ha] at q
          refine ⟨_, rfl, fun _ => ?_, fun z => nomatch z⟩
          walk_at "tg"
          refine ae_dgetm (ae_st rfl hst st_answers (ae_var rfl ⟨a.an, _, .inr (tx n), v.d, rfl, rfl, han, by rw [valD_kv, ha]; rfl, ?_⟩))
          walk_at "tg"
          exact q⟩
end

/-! ### the law goes on with a formula -/
section
variable {α : Type} {l l1 l2 : List (Nm × α)} {n : Nm} {x y : α}
theorem split_lk (nd : (l.map (·.1)).Nodup) (h : lkA l n = some x) : ∃ l1 l2, l = l1 ++ (n, x) :: l2 ∧ (∀ q ∈ l1, q.1 ≠ n) ∧ ∀ q ∈ l2, q.1 ≠ n := by
  obtain ⟨l1, l2, rfl⟩ := List.append_of_mem (lkA_mem h)
  rw [List.map_append, List.map_cons, List.nodup_append] at nd
  obtain ⟨_, h2, h3⟩ := nd
  refine ⟨l1, l2, rfl, fun q hq z => h3 q.1 (List.mem_map.mpr ⟨q, hq, rfl⟩) n (by simp) z, fun q hq z => ?_⟩
  exact (List.nodup_cons.mp h2).1 (List.mem_map.mpr ⟨q, hq, z⟩)
theorem map_away (h : ∀ q ∈ l, q.1 ≠ n) : (l.map fun p => if p.1 = n then (p.1, y) else p) = l := by
  induction l with
  | nil => rfl
  | cons q r ih =>
    rw [List.map_cons, if_neg (h q (by simp)), ih fun q hq => h q (List.mem_cons_of_mem _ hq)]
theorem puA_split (h1 : ∀ q ∈ l1, q.1 ≠ n) (h2 : ∀ q ∈ l2, q.1 ≠ n) : puA (l1 ++ (n, x) :: l2) n y = l1 ++ (n, y) :: l2 := by
  unfold puA
  rw [if_pos (any_mem.mpr (by simp)), List.map_append, List.map_cons, map_away h1, map_away h2, if_pos rfl]
end
def Ls.tells (S : Ls) (n : Nm) (ad : Addr) (t : Td) : Ls := { S with rd := puA S.rd n (ad, t) }
def Ls.ends (S : Ls) (n : Nm) (v : Vl) : Ls := { S with an := puA S.an n v }
section
variable {S : Ls} {a : La} {n : Nm} {p : Addr × Td} {t : Td}
theorem Ls.tells_same (ok : S.Ok) (hp : lkA S.rd n = some p) : S.tells n p.1 p.2 = S := by
  obtain ⟨l1, l2, e, h1, h2⟩ := split_lk ok.nrd hp
  unfold Ls.tells
  have : puA S.rd n (p.1, p.2) = S.rd := by rw [e, puA_split h1 h2]
  rw [this]
theorem Ls.tells_m (ok : S.Ok) (hp : lkA S.rd n = some p) : ∃ N1 N2, ∀ t, (S.tells n p.1 t).m a = N1 ++ (p.1, .lst (tlD t)) :: N2 := by
  obtain ⟨l1, l2, e, h1, h2⟩ := split_lk ok.nrd hp
  refine ⟨[(a.ru, .dK (kvD lrD S.rs)), (a.an, .dK (kvD Vl.d S.an)), (a.rd, .dK (kvD adD S.rd)), (a.la, .dK (kvD lsD S.ls)), (a.st, .dK (stKV a))] ++ tlM l1, tlM l2, fun t => ?_⟩
  unfold Ls.m Ls.tells
  rw [e, puA_split h1 h2]
  simp [kvD, adD, tlM]
theorem Ls.tells_rd (t : Td) : lkA (S.tells n p.1 t).rd n = some (p.1, t) := by
  show lkA (puA S.rd n (p.1, t)) n = _
  rw [lkA_pu, if_pos rfl]
theorem Ls.small (ok : S.Ok) : S.an.length ≤ 24 ∧ S.rd.length ≤ 24 := by
  have h1 : S.an.length ≤ S.rs.length := len_sub ok.nan fun n x h => by
    obtain ⟨f, hf⟩ := ok.an n x h
    exact ⟨_, hf⟩
  have h2 : S.rd.length ≤ S.rs.length := len_sub ok.nrd fun n x h => by
    obtain ⟨f, hf⟩ := ok.dom n x h
    exact ⟨_, hf⟩
  have := ok.lr
  omega
end
def W_lgo : Wt := fun ds M k => ∃ (a : La) (S : Ls) (n : Nm) (f : Fo) (p : Addr × Td), ds = [.ref a.st, .str (tx n)] ∧ M = S.m a ∧ S.Ok ∧ S.R n = some (.fml f) ∧ lkA S.rd n = some p ∧
  (∀ t m w, Asked f t → Kn (known S.R S.F) t → nx f t = .ask m w → S.worth m = none → k (.str (tx m)) ((S.tells n p.1 t).m a)) ∧
  ∀ t v w, Asked f t → Kn (known S.R S.F) t → nx f t = .done v w → k .non (((S.tells n p.1 t).ends n v).m a)
section
variable {P : Program} {w : World} {K : PySem.W.Frag} {mg : Str → Option Value} {base : Heap}
theorem c__law_go_on (T : Top K mg w) : Cal P w K mg base 7 "_law_go_on" (Spc K W_lgo) [] := cal_of T.d__law_go_on fun f fd F => by
  have c__law_next := c__law_next (P := P) (w := w) (base := base) T 4
  have c__law_worth := c__law_worth (P := P) (w := w) (base := base) T
  exact spc_ok F sc__law_go_on (fun ds M k h => by obtain ⟨a, S, n, f, p, rfl, _⟩ := h; rfl) fun cdv A outer s H E hr => ⟨_, (pss_cons (ps_set (i := 2) sc__law_go_on.nd rfl (Or.inl rfl) (pe_dget (hu_of hr) (pe_dget (hu_of hr) (pv 0) pe_str (fun _ _ => rfl)) (pv 1) (fun _ _ => rfl)))
      (pss_cons (ps_for PassesOwn.never rfl (pi_range1 (by rfl) T.m_range (pa_cons pe_int pa_nil)) (pg_name (i := 3) sc__law_go_on.nd rfl (Or.inl rfl))
      (pss_cons (ps_set (i := 4) sc__law_go_on.nd rfl (Or.inl rfl) (pe_c c__law_next hr (by first | decide | omega) (by rfl) (pa_cons (pe_ix (ix_K (K := K)) (pe_dget (hu_of hr) (pe_dget (hu_of hr) (pv 0) pe_str (fun _ _ => rfl)) (pv 1) (fun _ _ => rfl)) pe_int (fun _ _ => rfl)) (pa_cons (pe_lc (own := [("pair", 5)]) (g := gName 5) rfl sc__law_go_on.nd (seq_K (K := K) (pv 2)) (blkOk_by (own := [("pair", 5)]) (N := ["state", "name", "reads", "turn", "told", "pair", "answers", "worth"]) (sc := defScope s__law_go_on) (by decide +kernel)) (fun _ _ _ _ _ => (pg_name (i := 5) sc__law_go_on.nd rfl (Or.inl rfl))) (fun _ _ _ _ _ => pts_nil) (fun _ _ _ _ _ => (pe_ix (ix_K (K := K)) (pv 5) pe_int (fun _ _ => rfl)))) (pa_cons pe_int pa_nil)))))
      (pss_cons (ps_if (pt_cmpR (eqU_K (K := K) hr) (pe_ix (ix_K (K := K)) (pv 4) pe_int (fun _ _ => rfl)) pe_str (nomark _))
      (pss_cons (ps_set (i := 6) sc__law_go_on.nd rfl (Or.inl rfl) (pe_dget (hu_of hr) (pv 0) pe_str (fun _ _ => rfl)))
      (pss_cons (ps_asg (pe_ix (ix_K (K := K)) (pv 4) pe_int (fun _ _ => rfl)) (pg_sub (pv 6) (pv 1) (set_any (hu_of hr))))
      (pss_one (ps_ret pe_non))))
      pss_nil)
      (pss_cons (ps_set (i := 7) sc__law_go_on.nd rfl (Or.inl rfl) (pe_c c__law_worth hr (by first | decide | omega) (by rfl) (pa_cons (pv 0) (pa_cons (pe_ix (ix_K (K := K)) (pv 4) pe_int (fun _ _ => rfl)) pa_nil))))
      (pss_cons (ps_if (pt_not (tru_K (K := K) (pe_ix (ix_K (K := K)) (pv 7) pe_int (fun _ _ => rfl))))
      (pss_one (ps_ret (pe_ix (ix_K (K := K)) (pv 4) pe_int (fun _ _ => rfl))))
      pss_nil)
      (pss_one (ps_expr (app_K (K := K) (pe_bm PySem.F.plainAttrs_list PySem.F.slot_list_append PySem.F.type_list_append mt_append (pv 2) (pa_cons (pe_tup (pa_cons (pe_ix (ix_K (K := K)) (pv 4) pe_int (fun _ _ => rfl)) (pa_cons (pe_ix (ix_K (K := K)) (pv 7) pe_int (fun _ _ => rfl)) pa_nil))) pa_nil))))))))))
      (pss_one (ps_ret pe_non)))), fun ds M kk hw => by
    obtain ⟨a, S, n, fo, p, rfl, rfl, ok, hr0, hp, q1, q2⟩ := hw
    have hsz := sizeLine_eq
    have okf := ok.ru n fo hr0
    have hlv : lvs fo ≤ 81 := lvs_ok okf
    refine as_start (δ' := [some (.ref a.st), some (.str (tx n)), none, none, none, none, none, none]) rfl ?_
    refine as_seq (as_set (ae_dgetm (ae_st rfl Ls.st_in st_reads (ae_var rfl ⟨a.rd, _, .inr (tx n), .ref p.1, rfl, rfl, Ls.rd_in, by rw [valD_kv, hp]; rfl, ?_⟩))))
    obtain ⟨N1, N2, hm⟩ := Ls.tells_m (a := a) ok hp
    refine as_seq ?_
    walk_at "tg"
    refine ⟨by omega, by omega, fun i δ' M' => ∃ (t : Td) (x3 x4 x5 x6 x7 : Option D), i ≤ t.length ∧ Asked fo t ∧ Kn (known S.R S.F) t ∧ M' = (S.tells n p.1 t).m a ∧
      δ' = [some (.ref a.st), some (.str (tx n)), some (.ref p.1), x3, x4, x5, x6, x7], ⟨p.2, _, _, _, _, _, Nat.zero_le _, (ok.asked n p fo hp hr0).1, (ok.asked n p fo hp hr0).2, by rw [Ls.tells_same ok hp], rfl⟩, ?_, ?_⟩
    · rintro i d δ' M' hd ⟨t, x3, x4, x5, x6, x7, hi, ht, kt, rfl, rfl⟩
      have htl := asked_len ht
      walk_at "tg"
      refine ae_dgetm (ae_st rfl Ls.st_in st_rules (ae_var rfl ⟨a.ru, _, .inr (tx n), lrD (.fml fo), rfl, rfl, Ls.ru_in (S := S.tells n p.1 t), by rw [valD_kv]; exact congrArg (Option.map lrD) hr0, ?_⟩))
      walk_at "tg"
      refine ae_lcF (a := p.1) (ds := tlD t) (ownG_name (by simp)) sndD ?_ rfl ?_ ?_
      · refine ae_var rfl ⟨rfl, rfl, Ls.tl_in (Ls.tells_rd t), by rw [tlD_len]; omega⟩
      · intro d hd
        obtain ⟨r, _, rfl⟩ := List.mem_map.mp hd
        unfold tdD
        walk_at "tg"
        exact ⟨rfl, rfl⟩
      · rw [tl_snd]
        walk_at "tg"
        refine ⟨[], _, fun d M => d = rsD (nx fo t) ∧ M = [], rfl, ⟨fo, vals t, 0, rfl, rfl, okf, Nat.zero_le _, by rw [vals_len]; omega, rfl, rfl⟩, ?_⟩
        rintro _ _ ⟨rfl, rfl⟩
        rw [List.nil_append]
        have hsm := Ls.small ok
        cases hn : nx fo t with
        | done v z =>
          show AS K _ [_, _, _, _, some (.tup [.str (Str.ofString "done"), v.d, .int (z : Nat)]), _, _, _] _ _
          refine as_seq ?_
          walk_at "tg"
          refine ar_eqS (b := true) (by decide +kernel) ?_
          walk_at "tg"
          refine ae_st rfl Ls.st_in st_answers ?_
          walk_at "tg"
          refine put_d (M1 := [_]) rfl (key := .inr (tx n)) rfl (by rw [kvD_len]; show S.an.length < _; omega) ?_
          rw [putD_kv]
          walk_at "tg"
          exact q2 t v z ht kt hn
        | ask m z =>
          show AS K _ [_, _, _, _, some (.tup [.str (Str.ofString "ask"), .str (tx m), .int (z : Nat)]), _, _, _] _ _
          refine as_seq ?_
          walk_at "tg"
          refine ar_eqS (b := false) (by decide +kernel) ?_
          walk_at "tg"
          refine ⟨_, [], fun d M => d = woD (S.worth m) ∧ M = (S.tells n p.1 t).m a, (List.append_nil _).symm, ⟨a, S.tells n p.1 t, m, rfl, ⟨Ls.ru_in, Ls.an_in, Ls.st_in⟩, rfl, rfl⟩, ?_⟩
          rintro _ _ ⟨rfl, rfl⟩
          rw [List.append_nil]
          cases hw : S.worth m with
          | none =>
            show AS K _ [_, _, _, _, some (.tup [.str (Str.ofString "ask"), .str (tx m), .int (z : Nat)]), _, _, some (.tup [.bl false, .non])] _ _
            refine as_seq ?_
            walk_at "tg"
            exact q1 t m z ht kt hn hw
          | some v =>
            show AS K _ [_, _, _, _, some (.tup [.str (Str.ofString "ask"), .str (tx m), .int (z : Nat)]), _, _, some (.tup [.bl true, v.d])] _ _
            refine as_seq ?_
            walk_at "tg"
            refine ⟨by rw [hm t]; exact .inr (.inr ⟨_, _, _, _, rfl, rfl⟩), ?_⟩
            walk_at "tg"
            refine am_append (hm t) (by rw [tlD_len]; omega) ?_
            have e : tlD t ++ [.tup [.str (tx m), v.d]] = tlD (t ++ [(m, v)]) := by
              unfold tlD
              rw [List.map_append]
              rfl
            rw [e, ← hm]
            refine ⟨t ++ [(m, v)], _, _, _, _, _, by rw [List.length_append]; exact Nat.succ_le_succ hi, asked_snoc ht hn, fun m' v' h => ?_, rfl, rfl⟩
            rcases List.mem_append.mp h with h | h
            · exact kt m' v' h
            · cases List.mem_singleton.mp h
              rw [← Ls.worth_known ok]
              exact hw
    · rintro δ' M' ⟨t, x3, x4, x5, x6, x7, hi, ht, kt, rfl, rfl⟩
      have htl := asked_len ht
      rw [rng_len] at hi
      have : (400 : Int).toNat = 400 := rfl
      omega⟩
end

/-! ### what the law finds is found -/
section
variable {α : Type} {l : List (Nm × α)} {n m : Nm} {x y : α}
theorem mem_lk : ∀ {l : List (Nm × α)}, (l.map (·.1)).Nodup → (n, x) ∈ l → lkA l n = some x
  | [], _, h => nomatch h
  | (m, y) :: r, nd, h => by
    rw [List.map_cons] at nd
    obtain ⟨h1, h2⟩ := List.nodup_cons.mp nd
    rw [lkA_cons]
    rcases List.mem_cons.mp h with e | h
    · cases e
      rw [if_pos rfl]
    · rw [if_neg (fun z => h1 (List.mem_map.mpr ⟨(n, x), h, z.symm⟩))]
      exact mem_lk h2 h
theorem puA_new (h : n ∉ l.map (·.1)) : puA l n x = l ++ [(n, x)] := by
  unfold puA
  rw [if_neg (fun z => h (any_mem.mp z))]
end
section
variable {S : Ls} {n : Nm} {p : Addr × Td} {t : Td} {f : Fo} {v : Vl} {w : Nat}
theorem Ls.F_none (ha : lkA S.an n = none) : S.F n = none := by
  unfold Ls.F
  rw [ha]
theorem Ls.tells_F {ad : Addr} (ha : lkA S.an n = none) : (S.tells n ad t).F = S.F := by
  funext m
  show (match lkA S.an m, lkA (puA S.rd n (ad, t)) m with
    | some v, some p => some (⟨p.2, v, (lkA S.ls m).getD none⟩ : En)
    | _, _ => none) = S.F m
  by_cases h : m = n
  · subst h
    rw [ha, Ls.F_none ha]
  · rw [lkA_pu, if_neg h]
    rfl
theorem Ls.ends_F (hp : lkA S.rd n = some p) (hl : (lkA S.ls n).getD none = none) : (S.ends n v).F = putF S.F n ⟨p.2, v, none⟩ := by
  funext m
  show (match lkA (puA S.an n v) m, lkA S.rd m with
    | some v, some p => some (⟨p.2, v, (lkA S.ls m).getD none⟩ : En)
    | _, _ => none) = _
  rw [lkA_pu]
  by_cases h : m = n
  · subst h
    rw [if_pos rfl, hp, putF_same]
    show some (⟨p.2, v, (lkA S.ls m).getD none⟩ : En) = _
    rw [hl]
  · rw [if_neg h, putF_ne h]
    rfl
theorem Ls.Ok.tells (ok : S.Ok) (hr : S.R n = some (.fml f)) (hp : lkA S.rd n = some p) (ha : lkA S.an n = none) (ht : Asked f t) (kt : Kn (known S.R S.F) t) : (S.tells n p.1 t).Ok := by
  have eF := Ls.tells_F (ad := p.1) (t := t) ha
  refine ⟨ok.lr, ok.ru, fun m g h => ?_, fun m q h => ?_, nodup_pu ok.nrd, ok.nan, ok.an, fun m q g h1 h2 => ?_, ok.ls, ?_⟩
  · show ∃ p', lkA (puA S.rd n (p.1, t)) m = some p'
    rw [lkA_pu]
    by_cases e : m = n
    · rw [if_pos e]; exact ⟨_, rfl⟩
    · rw [if_neg e]; exact ok.all m g h
  · have h : lkA (puA S.rd n (p.1, t)) m = some q := h
    rw [lkA_pu] at h
    by_cases e : m = n
    · subst e; exact ⟨f, hr⟩
    · rw [if_neg e] at h; exact ok.dom m q h
  · rw [eF]
    have h1 : lkA (puA S.rd n (p.1, t)) m = some q := h1
    rw [lkA_pu] at h1
    by_cases e : m = n
    · subst e
      rw [if_pos rfl] at h1
      cases h1
      have h2 : S.R m = some (.fml g) := h2
      rw [hr] at h2
      cases h2
      exact ⟨ht, kt⟩
    · rw [if_neg e] at h1
      exact ok.asked m q g h1 h2
  · rw [eF]
    exact ok.phi
theorem Ls.Ok.ends (ok : S.Ok) (hr : S.R n = some (.fml f)) (hp : lkA S.rd n = some p) (ha : lkA S.an n = none) (ht : Asked f p.2) (kt : Kn (known S.R S.F) p.2) (hd : nx f p.2 = .done v w) : (S.ends n v).Ok := by
  have eF := Ls.ends_F (v := v) hp (ok.ls n ha)
  have hn := Ls.F_none ha
  refine ⟨ok.lr, ok.ru, ok.all, ok.dom, ok.nrd, nodup_pu ok.nan, fun m x h => ?_, fun m q g h1 h2 => ?_, fun m h => ?_, ?_⟩
  · have h : lkA (puA S.an n v) m = some x := h
    rw [lkA_pu] at h
    by_cases e : m = n
    · subst e; exact ⟨f, hr⟩
    · rw [if_neg e] at h; exact ok.an m x h
  · rw [eF]
    obtain ⟨h3, h4⟩ := ok.asked m q g h1 h2
    exact ⟨h3, h4.mono (known_mono (putF_ext hn))⟩
  · have h : lkA (puA S.an n v) m = none := h
    rw [lkA_pu] at h
    by_cases e : m = n
    · rw [if_pos e] at h; cases h
    · rw [if_neg e] at h; exact ok.ls m h
  · rw [eF]
    obtain ⟨τ, c, ph, b⟩ := ok.phi
    exact ⟨_, _, ph.done b hr hn ht kt hd, below_put b⟩
theorem Ls.worth_none (h : S.worth n = none) : ∃ g, S.R n = some (.fml g) ∧ lkA S.an n = none := by
  unfold Ls.worth at h
  cases hr : S.R n with
  | none => rw [hr] at h; cases h
  | some r =>
    rw [hr] at h
    cases r with
    | inp v => cases h
    | fml g => exact ⟨g, rfl, h⟩
end
def Ru.isF : Ru → Bool
  | .fml _ => true
  | _ => false
def fmls (rs : List (Nm × Ru)) : List Nm := (rs.filter fun p => p.2.isF).map (·.1)
theorem fmls_mem {rs : List (Nm × Ru)} {n : Nm} (nd : (rs.map (·.1)).Nodup) : n ∈ fmls rs ↔ ∃ f, lkA rs n = some (.fml f) := by
  unfold fmls
  rw [List.mem_map]
  constructor
  · rintro ⟨⟨m, r⟩, h, rfl⟩
    obtain ⟨h1, h2⟩ := List.mem_filter.mp h
    cases r with
    | inp v => cases h2
    | fml f => exact ⟨f, mem_lk nd h1⟩
  · rintro ⟨f, h⟩
    exact ⟨(n, .fml f), List.mem_filter.mpr ⟨lkA_mem h, rfl⟩, rfl⟩
theorem fmls_nd {rs : List (Nm × Ru)} (nd : (rs.map (·.1)).Nodup) : (fmls rs).Nodup := nd.sublist (List.filter_sublist.map _)
theorem fmls_len (rs : List (Nm × Ru)) : (fmls rs).length ≤ rs.length := by
  unfold fmls
  rw [List.length_map]
  exact List.length_filter_le _ _
/-- the least of some names -/
theorem least_of {ρ : Nm → Nat} {Q : Nm → Prop} [DecidablePred Q] : ∀ (k : Nat) (n : Nm), ρ n ≤ k → Q n → ∃ m, Q m ∧ ∀ x, Q x → ρ m ≤ ρ x
  | 0, n, h, q => ⟨n, q, fun x _ => by omega⟩
  | k + 1, n, h, q => by
    by_cases c : ∃ x, Q x ∧ ρ x ≤ k
    · obtain ⟨x, hx, hk⟩ := c
      exact least_of k x hk hx
    · refine ⟨n, q, fun x hx => ?_⟩
      have : ¬ ρ x ≤ k := fun z => c ⟨x, hx, z⟩
      omega

/-! ### who comes back to himself -/
def nxA (l : List (Nm × Nm)) (n : Nm) : Nm := (lkA l n).getD []
def backB (l : List (Nm × Nm)) (p : Nm × Nm) : Bool := (List.range l.length).any fun k => decide (itn (nxA l) k p.2 = p.1)
def rngs (l : List (Nm × Nm)) : List Nm := (l.filter (backB l)).map (·.1)
def txD (n : Nm) : D := .str (tx n)
def nmsE (ns : List Nm) : List D := ns.map txD
theorem itn_out (s : Nm → Nm) (k : Nat) (n : Nm) : itn s (k + 1) n = s (itn s k n) := by
  rw [itn_add s k 1 n]
  rfl
def W_lr2 : Wt := fun ds M k => ∃ (d : Addr) (l : List (Nm × Nm)), ds = [.ref d] ∧ M = [(d, .dK (kvD txD l))] ∧ (l.map (·.1)).Nodup ∧ l.length ≤ 24 ∧ k (.lst (nmsE (rngs l))) [(d, .dK (kvD txD l))]
theorem filter_take {α : Type} {p : α → Bool} {l : List α} {i : Nat} {x : α} (h : l[i]? = some x) : (l.take (i + 1)).filter p = (l.take i).filter p ++ (if p x then [x] else []) := by
  rw [List.take_add_one, h, List.filter_append]
  congr 1
  show List.filter p [x] = _
  cases c : p x with
  | true => rw [List.filter_cons_of_pos (by rw [c])]; rfl
  | false => rw [List.filter_cons_of_neg (by rw [c]; decide)]; rfl
theorem empty_tx : Str.ofString "" = tx [] := by decide +kernel
section
variable {P : Program} {w : World} {K : PySem.W.Frag} {mg : Str → Option Value} {base : Heap}
theorem c__law_rings (T : Top K mg w) : Cal P w K mg base 1 "_law_rings" (Spc K W_lr2) [] := cal_of T.d__law_rings fun f fd F => by
  exact spc_ok F sc__law_rings (fun ds M k h => by obtain ⟨d, l, rfl, _⟩ := h; rfl) fun cdv A outer s H E hr => ⟨_, (pss_cons (ps_set (i := 1) sc__law_rings.nd rfl (Or.inl rfl) (pe_lstM (pe_lst pa_nil)))
      (pss_cons (ps_lock (ps_for PassesOwn.never rfl (keys_K (pv 0)) (pg_name (i := 2) sc__law_rings.nd rfl (Or.inl rfl))
      (pss_cons (ps_set (i := 3) sc__law_rings.nd rfl (Or.inl rfl) (pe_dget (hu_of hr) (pv 0) (pv 2) (fun _ _ => rfl)))
      (pss_one (ps_for PassesOwn.never rfl (pi_range1 (by rfl) T.m_range (pa_cons (pe_callB lenDR_K (by rfl) T.m_len (by decide +kernel) (pa_cons (pv 0) pa_nil)) pa_nil)) (pg_name (i := 4) sc__law_rings.nd rfl (Or.inl rfl))
      (pss_cons (ps_if (pt_cmpR (eqU_K (K := K) hr) (pv 3) (pv 2) (nomark _))
      (pss_cons (ps_expr (app_K (K := K) (pe_bm PySem.F.plainAttrs_list PySem.F.slot_list_append PySem.F.type_list_append mt_append (pv 1) (pa_cons (pv 2) pa_nil))))
      (pss_one ps_break))
      pss_nil)
      (pss_one (ps_set (i := 3) sc__law_rings.nd rfl (Or.inl rfl) (pe_dget2 (hu_of hr) (pv 0) (pv 3) pe_str ⟨rfl, rfl, rfl, rfl⟩)))))))))
      (pss_one (ps_ret (pv 1))))), fun ds M kk hw => by
    obtain ⟨d, l, rfl, rfl, nd, hl, q⟩ := hw
    have hsz := sizeLine_eq
    refine as_start (δ' := [some (.ref d), none, none, none, none]) rfl ?_
    walk_at "tg"
    intro fa
    refine as_seq (as_lock ⟨d, kvD txD l, [], [(fa, .lst [])], rfl, fun od ps => ?_⟩)
    refine as_forW (ai_keysW (ae_var rfl ⟨d, od, ps, kvD txD l, rfl, by simp, ?_⟩))
    have hlen : ((kvD txD l).map fun p => keyD p.1).length = l.length := by rw [List.length_map, kvD_len]
    refine ⟨fun i δ' M' => ∃ y2 y3 y4, δ' = [some (.ref d), some (.ref fa), y2, y3, y4] ∧ M' = [(d, .dF od ps (kvD txD l)), (fa, .lst (nmsE (((l.take i).filter (backB l)).map (·.1))))], ⟨_, _, _, rfl, rfl⟩, ?_, ?_, ?_⟩
    · rintro i δ' M' ⟨y2, y3, y4, rfl, rfl⟩ p hp
      rw [List.mem_singleton.mp hp]
      simp
    · rintro i d' δ' M' hd ⟨y2, y3, y4, rfl, rfl⟩
      obtain ⟨⟨n, m⟩, hi, rfl⟩ : ∃ p : Nm × Nm, l[i]? = some p ∧ d' = .str (tx p.1) := by
        rw [List.getElem?_map] at hd
        obtain ⟨x, hx, rfl⟩ := Option.map_eq_some_iff.mp hd
        unfold kvD at hx
        rw [List.getElem?_map] at hx
        obtain ⟨p, hp, rfl⟩ := Option.map_eq_some_iff.mp hx
        exact ⟨p, hp, rfl⟩
      have hlk := mem_lk nd (List.mem_of_getElem? hi)
      have hft := filter_take (p := backB l) hi
      have hin : i < l.length := (List.getElem?_eq_some_iff.mp hi).1
      have hsm : (((l.take i).filter (backB l)).map (·.1)).length ≤ 24 := by
        rw [List.length_map]
        refine Nat.le_trans (List.length_filter_le _ _) ?_
        rw [List.length_take]
        omega
      refine ag_name ?_
      refine as_seq (as_set (ae_dgetF (ae_var rfl (ae_var rfl ⟨d, od, ps, kvD txD l, .inr (tx n), .str (tx m), rfl, rfl, by simp, by rw [valD_kv, hlk]; rfl, ?_⟩))))
      refine as_for (ai_range1 (aa_cons (ae_cb (aa_cons (ae_var rfl (aa_nil (ac_lenDF (od := od) (ps := ps) (kvs := kvD txD l) (by simp) (aa_nil ?_))))))))
      rw [kvD_len]
      refine ⟨_, rfl, by omega, by omega, ?_⟩
      rw [Int.toNat_natCast]
      refine ⟨fun j δ' M' => ∃ y4, (∀ k, k < j → itn (nxA l) k m ≠ n) ∧ δ' = [some (.ref d), some (.ref fa), some (.str (tx n)), some (.str (tx (itn (nxA l) j m))), y4] ∧ M' = [(d, .dF od ps (kvD txD l)), (fa, .lst (nmsE (((l.take i).filter (backB l)).map (·.1))))], ⟨_, fun k hk => by omega, rfl, rfl⟩, ?_, ?_⟩
      · rintro j d2 δ' M' hd2 ⟨y4, hno, rfl, rfl⟩
        obtain ⟨hj, rfl⟩ := rng_get hd2
        refine ag_name ?_
        refine as_seq ?_
        walk_at "tg"
        refine ar_eqS rfl ?_
        walk_at "tg"
        refine dcase (fun c => ?_) (fun c => ?_)
        · have c' : itn (nxA l) j m = n := tx_inj c
          have hb : backB l (n, m) = true := List.any_eq_true.mpr ⟨j, List.mem_range.mpr hj, decide_eq_true c'⟩
          walk_at "tg"
          refine app1 (by unfold nmsE; rw [List.length_map]; omega) ?_
          walk_at "tg"
          refine ⟨_, _, _, rfl, ?_⟩
          rw [hft, if_pos hb, List.map_append]
          unfold nmsE
          rw [List.map_append]
          rfl
        · have c' : itn (nxA l) j m ≠ n := fun z => c (by rw [z])
          refine as_next ?_
          refine as_set ?_
          refine ae_dget2F (ae_var rfl ⟨⟨d, od, ps, kvD txD l, rfl, List.mem_cons_self⟩, ?_⟩)
          refine ae_var rfl ?_
          refine ae_str ?_
          refine ⟨d, od, ps, kvD txD l, .inr (tx (itn (nxA l) j m)), rfl, rfl, List.mem_cons_self, ?_⟩
          rw [valD_kv, empty_tx]
          have e : ((lkA l (itn (nxA l) j m)).map txD).getD (.str (tx [])) = .str (tx (itn (nxA l) (j + 1) m)) := by
            rw [itn_out]
            unfold nxA
            cases lkA l (itn _ j m) <;> rfl
          rw [e]
          exact ⟨_, fun k hk => by
            rcases Nat.lt_succ_iff_lt_or_eq.mp hk with h | rfl
            · exact hno k h
            · exact c', rfl, rfl⟩
      · rintro δ' M' ⟨y4, hno, rfl, rfl⟩
        have hb : ¬ backB l (n, m) = true := fun z => by
          obtain ⟨k, hk, h⟩ := List.any_eq_true.mp z
          rw [rng_len] at hno
          exact hno k (List.mem_range.mp hk) (of_decide_eq_true h)
        refine ⟨_, _, _, rfl, ?_⟩
        rw [hft, if_neg hb, List.append_nil]
    · rintro δ' M' ⟨y2, y3, y4, rfl, rfl⟩
      rw [hlen, List.take_length]
      refine ⟨[], _, rfl, ?_⟩
      show AS K _ _ [(d, .dK (kvD txD l)), (fa, .lst _)] _
      refine frz1 (s := 1) rfl ?_
      walk_at "tg"
      exact q⟩
end

/-! ### rings that the law finds -/
section
variable {l : List (Nm × Nm)}
theorem rngs_mem (nd : (l.map (·.1)).Nodup) {n : Nm} : n ∈ rngs l ↔ ∃ m, lkA l n = some m ∧ ∃ k, k < l.length ∧ itn (nxA l) k m = n := by
  unfold rngs
  rw [List.mem_map]
  constructor
  · rintro ⟨⟨x, m⟩, h, rfl⟩
    obtain ⟨h1, h2⟩ := List.mem_filter.mp h
    obtain ⟨k, hk, h3⟩ := List.any_eq_true.mp h2
    exact ⟨m, mem_lk nd h1, k, List.mem_range.mp hk, of_decide_eq_true h3⟩
  · rintro ⟨m, h, k, hk, e⟩
    exact ⟨(n, m), List.mem_filter.mpr ⟨lkA_mem h, List.any_eq_true.mpr ⟨k, List.mem_range.mpr hk, decide_eq_true e⟩⟩, rfl⟩
theorem nxA_of {n m : Nm} (h : lkA l n = some m) : nxA l n = m := by
  unfold nxA
  rw [h]
  rfl
theorem rngs_there (nd : (l.map (·.1)).Nodup) (cl : ∀ n m, lkA l n = some m → ∃ m', lkA l m = some m') (hne : l ≠ []) : rngs l ≠ [] := by
  have key : ∀ n, n ∈ l.map (·.1) → ∃ m, lkA l n = some m := fun n hn => by
    cases h : lkA l n with
    | none => exact absurd hn (lkA_none.mp h)
    | some m => exact ⟨m, rfl⟩
  obtain ⟨x, hx⟩ : ∃ x, x ∈ l.map (·.1) := by
    cases l with
    | nil => exact absurd rfl hne
    | cons p r => exact ⟨p.1, by simp⟩
  obtain ⟨n, hn, k, hk, e⟩ := ring_there (s := nxA l) (fun n hn => by
    obtain ⟨m, hm⟩ := key n hn
    obtain ⟨m', hm'⟩ := cl n m hm
    rw [nxA_of hm]
    exact List.mem_map.mpr ⟨_, lkA_mem hm', rfl⟩) hx
  obtain ⟨m, hm⟩ := key n hn
  rw [nxA_of hm] at e
  rw [List.length_map] at hk
  intro z
  have : n ∈ rngs l := (rngs_mem nd).mpr ⟨m, hm, k, hk, e⟩
  rw [z] at this
  cases this
end
theorem fold_pu {α : Type} {g : Nm → α} : ∀ (ns : List Nm) (l : List (Nm × α)) (x : Nm), lkA (ns.foldl (fun a n => puA a n (g n)) l) x = if x ∈ ns then some (g x) else lkA l x
  | [], l, x => by simp
  | n :: ns, l, x => by
    rw [List.foldl_cons, fold_pu ns (puA l n (g n)) x, lkA_pu]
    by_cases c : x ∈ ns
    · rw [if_pos c, if_pos (List.mem_cons_of_mem _ c)]
    · rw [if_neg c]
      by_cases d : x = n
      · subst d
        rw [if_pos rfl, if_pos (by simp)]
      · rw [if_neg d, if_neg (by simp [d, c])]
theorem fold_nd {α : Type} {g : Nm → α} : ∀ (ns : List Nm) (l : List (Nm × α)), (l.map (·.1)).Nodup → ((ns.foldl (fun a n => puA a n (g n)) l).map (·.1)).Nodup
  | [], l, h => h
  | n :: ns, l, h => by
    rw [List.foldl_cons]
    exact fold_nd ns _ (nodup_pu h)
def Ls.rings (S : Ls) (l : List (Nm × Nm)) (ns : List Nm) : Ls := { S with an := ns.foldl (fun a n => puA a n .cyc) S.an, ls := ns.foldl (fun a n => puA a n (some (nxA l n))) S.ls }
def Ls.td (S : Ls) (n : Nm) : Td := ((lkA S.rd n).map (·.2)).getD []
/-- each asks another one that is under way -/
def Asl (S : Ls) (l : List (Nm × Nm)) : Prop := ∀ n m, lkA l n = some m → lkA S.an n = none ∧ (∃ m', lkA l m = some m') ∧ ∃ f p w, S.R n = some (.fml f) ∧ lkA S.rd n = some p ∧ nx f p.2 = .ask m w
section
variable {S : Ls} {l : List (Nm × Nm)}
theorem Ls.ring_of (ok : S.Ok) (nd : (l.map (·.1)).Nodup) (hl : Asl S l) : Ring S.R S.F (fun n => n ∈ rngs l) (nxA l) S.td := by
  refine ⟨fun n hn => ?_, fun n hn => ?_, fun n hn => ?_⟩
  · obtain ⟨m, hm, k, hk, e⟩ := (rngs_mem nd).mp hn
    obtain ⟨_, ⟨m', hm'⟩, _⟩ := hl n m hm
    show nxA l n ∈ rngs l
    rw [nxA_of hm]
    refine (rngs_mem nd).mpr ⟨m', hm', k, hk, ?_⟩
    have : itn (nxA l) k (nxA l m) = nxA l (itn (nxA l) k m) := by
      rw [← itn_out (nxA l) k m]
      rfl
    rw [nxA_of hm', e, nxA_of hm] at this
    exact this
  · obtain ⟨m, hm, k, hk, e⟩ := (rngs_mem nd).mp hn
    exact ⟨k, by rw [nxA_of hm]; exact e⟩
  · obtain ⟨m, hm, k, hk, e⟩ := (rngs_mem nd).mp hn
    obtain ⟨h1, _, f, p, w, h3, h4, h5⟩ := hl n m hm
    have ht : S.td n = p.2 := by unfold Ls.td; rw [h4]; rfl
    obtain ⟨h6, h7⟩ := ok.asked n p f h4 h3
    rw [ht, nxA_of hm]
    exact ⟨Ls.F_none h1, f, w, h3, h6, h7, h5⟩
theorem Ls.rings_F (nd : (l.map (·.1)).Nodup) (hl : Asl S l) : (S.rings l (rngs l)).F = putR S.F (fun n => n ∈ rngs l) (nxA l) S.td := by
  funext n
  show (match lkA ((rngs l).foldl (fun a n => puA a n Vl.cyc) S.an) n, lkA S.rd n with
    | some v, some p => some (⟨p.2, v, (lkA ((rngs l).foldl (fun a n => puA a n (some (nxA l n))) S.ls) n).getD none⟩ : En)
    | _, _ => none) = _
  rw [fold_pu (g := fun _ => Vl.cyc), fold_pu (g := fun n => some (nxA l n))]
  unfold putR
  by_cases c : n ∈ rngs l
  · obtain ⟨m, hm, k, hk, e⟩ := (rngs_mem nd).mp c
    obtain ⟨h1, _, f, p, w, h3, h4, h5⟩ := hl n m hm
    have ht : S.td n = p.2 := by unfold Ls.td; rw [h4]; rfl
    rw [if_pos c, if_pos c, if_pos c, h4, ht]
    rfl
  · rw [if_neg c, if_neg c, if_neg c]
    rfl
theorem Ls.rings_ok (ok : S.Ok) (nd : (l.map (·.1)).Nodup) (hl : Asl S l) : (S.rings l (rngs l)).Ok := by
  have rg := Ls.ring_of ok nd hl
  have eF := Ls.rings_F nd hl
  refine ⟨ok.lr, ok.ru, ok.all, ok.dom, ok.nrd, fold_nd _ _ ok.nan, fun n v h => ?_, fun n p f h1 h2 => ?_, fun n h => ?_, ?_⟩
  · have h : lkA ((rngs l).foldl (fun a n => puA a n Vl.cyc) S.an) n = some v := h
    rw [fold_pu (g := fun _ => Vl.cyc)] at h
    by_cases c : n ∈ rngs l
    · obtain ⟨m, hm, k, hk, e⟩ := (rngs_mem nd).mp c
      obtain ⟨h1, _, f, p, w, h3, h4, h5⟩ := hl n m hm
      exact ⟨f, h3⟩
    · rw [if_neg c] at h
      exact ok.an n v h
  · rw [eF]
    obtain ⟨h3, h4⟩ := ok.asked n p f h1 h2
    exact ⟨h3, h4.mono (known_mono (putR_ext rg))⟩
  · have h : lkA ((rngs l).foldl (fun a n => puA a n Vl.cyc) S.an) n = none := h
    show (lkA ((rngs l).foldl (fun a n => puA a n (some (nxA l n))) S.ls) n).getD none = none
    rw [fold_pu (g := fun _ => Vl.cyc)] at h
    rw [fold_pu (g := fun n => some (nxA l n))]
    by_cases c : n ∈ rngs l
    · rw [if_pos c] at h
      cases h
    · rw [if_neg c] at h ⊢
      exact ok.ls n h
  · rw [eF]
    obtain ⟨τ, c, ph, b⟩ := ok.phi
    exact ⟨_, _, ph.ring b rg, below_ring b⟩
end

/-! ### the law works the answers out, from nothing -/
theorem fmls_take {rs : List (Nm × Ru)} {i : Nat} {p : Nm × Ru} (h : rs[i]? = some p) : fmls (rs.take (i + 1)) = fmls (rs.take i) ++ (if p.2.isF then [p.1] else []) := by
  unfold fmls
  rw [List.take_add_one, h, List.filter_append, List.map_append]
  congr 1
  show ((List.filter (fun p => p.2.isF) [p]).map (·.1)) = _
  cases c : p.2.isF with
  | true => rw [List.filter_cons_of_pos (by rw [c])]; rfl
  | false => rw [List.filter_cons_of_neg (by rw [c]; decide)]; rfl
theorem putD_new {kvs : List (Key × D)} {q : Key} {v : D} (h : ∀ kv ∈ kvs, decide (kv.1 = q) = false) : putD kvs q v = kvs ++ [(q, v)] := by
  unfold putD
  rw [if_neg]
  intro z
  obtain ⟨kv, h1, h2⟩ := List.any_eq_true.mp z
  rw [h kv h1] at h2
  cases h2
theorem merge_st (a : La) : mergeD [] (stKV a) = stKV a := by
  have k12 : decide ((Sum.inr (Str.ofString "rules") : Key) = .inr (Str.ofString "answers")) = false := by decide +kernel
  have k13 : decide ((Sum.inr (Str.ofString "rules") : Key) = .inr (Str.ofString "reads")) = false := by decide +kernel
  have k14 : decide ((Sum.inr (Str.ofString "rules") : Key) = .inr (Str.ofString "last")) = false := by decide +kernel
  have k23 : decide ((Sum.inr (Str.ofString "answers") : Key) = .inr (Str.ofString "reads")) = false := by decide +kernel
  have k24 : decide ((Sum.inr (Str.ofString "answers") : Key) = .inr (Str.ofString "last")) = false := by decide +kernel
  have k34 : decide ((Sum.inr (Str.ofString "reads") : Key) = .inr (Str.ofString "last")) = false := by decide +kernel
  have h1 : putD ([] : List (Key × D)) (.inr (Str.ofString "rules")) (.ref a.ru) = [(.inr (Str.ofString "rules"), .ref a.ru)] := putD_new (fun kv h => nomatch h)
  have h2 : putD [((.inr (Str.ofString "rules") : Key), D.ref a.ru)] (.inr (Str.ofString "answers")) (.ref a.an) = [(.inr (Str.ofString "rules"), .ref a.ru), (.inr (Str.ofString "answers"), .ref a.an)] := putD_new (fun kv h => by
    rw [List.mem_singleton.mp h]
    exact k12)
  have h3 : putD [((.inr (Str.ofString "rules") : Key), D.ref a.ru), (.inr (Str.ofString "answers"), .ref a.an)] (.inr (Str.ofString "reads")) (.ref a.rd) = [(.inr (Str.ofString "rules"), .ref a.ru), (.inr (Str.ofString "answers"), .ref a.an), (.inr (Str.ofString "reads"), .ref a.rd)] := putD_new (fun kv h => by
    simp only [List.mem_cons, List.not_mem_nil, or_false] at h
    rcases h with rfl | rfl
    · exact k13
    · exact k23)
  have h4 : putD [((.inr (Str.ofString "rules") : Key), D.ref a.ru), (.inr (Str.ofString "answers"), .ref a.an), (.inr (Str.ofString "reads"), .ref a.rd)] (.inr (Str.ofString "last")) (.ref a.la) = stKV a := putD_new (fun kv h => by
    simp only [List.mem_cons, List.not_mem_nil, or_false] at h
    rcases h with rfl | rfl | rfl
    · exact k14
    · exact k24
    · exact k34)
  unfold mergeD stKV
  rw [List.foldl_cons, List.foldl_cons, List.foldl_cons, List.foldl_cons, List.foldl_nil]
  dsimp only
  rw [h1, h2, h3, h4]
  rfl
theorem Ls.start_ok {S : Ls} (lr : S.rs.length ≤ 24) (nd : (S.rs.map (·.1)).Nodup) (okf : ∀ n f, lkA S.rs n = some (.fml f) → OkF 4 f) (e2 : S.an = []) (e3 : S.rd.map (·.1) = fmls S.rs) (e5 : ∀ r ∈ S.rd, r.2.2 = []) (e6 : ∀ r ∈ S.ls, r.2 = none) : S.Ok := by
  have hF : S.F = fun _ => none := by
    funext m
    unfold Ls.F
    rw [e2]
    rfl
  have hno : ∀ n, lkA S.an n = none := fun n => by rw [e2]; rfl
  refine ⟨lr, okf, fun n f h => ?_, fun n p h => ?_, by rw [e3]; exact fmls_nd nd, by rw [e2]; exact List.nodup_nil, (fun n v h => by rw [hno] at h; cases h), fun n p f h1 h2 => ?_, fun n _ => ?_, ?_⟩
  · have hm : n ∈ S.rd.map (·.1) := by rw [e3]; exact (fmls_mem nd).mpr ⟨f, h⟩
    cases hl : lkA S.rd n with
    | none => exact absurd hm (lkA_none.mp hl)
    | some p => exact ⟨p, rfl⟩
  · have hm : n ∈ S.rd.map (·.1) := List.mem_map.mpr ⟨_, lkA_mem h, rfl⟩
    rw [e3] at hm
    exact (fmls_mem nd).mp hm
  · have : p.2 = [] := e5 _ (lkA_mem h1)
    rw [this]
    exact ⟨asked_nil f, fun n v h => nomatch h⟩
  · cases h : lkA S.ls n with
    | none => rfl
    | some x => exact e6 _ (lkA_mem h)
  · rw [hF]
    exact ⟨fun _ => 0, 0, phi_none, fun n e h => nomatch h⟩
theorem fold_len {α : Type} {g : Nm → α} : ∀ (ns : List Nm) (l : List (Nm × α)), l.length ≤ (ns.foldl (fun a n => puA a n (g n)) l).length ∧ (ns.foldl (fun a n => puA a n (g n)) l).length ≤ l.length + ns.length
  | [], l => ⟨Nat.le_refl _, Nat.le_refl _⟩
  | n :: ns, l => by
    rw [List.foldl_cons, List.length_cons]
    obtain ⟨h1, h2⟩ := fold_len (g := g) ns (puA l n (g n))
    have h3 := puA_len (l := l) (n := n) (x := g n)
    have h4 : l.length ≤ (puA l n (g n)).length := by unfold puA; split <;> simp
    omega
theorem fold_keys {α : Type} {g : Nm → α} : ∀ (ns : List Nm) (l : List (Nm × α)), (∀ n ∈ ns, n ∈ l.map (·.1)) → (ns.foldl (fun a n => puA a n (g n)) l).map (·.1) = l.map (·.1)
  | [], l, _ => rfl
  | n :: ns, l, h => by
    have e : (puA l n (g n)).map (·.1) = l.map (·.1) := by rw [keys_pu, if_pos (h n (by simp))]
    rw [List.foldl_cons, fold_keys ns (puA l n (g n)) fun m hm => by rw [e]; exact h m (List.mem_cons_of_mem _ hm), e]
theorem fold_snoc {α : Type} {g : Nm → α} {ns : List Nm} {l : List (Nm × α)} {n : Nm} : (ns ++ [n]).foldl (fun a n => puA a n (g n)) l = puA (ns.foldl (fun a n => puA a n (g n)) l) n (g n) := by
  rw [List.foldl_append]
  rfl
theorem fold_grow {α : Type} {g : Nm → α} {n : Nm} {ns : List Nm} {l : List (Nm × α)} (h : n ∉ l.map (·.1)) : l.length + 1 ≤ ((n :: ns).foldl (fun a n => puA a n (g n)) l).length := by
  rw [List.foldl_cons]
  have := (fold_len (g := g) ns (puA l n (g n))).1
  rw [puA_new h, List.length_append, List.length_singleton] at this
  rw [puA_new h]
  exact this
def W_lfn : Wt := fun ds M k => ∃ (ru : Addr) (rs : List (Nm × Ru)), ds = [.ref ru] ∧ M = [(ru, .dK (kvD lrD rs))] ∧ rs.length ≤ 24 ∧ (rs.map (·.1)).Nodup ∧ (∀ n f, lkA rs n = some (.fml f) → OkF 4 f) ∧
  ∀ (a : La) (S : Ls), a.ru = ru → S.rs = rs → S.Ok → (∀ n f, lkA rs n = some (.fml f) → ∃ v, lkA S.an n = some v) → (∀ n f, lkA rs n = some (.fml f) → ∃ lo, lkA S.ls n = some lo) → k (.ref a.st) (S.m a)
section
variable {P : Program} {w : World} {K : PySem.W.Frag} {mg : Str → Option Value} {base : Heap}
theorem c__law_from_nothing (T : Top K mg w) : Cal P w K mg base 8 "_law_from_nothing" (Spc K W_lfn) [] := cal_of T.d__law_from_nothing fun f fd F => by
  have c__law_go_on := c__law_go_on (P := P) (w := w) (base := base) T
  have c__law_rings := c__law_rings (P := P) (w := w) (base := base) T
  exact spc_ok F sc__law_from_nothing (fun ds M k h => by obtain ⟨ru, rs, rfl, _⟩ := h; rfl) fun cdv A outer s H E hr => ⟨_, (pss_cons (ps_lock (ps_setLc (i := 1) (own := [("name", 2)]) (g := gName 2) rfl sc__law_from_nothing.nd rfl rfl (sw_true rfl rfl rfl (by decide +kernel)) (keys_K (pv 0)) (blkOk_by (own := [("name", 2)]) (N := ["rules", "formulas", "name", "state", "reads", "last", "answers", "turn", "asked", "before", "other"]) (sc := defScope s__law_from_nothing) (by decide +kernel)) (fun _ _ _ _ _ => (pg_name (i := 2) sc__law_from_nothing.nd rfl (Or.inl rfl))) (fun _ _ _ _ _ => (pts_one (pt_cmpR (eqU_K (K := K) hr) (pe_ix (ix_K (K := K)) (pe_dget (hu_of hr) (pv 0) (pv 2) (fun _ _ => rfl)) pe_int (fun _ _ => rfl)) pe_str (nomark _)))) (fun _ _ _ _ _ => (pv 2))))
      (pss_cons (ps_set (i := 3) sc__law_from_nothing.nd rfl (Or.inl rfl) (pe_disp (pps_cons pe_str (pv 0) (pps_cons pe_str pe_dnewK (pps_cons pe_str pe_dnewK (pps_cons pe_str pe_dnewK pps_nil)))) (by rfl) (by rfl) (fun z => by cases z) (by decide)))
      (pss_cons (ps_set (i := 4) sc__law_from_nothing.nd rfl (Or.inl rfl) (pe_dget (hu_of hr) (pv 3) pe_str (fun _ _ => rfl)))
      (pss_cons (ps_set (i := 5) sc__law_from_nothing.nd rfl (Or.inl rfl) (pe_dget (hu_of hr) (pv 3) pe_str (fun _ _ => rfl)))
      (pss_cons (ps_set (i := 6) sc__law_from_nothing.nd rfl (Or.inl rfl) (pe_dget (hu_of hr) (pv 3) pe_str (fun _ _ => rfl)))
      (pss_cons (ps_for PassesOwn.never rfl (seq_K (K := K) (pv 1)) (pg_name (i := 2) sc__law_from_nothing.nd rfl (Or.inl rfl))
      (pss_cons (ps_asg (pe_lstM (pe_lst pa_nil)) (pg_sub (pv 4) (pv 2) (set_any (hu_of hr))))
      (pss_one (ps_asg pe_non (pg_sub (pv 5) (pv 2) (set_any (hu_of hr)))))))
      (pss_cons (ps_for PassesOwn.never rfl (pi_range1 (by rfl) T.m_range (pa_cons (pe_op (add_K (K := K)) (pe_op op_mul (pe_op op_mul pe_int (pe_callB (len_K (K := K)) (by rfl) T.m_len (by decide +kernel) (pa_cons (pv 1) pa_nil))) (pe_callB (len_K (K := K)) (by rfl) T.m_len (by decide +kernel) (pa_cons (pv 1) pa_nil))) pe_int) pa_nil)) (pg_name (i := 7) sc__law_from_nothing.nd rfl (Or.inl rfl))
      (pss_cons (ps_set (i := 8) sc__law_from_nothing.nd rfl (Or.inl rfl) pe_dnewK)
      (pss_cons (ps_set (i := 9) sc__law_from_nothing.nd rfl (Or.inl rfl) (pe_callB lenDk_K (by rfl) T.m_len (by decide +kernel) (pa_cons (pv 6) pa_nil)))
      (pss_cons (ps_for PassesOwn.never rfl (seq_K (K := K) (pv 1)) (pg_name (i := 2) sc__law_from_nothing.nd rfl (Or.inl rfl))
      (pss_one (ps_if (pt_cmpR (notinDk_K (hu_of hr)) (pv 2) (pv 6) (by rfl))
      (pss_cons (ps_set (i := 10) sc__law_from_nothing.nd rfl (Or.inl rfl) (pe_c c__law_go_on hr (by first | decide | omega) (by rfl) (pa_cons (pv 3) (pa_cons (pv 2) pa_nil))))
      (pss_one (ps_if (pt_cmpR op_notN1 (pv 10) pe_non (nomark _))
      (pss_one (ps_asg (pv 10) (pg_sub (pv 8) (pv 2) (set_any (hu_of hr)))))
      pss_nil)))
      pss_nil)))
      (pss_one (ps_if (pt_cmpR (eqU_K (K := K) hr) (pe_callB lenDk_K (by rfl) T.m_len (by decide +kernel) (pa_cons (pv 6) pa_nil)) (pv 9) (nomark _))
      (pss_one (ps_for PassesOwn.never rfl (seq_K (K := K) (pe_c c__law_rings hr (by first | decide | omega) (by rfl) (pa_cons (pv 8) pa_nil))) (pg_name (i := 2) sc__law_from_nothing.nd rfl (Or.inl rfl))
      (pss_cons (ps_asg pe_str (pg_sub (pv 6) (pv 2) (set_any (hu_of hr))))
      (pss_one (ps_asg (pe_dget (hu_of hr) (pv 8) (pv 2) (fun _ _ => rfl)) (pg_sub (pv 5) (pv 2) (set_any (hu_of hr))))))))
      pss_nil))))))
      (pss_one (ps_ret (pv 3)))))))))), fun ds M kk hw => by
    obtain ⟨ru, rs, rfl, rfl, lr, nd, okf, q⟩ := hw
    have hsz := sizeLine_eq
    refine as_start (δ' := [some (.ref ru), none, none, none, none, none, none, none, none, none, none]) rfl ?_
    refine as_seq (as_lock ⟨ru, kvD lrD rs, [], [], rfl, fun od ps => ?_⟩)
    refine as_set (ae_lcW (ownG_name (by simp)) (ai_keysW (ae_var rfl ⟨ru, od, ps, kvD lrD rs, rfl, by simp, ?_⟩)))
    have hlen : ((kvD lrD rs).map fun p => keyD p.1).length = rs.length := by rw [List.length_map, kvD_len]
    refine ⟨by rw [hlen]; omega, fun i acc M' => M' = [(ru, .dF od ps (kvD lrD rs))] ∧ acc = nmsD (fmls (rs.take i)), ⟨rfl, rfl⟩, ?_, ?_, ?_⟩
    · rintro i acc M' ⟨rfl, _⟩ p hp
      exact hp
    · rintro i d acc M' hd ⟨rfl, rfl⟩
      obtain ⟨⟨n, r⟩, hi, rfl⟩ : ∃ p : Nm × Ru, rs[i]? = some p ∧ d = .str (tx p.1) := by
        rw [List.getElem?_map] at hd
        obtain ⟨x, hx, rfl⟩ := Option.map_eq_some_iff.mp hd
        unfold kvD at hx
        rw [List.getElem?_map] at hx
        obtain ⟨p, hp, rfl⟩ := Option.map_eq_some_iff.mp hx
        exact ⟨p, hp, rfl⟩
      have hlk := mem_lk nd (List.mem_of_getElem? hi)
      have hft := fmls_take hi
      walk_at "tg"
      refine ae_dgetF (ae_var rfl (ae_var rfl ⟨ru, od, ps, kvD lrD rs, .inr (tx n), lrD r, rfl, rfl, by simp, by rw [valD_kv, hlk]; rfl, ?_⟩))
      cases r with
      | inp v =>
        show AE K _ _ _ fun y M2 => AR K _ (.tup [.str (Str.ofString "input"), v.d]) y M2 _
        walk_at "tg"
        refine ar_eqS (b := false) (by decide +kernel) ?_
        walk_at "tg"
        exact ⟨rfl, by rw [hft]; simp [Ru.isF]⟩
      | fml f =>
        show AE K _ _ _ fun y M2 => AR K _ (.tup [.str (Str.ofString "formula"), f.d]) y M2 _
        walk_at "tg"
        refine ar_eqS (b := true) (by decide +kernel) ?_
        walk_at "tg"
        exact ⟨rfl, by rw [hft]; simp [Ru.isF, nmsD]⟩
    · rintro acc M' ⟨rfl, rfl⟩
      rw [hlen, List.take_length]
      refine ⟨[], [], rfl, ?_⟩
      show AS K _ _ [(ru, .dK (kvD lrD rs))] _
      walk_at "tg"
      refine ae_disp ?_
      unfold APs
      walk_at "tg"
      unfold APs
      walk_at "tg"
      intro an
      unfold APs
      walk_at "tg"
      intro rd
      unfold APs
      walk_at "tg"
      intro la
      unfold APs
      walk_at "tg"
      refine ⟨stKV ⟨ru, an, rd, la, ru⟩, rfl, by show 4 ≤ 15; decide, fun st => ?_⟩
      rw [merge_st]
      obtain ⟨a, ha⟩ : ∃ a : La, a = ⟨ru, an, rd, la, st⟩ := ⟨_, rfl⟩
      have hsm : (⟨rs, [], [], []⟩ : Ls).m a = ((([(ru, .dK (kvD lrD rs))] ++ [(an, .dK [])]) ++ [(rd, .dK [])]) ++ [(la, .dK [])]) ++ [(st, .dK (stKV ⟨ru, an, rd, la, ru⟩))] := by rw [ha]; rfl
      rw [← hsm]
      have hru : a.ru = ru := by rw [ha]
      obtain rfl : st = a.st := by rw [ha]
      clear hsm ha
      have ae_s : ∀ {δ : DS} {k : D → Mu → Prop} {M : Mu} {key : Str} {v : D}, δ[3]? = some (some (.ref a.st)) → (a.st, MO.dK (stKV a)) ∈ M → valD (stKV a) (.inr key) = some v → k v M → AE K (tDGet (tVar 3) (tC (.str key))) δ M k := fun h hm hv q => ae_dgetm (ae_var h (ae_str ⟨a.st, stKV a, .inr _, _, rfl, rfl, hm, hv, q⟩))
      obtain ⟨fs, hfs⟩ : ∃ fs, fs = fmls rs := ⟨_, rfl⟩
      have hfl : fs.length ≤ 24 := by rw [hfs]; exact Nat.le_trans (fmls_len rs) lr
      have hfn : fs.Nodup := by rw [hfs]; exact fmls_nd nd
      have hfm : ∀ n, n ∈ fs ↔ ∃ f, lkA rs n = some (.fml f) := fun n => by rw [hfs]; exact fmls_mem nd
      rw [← hfs]
      refine as_seq (as_set (ae_s rfl Ls.st_in st_reads ?_))
      refine as_seq (as_set (ae_s rfl Ls.st_in st_last ?_))
      refine as_seq (as_set (ae_s rfl Ls.st_in st_answers ?_))
      refine as_seq ?_
      walk_at "tg"
      refine ⟨fun i δ' M' => ∃ (S : Ls) (y : Option D), S.rs = rs ∧ S.an = [] ∧ S.rd.map (·.1) = fs.take i ∧ S.ls.map (·.1) = fs.take i ∧ (∀ r ∈ S.rd, r.2.2 = []) ∧ (∀ r ∈ S.ls, r.2 = none) ∧ M' = S.m a ∧
        δ' = [some (.ref ru), some (.lst (nmsD fs)), y, some (.ref a.st), some (.ref a.rd), some (.ref a.la), some (.ref a.an), none, none, none, none], ⟨⟨rs, [], [], []⟩, _, rfl, rfl, rfl, rfl, (fun r h => nomatch h), (fun r h => nomatch h), rfl, rfl⟩, ?_, ?_⟩
      · rintro i d δ' M' hd ⟨S, y, e1, e2, e3, e4, e5, e6, rfl, rfl⟩
        obtain ⟨n, hn, rfl⟩ : ∃ n, fs[i]? = some n ∧ d = .str (tx n) := by
          unfold nmsD at hd
          rw [List.getElem?_map] at hd
          obtain ⟨n, hn, rfl⟩ := Option.map_eq_some_iff.mp hd
          exact ⟨n, hn, rfl⟩
        have htk : fs.take (i + 1) = fs.take i ++ [n] := by rw [List.take_add_one, hn]; rfl
        have hnew : n ∉ fs.take i := fun z => by
          have h9 : (fs.take (i + 1)).Nodup := hfn.sublist (List.take_sublist _ _)
          rw [htk] at h9
          exact (List.nodup_append.mp h9).2.2 n z n (by simp) rfl
        have hl3 : S.rd.length ≤ 24 := by
          have h9 : (S.rd.map (·.1)).length ≤ fs.length := by rw [e3, List.length_take]; omega
          rw [List.length_map] at h9
          omega
        have hl4 : S.ls.length ≤ 24 := by
          have h9 : (S.ls.map (·.1)).length ≤ fs.length := by rw [e4, List.length_take]; omega
          rw [List.length_map] at h9
          omega
        walk_at "tg"
        intro ad
        walk_at "tg"
        refine put_d (M1 := [_, _]) rfl (key := .inr (tx n)) rfl (by rw [kvD_len]; omega) ?_
        have e : putD (kvD adD S.rd) (.inr (tx n)) (.ref ad) = kvD adD (puA S.rd n (ad, [])) := putD_kv (g := adD) (x := (ad, [])) S.rd
        rw [e, puA_new (by rw [e3]; exact hnew)]
        walk_at "tg"
        refine put_d (M1 := [_, _, _]) rfl (key := .inr (tx n)) rfl (by rw [kvD_len]; omega) ?_
        have e' : putD (kvD lsD S.ls) (.inr (tx n)) .non = kvD lsD (puA S.ls n none) := putD_kv (g := lsD) (x := none) S.ls
        rw [e', puA_new (by rw [e4]; exact hnew)]
        refine ⟨{ S with rd := S.rd ++ [(n, (ad, []))], ls := S.ls ++ [(n, none)] }, _, e1, e2, by rw [htk]; simp [e3], by rw [htk]; simp [e4], fun r hr => ?_, fun r hr => ?_, ?_, rfl⟩
        · rcases List.mem_append.mp hr with hr | hr
          · exact e5 r hr
          · rw [List.mem_singleton.mp hr]
        · rcases List.mem_append.mp hr with hr | hr
          · exact e6 r hr
          · rw [List.mem_singleton.mp hr]
        · simp [Ls.m, tlM, tlD]
      · rintro δ' M' ⟨S, y, e1, e2, e3, e4, e5, e6, rfl, rfl⟩
        have hnl : (nmsD fs).length = fs.length := List.length_map ..
        rw [hnl, List.take_length] at e3 e4
        have ok : S.Ok := Ls.start_ok (by rw [e1]; exact lr) (by rw [e1]; exact nd) (by rw [e1]; exact okf) e2 (by rw [e3, hfs, e1]) e5 e6
        clear e3 e5 e6
        refine as_seq ?_
        walk_at "tg"
        have hsq : fs.length * fs.length ≤ 24 * 24 := Nat.mul_le_mul hfl hfl
        have hj : 2 * ((nmsD fs).length : Int) * ((nmsD fs).length : Int) + 2 = ((2 * (fs.length * fs.length) + 2 : Nat) : Int) := by
          rw [hnl, Int.mul_assoc]
          omega
        rw [hj]
        refine ⟨by omega, by omega, ?_⟩
        rw [Int.toNat_natCast]
        have anl : ∀ {S : Ls}, S.Ok → S.rs = rs → S.an.length ≤ fs.length := fun {S} ok e1 => by
          have := nodup_sub (L := fs) ok.nan fun x hx => by
            cases h : lkA S.an x with
            | none => exact absurd hx (lkA_none.mp h)
            | some v =>
              obtain ⟨f, hf⟩ := ok.an x v h
              unfold Ls.R at hf
              rw [e1] at hf
              exact (hfm x).mpr ⟨f, hf⟩
          rw [List.length_map] at this
          exact this
        refine ⟨fun i δ' M' => ∃ (S : Ls) (J : Mu) (y x7 x8 x9 x10 : Option D), S.Ok ∧ (S.rs = rs ∧ S.ls.map (·.1) = fs) ∧ ((∀ n ∈ fs, (lkA S.an n).isSome = true) ∨ i ≤ S.an.length) ∧ M'.Perm (S.m a ++ J) ∧
          δ' = [some (.ref ru), some (.lst (nmsD fs)), y, some (.ref a.st), some (.ref a.rd), some (.ref a.la), some (.ref a.an), x7, x8, x9, x10], ⟨S, [], _, _, _, _, _, ok, ⟨e1, e4⟩, .inr (Nat.zero_le _), by rw [List.append_nil], rfl⟩, ?_, ?_⟩
        · clear ok e1 e2 e4
          rintro i d δ' M' hd ⟨S, J, y, x7, x8, x9, x10, ok, ⟨e1, els⟩, hc, hp, rfl⟩
          refine ag_name ?_
          refine as_lose hp ?_
          refine as_seq (as_set (ae_dnew fun ask => ?_))
          refine as_seq (as_set (ae_cb (aa_cons (ae_var rfl (aa_nil (ac_lenDm (List.mem_append_left _ Ls.an_in) ?_))))))
          rw [kvD_len]
          have hal := anl ok e1
          refine as_seq ?_
          walk_at "tg"
          refine ⟨fun j δ' M' => ∃ (S1 : Ls) (asl : List (Nm × Nm)) (more : List (Nm × Vl)) (y x10 : Option D), S1.Ok ∧ (S1.rs = rs ∧ S1.ls = S.ls) ∧ S1.an = S.an ++ more ∧
            ((asl.map (·.1)).Nodup ∧ (more = [] → ∀ n ∈ fs.take j, lkA S.an n = none → ∃ m, lkA asl n = some m)) ∧
            (∀ n m, lkA asl n = some m → n ∈ fs.take j ∧ lkA S.an n = none ∧ lkA S.an m = none ∧ (∃ g, lkA rs m = some (.fml g)) ∧ ∃ f p w, lkA rs n = some (.fml f) ∧ lkA S1.rd n = some p ∧ nx f p.2 = .ask m w) ∧ asl.length ≤ j ∧ j ≤ fs.length ∧ M' = S1.m a ++ [(ask, .dK (kvD txD asl))] ∧
            δ' = [some (.ref ru), some (.lst (nmsD fs)), y, some (.ref a.st), some (.ref a.rd), some (.ref a.la), some (.ref a.an), some d, some (.ref ask), some (.int (S.an.length : Nat)), x10],
            ⟨S, [], [], _, _, ok, ⟨e1, rfl⟩, (List.append_nil _).symm, ⟨List.nodup_nil, by simp⟩, (fun n m h => nomatch h), Nat.le_refl _, Nat.zero_le _, rfl, rfl⟩, ?_, ?_⟩
          · rintro j d' δ' M' hd' ⟨S1, asl, more, y, x10, ok1, ⟨e1', els1⟩, ea, ⟨nda, c1⟩, c2, hal1, hj1, rfl, rfl⟩
            obtain ⟨n, hn, rfl⟩ : ∃ n, fs[j]? = some n ∧ d' = .str (tx n) := by
              unfold nmsD at hd'
              rw [List.getElem?_map] at hd'
              obtain ⟨n, hn, rfl⟩ := Option.map_eq_some_iff.mp hd'
              exact ⟨n, hn, rfl⟩
            have hjl : j < fs.length := (List.getElem?_eq_some_iff.mp hn).1
            obtain ⟨fo, hnf⟩ := (hfm n).mp (List.mem_of_getElem? hn)
            have hR : S1.R n = some (.fml fo) := by unfold Ls.R; rw [e1']; exact hnf
            have htk : fs.take (j + 1) = fs.take j ++ [n] := by rw [List.take_add_one, hn]; rfl
            have old : ∀ x, (lkA S.an x).isSome = true → (lkA S1.an x).isSome = true := fun x hx => by
              rw [ea, lkA_app]
              obtain ⟨v, hv⟩ := Option.isSome_iff_exists.mp hx
              rw [hv]
              rfl
            have mono : ∀ x, x ∈ fs.take j → x ∈ fs.take (j + 1) := fun x hx => by rw [htk]; exact List.mem_append_left _ hx
            have hnin : n ∉ fs.take j := fun z => by
              have h9 : (fs.take (j + 1)).Nodup := hfn.sublist (List.take_sublist _ _)
              rw [htk] at h9
              exact (List.nodup_append.mp h9).2.2 n z n (by simp) rfl
            refine ag_name ?_
            refine as_if (at_test (ae_op (ae_var rfl (ae_var rfl (ar_notinDm (List.mem_append_left _ Ls.an_in) (key := .inr (tx n)) rfl ?_)))))
            rw [valD_kv]
            cases ha : lkA S1.an n with
            | some v =>
              refine ⟨_, rfl, fun z => (nomatch z), fun _ => as_next ?_⟩
              refine ⟨S1, asl, more, _, _, ok1, ⟨e1', els1⟩, ea, ⟨nda, fun hm x hx hc' => ?_⟩, fun x y h => ⟨mono x (c2 x y h).1, (c2 x y h).2⟩, by omega, by omega, rfl, rfl⟩
              rw [htk] at hx
              rcases List.mem_append.mp hx with hx | hx
              · exact c1 hm x hx hc'
              · rw [List.mem_singleton.mp hx] at hc'
                rw [ea, hm, List.append_nil, hc'] at ha
                cases ha
            | none =>
              have hno : ¬ (lkA S.an n).isSome = true := fun z => by
                have := old n z
                rw [ha] at this
                cases this
              refine ⟨_, rfl, fun _ => ?_, fun z => nomatch z⟩
              obtain ⟨p, hp'⟩ := ok1.all n fo hR
              refine as_seq (as_set (ae_call (aa_cons (ae_var rfl (aa_cons (ae_var rfl (aa_nil ?_)))))))
              refine ⟨S1.m a, _, fun d M => (∃ t m w, Asked fo t ∧ Kn (known S1.R S1.F) t ∧ nx fo t = .ask m w ∧ S1.worth m = none ∧ d = .str (tx m) ∧ M = (S1.tells n p.1 t).m a) ∨
                ∃ t v w, Asked fo t ∧ Kn (known S1.R S1.F) t ∧ nx fo t = .done v w ∧ d = .non ∧ M = ((S1.tells n p.1 t).ends n v).m a, rfl,
                ⟨a, S1, n, fo, p, rfl, rfl, ok1, hR, hp', fun t m w h1 h2 h3 h4 => .inl ⟨t, m, w, h1, h2, h3, h4, rfl, rfl⟩, fun t v w h1 h2 h3 => .inr ⟨t, v, w, h1, h2, h3, rfl, rfl⟩⟩, ?_⟩
              rintro _ _ (⟨t, m, w, h1, h2, h3, h4, rfl, rfl⟩ | ⟨t, v, w, h1, h2, h3, rfl, rfl⟩)
              · obtain ⟨g, hg, hgn⟩ := Ls.worth_none h4
                have hg' : lkA rs m = some (.fml g) := by unfold Ls.R at hg; rw [e1'] at hg; exact hg
                walk_at "tg"
                refine put_d (M1 := (S1.tells n p.1 t).m a) rfl (key := .inr (tx n)) rfl (by rw [kvD_len]; omega) ?_
                have e : putD (kvD txD asl) (.inr (tx n)) (.str (tx m)) = kvD txD (puA asl n m) := putD_kv (g := txD) (x := m) asl
                rw [e]
                have hpl : (puA asl n m).length ≤ asl.length + 1 := by unfold puA; split <;> simp
                have hn0 : lkA S.an n = none := by
                  cases h : lkA S.an n with
                  | none => rfl
                  | some v => exact absurd (by rw [h]; rfl) hno
                have hm0 : lkA S.an m = none := by
                  cases h : lkA S.an m with
                  | none => rfl
                  | some v =>
                    have := old m (by rw [h]; rfl)
                    rw [hgn] at this
                    cases this
                refine ⟨S1.tells n p.1 t, puA asl n m, more, _, _, ok1.tells hR hp' ha h1 h2, ⟨e1', els1⟩, ea, ⟨nodup_pu nda, fun hm x hx hc' => ?_⟩, fun x y h => ?_, by omega, by omega, rfl, rfl⟩
                · rw [lkA_pu]
                  by_cases hxn : x = n
                  · rw [if_pos hxn]; exact ⟨m, rfl⟩
                  · rw [if_neg hxn]
                    rw [htk] at hx
                    rcases List.mem_append.mp hx with hx | hx
                    · exact c1 hm x hx hc'
                    · exact absurd (List.mem_singleton.mp hx) hxn
                · rw [lkA_pu] at h
                  by_cases hxn : x = n
                  · rw [if_pos hxn] at h
                    cases h
                    subst hxn
                    exact ⟨by rw [htk]; simp, hn0, hm0, ⟨g, hg'⟩, fo, (p.1, t), w, hnf, Ls.tells_rd t, h3⟩
                  · rw [if_neg hxn] at h
                    obtain ⟨k1, k2, k3, k4, f', p', w', k5, k6, k7⟩ := c2 x y h
                    refine ⟨mono x k1, k2, k3, k4, f', p', w', k5, ?_, k7⟩
                    show lkA (puA S1.rd n (p.1, t)) x = some p'
                    rw [lkA_pu, if_neg hxn]
                    exact k6
              · walk_at "tg"
                have hnk : n ∉ S1.an.map (·.1) := lkA_none.mp ha
                have hok := (ok1.tells hR hp' ha h1 h2).ends (v := v) (w := w) hR (Ls.tells_rd t) ha h1 (by rw [Ls.tells_F ha]; exact h2) h3
                have hean : ((S1.tells n p.1 t).ends n v).an = S.an ++ (more ++ [(n, v)]) := by
                  show puA S1.an n v = _
                  rw [puA_new hnk, ea, List.append_assoc]
                refine ⟨(S1.tells n p.1 t).ends n v, asl, more ++ [(n, v)], _, _, hok, ⟨e1', els1⟩, hean, ⟨nda, fun hm => by simp at hm⟩, fun x y h => ?_, by omega, by omega, rfl, rfl⟩
                obtain ⟨k1, k2, k3, k4, f', p', w', k5, k6, k7⟩ := c2 x y h
                refine ⟨mono x k1, k2, k3, k4, f', p', w', k5, ?_, k7⟩
                show lkA (puA S1.rd n (p.1, t)) x = some p'
                rw [lkA_pu, if_neg (fun z => by subst z; exact hnin k1)]
                exact k6
          · rintro δ' M' ⟨S1, asl, more, y, x10, ok1, ⟨e1', els1⟩, ea, ⟨nda, c1⟩, c2, hal1, hj1, rfl, rfl⟩
            rw [hnl, List.take_length] at c1 c2
            have hln : S1.an.length = S.an.length + more.length := by rw [ea, List.length_append]
            refine as_if (at_test (ae_op (ae_cb (aa_cons (ae_var rfl (aa_nil (ac_lenDm (List.mem_append_left _ Ls.an_in) ?_)))))))
            rw [kvD_len]
            walk_at "tg"
            refine ar_eqS (b := decide ((S1.an.length : Int) = (S.an.length : Int))) rfl ?_
            walk_at "tg"
            refine dcase (fun c => ?_) (fun c => ?_)
            · have hm0 : more = [] := List.eq_nil_of_length_eq_zero (by omega)
              have ea0 : S1.an = S.an := by rw [ea, hm0, List.append_nil]
              have c1' := c1 hm0
              have hasl : Asl S1 asl := fun n m h => by
                obtain ⟨k1, k2, k3, ⟨g, k4⟩, f', p', w', k5, k6, k7⟩ := c2 n m h
                refine ⟨by rw [ea0]; exact k2, c1' m ((hfm m).mpr ⟨g, k4⟩) k3, f', p', w', ?_, k6, k7⟩
                unfold Ls.R
                rw [e1']
                exact k5
              have hanl := anl ok1 e1'
              have hsma := Ls.small ok1
              have hls : ∀ i', ((rngs asl).take i').length ≤ 24 := fun i' => by
                rw [List.length_take]
                have : (rngs asl).length ≤ asl.length := by
                  unfold rngs
                  rw [List.length_map]
                  exact List.length_filter_le _ _
                omega
              have hlsk : ∀ ns', ns'.Sublist (rngs asl) → (S1.rings asl ns').ls.map (·.1) = fs := fun ns' hs => by
                show (ns'.foldl (fun a n => puA a n (some (nxA asl n))) S1.ls).map (·.1) = fs
                rw [fold_keys (g := fun n => some (nxA asl n)) ns' S1.ls fun n hn => by
                  rw [els1, els]
                  obtain ⟨m, hm, _⟩ := (rngs_mem nda).mp (hs.subset hn)
                  exact (c2 n m hm).1, els1, els]
              refine as_perm List.perm_append_comm ?_
              refine as_for (ai_seq (ae_call (aa_cons (ae_var rfl (aa_nil ?_)))))
              refine ⟨[_], S1.m a, fun d M => d = .lst (nmsE (rngs asl)) ∧ M = [(ask, .dK (kvD txD asl))], rfl, ⟨ask, asl, rfl, rfl, nda, by omega, rfl, rfl⟩, ?_⟩
              rintro _ _ ⟨rfl, rfl⟩
              refine ⟨nmsE (rngs asl), rfl, fun i' δ' M' => (∃ y2, δ' = [some (.ref ru), some (.lst (nmsD fs)), y2, some (.ref a.st), some (.ref a.rd), some (.ref a.la), some (.ref a.an), some d, some (.ref ask), some (.int (S.an.length : Nat)), x10]) ∧ M' = [(ask, .dK (kvD txD asl))] ++ (S1.rings asl ((rngs asl).take i')).m a, ⟨⟨_, rfl⟩, rfl⟩, ?_, ?_⟩
              · rintro i' d' δ' M' hd' ⟨⟨y2, rfl⟩, rfl⟩
                obtain ⟨n, hn, rfl⟩ : ∃ n, (rngs asl)[i']? = some n ∧ d' = .str (tx n) := by
                  unfold nmsE at hd'
                  rw [List.getElem?_map] at hd'
                  obtain ⟨n, hn, rfl⟩ := Option.map_eq_some_iff.mp hd'
                  exact ⟨n, hn, rfl⟩
                have htk : (rngs asl).take (i' + 1) = (rngs asl).take i' ++ [n] := by rw [List.take_add_one, hn]; rfl
                obtain ⟨m, hm, _⟩ := (rngs_mem nda).mp (List.mem_of_getElem? hn)
                have hl1 := (fold_len (g := fun _ => Vl.cyc) ((rngs asl).take i') S1.an).2
                have hl2 := hls i'
                have hl3 : (S1.rings asl ((rngs asl).take i')).ls.length ≤ 24 := by
                  have h9 := congrArg List.length (hlsk _ (List.take_sublist i' (rngs asl)))
                  rw [List.length_map] at h9
                  omega
                have hl4 : (S1.rings asl ((rngs asl).take i')).an.length ≤ 48 := by
                  show (((rngs asl).take i').foldl (fun a n => puA a n Vl.cyc) S1.an).length ≤ 48
                  omega
                refine ag_name ?_
                refine as_seq (as_asg (ae_str (ag_setU (ae_var rfl (ae_var rfl (put_d (M1 := [_, _]) rfl (key := .inr (tx n)) rfl (by rw [kvD_len]; omega) ?_))))))
                have e : putD (kvD Vl.d (S1.rings asl ((rngs asl).take i')).an) (.inr (tx n)) (.str (Str.ofString "cyclic")) = kvD Vl.d (puA (S1.rings asl ((rngs asl).take i')).an n .cyc) := putD_kv (g := Vl.d) (x := .cyc) _
                rw [e]
                refine as_asg (ae_dgetm (ae_var rfl (ae_var rfl ⟨ask, kvD txD asl, .inr (tx n), txD m, rfl, rfl, List.mem_cons_self, by rw [valD_kv, hm]; rfl, ?_⟩)))
                refine ag_setU (ae_var rfl (ae_var rfl (put_d (M1 := [_, _, _, _]) rfl (key := .inr (tx n)) rfl (by rw [kvD_len]; omega) ?_)))
                have e' : putD (kvD lsD (S1.rings asl ((rngs asl).take i')).ls) (.inr (tx n)) (txD m) = kvD lsD (puA (S1.rings asl ((rngs asl).take i')).ls n (some (nxA asl n))) := by
                  rw [nxA_of hm]
                  exact putD_kv (g := lsD) (x := some m) _
                rw [e']
                refine ⟨⟨_, rfl⟩, ?_⟩
                rw [htk]
                unfold Ls.rings
                rw [fold_snoc (g := fun _ => Vl.cyc), fold_snoc (g := fun n => some (nxA asl n))]
                rfl
              · rintro δ' M' ⟨⟨y2, rfl⟩, rfl⟩
                have hrl : (nmsE (rngs asl)).length = (rngs asl).length := List.length_map ..
                rw [hrl, List.take_length]
                refine ⟨S1.rings asl (rngs asl), [(ask, .dK (kvD txD asl))], _, _, _, _, _, Ls.rings_ok ok1 nda hasl, ⟨e1', hlsk _ (List.Sublist.refl _)⟩, ?_, List.perm_append_comm, rfl⟩
                by_cases hne : asl = []
                · refine .inl fun n hn => ?_
                  have : ∃ v, lkA S1.an n = some v := by
                    cases h : lkA S1.an n with
                    | some v => exact ⟨v, rfl⟩
                    | none =>
                      obtain ⟨m, hm⟩ := c1' n hn (by rw [← ea0]; exact h)
                      rw [hne] at hm
                      cases hm
                  obtain ⟨v, hv⟩ := this
                  show (lkA ((rngs asl).foldl (fun a n => puA a n Vl.cyc) S1.an) n).isSome = true
                  rw [fold_pu (g := fun _ => Vl.cyc), hv]
                  split <;> rfl
                · have hrn := rngs_there nda (fun n m h => (hasl n m h).2.1) hne
                  rcases hc with hc | hc
                  · exfalso
                    obtain ⟨x, hx⟩ : ∃ x m, lkA asl x = some m := by
                      cases asl with
                      | nil => exact absurd rfl hne
                      | cons p r => exact ⟨p.1, p.2, by rw [lkA_cons, if_pos rfl]⟩
                    obtain ⟨m, hx⟩ := hx
                    obtain ⟨k1, k2, _⟩ := c2 x m hx
                    have := hc x k1
                    rw [k2] at this
                    cases this
                  · right
                    cases hr : rngs asl with
                    | nil => exact absurd hr hrn
                    | cons n r =>
                      have hm : n ∈ rngs asl := by rw [hr]; simp
                      obtain ⟨m, hm1, _⟩ := (rngs_mem nda).mp hm
                      have hn1 := (hasl n m hm1).1
                      have := fold_grow (g := fun _ => Vl.cyc) (ns := r) (lkA_none.mp hn1)
                      show i + 1 ≤ ((n :: r).foldl (fun a n => puA a n Vl.cyc) S1.an).length
                      rw [ea0] at this ⊢
                      omega
            · walk_at "tg"
              refine ⟨S1, [(ask, .dK (kvD txD asl))], _, _, _, _, _, ok1, ⟨e1', by rw [els1]; exact els⟩, ?_, List.Perm.refl _, rfl⟩
              rcases hc with hc | hc
              · refine .inl fun n hn => ?_
                rw [ea, lkA_app]
                obtain ⟨v, hv⟩ := Option.isSome_iff_exists.mp (hc n hn)
                rw [hv]
                rfl
              · exact .inr (by omega)
        · rintro δ' M' ⟨S, J, y, x7, x8, x9, x10, ok, ⟨e1, els⟩, hc, hp, rfl⟩
          refine as_lose hp ?_
          walk_at "tg"
          have hal := anl ok e1
          refine q a S hru e1 ok (fun n f h => ?_) fun n f h => by
            have hn := (hfm n).mpr ⟨f, h⟩
            rw [← els] at hn
            cases hl : lkA S.ls n with
            | none => exact absurd hn (lkA_none.mp hl)
            | some lo => exact ⟨lo, rfl⟩
          have hn := (hfm n).mpr ⟨f, h⟩
          rw [rng_len] at hc
          rcases hc with hc | hc
          · exact Option.isSome_iff_exists.mp (hc n hn)
          · have h0 : 1 ≤ fs.length := by
              cases fs with
              | nil => cases hn
              | cons x y => simp
            have h1 : fs.length ≤ fs.length * fs.length := Nat.le_mul_of_pos_left _ h0
            omega⟩
end

/-! ### the names of the cells -/
def W_nm2 (C CM : Addr) : Wt := fun ds M k => ∃ (c : Ca) (S : Cs), ds = [.ref c.a] ∧ M = S.m C CM c ∧ S.rs.length < 64 ∧ ∀ ys : List Str, ys.Perm (S.rs.map fun p => tx p.1) → sortedS ys = true → k (.lst (ys.map D.str)) (S.m C CM c)
section
variable {P : Program} {w : World} {K : PySem.W.Frag} {mg : Str → Option Value} {base : Heap} {C CM : Addr}
theorem m_nm2 (kC : Cl_Cells K mg C) (T : Top K mg w) : Prp P w K mg base 1 C "cell_names" (Spc K (W_nm2 C CM)) := prp_of kC.cl kC.d_cell_names fun f fd F => by
  exact spc_ok F sc_Cells_cell_names (fun ds M k h => by obtain ⟨c, S, rfl, _⟩ := h; rfl) fun cdv A outer s H E hr => ⟨_, (pss_one (ps_ret (pe_callB (sortedD_K rfl) (by rfl) T.m_sorted (by decide +kernel) (pa_cons (fld_K (K := K) (pv 0)) pa_nil)))), fun ds M kk hw => by
    obtain ⟨c, S, rfl, rfl, hl, q⟩ := hw
    refine as_start (δ' := [some (.ref c.a)]) rfl ?_
    refine as_ret (ae_cb (aa_cons (fl_r kC rfl Cs.a_in (aa_nil ?_))))
    refine ac_sortedD (M1 := [_]) (ks := S.rs.map fun p => tx p.1) rfl ?_ (by rw [List.length_map]; exact hl) fun ys hp hs => q ys hp hs
    unfold kvD
    rw [List.map_map, List.map_map]
    rfl⟩
end

/-! ### all that was read -/
def rdsT (t : Td) (lo : Option Nm) : Td := t ++ match lo with
  | none => []
  | some l => [(l, .cyc)]
def W_lar : Wt := fun ds M k => ∃ (ad : Addr) (t : Td) (lo : Option Nm), ds = [.tup [.ref ad, lsD lo]] ∧ M = [(ad, .lst (tlD t))] ∧ t.length ≤ 1000 ∧ k (.lst (tlD (rdsT t lo))) [(ad, .lst (tlD t))]
section
variable {P : Program} {w : World} {K : PySem.W.Frag} {mg : Str → Option Value} {base : Heap}
theorem c__law_all_reads (T : Top K mg w) : Cal P w K mg base 1 "_law_all_reads" (Spc K W_lar) [] := cal_of T.d__law_all_reads fun f fd F => by
  exact spc_ok F sc__law_all_reads (fun ds M k h => by obtain ⟨ad, t, lo, rfl, _⟩ := h; rfl) fun cdv A outer s H E hr => ⟨_, (pss_cons (ps_if (pt_cmpR op_isN1 (pe_ix (ix_K (K := K)) (pv 0) pe_int (fun _ _ => rfl)) pe_non (nomark _))
      (pss_one (ps_ret (pe_callTy (list_K (K := K)) (by rfl) T.m_list (by decide +kernel) (pa_cons (pe_ix (ix_K (K := K)) (pv 0) pe_int (fun _ _ => rfl)) pa_nil))))
      pss_nil)
      (pss_one (ps_ret (pe_op (add_K (K := K)) (pe_ix (ix_K (K := K)) (pv 0) pe_int (fun _ _ => rfl)) (pe_lst (pa_cons (pe_tup (pa_cons (pe_ix (ix_K (K := K)) (pv 0) pe_int (fun _ _ => rfl)) (pa_cons pe_str pa_nil))) pa_nil)))))), fun ds M kk hw => by
    obtain ⟨ad, t, lo, rfl, rfl, ht, q⟩ := hw
    have hsz := sizeLine_eq
    unfold rdsT at q
    cases lo with
    | none =>
      refine as_start (δ' := [some (.tup [.ref ad, .non])]) rfl ?_
      refine as_seq ?_
      walk_at "tg"
      refine ac_listR (ds := tlD t) List.mem_cons_self ?_
      rw [List.append_nil] at q
      exact q
    | some l =>
      refine as_start (δ' := [some (.tup [.ref ad, .str (tx l)])]) rfl ?_
      refine as_seq ?_
      walk_at "tg"
      refine au_lstF (xs := tlD t) List.mem_cons_self (by rw [tlD_len]; show _ + 1 ≤ _; omega) ?_
      have e : tlD t ++ [.tup [.str (tx l), .str cycS]] = tlD (t ++ [(l, .cyc)]) := by
        unfold tlD
        rw [List.map_append]
        rfl
      rw [e]
      exact q⟩
end

/-! ### a rule is given, drawn -/
theorem puA_id {α : Type} {l : List (Nm × α)} {n : Nm} {x : α} (nd : (l.map (·.1)).Nodup) (h : lkA l n = some x) : puA l n x = l := by
  obtain ⟨l1, l2, e, h1, h2⟩ := split_lk nd h
  rw [e, puA_split h1 h2]
theorem gives_ok {S : Cs} {n : Nm} {r : Ru} (ok : S.Ok) (hr : RuOk r) (hl : (puA S.rs n r).length ≤ 24) : (S.gives n r).Ok := by
  have hA : (S.gives n r).A = fun _ => none := by
    funext m
    rfl
  refine ⟨nodup_pu ok.nr, hl, fun m x h => ?_, nodup_dr ok.nm, fun m x h => ?_, List.nodup_nil, (fun m b h => nomatch h), by rw [hA]; exact aok_none⟩
  · have h : lkA (puA S.rs n r) m = some x := h
    rw [lkA_pu] at h
    by_cases c : m = n
    · rw [if_pos c] at h
      cases h
      cases r <;> exact hr
    · rw [if_neg c] at h
      exact ok.ru m x h
  · have h : lkA (drA S.ms n) m = some x := h
    rw [lkA_dr] at h
    by_cases c : m = n
    · rw [if_pos c] at h; cases h
    · rw [if_neg c] at h
      obtain ⟨f, hf, mok⟩ := ok.ms m x h
      refine ⟨f, ?_, mok⟩
      show lkA (puA S.rs n r) m = _
      rw [lkA_pu, if_neg c]
      exact hf
theorem okF_up : ∀ {n : Nat} {f : Fo}, OkF n f → OkF (n + 1) f
  | 0, f, h => by cases f <;> first | exact h.elim | exact h
  | n + 1, f, h => by
    cases f with
    | op hd a b => exact ⟨okF_up h.1, okF_up h.2⟩
    | ifs a b c => exact ⟨okF_up h.1, okF_up h.2.1, okF_up h.2.2⟩
    | _ => exact h
def LRu : Ru → Prop
  | .inp v => VlOk v
  | .fml f => OkF 4 f
theorem lru_ok {r : Ru} (h : LRu r) : RuOk r := by
  cases r with
  | inp v => exact h
  | fml f => exact okF_up (okF_up h)
/-- the cells while the law gives rules -/
structure LSt (ns : List Nm) (S : Cs) : Prop where
  ok : S.Ok
  fit : ∀ n r, lkA S.rs n = some r → LRu r
  keys : ∀ n ∈ S.rs.map (·.1), n ∈ ns
theorem lst_gives {ns : List Nm} {S : Cs} {n : Nm} {r : Ru} (h : LSt ns S) (hn : n ∈ ns) (hl : ns.length ≤ 24) (hr : LRu r) : LSt ns (S.gives n r) := by
  have hk : ∀ m ∈ (puA S.rs n r).map (·.1), m ∈ ns := fun m hm => by
    rw [keys_pu] at hm
    split at hm
    · exact h.keys m hm
    · rcases List.mem_append.mp hm with hm | hm
      · exact h.keys m hm
      · rw [List.mem_singleton.mp hm]; exact hn
  have hlen : (puA S.rs n r).length ≤ 24 := by
    have := nodup_sub (nodup_pu (n := n) (x := r) h.ok.nr) hk
    rw [List.length_map] at this
    omega
  refine ⟨gives_ok h.ok (lru_ok hr) hlen, fun m x hm => ?_, hk⟩
  have hm : lkA (puA S.rs n r) m = some x := hm
  rw [lkA_pu] at hm
  by_cases c : m = n
  · rw [if_pos c] at hm
    cases hm
    exact hr
  · rw [if_neg c] at hm
    exact h.fit m x hm

theorem lrd_eqb {r : Ru} (h : RuOk r) : Eqb (lrD r) := by
  cases r with
  | inp v =>
    refine ⟨⟨by show ∀ c ∈ (Str.ofString "input").cps.toList, c < 128; decide +kernel, (eqb_vl v).1, trivial⟩, ?_⟩
    cases v <;> simp [lrD, Vl.d, toPy, toPys, PyData.depth, PyData.depthAll]
  | fml f =>
    obtain ⟨h1, h2⟩ := eqb_fo (n := 6) h
    refine ⟨⟨by show ∀ c ∈ (Str.ofString "formula").cps.toList, c < 128; decide +kernel, h1, trivial⟩, ?_⟩
    simp only [lrD, toPy, toPys, PyData.depth, PyData.depthAll]
    omega
theorem nb_lr : ∀ r : Ru, Nb (lrD r)
  | .inp v => ⟨trivial, by cases v <;> trivial, trivial⟩
  | .fml f => ⟨trivial, nb_fo f, trivial⟩
theorem lr_inj {r r' : Ru} (h : lrD r = lrD r') : r = r' := by
  cases r with
  | inp v =>
    cases r' with
    | inp x =>
      injection h with h
      injection h with _ h
      injection h with h _
      rw [vl_inj h]
    | fml f =>
      injection h with h
      injection h with h _
      injection h with h
      exact absurd h (by decide +kernel)
  | fml f =>
    cases r' with
    | inp x =>
      injection h with h
      injection h with h _
      injection h with h
      exact absurd h (by decide +kernel)
    | fml g =>
      injection h with h
      injection h with _ h
      injection h with h _
      rw [fo_inj h]
theorem eqD_lr {r r' : Ru} (h : RuOk r) : eqD (lrD r) (lrD r') = true ↔ r = r' := ⟨fun e => lr_inj (eq_inj _ _ (nb_lr r) (nb_lr r') e), fun e => by rw [← e]; exact eqv_self (lrd_eqb h).1⟩
/-- what stands while the law gives rules: the pool, the table, the cells, the dict of rules -/
def LM (C CM PT pl ru : Addr) (p : Pool) (c : Ca) (S : Cs) : Mu := (pl, .lst p.d) :: (((PT, .tb) :: S.m C CM c) ++ [(ru, .dK (kvD lrD S.rs))])
def W_lst (C CM PT : Addr) : Wt := fun ds M k => ∃ (pl ru : Addr) (p : Pool) (c : Ca) (S : Cs) (ns : List (List Nat)), ds = [.ref pl, .ref c.a, .ref ru, .lst (nmsD ns)] ∧ M = LM C CM PT pl ru p c S ∧ p.Ok ∧ LSt ns S ∧
  1 ≤ ns.length ∧ ns.length ≤ 9 ∧ (∀ l ∈ ns, NmOk l) ∧ ∀ (p' : Pool) (c' : Ca) (S' : Cs) (d : D) (J : Mu), p'.Ok → c'.a = c.a → LSt ns S' → S'.rs ≠ [] → ((d = .non ∧ S' = S) ∨ ∃ n r, S.R n ≠ some r ∧ n ∈ ns ∧ LRu r ∧ d = .str (tx n) ∧ S' = S.gives n r) → k d (LM C CM PT pl ru p' c' S' ++ J)
theorem perm_lm {X J : Mu} {t r p : Addr × MO} : (((X ++ J) ++ [t]) ++ [p, r]).Perm (p :: ((t :: X) ++ [r]) ++ J) := by
  refine (List.Perm.append_left _ (List.Perm.swap r p [])).trans ?_
  have h1 : (((X ++ J) ++ [t]) ++ [r, p]) = X ++ (J ++ [t, r, p]) := by simp
  rw [h1]
  refine (List.Perm.append_left X (List.perm_append_comm (l₁ := J) (l₂ := [t, r, p]))).trans ?_
  rw [← List.append_assoc]
  refine List.Perm.append_right J ?_
  refine (List.Perm.append_left X (List.perm_append_comm (l₁ := [t, r]) (l₂ := [p]))).trans ?_
  have h2 : X ++ ([p] ++ [t, r]) = (X ++ [p, t]) ++ [r] := by simp
  rw [h2]
  exact List.Perm.append_right [r] (List.perm_append_comm (l₁ := X) (l₂ := [p, t]))
section
variable {P : Program} {w : World} {K : PySem.W.Frag} {mg : Str → Option Value} {base : Heap} {C CM PT D0 D1 Ce : Addr}
theorem c__law_set (kC : Cl_Cells K mg C) (T : Top K mg w) (B : DefB K mg base "is_name" s_is_name ["text"] PT) (e_BadName : ErrP K mg "BadName" D0) (e_BadValue : ErrP K mg "BadValue" D1) (e_BadFormula : ErrT_BadFormula K mg Ce) : Cal P w K mg base 20 "_law_set" (Spc K (W_lst C CM PT)) [] := cal_of T.d__law_set fun f fd F => by
  have p_Cells_put := p_put (P := P) (w := w) (CM := CM) kC T B e_BadName e_BadValue
  have p_Cells_define := p_define (P := P) (w := w) (CM := CM) kC T B e_BadFormula e_BadName
  have c__law_take := c__law_take (P := P) (w := w) (base := base) T 2
  have c__law_value := c__law_value (P := P) (w := w) (base := base) T
  have c__law_formula := c__law_formula (P := P) (w := w) (base := base) T 3
  exact spc_ok F sc__law_set (fun ds M k h => by obtain ⟨pl, ru, p, c, S, ns, rfl, _⟩ := h; rfl) fun cdv A outer s H E hr => ⟨_, (pss_cons (ps_set (i := 4) sc__law_set.nd rfl (Or.inl rfl) (pe_ix (ix_K (K := K)) (pv 3) (pe_c c__law_take hr (by first | decide | omega) (by rfl) (pa_cons (pv 0) (pa_cons (pe_callB (len_K (K := K)) (by rfl) T.m_len (by decide +kernel) (pa_cons (pv 3) pa_nil)) pa_nil))) (fun _ _ => rfl)))
      (pss_cons (ps_set (i := 5) sc__law_set.nd rfl (Or.inl rfl) (pe_tup (pa_cons pe_str (pa_cons (pe_c c__law_value hr (by first | decide | omega) (by rfl) (pa_cons (pv 0) pa_nil)) pa_nil))))
      (pss_cons (ps_if (pt_cmpR op_gt (pe_c c__law_take hr (by first | decide | omega) (by rfl) (pa_cons (pv 0) (pa_cons pe_int pa_nil))) pe_int (nomark _))
      (pss_one (ps_set (i := 5) sc__law_set.nd rfl (Or.inl rfl) (pe_tup (pa_cons pe_str (pa_cons (pe_c c__law_formula hr (by first | decide | omega) (by rfl) (pa_cons (pv 0) (pa_cons (pv 3) (pa_cons pe_int pa_nil)))) pa_nil)))))
      pss_nil)
      (pss_cons (ps_if (pw_and (pt_cmpR (eqU_K (K := K) hr) (pe_c c__law_take hr (by first | decide | omega) (by rfl) (pa_cons (pv 0) (pa_cons pe_int pa_nil))) pe_int (nomark _)) (pw_and1 (pt_cmpR (inDk_K (hu_of hr)) (pv 4) (pv 2) (by rfl)))).pt
      (pss_one (ps_set (i := 5) sc__law_set.nd rfl (Or.inl rfl) (pe_dget (hu_of hr) (pv 2) (pv 4) (fun _ _ => rfl))))
      pss_nil)
      (pss_cons (ps_if (pt_cmpR (eqU_K (K := K) hr) (pe_ix (ix_K (K := K)) (pv 5) pe_int (fun _ _ => rfl)) pe_str (nomark _))
      (pss_one (ps_expr (pe_mtE takes_none p_Cells_put hr (by first | decide | omega) (pv 1) (pa_cons (pv 4) (pa_cons (pe_ix (ix_K (K := K)) (pv 5) pe_int (fun _ _ => rfl)) pa_nil)))))
      (pss_one (ps_expr (pe_mtE takes_none p_Cells_define hr (by first | decide | omega) (pv 1) (pa_cons (pv 4) (pa_cons (pe_ix (ix_K (K := K)) (pv 5) pe_int (fun _ _ => rfl)) pa_nil))))))
      (pss_cons (ps_set (i := 6) sc__law_set.nd rfl (Or.inl rfl) (pe_or (pe_cmpR (notinDk_K (hu_of hr)) (pv 4) (pv 2) (by rfl)) (pe_one (pe_cmpR (neU_K (K := K) hr) (pe_dget (hu_of hr) (pv 2) (pv 4) (fun _ _ => rfl)) (pv 5) (nomark _)))))
      (pss_cons (ps_asg (pv 5) (pg_sub (pv 2) (pv 4) (set_any (hu_of hr))))
      (pss_one (ps_ret (pe_ifExp (tru_K (K := K) (pv 6)) (pv 4) pe_non)))))))))), fun ds M kk hw => by
    obtain ⟨pl, ru, p, c, S, ns, rfl, rfl, ok, lst, hn1, hn9, hnm, q⟩ := hw
    have hsz := sizeLine_eq
    refine as_start (δ' := [some (.ref pl), some (.ref c.a), some (.ref ru), some (.lst (nmsD ns)), none, none, none]) rfl ?_
    unfold LM at q ⊢
    have hnl : ((nmsD ns).length : Int) = (ns.length : Nat) := by rw [nmsD, List.length_map]
    refine as_seq ?_
    walk_at "tg"
    rw [hnl]
    refine ⟨[_], _, takeK _ _, rfl, take_ok ok (by omega) (by omega) (by omega), ?_⟩
    rintro _ _ ⟨r2, p1, ok1, j0, j1, rfl, rfl⟩
    obtain ⟨n, ⟨hn, hin⟩, hat⟩ := nms_get hnm j0 j1
    refine aix_L hat ?_
    walk_at "tg"
    refine ⟨[_], _, fun d M => ∃ (v : Vl) (p' : Pool), p'.Ok ∧ VlOk v ∧ d = v.d ∧ M = [(pl, .lst p'.d)], rfl, ⟨pl, p1, rfl, rfl, ok1, fun v p' h1 h2 => ⟨v, p', h1, h2, rfl, rfl⟩⟩, ?_⟩
    rintro _ _ ⟨v, p2, ok2, hv, rfl, rfl⟩
    walk_at "tg"
    refine as_cut (fun δ' M' => ∃ (r : Ru) (p : Pool), p.Ok ∧ LRu r ∧ M' = (pl, .lst p.d) :: (((PT, .tb) :: S.m C CM c) ++ [(ru, .dK (kvD lrD S.rs))]) ∧
      δ' = [some (.ref pl), some (.ref c.a), some (.ref ru), some (.lst (nmsD ns)), some (.str (tx n)), some (lrD r), none]) ?_ ?_
    · walk_at "tg"
      refine ⟨[_], _, takeK _ _, rfl, take_ok ok2 (by decide) (by decide) (by decide), ?_⟩
      rintro _ _ ⟨r1, p5, ok5, i0, i1, rfl, rfl⟩
      walk_at "tg"
      refine dcase (fun c1 => ?_) (fun c1 => ?_)
      · walk_at "tg"
        refine ⟨[_], _, fun d M => ∃ (f : Fo) (p' : Pool), p'.Ok ∧ (OkF 3 f ∧ Use ns f) ∧ d = f.d ∧ M = [(pl, .lst p'.d)], rfl, ⟨pl, p5, ns, rfl, rfl, ok5, ⟨hn1, hn9⟩, hnm, fun f p' h1 h2 => ⟨f, p', h1, h2, rfl, rfl⟩⟩, ?_⟩
        rintro _ _ ⟨fo, p6, ok6, hfo, rfl, rfl⟩
        walk_at "tg"
        exact ⟨.fml fo, p6, ok6, okF_up hfo.1, rfl, rfl⟩
      · walk_at "tg"
        exact ⟨.inp v, p5, ok5, hv, rfl, rfl⟩
    · rintro δ' M' ⟨r, p3, ok3, hr', rfl, rfl⟩
      have hmem : ∀ {p : Pool} {S' : Cs} {c' : Ca}, (ru, MO.dK (kvD lrD S.rs)) ∈ (pl, MO.lst p.d) :: (((PT, .tb) :: S'.m C CM c') ++ [(ru, .dK (kvD lrD S.rs))]) := fun {p S' c'} => List.mem_cons_of_mem _ (List.mem_append_right _ (List.mem_singleton_self _))
      refine as_cut (fun δ' M' => ∃ (r : Ru) (p : Pool), p.Ok ∧ LRu r ∧ M' = (pl, .lst p.d) :: (((PT, .tb) :: S.m C CM c) ++ [(ru, .dK (kvD lrD S.rs))]) ∧
        δ' = [some (.ref pl), some (.ref c.a), some (.ref ru), some (.lst (nmsD ns)), some (.str (tx n)), some (lrD r), none]) ?_ ?_
      · walk_at "tg"
        refine ⟨[_], _, takeK _ _, rfl, take_ok ok3 (by decide) (by decide) (by decide), ?_⟩
        rintro _ _ ⟨r1, p5, ok5, i0, i1, rfl, rfl⟩
        walk_at "tg"
        refine ar_eqS (b := decide (r1 = 0)) rfl ?_
        walk_at "tg"
        refine dcase (fun c1 => ?_) (fun c1 => ?_)
        · walk_at "tg"
          refine ar_inDm hmem (key := .inr (tx n)) rfl ?_
          rw [valD_kv]
          cases h : lkA S.rs n with
          | none =>
            show ∃ b, D.bl false = D.bl b ∧ _
            refine ⟨_, rfl, fun z => (nomatch z), fun _ => as_next ?_⟩
            exact ⟨r, p5, ok5, hr', rfl, rfl⟩
          | some r' =>
            show ∃ b, D.bl true = D.bl b ∧ _
            refine ⟨_, rfl, fun _ => ?_, fun z => nomatch z⟩
            refine as_set (ae_dgetm (ae_var rfl (ae_var rfl ⟨ru, kvD lrD S.rs, .inr (tx n), lrD r', rfl, rfl, hmem, by rw [valD_kv, h]; rfl, ?_⟩)))
            exact ⟨r', p5, ok5, lst.fit n r' h, rfl, rfl⟩
        · walk_at "tg"
          exact ⟨r, p5, ok5, hr', rfl, rfl⟩
      · clear hr' ok3
        rintro _ _ ⟨r, p4, ok4, hr4, rfl, rfl⟩
        have h24 : S.R n = none → S.rs.length < 24 := fun _ => by
          have := nodup_sub lst.ok.nr lst.keys
          rw [List.length_map] at this
          omega
        have fin : ∀ {M'' : Mu}, ((S.R n = some r ∧ M'' = S.m C CM c ++ [(PT, .tb)]) ∨ (S.R n ≠ some r ∧ ∃ la J, M'' = ((S.gives n r).m C CM { c with la := la } ++ J) ++ [(PT, .tb)])) →
            ∃ (c' : Ca) (S' : Cs) (J : Mu), c'.a = c.a ∧ LSt ns S' ∧ (S'.rs = puA S.rs n r ∧ ((S.R n = some r ∧ S' = S) ∨ (S.R n ≠ some r ∧ S' = S.gives n r))) ∧ (M'' ++ [(pl, MO.lst p4.d), (ru, MO.dK (kvD lrD S.rs))]).Perm ((pl, MO.lst p4.d) :: (((PT, MO.tb) :: S'.m C CM c') ++ [(ru, MO.dK (kvD lrD S.rs))]) ++ J) := fun h => by
          rcases h with ⟨h, rfl⟩ | ⟨h, la, J, rfl⟩
          · refine ⟨c, S, [], rfl, lst, ⟨(puA_id lst.ok.nr h).symm, .inl ⟨h, rfl⟩⟩, ?_⟩
            have h := @perm_lm (S.m C CM c) [] (PT, .tb) (ru, .dK (kvD lrD S.rs)) (pl, .lst p4.d)
            rw [List.append_nil (S.m C CM c)] at h
            exact h
          · exact ⟨{ c with la := la }, S.gives n r, J, rfl, lst_gives lst hin (by omega) hr4, ⟨rfl, .inr ⟨h, rfl⟩⟩, perm_lm⟩
        refine as_perm (M' := ((PT, .tb) :: S.m C CM c) ++ [(pl, .lst p4.d), (ru, .dK (kvD lrD S.rs))]) List.perm_middle.symm ?_
        refine as_cut (fun δ' M' => ∃ (c' : Ca) (S' : Cs) (J : Mu), c'.a = c.a ∧ LSt ns S' ∧ (S'.rs = puA S.rs n r ∧ ((S.R n = some r ∧ S' = S) ∨ (S.R n ≠ some r ∧ S' = S.gives n r))) ∧ M'.Perm ((pl, .lst p4.d) :: (((PT, .tb) :: S'.m C CM c') ++ [(ru, .dK (kvD lrD S.rs))]) ++ J) ∧
          δ' = [some (.ref pl), some (.ref c.a), some (.ref ru), some (.lst (nmsD ns)), some (.str (tx n)), some (lrD r), none]) ?_ ?_
        · cases r with
          | inp v' =>
            show AS K _ [_, _, _, _, _, some (.tup [.str (Str.ofString "input"), v'.d]), _] _ _
            walk_at "tg"
            refine ar_eqS (b := true) (by decide +kernel) ?_
            walk_at "tg"
            refine ae_mtN (ae_var rfl ⟨c.a, c.dx, CoF c, rfl, ⟨[(PT, .tb)], _, rfl⟩, rfl, ?_⟩)
            walk_at "tg"
            refine ⟨_, [(pl, .lst p4.d), (ru, .dK (kvD lrD S.rs))], fun d M => (S.R n = some (.inp v') ∧ M = S.m C CM c ++ [(PT, .tb)]) ∨ (S.R n ≠ some (.inp v') ∧ ∃ la J, M = ((S.gives n (.inp v')).m C CM { c with la := la } ++ J) ++ [(PT, .tb)]), rfl,
              ⟨c, S, n, v', rfl, rfl, lst.ok, nm_ok hn, hr4, h24, (fun h => .inl ⟨h, rfl⟩), fun h la J => .inr ⟨h, la, J, rfl⟩⟩, ?_⟩
            intro d M'' h
            obtain ⟨c', S', J, e1, e2, e3, e4⟩ := fin h
            exact ⟨c', S', J, e1, e2, e3, e4, rfl⟩
          | fml fo =>
            show AS K _ [_, _, _, _, _, some (.tup [.str (Str.ofString "formula"), fo.d]), _] _ _
            walk_at "tg"
            refine ar_eqS (b := false) (by decide +kernel) ?_
            walk_at "tg"
            refine ae_mtN (ae_var rfl ⟨c.a, c.dx, CoF c, rfl, ⟨[(PT, .tb)], _, rfl⟩, rfl, ?_⟩)
            walk_at "tg"
            refine ⟨_, [(pl, .lst p4.d), (ru, .dK (kvD lrD S.rs))], fun d M => (S.R n = some (.fml fo) ∧ M = S.m C CM c ++ [(PT, .tb)]) ∨ (S.R n ≠ some (.fml fo) ∧ ∃ la J, M = ((S.gives n (.fml fo)).m C CM { c with la := la } ++ J) ++ [(PT, .tb)]), rfl,
              ⟨c, S, n, fo, rfl, rfl, lst.ok, nm_ok hn, lru_ok hr4, h24, (fun h => .inl ⟨h, rfl⟩), fun h la J => .inr ⟨h, la, J, rfl⟩⟩, ?_⟩
            intro d M'' h
            obtain ⟨c', S', J, e1, e2, e3, e4⟩ := fin h
            exact ⟨c', S', J, e1, e2, e3, e4, rfl⟩
        · rintro δ' M' ⟨c', S', J, hca, lst', ⟨hrs, hcase⟩, hp, rfl⟩
          refine as_lose hp ?_
          refine as_cut (fun δ' M' => ∃ b : Bool, (b = true ↔ S.R n ≠ some r) ∧ M' = (pl, .lst p4.d) :: (((PT, .tb) :: S'.m C CM c') ++ [(ru, .dK (kvD lrD S.rs))]) ∧
            δ' = [some (.ref pl), some (.ref c.a), some (.ref ru), some (.lst (nmsD ns)), some (.str (tx n)), some (lrD r), some (.bl b)]) ?_ ?_
          · walk_at "tg"
            refine ar_notinDm hmem (key := .inr (tx n)) rfl ?_
            rw [valD_kv]
            cases h : lkA S.rs n with
            | none =>
              show ∃ b, D.bl true = D.bl b ∧ _
              refine ⟨_, rfl, (fun z => nomatch z), fun _ => ?_⟩
              exact ⟨true, ⟨(fun _ z => by rw [show S.R n = none from h] at z; cases z), fun _ => rfl⟩, rfl, rfl⟩
            | some r' =>
              show ∃ b, D.bl false = D.bl b ∧ _
              refine ⟨_, rfl, fun _ => ?_, fun z => nomatch z⟩
              refine ae_op (ae_dgetm (ae_var rfl (ae_var rfl ⟨ru, kvD lrD S.rs, .inr (tx n), lrD r', rfl, rfl, hmem, by rw [valD_kv, h]; rfl, ?_⟩)))
              refine ae_var rfl (ar_neT (lrd_eqb (lru_ok (lst.fit n r' h))) (lrd_eqb (lru_ok hr4)) ?_)
              refine ⟨_, ⟨fun e z => ?_, fun z => ?_⟩, rfl, rfl⟩
              · rw [show S.R n = some r' from h] at z
                cases z
                rw [eqD_lr (lru_ok hr4) |>.mpr rfl] at e
                cases e
              · cases e : eqD (lrD r') (lrD r) with
                | false => rfl
                | true =>
                  rw [(eqD_lr (lru_ok (lst.fit n r' h))).mp e] at h
                  exact absurd h z
          · rintro δ' M' ⟨b, hb, rfl, rfl⟩
            have hne : S'.rs ≠ [] := fun z => by
              have h9 : lkA S'.rs n = some r := by rw [hrs, lkA_pu, if_pos rfl]
              rw [z] at h9
              cases h9
            have hsl : S.rs.length ≤ 24 := lst.ok.lr
            refine as_seq ?_
            walk_at "tg"
            refine put_d (M1 := (pl, .lst p4.d) :: ((PT, .tb) :: S'.m C CM c')) rfl (key := .inr (tx n)) rfl (by rw [kvD_len]; omega) ?_
            rw [putD_kv, ← hrs]
            walk_at "tg"
            have q' := fun d => q p4 c' S' d [] ok4 hca lst' hne
            cases b with
            | true =>
              walk_at "tg"
              have hne' := hb.mp rfl
              have := q' (.str (tx n)) (.inr ⟨n, r, hne', hin, hr4, rfl, by
                rcases hcase with ⟨z, _⟩ | ⟨_, z⟩
                · exact absurd z hne'
                · exact z⟩)
              rw [List.append_nil] at this
              exact this
            | false =>
              walk_at "tg"
              have := q' .non (.inl ⟨rfl, by
                rcases hcase with ⟨_, z⟩ | ⟨z, _⟩
                · exact z
                · cases hb.mpr z⟩)
              rw [List.append_nil] at this
              exact this⟩
end

/-! ### two sorted rows of the same texts are the same -/
def leS (a b : Str) : Prop := a.cps.toList ≤ b.cps.toList
theorem leS_of {a b : Str} (h : PySem.Spec.ltCps b.cps.toList a.cps.toList = false) : leS a b := by
  rw [PyProof.Rows.ltCps_eq] at h
  exact List.not_lt.mp (of_decide_eq_false h)
theorem leS_trans {a b c : Str} (h1 : leS a b) (h2 : leS b c) : leS a c := List.le_trans h1 h2
theorem leS_anti {a b : Str} (h1 : leS a b) (h2 : leS b a) : a = b := by
  have h := List.le_antisymm h1 h2
  have e : a.cps = b.cps := Array.toList_inj.mp h
  cases a
  cases b
  cases e
  rfl
theorem rising_pw : ∀ (l : List Str) (p : Str), risingS p l = true → (p :: l).Pairwise leS
  | [], p, _ => List.pairwise_singleton _ _
  | x :: r, p, h => by
    unfold risingS at h
    rw [Bool.and_eq_true, Bool.not_eq_true'] at h
    have h1 := leS_of h.1
    have ih := rising_pw r x h.2
    refine List.pairwise_cons.mpr ⟨fun y hy => ?_, ih⟩
    rcases List.mem_cons.mp hy with rfl | hy
    · exact h1
    · exact leS_trans h1 ((List.pairwise_cons.mp ih).1 y hy)
theorem sorted_pw {l : List Str} (h : sortedS l = true) : l.Pairwise leS := by
  cases l with
  | nil => exact List.Pairwise.nil
  | cons x r => exact rising_pw r x h
theorem sorted_eq {xs ys : List Str} (hp : xs.Perm ys) (hx : sortedS xs = true) (hy : sortedS ys = true) : xs = ys :=
  List.Perm.eq_of_pairwise (le := leS) (fun a b _ _ h1 h2 => leS_anti h1 h2) (sorted_pw hx) (sorted_pw hy) hp
theorem names_depth : ∀ l : List Nm, PyData.depthAll (toPys (nmsD l)) ≤ 1
  | [] => by unfold nmsD; simp [toPys, PyData.depthAll]
  | n :: r => by
    have ih := names_depth r
    unfold nmsD at ih ⊢
    rw [List.map_cons]
    simp only [toPys, toPy, PyData.depthAll, PyData.depth]
    omega
/-- a row of names, compared deeply -/
theorem eqb_names {l : List Nm} (h : ∀ n ∈ l, NmOk n) : Eqb (.lst (nmsD l)) := by
  refine ⟨plns_all.mpr fun d hd => ?_, ?_⟩
  · obtain ⟨n, hn, rfl⟩ := List.mem_map.mp hd
    intro c hc
    rw [tx_cps] at hc
    have all : ∀ c ∈ LetS, c < 128 := by decide
    exact all c ((h n hn).2.2 c hc)
  · have := names_depth l
    simp only [toPy, PyData.depth]
    omega

theorem dep_vl (n : Nat) (v : Vl) : Dep n v.d := by cases n <;> cases v <;> exact trivial
theorem dep_tl (t : Td) (h : t.length ≤ 100000) : Dep 2 (.tup (tlD t)) := by
  refine ⟨by rw [tlD_len]; exact h, fun x hx => ?_⟩
  obtain ⟨p, _, rfl⟩ := List.mem_map.mp hx
  refine ⟨by show 2 ≤ 100000; decide, fun y hy => ?_⟩
  rcases List.mem_cons.mp hy with rfl | hy
  · trivial
  · rw [List.mem_singleton.mp hy]
    exact dep_vl 0 p.2
/-! ### the law -/
def W_law (PT : Addr) : Wt := fun ds M k => ∃ ns : List Int, ds = [.lsk (ns.map D.int)] ∧ M = [(PT, .tb)] ∧ ns.length ≤ 63 ∧ ∀ M', k (.bl true) M'
theorem law_asks (PT : Addr) (ns : List Int) (hl : ns.length ≤ 63) : W_law PT [.lsk (ns.map D.int)] [(PT, .tb)] fun d _ => d = .bl true := ⟨ns, rfl, rfl, hl, fun _ => rfl⟩
abbrev lawLevel : Nat := 30
theorem perm_six {X : Mu} {t r p : Addr × MO} : (p :: ((t :: X) ++ [r])).Perm (([r] ++ (p :: X)) ++ [t]) := by
  have h1 : p :: ((t :: X) ++ [r]) = ([p, t] ++ X) ++ [r] := by simp
  rw [h1]
  refine List.perm_append_comm.trans ?_
  rw [List.append_assoc]
  refine List.Perm.append_left [r] ?_
  show (p :: ([t] ++ X)).Perm (p :: (X ++ [t]))
  exact List.Perm.cons p List.perm_append_comm
theorem perm_tx {ys : List Str} {l : List Nm} (h : ys.Perm (l.map tx)) : ∃ m : List Nm, ys = m.map tx ∧ m.Perm l := by
  refine ⟨ys.map fun s => s.cps.toList, ?_, ?_⟩
  · rw [List.map_map]
    refine (List.map_id ys).symm.trans (List.map_congr_left fun y hy => ?_)
    obtain ⟨n, _, rfl⟩ := List.mem_map.mp (h.subset hy)
    show tx n = tx (tx n).cps.toList
    rw [tx_cps]
  · have h2 := h.map (fun s : Str => s.cps.toList)
    rw [List.map_map] at h2
    have e : l.map ((fun s : Str => s.cps.toList) ∘ tx) = l := by
      refine (List.map_congr_left (g := id) fun n _ => ?_).trans (List.map_id l)
      exact tx_cps n
    rwa [e] at h2
theorem perm_seven {L X J : Mu} {p : Addr × MO} : (L ++ ((X ++ J) ++ [p])).Perm (X ++ (L ++ (J ++ [p]))) := by
  rw [List.append_assoc X J, ← List.append_assoc L X, ← List.append_assoc X L]
  exact List.Perm.append_right _ List.perm_append_comm
theorem perm_first {X : Mu} {t r p : Addr × MO} : ((X ++ ([p] ++ [t])) ++ [r]).Perm ((p :: ((t :: X) ++ [r])) ++ []) := by
  rw [List.append_nil]
  exact List.Perm.append_right [r] (List.perm_append_comm (l₁ := X))
theorem perm_back {X J : Mu} {t r p : Addr × MO} : ((X ++ J) ++ [p, t, r]).Perm ((p :: ((t :: X) ++ [r])) ++ J) := by
  rw [List.append_assoc]
  refine (List.Perm.append_left X (List.perm_append_comm (l₁ := J))).trans ?_
  rw [← List.append_assoc]
  refine List.Perm.append_right J ?_
  have h1 : p :: ((t :: X) ++ [r]) = ([p, t] ++ X) ++ [r] := by simp
  have h2 : X ++ [p, t, r] = (X ++ [p, t]) ++ [r] := by simp
  rw [h1, h2]
  exact List.Perm.append_right [r] List.perm_append_comm
theorem perm_cells {X : Mu} {t r p : Addr × MO} : (p :: ((t :: X) ++ [r])).Perm (X ++ [p, t, r]) := by
  have h1 : p :: ((t :: X) ++ [r]) = ([p, t] ++ X) ++ [r] := by simp
  have h2 : X ++ [p, t, r] = (X ++ [p, t]) ++ [r] := by simp
  rw [h1, h2]
  exact List.Perm.append_right [r] List.perm_append_comm
theorem Ls.ls_in {a : La} {S : Ls} : (a.la, MO.dK (kvD lsD S.ls)) ∈ S.m a := List.mem_append_left _ (by simp)
section
variable {P : Program} {w : World} {K : PySem.W.Frag} {mg : Str → Option Value} {base : Heap}
theorem ok_law (T : Top K mg w) {PT : Addr} (B : DefB K mg base "is_name" s_is_name ["text"] PT) {f : Addr} {fd : FuncData} (F : Fun K "law" "law" s_law f fd) : FnOk P w K mg base CX0 lawLevel f fd ["script"] (Spc K (W_law PT)) := by
  obtain ⟨C, kC⟩ := T.k_Cells
  obtain ⟨CT, kT⟩ := T.k_Turn
  obtain ⟨CM, kM⟩ := T.k_Memo
  obtain ⟨CE, kE⟩ := T.k_Evaluation
  obtain ⟨D0, D1, D2, D3, ⟨e_BadName, e_BadValue, e_NoCell, e_TooManyCells⟩, _⟩ := T.xp
  obtain ⟨Ce, _, e_BadFormula, _⟩ := T.x_BadFormula
  have c_Cells := m_cinit (P := P) (w := w) (base := base) (CM := CM) kC T
  have p_Cells_ask := p_cas2 (P := P) (w := w) (base := base) kC kT kM kE T e_NoCell
  have p_Cells_reads := p_crd (P := P) (w := w) (base := base) kC kM T e_NoCell
  have q_Cells_cell_names := m_nm2 (P := P) (w := w) (base := base) (CM := CM) kC T
  have c__law_pool := c__law_pool (P := P) (w := w) (base := base) T
  have c__law_take := c__law_take (P := P) (w := w) (base := base) T 2
  have c__law_same := c__law_same (P := P) (w := w) (base := base) T 3
  have c__law_names := c__law_names (P := P) (w := w) (base := base) T
  have c__law_worth := c__law_worth (P := P) (w := w) (base := base) T
  have c__law_from_nothing := c__law_from_nothing (P := P) (w := w) (base := base) T
  have c__law_all_reads := c__law_all_reads (P := P) (w := w) (base := base) T
  have c__law_set := c__law_set (P := P) (w := w) (base := base) (CM := CM) kC T B e_BadName e_BadValue e_BadFormula
  exact spc_ok F sc_law (fun ds M k h => by obtain ⟨ns, rfl, _⟩ := h; rfl) fun cdv A outer s H E hr => ⟨_, (pss_cons (ps_set (i := 1) sc_law.nd rfl (Or.inl rfl) (pe_c c__law_pool hr (by first | decide | omega) (by rfl) (pa_cons (pv 0) pa_nil)))
      (pss_cons (ps_set (i := 2) sc_law.nd rfl (Or.inl rfl) (pe_c c__law_names hr (by first | decide | omega) (by rfl) (pa_cons (pv 1) (pa_cons (pe_op (add_K (K := K)) pe_int (pe_c c__law_take hr (by first | decide | omega) (by rfl) (pa_cons (pv 1) (pa_cons pe_int pa_nil)))) pa_nil))))
      (pss_cons (ps_set (i := 3) sc_law.nd rfl (Or.inl rfl) (pe_mk0 c_Cells hr (by first | decide | omega) (by rfl)))
      (pss_cons (ps_set (i := 4) sc_law.nd rfl (Or.inl rfl) pe_dnewK)
      (pss_cons (ps_for PassesOwn.never rfl (pi_range1 (by rfl) T.m_range (pa_cons (pe_op (add_K (K := K)) pe_int (pe_c c__law_take hr (by first | decide | omega) (by rfl) (pa_cons (pv 1) (pa_cons pe_int pa_nil)))) pa_nil)) (pg_name (i := 5) sc_law.nd rfl (Or.inl rfl))
      (pss_cons (ps_expr (pe_c c__law_set hr (by first | decide | omega) (by rfl) (pa_cons (pv 1) (pa_cons (pv 3) (pa_cons (pv 4) (pa_cons (pv 2) pa_nil))))))
      (pss_one (ps_if (pt_cmpR (eqU_K (K := K) hr) (pe_c c__law_take hr (by first | decide | omega) (by rfl) (pa_cons (pv 1) (pa_cons pe_int pa_nil))) pe_int (nomark _))
      (pss_one (ps_expr (pe_mtE takes_none p_Cells_ask hr (by first | decide | omega) (pv 3) (pa_cons (pe_ix (ix_K (K := K)) (pe_callB (sortedD_K rfl) (by rfl) T.m_sorted (by decide +kernel) (pa_cons (pv 4) pa_nil)) (pe_c c__law_take hr (by first | decide | omega) (by rfl) (pa_cons (pv 1) (pa_cons (pe_callB lenDk_K (by rfl) T.m_len (by decide +kernel) (pa_cons (pv 4) pa_nil)) pa_nil))) (fun _ _ => rfl)) pa_nil))))
      pss_nil))))
      (pss_cons (ps_set (i := 6) sc_law.nd rfl (Or.inl rfl) (pe_c c__law_from_nothing hr (by first | decide | omega) (by rfl) (pa_cons (pv 4) pa_nil)))
      (pss_cons (ps_set (i := 7) sc_law.nd rfl (Or.inl rfl) (pe_callB (sortedD_K rfl) (by rfl) T.m_sorted (by decide +kernel) (pa_cons (pv 4) pa_nil)))
      (pss_cons (ps_if (pt_cmpR (neU_K (K := K) hr) (pe_prp q_Cells_cell_names hr (by first | decide | omega) (pv 3)) (pv 7) (nomark _))
      (pss_one (ps_ret pe_bl))
      pss_nil)
      (pss_cons (ps_for PassesOwn.never rfl (pi_range1 (by rfl) T.m_range (pa_cons (pe_op op_mul pe_int (pe_callB (len_K (K := K)) (by rfl) T.m_len (by decide +kernel) (pa_cons (pv 7) pa_nil))) pa_nil)) (pg_name (i := 5) sc_law.nd rfl (Or.inl rfl))
      (pss_cons (ps_set (i := 8) sc_law.nd rfl (Or.inl rfl) (pe_ix (ix_K (K := K)) (pv 7) (pe_c c__law_take hr (by first | decide | omega) (by rfl) (pa_cons (pv 1) (pa_cons (pe_callB (len_K (K := K)) (by rfl) T.m_len (by decide +kernel) (pa_cons (pv 7) pa_nil)) pa_nil))) (fun _ _ => rfl)))
      (pss_cons (ps_if (pt_not (tru_K (K := K) (pe_c c__law_same hr (by first | decide | omega) (by rfl) (pa_cons (pe_mtE takes_none p_Cells_ask hr (by first | decide | omega) (pv 3) (pa_cons (pv 8) pa_nil)) (pa_cons (pe_ix (ix_K (K := K)) (pe_c c__law_worth hr (by first | decide | omega) (by rfl) (pa_cons (pv 6) (pa_cons (pv 8) pa_nil))) pe_int (fun _ _ => rfl)) pa_nil)))))
      (pss_one (ps_ret pe_bl))
      pss_nil)
      (pss_one (ps_if (pt_cmpR (inDk_K (hu_of hr)) (pv 8) (pe_dget (hu_of hr) (pv 6) pe_str (fun _ _ => rfl)) (by rfl))
      (pss_cons (ps_set (i := 9) sc_law.nd rfl (Or.inl rfl) (pe_c c__law_all_reads hr (by first | decide | omega) (by rfl) (pa_cons (pe_tup (pa_cons (pe_dget (hu_of hr) (pe_dget (hu_of hr) (pv 6) pe_str (fun _ _ => rfl)) (pv 8) (fun _ _ => rfl)) (pa_cons (pe_dget (hu_of hr) (pe_dget (hu_of hr) (pv 6) pe_str (fun _ _ => rfl)) (pv 8) (fun _ _ => rfl)) pa_nil))) pa_nil)))
      (pss_one (ps_if (pt_not (tru_K (K := K) (pe_c c__law_same hr (by first | decide | omega) (by rfl) (pa_cons (pe_callTy (tup_K (K := K)) (by rfl) T.m_tuple (by decide +kernel) (pa_cons (pe_mtE takes_none p_Cells_reads hr (by first | decide | omega) (pv 3) (pa_cons (pv 8) pa_nil)) pa_nil)) (pa_cons (pe_callTy (tup_K (K := K)) (by rfl) T.m_tuple (by decide +kernel) (pa_cons (pv 9) pa_nil)) pa_nil)))))
      (pss_one (ps_ret pe_bl))
      pss_nil)))
      pss_nil)))))
      (pss_one (ps_ret pe_bl))))))))))), fun ds M kk hw => by
    obtain ⟨sc, rfl, rfl, hl, q⟩ := hw
    have hsz := sizeLine_eq
    refine as_start (δ' := [some (.lsk (sc.map D.int)), none, none, none, none, none, none, none, none, none]) rfl ?_
    walk_at "tg"
    refine ⟨[], [_], fun d M => ∃ (a : Addr) (p : Pool), p.Ok ∧ d = .ref a ∧ M = [(a, .lst p.d)], rfl, ⟨sc, rfl, rfl, hl, fun a p ok => ⟨a, p, ok, rfl, rfl⟩⟩, ?_⟩
    rintro _ _ ⟨pl, p0, ok0, rfl, rfl⟩
    walk_at "tg"
    walk_at "take"
    rintro _ _ ⟨r0, p1, ok1, h0, h1, rfl, rfl⟩
    walk_at "tg"
    obtain ⟨N, hN⟩ : ∃ N : Nat, 2 + r0 = (N : Int) := ⟨(2 + r0).toNat, by omega⟩
    rw [hN]
    have hN9 : N ≤ 9 ∧ 2 ≤ N := by omega
    refine ⟨[_], [_], fun d M => ∃ (ns : List (List Nat)) (p' : Pool), p'.Ok ∧ ns.length = N ∧ (∀ l ∈ ns, NmOk l) ∧ ns.Nodup ∧ d = .lst (nmsD ns) ∧ M = [(pl, .lst p'.d)], rfl, ⟨pl, p1, N, rfl, rfl, ok1, hN9.1, fun ns p' h1 h2 h3 h4 => ⟨ns, p', h1, h2, h3, h4, rfl, rfl⟩⟩, ?_⟩
    rintro _ _ ⟨ns, p2, ok2, hln, hnm, hnd, rfl, rfl⟩
    refine as_seq (as_set (ae_make (aa_nil fun ca cx => ⟨fun d M => d = .non ∧ ∃ lr lm la, M = Cs.m C CM ⟨ca, cx, lr, lm, la⟩ ⟨[], [], []⟩, ⟨ca, cx, rfl, rfl, fun lr lm la => ⟨rfl, lr, lm, la, rfl⟩⟩, ?_⟩)))
    rintro _ _ ⟨rfl, lr, lm, la, rfl⟩
    refine ⟨rfl, ?_⟩
    show AS K _ _ _ _
    refine as_seq (as_set (ae_dnew fun ru => ?_))
    refine as_perm (M' := LM C CM PT pl ru p2 ⟨ca, cx, lr, lm, la⟩ ⟨[], [], []⟩) (perm_first.trans (by rw [List.append_nil]; exact List.Perm.refl _)) ?_
    unfold LM
    refine as_seq ?_
    walk_at "tg"
    walk_at "take"
    rintro _ _ ⟨r1, p3, ok3, i0, i1, rfl, rfl⟩
    walk_at "tg"
    have lst0 : LSt ns (⟨[], [], []⟩ : Cs) := by
      have hA : (⟨[], [], []⟩ : Cs).A = fun _ => none := by funext m; rfl
      exact ⟨⟨List.nodup_nil, by decide, (fun n r h => nomatch h), List.nodup_nil, (fun n m h => nomatch h), List.nodup_nil, (fun n b h => nomatch h), by rw [hA]; exact aok_none⟩, (fun n r h => nomatch h), (fun n h => nomatch h)⟩
    refine ⟨by omega, by omega, fun i δ' M' => ∃ (p : Pool) (c : Ca) (S : Cs) (J : Mu) (y5 : Option D), p.Ok ∧ c.a = ca ∧ LSt ns S ∧ (1 ≤ i → S.rs ≠ []) ∧ M'.Perm (LM C CM PT pl ru p c S ++ J) ∧
      δ' = [some (.lsk (sc.map D.int)), some (.ref pl), some (.lst (nmsD ns)), some (.ref ca), some (.ref ru), y5, none, none, none, none],
      ⟨p3, ⟨ca, cx, lr, lm, la⟩, ⟨[], [], []⟩, [], _, ok3, rfl, lst0, (fun h => by omega), by rw [List.append_nil]; exact List.Perm.refl _, rfl⟩, ?_, ?_⟩
    · rintro i d δ' M' hd ⟨p4, c, S, J, y5, ok4, hca, lst, hne, hp, rfl⟩
      refine ag_name ?_
      refine as_lose hp ?_
      refine as_seq (as_drop (ae_call (aa_cons (ae_var rfl (aa_cons (ae_var rfl (aa_cons (ae_var rfl (aa_cons (ae_var rfl (aa_nil ?_)))))))))))
      refine ⟨LM C CM PT pl ru p4 c S, [], fun d M => ∃ p' c' S' J, p'.Ok ∧ c'.a = c.a ∧ LSt ns S' ∧ S'.rs ≠ [] ∧ M = LM C CM PT pl ru p' c' S' ++ J, (List.append_nil _).symm,
        ⟨pl, ru, p4, c, S, ns, by rw [hca], rfl, ok4, lst, by omega, by omega, hnm, fun p' c' S' d J h1 h2 h3 h4 _ => ⟨p', c', S', J, h1, h2, h3, h4, rfl⟩⟩, ?_⟩
      rintro d2 _ ⟨p5, c', S', J', ok5, hca', lst', hne', rfl⟩
      rw [List.append_nil]
      show AS K _ _ _ _
      refine as_lose (J := J') (List.Perm.refl _) ?_
      have hru : (ru, MO.dK (kvD lrD S'.rs)) ∈ ((PT, .tb) :: S'.m C CM c') ++ [(ru, .dK (kvD lrD S'.rs))] := List.mem_append_right _ (List.mem_singleton_self _)
      have h24 := lst'.ok.lr
      have hpos : 1 ≤ S'.rs.length := by
        cases h : S'.rs with
        | nil => exact absurd h hne'
        | cons x r => simp
      unfold LM
      walk_at "tg"
      walk_at "take"
      rintro _ _ ⟨r2, p6, ok6, j0, j1, rfl, rfl⟩
      walk_at "tg"
      refine ar_eqS (b := decide (r2 = 0)) rfl ?_
      walk_at "tg"
      refine dcase (fun c1 => ?_) (fun c1 => ?_)
      · walk_at "tg"

        refine ae_mtN (ae_var rfl ⟨c'.a, c'.dx, CoF c', by rw [hca', hca], ⟨[(pl, .lst p6.d), (PT, .tb)], _, rfl⟩, rfl, ?_⟩)
        refine aa_cons (ae_perm' (ae_op (ae_cb (aa_cons (ae_var rfl (aa_nil ?_))))))
        refine ac_sortedD (M1 := (pl, .lst p6.d) :: (PT, .tb) :: S'.m C CM c') (M2 := []) (kvs := kvD lrD S'.rs) (ks := S'.rs.map fun p => tx p.1) rfl (by unfold kvD; rw [List.map_map, List.map_map]; rfl) (by rw [List.length_map]; omega) fun ys hys hso => ?_
        walk_at "tg"
        refine ac_lenDm (a := ru) (kvs := kvD lrD S'.rs) (List.mem_cons_of_mem _ hru) ?_
        rw [kvD_len]
        walk_at "tg"
        refine ⟨[_], _, takeK _ _, rfl, take_ok ok6 (by omega) (by omega) (by omega), ?_⟩
        rintro _ _ ⟨r3, p7, ok7, l0, l1, rfl, rfl⟩
        obtain ⟨j, rfl⟩ : ∃ j : Nat, r3 = (j : Int) := ⟨r3.toNat, by omega⟩
        have hyl : ys.length = S'.rs.length := by rw [hys.length_eq, List.length_map]
        obtain ⟨z, hz⟩ : ∃ z, ys[j]? = some z := ⟨ys[j]'(by omega), List.getElem?_eq_getElem (by omega)⟩
        obtain ⟨⟨n, r⟩, hnr, rfl⟩ := List.mem_map.mp (hys.subset (List.mem_of_getElem? hz))
        refine aix_L (atI_nat (by rw [List.getElem?_map, hz]; rfl)) ?_
        refine ⟨S'.m C CM c' ++ [(pl, MO.lst p7.d), (PT, MO.tb), (ru, MO.dK (kvD lrD S'.rs))], @perm_cells (S'.m C CM c') (PT, .tb) (ru, .dK (kvD lrD S'.rs)) (pl, .lst p7.d), aa_nil ⟨S'.m C CM c', _, fun d M => ∃ S2 J, S2.Ok ∧ Ext n S' S2 [] ∧ M = S2.m C CM c' ++ J, rfl, ⟨c', S', n, rfl, rfl, lst'.ok, ⟨r, mem_lk lst'.ok.nr hnr⟩, fun S2 J h1 h2 h3 => ⟨S2, J, h1, h2, rfl⟩⟩, ?_⟩⟩
        rintro d3 _ ⟨S2, J2, ok8, ext, rfl⟩
        refine ⟨p7, c', S2, J2, _, ok7, by rw [hca', hca], ⟨ok8, by rw [ext.rs]; exact lst'.fit, by rw [ext.rs]; exact lst'.keys⟩, fun _ => by rw [ext.rs]; exact hne', ?_, rfl⟩
        rw [ext.rs]
        exact perm_back
      · walk_at "tg"
        exact ⟨p6, c', S', [], _, ok6, by rw [hca', hca], lst', fun _ => hne', by rw [List.append_nil]; exact List.Perm.refl _, rfl⟩
    · rintro δ' M' ⟨p3, c, S, J, y5, ok3, hca, lst, hne, hp, rfl⟩
      rw [rng_len] at hne
      have hne := hne (by omega)
      have hrn := lst.ok.nr
      have hrl := lst.ok.lr
      refine as_lose hp ?_
      unfold LM
      refine as_lose (M' := [(ru, .dK (kvD lrD S.rs))] ++ ((pl, .lst p3.d) :: S.m C CM c)) (J := [(PT, .tb)]) perm_six ?_
      refine as_seq ?_
      walk_at "tg"
      refine ⟨[_], _, fun d M => ∃ (a : La) (L : Ls), a.ru = ru ∧ L.rs = S.rs ∧ L.Ok ∧ (∀ n f, lkA S.rs n = some (.fml f) → ∃ v, lkA L.an n = some v) ∧ (∀ n f, lkA S.rs n = some (.fml f) → ∃ lo, lkA L.ls n = some lo) ∧ d = .ref a.st ∧ M = L.m a, rfl,
        ⟨ru, S.rs, rfl, rfl, hrl, hrn, fun n f h => lst.fit n _ h, fun a L h1 h2 h3 h4 h5 => ⟨a, L, h1, h2, h3, h4, h5, rfl, rfl⟩⟩, ?_⟩
      rintro _ _ ⟨a, L, hru, hLr, okL, hwh, hlast, rfl, rfl⟩
      obtain ⟨τ, cc, ph, _⟩ := okL.phi
      have hLR : L.R = lkA S.rs := by unfold Ls.R; rw [hLr]
      have wh : Whole L.R L.F := fun n f h => by
        rw [hLR] at h
        obtain ⟨v, hv⟩ := hwh n f h
        obtain ⟨p, hp⟩ := okL.all n f (by rw [hLR]; exact h)
        refine ⟨⟨p.2, v, (lkA L.ls n).getD none⟩, ?_⟩
        unfold Ls.F
        rw [hv, hp]
      refine as_seq (as_set (ae_cb (aa_cons (ae_var rfl (aa_nil ?_)))))
      obtain ⟨N1, N2, eN⟩ := List.append_of_mem (List.mem_append_left ((pl, .lst p3.d) :: S.m C CM c) (Ls.ru_in (a := a) (S := L)))
      rw [hru] at eN
      refine ac_sortedD (kvs := kvD lrD L.rs) (ks := S.rs.map fun p => tx p.1) eN (by rw [hLr]; unfold kvD; rw [List.map_map, List.map_map]; rfl) (by rw [List.length_map]; omega) fun ys hys hso => ?_
      clear eN N1 N2
      have hmm : (S.rs.map fun p => tx p.1) = (S.rs.map (·.1)).map tx := by rw [List.map_map]; rfl
      have hys' : ys.Perm ((S.rs.map (·.1)).map tx) := by rw [← hmm]; exact hys
      obtain ⟨nm, rfl, hnp⟩ := perm_tx hys'
      clear hys'
      have enm : (nm.map tx).map D.str = nmsD nm := by unfold nmsD; rw [List.map_map]; rfl
      rw [enm]
      have heq : Eqb (.lst (nmsD nm)) := eqb_names fun n hn => hnm n (lst.keys n (hnp.subset hn))
      refine as_perm (M' := S.m C CM c ++ (L.m a ++ [(pl, .lst p3.d)])) ?_ ?_
      · refine (List.perm_append_comm).trans ?_
        rw [← List.append_assoc]
        exact List.perm_append_comm (l₁ := [(pl, MO.lst p3.d)]) (l₂ := S.m C CM c ++ L.m a)
      refine as_seq (as_if (at_test (ae_op (ae_prop rfl (ae_var rfl ⟨c.a, c.dx, CoF c, by rw [hca], ⟨[], _, rfl⟩, S.m C CM c, L.m a ++ [(pl, .lst p3.d)], fun d M => ∃ ys : List Str, ys.Perm (S.rs.map fun p => tx p.1) ∧ sortedS ys = true ∧ d = .lst (ys.map D.str) ∧ M = S.m C CM c, rfl, ⟨c, S, rfl, rfl, by omega, fun ys h1 h2 => ⟨ys, h1, h2, rfl, rfl⟩⟩, ?_⟩)))))
      rintro _ _ ⟨ys, hy1, hy2, rfl, rfl⟩
      obtain rfl := sorted_eq (hy1.trans hys.symm) hy2 hso
      rw [enm]
      refine ae_var rfl (ar_neT heq heq ?_)
      rw [show eqD (.lst (nmsD nm)) (.lst (nmsD nm)) = true from eqv_self heq.1]
      refine ⟨_, rfl, (fun z => nomatch z), fun _ => as_next ?_⟩
      have hnl : ((nmsD nm).length : Int) = (nm.length : Nat) := by rw [nmsD, List.length_map]
      have hml : nm.length = S.rs.length := by rw [hnp.length_eq, List.length_map]
      have hpos : 1 ≤ nm.length := by
        rw [hml]
        cases h : S.rs with
        | nil => exact absurd h hne
        | cons x r => simp
      refine as_seq ?_
      walk_at "tg"
      rw [hnl]
      clear hp hy1 hy2
      refine ⟨by omega, by omega, fun i δ' M' => ∃ (p : Pool) (c : Ca) (S1 : Cs) (J : Mu) (y5 y8 y9 : Option D), p.Ok ∧ c.a = ca ∧ S1.Ok ∧ S1.rs = S.rs ∧ M'.Perm ((pl, .lst p.d) :: (S1.m C CM c ++ L.m a) ++ J) ∧
        δ' = [some (.lsk (sc.map D.int)), some (.ref pl), some (.lst (nmsD ns)), some (.ref ca), some (.ref ru), y5, some (.ref a.st), some (.lst (nmsD nm)), y8, y9],
        ⟨p3, c, S, [], _, _, _, ok3, hca, lst.ok, rfl, ?_, rfl⟩, ?_, ?_⟩
      · rw [List.append_nil, ← List.append_assoc]
        exact List.perm_append_comm (l₂ := [(pl, MO.lst p3.d)])
      · rintro i d δ' M' hd ⟨p4, c', S1, J', z5, z8, z9, ok4, hca', okS, hSr, hp', rfl⟩
        refine ag_name ?_
        refine as_lose hp' ?_
        refine as_seq ?_
        walk_at "tg"
        rw [hnl]
        refine ⟨[_], _, takeK _ _, rfl, take_ok ok4 (by omega) (by omega) (by omega), ?_⟩
        rintro _ _ ⟨r2, p5, ok5, j0, j1, rfl, rfl⟩
        obtain ⟨j, rfl⟩ : ∃ j : Nat, r2 = (j : Int) := ⟨r2.toNat, by omega⟩
        obtain ⟨n, hn⟩ : ∃ n, nm[j]? = some n := ⟨nm[j]'(by omega), List.getElem?_eq_getElem (by omega)⟩
        have hat : atI (nmsD nm) (j : Nat) = some (.str (tx n)) := atI_nat (by rw [nmsD, List.getElem?_map, hn]; rfl)
        refine aix_L hat ?_
        obtain ⟨rr, hrr⟩ : ∃ r, lkA S.rs n = some r := by
          cases h : lkA S.rs n with
          | some r => exact ⟨r, rfl⟩
          | none => exact absurd (hnp.subset (List.mem_of_getElem? hn)) (lkA_none.mp h)
        have hSR : S1.R = lkA S.rs := by unfold Cs.R; rw [hSr]
        refine as_perm (M' := S1.m C CM c' ++ (L.m a ++ [(pl, .lst p5.d)])) ?_ ?_
        · refine (List.perm_append_comm (l₁ := [(pl, .lst p5.d)]) (l₂ := S1.m C CM c' ++ L.m a)).trans ?_
          rw [List.append_assoc]
        refine as_seq (as_if (at_not (at_tru (ae_call (aa_cons (ae_mtN (ae_var rfl ⟨c'.a, c'.dx, CoF c', by rw [hca'], ⟨[], _, rfl⟩, rfl, ?_⟩)))))))
        walk_at "tg"
        refine ⟨S1.m C CM c', _, fun d M => ∃ S' J, S'.Ok ∧ Ext n S1 S' [] ∧ S'.isAns n = true ∧ d = (S'.worth n).d ∧ M = S'.m C CM c' ++ J, rfl, ⟨c', S1, n, rfl, rfl, okS, ⟨rr, by rw [hSR]; exact hrr⟩, fun S' J h1 h2 h3 => ⟨S', J, h1, h2, h3, rfl, rfl⟩⟩, ?_⟩
        rintro _ _ ⟨S', J2, okS', ext, ia, rfl, rfl⟩
        have hSr' : S'.rs = S.rs := by rw [ext.rs, hSr]
        have hSR' : S'.R = L.R := by unfold Cs.R Ls.R; rw [hSr', hLr]
        have sub := okS'.aok.sub L.F τ (by rw [hSR']; exact ph) (by rw [hSR']; exact wh)
        have hkn := known_mono sub n _ (Cs.isAns_known okS' ia)
        rw [hSR', ← Ls.worth_known okL] at hkn
        refine aa_cons (ae_op (ae_callP ?_))
        walk_at "tg"
        refine ⟨L.m a, (S'.m C CM c' ++ J2) ++ [(pl, .lst p5.d)], fun d M => d = woD (L.worth n) ∧ M = L.m a, ?_, ⟨a, L, n, rfl, ⟨Ls.ru_in, Ls.an_in, Ls.st_in⟩, rfl, rfl⟩, ?_⟩
        · rw [← List.append_assoc, ← List.append_assoc]
          exact List.Perm.append_right _ List.perm_append_comm
        rintro _ _ ⟨rfl, rfl⟩
        rw [hkn]
        show AE K _ _ _ fun y M2 => AR K _ (.tup [.bl true, (S'.worth n).d]) y M2 _
        walk_at "tg"
        refine ⟨[], _, fun d M => d = .bl true ∧ M = [], rfl, ⟨2, (S'.worth n).d, rfl, rfl, rfl, dep_vl 2 _, rfl, rfl⟩, ?_⟩
        rintro _ _ ⟨rfl, rfl⟩
        walk_at "tg1"
        walk_at "tg1"
        refine as_next ?_
        show AS K _ _ (L.m a ++ ((S'.m C CM c' ++ J2) ++ [(pl, .lst p5.d)])) _
        have perm1 : (L.m a ++ ((S'.m C CM c' ++ J2) ++ [(pl, MO.lst p5.d)])).Perm (S'.m C CM c' ++ (L.m a ++ (J2 ++ [(pl, .lst p5.d)]))) := perm_seven
        have perm2 : (S'.m C CM c' ++ (L.m a ++ (J2 ++ [(pl, MO.lst p5.d)]))).Perm ((pl, .lst p5.d) :: (S'.m C CM c' ++ L.m a) ++ J2) := by
          rw [← List.append_assoc]
          refine (List.Perm.append_left _ (List.perm_append_comm (l₁ := J2) (l₂ := [(pl, MO.lst p5.d)]))).trans ?_
          rw [← List.append_assoc]
          exact List.Perm.append_right J2 (List.perm_append_comm (l₂ := [(pl, MO.lst p5.d)]))
        refine as_perm perm1 ?_
        have inL : ∀ {x : Addr × MO}, x ∈ L.m a → x ∈ S'.m C CM c' ++ (L.m a ++ (J2 ++ [(pl, MO.lst p5.d)])) := fun h => List.mem_append_right _ (List.mem_append_left _ h)
        refine as_if ?_
        refine at_test ?_
        refine ae_op ?_
        refine ae_var rfl ?_
        refine ae_dgetm (ae_var rfl (ae_str ⟨a.st, stKV a, .inr (Str.ofString "reads"), .ref a.rd, rfl, rfl, inL Ls.st_in, st_reads, ?_⟩))
        refine ar_inDm (inL Ls.rd_in) (key := .inr (tx n)) rfl ?_
        rw [valD_kv]
        have hRn : S'.R n = some rr := by rw [hSR', hLR]; exact hrr
        cases rr with
        | inp v =>
          have hno : lkA L.rd n = none := by
            cases h : lkA L.rd n with
            | none => rfl
            | some p =>
              obtain ⟨f, hf⟩ := okL.dom n p h
              rw [hLR, hrr] at hf
              cases hf
          rw [hno]
          refine ⟨_, rfl, (fun z => nomatch z), fun _ => as_next ?_⟩
          exact ⟨p5, c', S', J2, _, _, _, ok5, hca', okS', hSr', perm2, rfl⟩
        | fml fo =>
          have hia : (lkA S'.an n).isSome = true := by
            unfold Cs.isAns at ia
            rw [hRn] at ia
            exact ia
          obtain ⟨b, hb⟩ := Option.isSome_iff_exists.mp hia
          obtain ⟨mo, hmo⟩ := okS'.an n b hb
          have hA : S'.A n = some mo.e := by
            unfold Cs.A
            rw [hb, hmo]
            rfl
          have hF := sub n _ hA
          obtain ⟨p, hlp⟩ := okL.all n fo (by rw [hLR]; exact hrr)
          obtain ⟨lo, hlo⟩ := hlast n fo hrr
          have hrds : mo.e.rds = rdsT p.2 lo := by
            unfold Ls.F at hF
            rw [hlp, hlo] at hF
            cases hv : lkA L.an n with
            | none => rw [hv] at hF; cases hF
            | some v =>
              rw [hv] at hF
              have e9 := Option.some.inj hF
              rw [← e9]
              rfl
          have htl : p.2.length ≤ 81 := by
            obtain ⟨h8, _⟩ := okL.asked n p fo hlp (by rw [hLR]; exact hrr)
            have h7 := asked_len h8
            have h6 : lvs fo ≤ 81 := lvs_ok (okL.ru n fo (by rw [hLR]; exact hrr))
            omega
          have htl2 : (rdsT p.2 lo).length ≤ 82 := by
            unfold rdsT
            rw [List.length_append]
            cases lo <;> simp <;> omega
          rw [hlp]
          refine ⟨_, rfl, fun _ => ?_, fun z => nomatch z⟩
          refine as_seq (as_set (ae_callP (aa_cons (ae_tup (aa_cons ?_)))))
          refine ae_dgetm (ae_dgetm (ae_var rfl (ae_str ⟨a.st, stKV a, .inr (Str.ofString "reads"), .ref a.rd, rfl, rfl, inL Ls.st_in, st_reads, ae_var rfl ⟨a.rd, kvD adD L.rd, .inr (tx n), .ref p.1, rfl, rfl, inL Ls.rd_in, by rw [valD_kv, hlp]; rfl, ?_⟩⟩)))
          refine aa_cons (ae_dgetm (ae_dgetm (ae_var rfl (ae_str ⟨a.st, stKV a, .inr (Str.ofString "last"), .ref a.la, rfl, rfl, inL Ls.st_in, st_last, ae_var rfl ⟨a.la, kvD lsD L.ls, .inr (tx n), lsD lo, rfl, rfl, inL Ls.ls_in, by rw [valD_kv, hlo]; rfl, ?_⟩⟩))))
          walk_at "tg"
          obtain ⟨N1, N2, eN⟩ := List.append_of_mem (inL (Ls.tl_in hlp))
          refine ⟨[(p.1, .lst (tlD p.2))], N1 ++ N2, fun d M => d = .lst (tlD (rdsT p.2 lo)) ∧ M = [(p.1, .lst (tlD p.2))], by rw [eN]; exact List.perm_middle, ⟨p.1, p.2, lo, rfl, rfl, by omega, rfl, rfl⟩, ?_⟩
          rintro _ _ ⟨rfl, rfl⟩
          refine as_perm (M' := S'.m C CM c' ++ (L.m a ++ (J2 ++ [(pl, .lst p5.d)]))) (by rw [eN]; exact (List.perm_middle (l₁ := N1) (l₂ := N2) (a := (p.1, MO.lst (tlD p.2)))).symm) ?_
          walk_at "tg"
          refine ae_mtN (ae_var rfl ⟨c'.a, c'.dx, CoF c', by rw [hca'], ⟨[], _, rfl⟩, rfl, ?_⟩)
          walk_at "tg"
          refine ⟨S'.m C CM c', _, fun d M => d = rdD (lkA S'.ms n) ∧ M = S'.m C CM c', rfl, ⟨c', S', n, rfl, rfl, okS', ⟨_, hRn⟩, rfl, rfl⟩, ?_⟩
          rintro _ _ ⟨rfl, rfl⟩
          rw [hmo]
          show AA K _ _ _ fun ds M2 => AC K _ (.lst (tlD mo.e.rds) :: ds) M2 _
          rw [hrds]
          walk_at "tg"
          refine ⟨[], _, fun d M => d = .bl true ∧ M = [], rfl, ⟨2, .tup (tlD (rdsT p.2 lo)), rfl, rfl, rfl, dep_tl _ (by omega), rfl, rfl⟩, ?_⟩
          rintro _ _ ⟨rfl, rfl⟩
          walk_at "tg"
          exact ⟨p5, c', S', J2, _, _, _, ok5, hca', okS', hSr', perm2, rfl⟩
      · rintro δ' M' ⟨p4, c', S1, J', z5, z8, z9, ok4, hca', okS, hSr, hp', rfl⟩
        walk_at "tg"
        exact q _⟩
end

theorem all_mk {l : PySem.W.OpenLaw} {w : World} {K : PySem.W.Frag} {h : Heap} {mg : Str → Option Value} {tc tP fa f0 f1 f2 f3 f4 f5 f6 f7 f8 f9 f10 f11 f12 f13 f14 f15 f16 f17 f18 f19 f20 f21 f22 f23 : Addr} (X : K.In h) (G : h.Ns mainGlobals mg) (hfa : mg "law" = some (.ref fa))
    {od0 an0 od1 an1 od2 an2 od3 an3 od4 an4 od5 an5 od6 an6 od7 an7 od8 an8 od9 an9 od10 an10 od11 an11 od12 an12 od13 an13 od14 an14 od15 an15 od16 an16 od17 an17 od18 an18 od19 an19 od20 an20 od21 an21 od22 an22 od23 an23 : Option Addr} {sl0 sl1 sl2 sl3 sl4 sl5 sl6 sl7 sl8 sl9 sl10 sl11 sl12 sl13 sl14 sl15 sl16 sl17 sl18 sl19 sl20 sl21 sl22 sl23 : Array (Option Value)} {oc0 kV0 dc0 pm0 cd0 ct0 oc1 kV1 dc1 pm1 ct1 oc2 kV2 dc2 pm2 cd2 ct2 oc3 kV3 dc3 pm3 cd3 ct3 oc4 kV4 dc4 pm4 cd4 ct4 oc5 kV5 dc5 pm5 cd5 ct5 oc6 kV6 dc6 pm6 cd6 ct6 oc7 kV7 dc7 pm7 cd7 ct7 oc8 kV8 dc8 pm8 cd8 ct8 oc9 kV9 dc9 pm9 cd9 ct9 oc10 kV10 dc10 pm10 cd10 ct10 oc11 kV11 dc11 pm11 cd11 ct11 oc12 kV12 dc12 pm12 cd12 ct12 oc13 kV13 dc13 pm13 cd13 ct13 oc14 kV14 dc14 pm14 cd14 ct14 oc15 kV15 dc15 pm15 cd15 ct15 oc16 kV16 dc16 pm16 cd16 ct16 oc17 kV17 dc17 pm17 cd17 ct17 oc18 kV18 dc18 pm18 cd18 ct18 oc19 kV19 dc19 pm19 cd19 ct19 oc20 kV20 dc20 pm20 cd20 ct20 oc21 kV21 dc21 pm21 cd21 ct21 oc22 kV22 dc22 pm22 cd22 ct22 oc23 kV23 dc23 pm23 cd23 ct23 : Value}
    {CT : Addr} {C0 N0 fI0 : Addr} {nm0 q0 : Str} {bs0 sub0 : List Value} {sn0 : List Str} {ab0 : Bool} {col0 : Option Bool} {dd0 odI0 anI0 : Option Addr} {jj0_0 jj1_0 jj2_0 jj3_0 jj5_0 : Option Value} {slI0 : Array (Option Value)} {ocI0 kVI0 dcI0 pmI0 cdI0 ctI0 : Value}
    {D0 D1 D2 D3 : Addr}
    (a0 : PySem.W.nsIn K mainGlobals "_wall" = some (some (.ref f0))) (l0 : K.lookup f0 = some ⟨oc0, od0, .func (PySem.W.fnOf "_wall" "_wall" (defArgs s__wall) (defBody s__wall) (defScope s__wall) .none kV0 dc0 pm0 an0 cd0 ct0), sl0⟩) (c0 : PySem.W.codeIn K cd0 "_wall" = true) (k0 : PySem.W.keepIn K (.ref f0) = true)
    (a1 : PySem.W.nsIn K mainGlobals "is_name" = some (some (.ref f1))) (l1 : K.lookup f1 = some ⟨oc1, od1, .func (PySem.W.fnOf "is_name" "is_name" (defArgs s_is_name) (defBody s_is_name) (defScope s_is_name) .none kV1 dc1 pm1 an1 (.ref tc) ct1), sl1⟩) (c1 : PySem.W.codeIn K (.ref tc) "is_name" = true) (k1 : PySem.W.keepIn K (.ref f1) = true)
    (a2 : PySem.W.nsIn K mainGlobals "check_formula" = some (some (.ref f2))) (l2 : K.lookup f2 = some ⟨oc2, od2, .func (PySem.W.fnOf "check_formula" "check_formula" (defArgs s_check_formula) (defBody s_check_formula) (defScope s_check_formula) .none kV2 dc2 pm2 an2 cd2 ct2), sl2⟩) (c2 : PySem.W.codeIn K cd2 "check_formula" = true) (k2 : PySem.W.keepIn K (.ref f2) = true)
    (a3 : PySem.W.nsIn K mainGlobals "check_part" = some (some (.ref f3))) (l3 : K.lookup f3 = some ⟨oc3, od3, .func (PySem.W.fnOf "check_part" "check_part" (defArgs s_check_part) (defBody s_check_part) (defScope s_check_part) .none kV3 dc3 pm3 an3 cd3 ct3), sl3⟩) (c3 : PySem.W.codeIn K cd3 "check_part" = true) (k3 : PySem.W.keepIn K (.ref f3) = true)
    (a4 : PySem.W.nsIn K mainGlobals "check_tuple" = some (some (.ref f4))) (l4 : K.lookup f4 = some ⟨oc4, od4, .func (PySem.W.fnOf "check_tuple" "check_tuple" (defArgs s_check_tuple) (defBody s_check_tuple) (defScope s_check_tuple) .none kV4 dc4 pm4 an4 cd4 ct4), sl4⟩) (c4 : PySem.W.codeIn K cd4 "check_tuple" = true) (k4 : PySem.W.keepIn K (.ref f4) = true)
    (a5 : PySem.W.nsIn K mainGlobals "check_cell_name" = some (some (.ref f5))) (l5 : K.lookup f5 = some ⟨oc5, od5, .func (PySem.W.fnOf "check_cell_name" "check_cell_name" (defArgs s_check_cell_name) (defBody s_check_cell_name) (defScope s_check_cell_name) .none kV5 dc5 pm5 an5 cd5 ct5), sl5⟩) (c5 : PySem.W.codeIn K cd5 "check_cell_name" = true) (k5 : PySem.W.keepIn K (.ref f5) = true)
    (a6 : PySem.W.nsIn K mainGlobals "joined" = some (some (.ref f6))) (l6 : K.lookup f6 = some ⟨oc6, od6, .func (PySem.W.fnOf "joined" "joined" (defArgs s_joined) (defBody s_joined) (defScope s_joined) .none kV6 dc6 pm6 an6 cd6 ct6), sl6⟩) (c6 : PySem.W.codeIn K cd6 "joined" = true) (k6 : PySem.W.keepIn K (.ref f6) = true)
    (a7 : PySem.W.nsIn K mainGlobals "check_name" = some (some (.ref f7))) (l7 : K.lookup f7 = some ⟨oc7, od7, .func (PySem.W.fnOf "check_name" "check_name" (defArgs s_check_name) (defBody s_check_name) (defScope s_check_name) .none kV7 dc7 pm7 an7 cd7 ct7), sl7⟩) (c7 : PySem.W.codeIn K cd7 "check_name" = true) (k7 : PySem.W.keepIn K (.ref f7) = true)
    (a8 : PySem.W.nsIn K mainGlobals "is_value" = some (some (.ref f8))) (l8 : K.lookup f8 = some ⟨oc8, od8, .func (PySem.W.fnOf "is_value" "is_value" (defArgs s_is_value) (defBody s_is_value) (defScope s_is_value) .none kV8 dc8 pm8 an8 cd8 ct8), sl8⟩) (c8 : PySem.W.codeIn K cd8 "is_value" = true) (k8 : PySem.W.keepIn K (.ref f8) = true)
    (a9 : PySem.W.nsIn K mainGlobals "_law_pool" = some (some (.ref f9))) (l9 : K.lookup f9 = some ⟨oc9, od9, .func (PySem.W.fnOf "_law_pool" "_law_pool" (defArgs s__law_pool) (defBody s__law_pool) (defScope s__law_pool) .none kV9 dc9 pm9 an9 cd9 ct9), sl9⟩) (c9 : PySem.W.codeIn K cd9 "_law_pool" = true) (k9 : PySem.W.keepIn K (.ref f9) = true)
    (a10 : PySem.W.nsIn K mainGlobals "_law_take" = some (some (.ref f10))) (l10 : K.lookup f10 = some ⟨oc10, od10, .func (PySem.W.fnOf "_law_take" "_law_take" (defArgs s__law_take) (defBody s__law_take) (defScope s__law_take) .none kV10 dc10 pm10 an10 cd10 ct10), sl10⟩) (c10 : PySem.W.codeIn K cd10 "_law_take" = true) (k10 : PySem.W.keepIn K (.ref f10) = true)
    (a11 : PySem.W.nsIn K mainGlobals "_law_same" = some (some (.ref f11))) (l11 : K.lookup f11 = some ⟨oc11, od11, .func (PySem.W.fnOf "_law_same" "_law_same" (defArgs s__law_same) (defBody s__law_same) (defScope s__law_same) .none kV11 dc11 pm11 an11 cd11 ct11), sl11⟩) (c11 : PySem.W.codeIn K cd11 "_law_same" = true) (k11 : PySem.W.keepIn K (.ref f11) = true)
    (a12 : PySem.W.nsIn K mainGlobals "_law_names" = some (some (.ref f12))) (l12 : K.lookup f12 = some ⟨oc12, od12, .func (PySem.W.fnOf "_law_names" "_law_names" (defArgs s__law_names) (defBody s__law_names) (defScope s__law_names) .none kV12 dc12 pm12 an12 cd12 ct12), sl12⟩) (c12 : PySem.W.codeIn K cd12 "_law_names" = true) (k12 : PySem.W.keepIn K (.ref f12) = true)
    (a13 : PySem.W.nsIn K mainGlobals "_law_value" = some (some (.ref f13))) (l13 : K.lookup f13 = some ⟨oc13, od13, .func (PySem.W.fnOf "_law_value" "_law_value" (defArgs s__law_value) (defBody s__law_value) (defScope s__law_value) .none kV13 dc13 pm13 an13 cd13 ct13), sl13⟩) (c13 : PySem.W.codeIn K cd13 "_law_value" = true) (k13 : PySem.W.keepIn K (.ref f13) = true)
    (a14 : PySem.W.nsIn K mainGlobals "_law_formula" = some (some (.ref f14))) (l14 : K.lookup f14 = some ⟨oc14, od14, .func (PySem.W.fnOf "_law_formula" "_law_formula" (defArgs s__law_formula) (defBody s__law_formula) (defScope s__law_formula) .none kV14 dc14 pm14 an14 cd14 ct14), sl14⟩) (c14 : PySem.W.codeIn K cd14 "_law_formula" = true) (k14 : PySem.W.keepIn K (.ref f14) = true)
    (a15 : PySem.W.nsIn K mainGlobals "_law_sum" = some (some (.ref f15))) (l15 : K.lookup f15 = some ⟨oc15, od15, .func (PySem.W.fnOf "_law_sum" "_law_sum" (defArgs s__law_sum) (defBody s__law_sum) (defScope s__law_sum) .none kV15 dc15 pm15 an15 cd15 ct15), sl15⟩) (c15 : PySem.W.codeIn K cd15 "_law_sum" = true) (k15 : PySem.W.keepIn K (.ref f15) = true)
    (a16 : PySem.W.nsIn K mainGlobals "_law_next" = some (some (.ref f16))) (l16 : K.lookup f16 = some ⟨oc16, od16, .func (PySem.W.fnOf "_law_next" "_law_next" (defArgs s__law_next) (defBody s__law_next) (defScope s__law_next) .none kV16 dc16 pm16 an16 cd16 ct16), sl16⟩) (c16 : PySem.W.codeIn K cd16 "_law_next" = true) (k16 : PySem.W.keepIn K (.ref f16) = true)
    (a17 : PySem.W.nsIn K mainGlobals "_law_worth" = some (some (.ref f17))) (l17 : K.lookup f17 = some ⟨oc17, od17, .func (PySem.W.fnOf "_law_worth" "_law_worth" (defArgs s__law_worth) (defBody s__law_worth) (defScope s__law_worth) .none kV17 dc17 pm17 an17 cd17 ct17), sl17⟩) (c17 : PySem.W.codeIn K cd17 "_law_worth" = true) (k17 : PySem.W.keepIn K (.ref f17) = true)
    (a18 : PySem.W.nsIn K mainGlobals "_law_go_on" = some (some (.ref f18))) (l18 : K.lookup f18 = some ⟨oc18, od18, .func (PySem.W.fnOf "_law_go_on" "_law_go_on" (defArgs s__law_go_on) (defBody s__law_go_on) (defScope s__law_go_on) .none kV18 dc18 pm18 an18 cd18 ct18), sl18⟩) (c18 : PySem.W.codeIn K cd18 "_law_go_on" = true) (k18 : PySem.W.keepIn K (.ref f18) = true)
    (a19 : PySem.W.nsIn K mainGlobals "_law_rings" = some (some (.ref f19))) (l19 : K.lookup f19 = some ⟨oc19, od19, .func (PySem.W.fnOf "_law_rings" "_law_rings" (defArgs s__law_rings) (defBody s__law_rings) (defScope s__law_rings) .none kV19 dc19 pm19 an19 cd19 ct19), sl19⟩) (c19 : PySem.W.codeIn K cd19 "_law_rings" = true) (k19 : PySem.W.keepIn K (.ref f19) = true)
    (a20 : PySem.W.nsIn K mainGlobals "_law_from_nothing" = some (some (.ref f20))) (l20 : K.lookup f20 = some ⟨oc20, od20, .func (PySem.W.fnOf "_law_from_nothing" "_law_from_nothing" (defArgs s__law_from_nothing) (defBody s__law_from_nothing) (defScope s__law_from_nothing) .none kV20 dc20 pm20 an20 cd20 ct20), sl20⟩) (c20 : PySem.W.codeIn K cd20 "_law_from_nothing" = true) (k20 : PySem.W.keepIn K (.ref f20) = true)
    (a21 : PySem.W.nsIn K mainGlobals "_law_set" = some (some (.ref f21))) (l21 : K.lookup f21 = some ⟨oc21, od21, .func (PySem.W.fnOf "_law_set" "_law_set" (defArgs s__law_set) (defBody s__law_set) (defScope s__law_set) .none kV21 dc21 pm21 an21 cd21 ct21), sl21⟩) (c21 : PySem.W.codeIn K cd21 "_law_set" = true) (k21 : PySem.W.keepIn K (.ref f21) = true)
    (a22 : PySem.W.nsIn K mainGlobals "_law_all_reads" = some (some (.ref f22))) (l22 : K.lookup f22 = some ⟨oc22, od22, .func (PySem.W.fnOf "_law_all_reads" "_law_all_reads" (defArgs s__law_all_reads) (defBody s__law_all_reads) (defScope s__law_all_reads) .none kV22 dc22 pm22 an22 cd22 ct22), sl22⟩) (c22 : PySem.W.codeIn K cd22 "_law_all_reads" = true) (k22 : PySem.W.keepIn K (.ref f22) = true)
    (a23 : PySem.W.nsIn K mainGlobals "law" = some (some (.ref f23))) (l23 : K.lookup f23 = some ⟨oc23, od23, .func (PySem.W.fnOf "law" "law" (defArgs s_law) (defBody s_law) (defScope s_law) .none kV23 dc23 pm23 an23 cd23 ct23), sl23⟩) (c23 : PySem.W.codeIn K cd23 "law" = true) (k23 : PySem.W.keepIn K (.ref f23) = true)
    (z0 : PySem.W.nsIn K mainGlobals "all" = some none)    (z1 : PySem.W.nsIn K mainGlobals "bool" = some none)    (z2 : PySem.W.nsIn K mainGlobals "int" = some none)    (z3 : PySem.W.nsIn K mainGlobals "isinstance" = some none)    (z4 : PySem.W.nsIn K mainGlobals "len" = some none)    (z5 : PySem.W.nsIn K mainGlobals "list" = some none)    (z6 : PySem.W.nsIn K mainGlobals "max" = some none)    (z7 : PySem.W.nsIn K mainGlobals "min" = some none)    (z8 : PySem.W.nsIn K mainGlobals "property" = some none)    (z9 : PySem.W.nsIn K mainGlobals "range" = some none)    (z10 : PySem.W.nsIn K mainGlobals "sorted" = some none)    (z11 : PySem.W.nsIn K mainGlobals "str" = some none)    (z12 : PySem.W.nsIn K mainGlobals "tuple" = some none)    {zs0 : Str} {zt0 : Tok} (gs0 : PySem.W.nsIn K mainGlobals "LETTERS" = some (some (.str zs0 zt0))) (ge0 : zs0 = tx cst_LETTERS)
    {zt1 : Tok} (gs1 : PySem.W.nsIn K mainGlobals "LONGEST_NAME" = some (some (.int 12 zt1)))
    {zt2 : Tok} (gs2 : PySem.W.nsIn K mainGlobals "LARGEST" = some (some (.int 1000000 zt2)))
    {zt3 : Tok} (gs3 : PySem.W.nsIn K mainGlobals "MOST_NESTED" = some (some (.int 6 zt3)))
    {ga4 : Addr} {gn4 : Nat} {gh4_0 gh4_1 gh4_2 gh4_3 gh4_4 : Int} {gz4_0 gz4_1 gz4_2 gz4_3 gz4_4 : Str} {gt4_0 gu4_0 gt4_1 gu4_1 gt4_2 gu4_2 gt4_3 gu4_3 gt4_4 gu4_4 : Tok} (gs4 : PySem.W.nsIn K mainGlobals "LENGTHS" = some (some (.ref ga4))) (gk4 : K.lookup ga4 = some ⟨.type "dict", none, .dict #[⟨gh4_0, .str gz4_0 gt4_0, .int 3 gu4_0⟩, ⟨gh4_1, .str gz4_1 gt4_1, .int 3 gu4_1⟩, ⟨gh4_2, .str gz4_2 gt4_2, .int 3 gu4_2⟩, ⟨gh4_3, .str gz4_3 gt4_3, .int 4 gu4_3⟩, ⟨gh4_4, .str gz4_4 gt4_4, .int 2 gu4_4⟩] gn4, #[]⟩) (ge4 : [gz4_0, gz4_1, gz4_2, gz4_3, gz4_4] = [tx [112, 108, 117, 115], tx [108, 101, 97, 115, 116], tx [111, 114], tx [105, 102], tx [99, 121, 99, 108, 105, 99]]) (gb4 : (ga4 == sysModules) = false)
    (gq4_0 : gh4_0 = PyData.keyHash w.params gz4_0)
    (gq4_1 : gh4_1 = PyData.keyHash w.params gz4_1)
    (gq4_2 : gh4_2 = PyData.keyHash w.params gz4_2)
    (gq4_3 : gh4_3 = PyData.keyHash w.params gz4_3)
    (gq4_4 : gh4_4 = PyData.keyHash w.params gz4_4)
    {zs5 : Str} {zt5 : Tok} (gs5 : PySem.W.nsIn K mainGlobals "CYCLIC" = some (some (.str zs5 zt5))) (ge5 : zs5 = tx cst_CYCLIC)
    {zt6 : Tok} (gs6 : PySem.W.nsIn K mainGlobals "MOST_CELLS" = some (some (.int 24 zt6)))
    {zs7 : Str} {zt7 : Tok} (gs7 : PySem.W.nsIn K mainGlobals "RUN" = some (some (.str zs7 zt7))) (ge7 : zs7 = tx cst_RUN)
    {zs8 : Str} {zt8 : Tok} (gs8 : PySem.W.nsIn K mainGlobals "KEPT" = some (some (.str zs8 zt8))) (ge8 : zs8 = tx cst_KEPT)
    {qC0 : Addr} (ke0 : PySem.W.nsIn K mainGlobals "Evaluation" = some (some (.ref qC0))) (kp0 : PySem.W.plainGet K qC0 Str.empty = true) (kh0 : PySem.W.hasDictIn K qC0 = true) (ko0 : PySem.W.plainOver K qC0 = true) (ks0 : PySem.W.findIn K (.ref qC0) "__setattr__" = some (some (.builtin "object.__setattr__"))) (km0 : PySem.W.makesIn K qC0 = true) (kk0 : PySem.W.keepIn K (.ref qC0) = true)
    (kf0_0 : PySem.W.findIn K (.ref qC0) "wanted" = some none)
    (kf0_1 : PySem.W.findIn K (.ref qC0) "is_cyclic" = some none)
    (kf0_2 : PySem.W.findIn K (.ref qC0) "_answers" = some none)
    (kf0_3 : PySem.W.findIn K (.ref qC0) "_used" = some none)
    (kf0_4 : PySem.W.findIn K (.ref qC0) "_result" = some none)
    {mf0_0 : Addr} {mod0_0 man0_0 : Option Addr} {msl0_0 : Array (Option Value)} {moc0_0 mkV0_0 mdc0_0 mpm0_0 mcd0_0 mct0_0 : Value} (ma0_0 : PySem.W.findIn K (.ref qC0) "__init__" = some (some (.ref mf0_0))) (mi0_0 : PySem.W.isFn K (.ref mf0_0) = true) (mk0_0 : PySem.W.keepIn K (.ref mf0_0) = true) (ml0_0 : K.lookup mf0_0 = some ⟨moc0_0, mod0_0, .func (PySem.W.fnOf "__init__" "Evaluation.__init__" (defArgs s_Evaluation___init__) (defBody s_Evaluation___init__) (defScope s_Evaluation___init__) .none mkV0_0 mdc0_0 mpm0_0 man0_0 mcd0_0 mct0_0), msl0_0⟩) (mc0_0 : PySem.W.codeIn K mcd0_0 "Evaluation.__init__" = true)
    {mf0_1 : Addr} {mod0_1 man0_1 : Option Addr} {msl0_1 : Array (Option Value)} {moc0_1 mkV0_1 mdc0_1 mpm0_1 mcd0_1 mct0_1 : Value} (ma0_1 : PySem.W.findIn K (.ref qC0) "result" = some (some (.ref mf0_1))) (mi0_1 : PySem.W.isFn K (.ref mf0_1) = true) (mk0_1 : PySem.W.keepIn K (.ref mf0_1) = true) (ml0_1 : K.lookup mf0_1 = some ⟨moc0_1, mod0_1, .func (PySem.W.fnOf "result" "Evaluation.result" (defArgs s_Evaluation_result) (defBody s_Evaluation_result) (defScope s_Evaluation_result) .none mkV0_1 mdc0_1 mpm0_1 man0_1 mcd0_1 mct0_1), msl0_1⟩) (mc0_1 : PySem.W.codeIn K mcd0_1 "Evaluation.result" = true)
    {mf0_2 : Addr} {mod0_2 man0_2 : Option Addr} {msl0_2 : Array (Option Value)} {moc0_2 mkV0_2 mdc0_2 mpm0_2 mcd0_2 mct0_2 : Value} (ma0_2 : PySem.W.findIn K (.ref qC0) "_value" = some (some (.ref mf0_2))) (mi0_2 : PySem.W.isFn K (.ref mf0_2) = true) (mk0_2 : PySem.W.keepIn K (.ref mf0_2) = true) (ml0_2 : K.lookup mf0_2 = some ⟨moc0_2, mod0_2, .func (PySem.W.fnOf "_value" "Evaluation._value" (defArgs s_Evaluation__value) (defBody s_Evaluation__value) (defScope s_Evaluation__value) .none mkV0_2 mdc0_2 mpm0_2 man0_2 mcd0_2 mct0_2), msl0_2⟩) (mc0_2 : PySem.W.codeIn K mcd0_2 "Evaluation._value" = true)
    {mf0_3 : Addr} {mod0_3 man0_3 : Option Addr} {msl0_3 : Array (Option Value)} {moc0_3 mkV0_3 mdc0_3 mpm0_3 mcd0_3 mct0_3 : Value} (ma0_3 : PySem.W.findIn K (.ref qC0) "_named" = some (some (.ref mf0_3))) (mi0_3 : PySem.W.isFn K (.ref mf0_3) = true) (mk0_3 : PySem.W.keepIn K (.ref mf0_3) = true) (ml0_3 : K.lookup mf0_3 = some ⟨moc0_3, mod0_3, .func (PySem.W.fnOf "_named" "Evaluation._named" (defArgs s_Evaluation__named) (defBody s_Evaluation__named) (defScope s_Evaluation__named) .none mkV0_3 mdc0_3 mpm0_3 man0_3 mcd0_3 mct0_3), msl0_3⟩) (mc0_3 : PySem.W.codeIn K mcd0_3 "Evaluation._named" = true)
    {mf0_4 : Addr} {mod0_4 man0_4 : Option Addr} {msl0_4 : Array (Option Value)} {moc0_4 mkV0_4 mdc0_4 mpm0_4 mcd0_4 mct0_4 : Value} (ma0_4 : PySem.W.findIn K (.ref qC0) "_told" = some (some (.ref mf0_4))) (mi0_4 : PySem.W.isFn K (.ref mf0_4) = true) (mk0_4 : PySem.W.keepIn K (.ref mf0_4) = true) (ml0_4 : K.lookup mf0_4 = some ⟨moc0_4, mod0_4, .func (PySem.W.fnOf "_told" "Evaluation._told" (defArgs s_Evaluation__told) (defBody s_Evaluation__told) (defScope s_Evaluation__told) .none mkV0_4 mdc0_4 mpm0_4 man0_4 mcd0_4 mct0_4), msl0_4⟩) (mc0_4 : PySem.W.codeIn K mcd0_4 "Evaluation._told" = true)
    {qC1 : Addr} (ke1 : PySem.W.nsIn K mainGlobals "Memo" = some (some (.ref qC1))) (kp1 : PySem.W.plainGet K qC1 Str.empty = true) (kh1 : PySem.W.hasDictIn K qC1 = true) (ko1 : PySem.W.plainOver K qC1 = true) (ks1 : PySem.W.findIn K (.ref qC1) "__setattr__" = some (some (.builtin "object.__setattr__"))) (km1 : PySem.W.makesIn K qC1 = true) (kk1 : PySem.W.keepIn K (.ref qC1) = true)
    (kf1_0 : PySem.W.findIn K (.ref qC1) "told" = some none)
    (kf1_1 : PySem.W.findIn K (.ref qC1) "answer" = some none)
    (kf1_2 : PySem.W.findIn K (.ref qC1) "last" = some none)
    {mf1_0 : Addr} {mod1_0 man1_0 : Option Addr} {msl1_0 : Array (Option Value)} {moc1_0 mkV1_0 mdc1_0 mpm1_0 mcd1_0 mct1_0 : Value} (ma1_0 : PySem.W.findIn K (.ref qC1) "__init__" = some (some (.ref mf1_0))) (mi1_0 : PySem.W.isFn K (.ref mf1_0) = true) (mk1_0 : PySem.W.keepIn K (.ref mf1_0) = true) (ml1_0 : K.lookup mf1_0 = some ⟨moc1_0, mod1_0, .func (PySem.W.fnOf "__init__" "Memo.__init__" (defArgs s_Memo___init__) (defBody s_Memo___init__) (defScope s_Memo___init__) .none mkV1_0 mdc1_0 mpm1_0 man1_0 mcd1_0 mct1_0), msl1_0⟩) (mc1_0 : PySem.W.codeIn K mcd1_0 "Memo.__init__" = true)
    {qC2 : Addr} (ke2 : PySem.W.nsIn K mainGlobals "Turn" = some (some (.ref qC2))) (kp2 : PySem.W.plainGet K qC2 Str.empty = true) (kh2 : PySem.W.hasDictIn K qC2 = true) (ko2 : PySem.W.plainOver K qC2 = true) (ks2 : PySem.W.findIn K (.ref qC2) "__setattr__" = some (some (.builtin "object.__setattr__"))) (km2 : PySem.W.makesIn K qC2 = true) (kk2 : PySem.W.keepIn K (.ref qC2) = true)
    (kf2_0 : PySem.W.findIn K (.ref qC2) "name" = some none)
    (kf2_1 : PySem.W.findIn K (.ref qC2) "told" = some none)
    (kf2_2 : PySem.W.findIn K (.ref qC2) "is_kept" = some none)
    (kf2_3 : PySem.W.findIn K (.ref qC2) "_formula" = some none)
    (kf2_4 : PySem.W.findIn K (.ref qC2) "_memo" = some none)
    {mf2_0 : Addr} {mod2_0 man2_0 : Option Addr} {msl2_0 : Array (Option Value)} {moc2_0 mkV2_0 mdc2_0 mpm2_0 mcd2_0 mct2_0 : Value} (ma2_0 : PySem.W.findIn K (.ref qC2) "__init__" = some (some (.ref mf2_0))) (mi2_0 : PySem.W.isFn K (.ref mf2_0) = true) (mk2_0 : PySem.W.keepIn K (.ref mf2_0) = true) (ml2_0 : K.lookup mf2_0 = some ⟨moc2_0, mod2_0, .func (PySem.W.fnOf "__init__" "Turn.__init__" (defArgs s_Turn___init__) (defBody s_Turn___init__) (defScope s_Turn___init__) .none mkV2_0 mdc2_0 mpm2_0 man2_0 mcd2_0 mct2_0), msl2_0⟩) (mc2_0 : PySem.W.codeIn K mcd2_0 "Turn.__init__" = true)
    {mf2_1 : Addr} {mod2_1 man2_1 : Option Addr} {msl2_1 : Array (Option Value)} {moc2_1 mkV2_1 mdc2_1 mpm2_1 mcd2_1 mct2_1 : Value} (ma2_1 : PySem.W.findIn K (.ref qC2) "next_name" = some (some (.ref mf2_1))) (mi2_1 : PySem.W.isFn K (.ref mf2_1) = true) (mk2_1 : PySem.W.keepIn K (.ref mf2_1) = true) (ml2_1 : K.lookup mf2_1 = some ⟨moc2_1, mod2_1, .func (PySem.W.fnOf "next_name" "Turn.next_name" (defArgs s_Turn_next_name) (defBody s_Turn_next_name) (defScope s_Turn_next_name) .none mkV2_1 mdc2_1 mpm2_1 man2_1 mcd2_1 mct2_1), msl2_1⟩) (mc2_1 : PySem.W.codeIn K mcd2_1 "Turn.next_name" = true)
    {mf2_2 : Addr} {mod2_2 man2_2 : Option Addr} {msl2_2 : Array (Option Value)} {moc2_2 mkV2_2 mdc2_2 mpm2_2 mcd2_2 mct2_2 : Value} (ma2_2 : PySem.W.findIn K (.ref qC2) "hear" = some (some (.ref mf2_2))) (mi2_2 : PySem.W.isFn K (.ref mf2_2) = true) (mk2_2 : PySem.W.keepIn K (.ref mf2_2) = true) (ml2_2 : K.lookup mf2_2 = some ⟨moc2_2, mod2_2, .func (PySem.W.fnOf "hear" "Turn.hear" (defArgs s_Turn_hear) (defBody s_Turn_hear) (defScope s_Turn_hear) .none mkV2_2 mdc2_2 mpm2_2 man2_2 mcd2_2 mct2_2), msl2_2⟩) (mc2_2 : PySem.W.codeIn K mcd2_2 "Turn.hear" = true)
    {mf2_3 : Addr} {mod2_3 man2_3 : Option Addr} {msl2_3 : Array (Option Value)} {moc2_3 mkV2_3 mdc2_3 mpm2_3 mcd2_3 mct2_3 : Value} (ma2_3 : PySem.W.findIn K (.ref qC2) "result" = some (some (.ref mf2_3))) (mi2_3 : PySem.W.isFn K (.ref mf2_3) = true) (mk2_3 : PySem.W.keepIn K (.ref mf2_3) = true) (ml2_3 : K.lookup mf2_3 = some ⟨moc2_3, mod2_3, .func (PySem.W.fnOf "result" "Turn.result" (defArgs s_Turn_result) (defBody s_Turn_result) (defScope s_Turn_result) .none mkV2_3 mdc2_3 mpm2_3 man2_3 mcd2_3 mct2_3), msl2_3⟩) (mc2_3 : PySem.W.codeIn K mcd2_3 "Turn.result" = true)
    {mf2_4 : Addr} {mod2_4 man2_4 : Option Addr} {msl2_4 : Array (Option Value)} {moc2_4 mkV2_4 mdc2_4 mpm2_4 mcd2_4 mct2_4 : Value} (ma2_4 : PySem.W.findIn K (.ref qC2) "_evaluation" = some (some (.ref mf2_4))) (mi2_4 : PySem.W.isFn K (.ref mf2_4) = true) (mk2_4 : PySem.W.keepIn K (.ref mf2_4) = true) (ml2_4 : K.lookup mf2_4 = some ⟨moc2_4, mod2_4, .func (PySem.W.fnOf "_evaluation" "Turn._evaluation" (defArgs s_Turn__evaluation) (defBody s_Turn__evaluation) (defScope s_Turn__evaluation) .none mkV2_4 mdc2_4 mpm2_4 man2_4 mcd2_4 mct2_4), msl2_4⟩) (mc2_4 : PySem.W.codeIn K mcd2_4 "Turn._evaluation" = true)
    {qC3 : Addr} (ke3 : PySem.W.nsIn K mainGlobals "Cells" = some (some (.ref qC3))) (kp3 : PySem.W.plainGet K qC3 Str.empty = true) (kh3 : PySem.W.hasDictIn K qC3 = true) (ko3 : PySem.W.plainOver K qC3 = true) (ks3 : PySem.W.findIn K (.ref qC3) "__setattr__" = some (some (.builtin "object.__setattr__"))) (km3 : PySem.W.makesIn K qC3 = true) (kk3 : PySem.W.keepIn K (.ref qC3) = true)
    (kf3_0 : PySem.W.findIn K (.ref qC3) "_rules" = some none)
    (kf3_1 : PySem.W.findIn K (.ref qC3) "_memos" = some none)
    (kf3_2 : PySem.W.findIn K (.ref qC3) "_answered" = some none)
    {mf3_0 : Addr} {mod3_0 man3_0 : Option Addr} {msl3_0 : Array (Option Value)} {moc3_0 mkV3_0 mdc3_0 mpm3_0 mcd3_0 mct3_0 : Value} (ma3_0 : PySem.W.findIn K (.ref qC3) "__init__" = some (some (.ref mf3_0))) (mi3_0 : PySem.W.isFn K (.ref mf3_0) = true) (mk3_0 : PySem.W.keepIn K (.ref mf3_0) = true) (ml3_0 : K.lookup mf3_0 = some ⟨moc3_0, mod3_0, .func (PySem.W.fnOf "__init__" "Cells.__init__" (defArgs s_Cells___init__) (defBody s_Cells___init__) (defScope s_Cells___init__) .none mkV3_0 mdc3_0 mpm3_0 man3_0 mcd3_0 mct3_0), msl3_0⟩) (mc3_0 : PySem.W.codeIn K mcd3_0 "Cells.__init__" = true)
    {mp3_1 mf3_1 : Addr} {mrs3_1 : List Value} {mod3_1 man3_1 : Option Addr} {msl3_1 : Array (Option Value)} {moc3_1 mkV3_1 mdc3_1 mpm3_1 mcd3_1 mct3_1 : Value} (ma3_1 : PySem.W.findIn K (.ref qC3) "cell_names" = some (some (.ref mp3_1))) (mg3_1 : PySem.W.specialIn K (.ref mp3_1) "__get__" = some (some (.builtin "property.__get__"))) (mt3_1 : PySem.W.takesIn K (.ref mp3_1) = some true) (mr3_1 : PySem.W.recIn K mp3_1 "property" = some (.ref mf3_1 :: mrs3_1)) (mk3_1 : PySem.W.keepIn K (.ref mf3_1) = true) (ml3_1 : K.lookup mf3_1 = some ⟨moc3_1, mod3_1, .func (PySem.W.fnOf "cell_names" "Cells.cell_names" (defArgs s_Cells_cell_names) (defBody s_Cells_cell_names) (defScope s_Cells_cell_names) .none mkV3_1 mdc3_1 mpm3_1 man3_1 mcd3_1 mct3_1), msl3_1⟩) (mc3_1 : PySem.W.codeIn K mcd3_1 "Cells.cell_names" = true)
    {mf3_2 : Addr} {mod3_2 man3_2 : Option Addr} {msl3_2 : Array (Option Value)} {moc3_2 mkV3_2 mdc3_2 mpm3_2 mcd3_2 mct3_2 : Value} (ma3_2 : PySem.W.findIn K (.ref qC3) "put" = some (some (.ref mf3_2))) (mi3_2 : PySem.W.isFn K (.ref mf3_2) = true) (mk3_2 : PySem.W.keepIn K (.ref mf3_2) = true) (ml3_2 : K.lookup mf3_2 = some ⟨moc3_2, mod3_2, .func (PySem.W.fnOf "put" "Cells.put" (defArgs s_Cells_put) (defBody s_Cells_put) (defScope s_Cells_put) .none mkV3_2 mdc3_2 mpm3_2 man3_2 mcd3_2 mct3_2), msl3_2⟩) (mc3_2 : PySem.W.codeIn K mcd3_2 "Cells.put" = true)
    {mf3_3 : Addr} {mod3_3 man3_3 : Option Addr} {msl3_3 : Array (Option Value)} {moc3_3 mkV3_3 mdc3_3 mpm3_3 mcd3_3 mct3_3 : Value} (ma3_3 : PySem.W.findIn K (.ref qC3) "define" = some (some (.ref mf3_3))) (mi3_3 : PySem.W.isFn K (.ref mf3_3) = true) (mk3_3 : PySem.W.keepIn K (.ref mf3_3) = true) (ml3_3 : K.lookup mf3_3 = some ⟨moc3_3, mod3_3, .func (PySem.W.fnOf "define" "Cells.define" (defArgs s_Cells_define) (defBody s_Cells_define) (defScope s_Cells_define) .none mkV3_3 mdc3_3 mpm3_3 man3_3 mcd3_3 mct3_3), msl3_3⟩) (mc3_3 : PySem.W.codeIn K mcd3_3 "Cells.define" = true)
    {mf3_4 : Addr} {mod3_4 man3_4 : Option Addr} {msl3_4 : Array (Option Value)} {moc3_4 mkV3_4 mdc3_4 mpm3_4 mcd3_4 mct3_4 : Value} (ma3_4 : PySem.W.findIn K (.ref qC3) "ask" = some (some (.ref mf3_4))) (mi3_4 : PySem.W.isFn K (.ref mf3_4) = true) (mk3_4 : PySem.W.keepIn K (.ref mf3_4) = true) (ml3_4 : K.lookup mf3_4 = some ⟨moc3_4, mod3_4, .func (PySem.W.fnOf "ask" "Cells.ask" (defArgs s_Cells_ask) (defBody s_Cells_ask) (defScope s_Cells_ask) .none mkV3_4 mdc3_4 mpm3_4 man3_4 mcd3_4 mct3_4), msl3_4⟩) (mc3_4 : PySem.W.codeIn K mcd3_4 "Cells.ask" = true)
    {mf3_5 : Addr} {mod3_5 man3_5 : Option Addr} {msl3_5 : Array (Option Value)} {moc3_5 mkV3_5 mdc3_5 mpm3_5 mcd3_5 mct3_5 : Value} (ma3_5 : PySem.W.findIn K (.ref qC3) "reads" = some (some (.ref mf3_5))) (mi3_5 : PySem.W.isFn K (.ref mf3_5) = true) (mk3_5 : PySem.W.keepIn K (.ref mf3_5) = true) (ml3_5 : K.lookup mf3_5 = some ⟨moc3_5, mod3_5, .func (PySem.W.fnOf "reads" "Cells.reads" (defArgs s_Cells_reads) (defBody s_Cells_reads) (defScope s_Cells_reads) .none mkV3_5 mdc3_5 mpm3_5 man3_5 mcd3_5 mct3_5), msl3_5⟩) (mc3_5 : PySem.W.codeIn K mcd3_5 "Cells.reads" = true)
    {mf3_6 : Addr} {mod3_6 man3_6 : Option Addr} {msl3_6 : Array (Option Value)} {moc3_6 mkV3_6 mdc3_6 mpm3_6 mcd3_6 mct3_6 : Value} (ma3_6 : PySem.W.findIn K (.ref qC3) "_check_cell" = some (some (.ref mf3_6))) (mi3_6 : PySem.W.isFn K (.ref mf3_6) = true) (mk3_6 : PySem.W.keepIn K (.ref mf3_6) = true) (ml3_6 : K.lookup mf3_6 = some ⟨moc3_6, mod3_6, .func (PySem.W.fnOf "_check_cell" "Cells._check_cell" (defArgs s_Cells__check_cell) (defBody s_Cells__check_cell) (defScope s_Cells__check_cell) .none mkV3_6 mdc3_6 mpm3_6 man3_6 mcd3_6 mct3_6), msl3_6⟩) (mc3_6 : PySem.W.codeIn K mcd3_6 "Cells._check_cell" = true)
    {mf3_7 : Addr} {mod3_7 man3_7 : Option Addr} {msl3_7 : Array (Option Value)} {moc3_7 mkV3_7 mdc3_7 mpm3_7 mcd3_7 mct3_7 : Value} (ma3_7 : PySem.W.findIn K (.ref qC3) "_give_rule" = some (some (.ref mf3_7))) (mi3_7 : PySem.W.isFn K (.ref mf3_7) = true) (mk3_7 : PySem.W.keepIn K (.ref mf3_7) = true) (ml3_7 : K.lookup mf3_7 = some ⟨moc3_7, mod3_7, .func (PySem.W.fnOf "_give_rule" "Cells._give_rule" (defArgs s_Cells__give_rule) (defBody s_Cells__give_rule) (defScope s_Cells__give_rule) .none mkV3_7 mdc3_7 mpm3_7 man3_7 mcd3_7 mct3_7), msl3_7⟩) (mc3_7 : PySem.W.codeIn K mcd3_7 "Cells._give_rule" = true)
    {mf3_8 : Addr} {mod3_8 man3_8 : Option Addr} {msl3_8 : Array (Option Value)} {moc3_8 mkV3_8 mdc3_8 mpm3_8 mcd3_8 mct3_8 : Value} (ma3_8 : PySem.W.findIn K (.ref qC3) "_begin_revision" = some (some (.ref mf3_8))) (mi3_8 : PySem.W.isFn K (.ref mf3_8) = true) (mk3_8 : PySem.W.keepIn K (.ref mf3_8) = true) (ml3_8 : K.lookup mf3_8 = some ⟨moc3_8, mod3_8, .func (PySem.W.fnOf "_begin_revision" "Cells._begin_revision" (defArgs s_Cells__begin_revision) (defBody s_Cells__begin_revision) (defScope s_Cells__begin_revision) .none mkV3_8 mdc3_8 mpm3_8 man3_8 mcd3_8 mct3_8), msl3_8⟩) (mc3_8 : PySem.W.codeIn K mcd3_8 "Cells._begin_revision" = true)
    {mf3_9 : Addr} {mod3_9 man3_9 : Option Addr} {msl3_9 : Array (Option Value)} {moc3_9 mkV3_9 mdc3_9 mpm3_9 mcd3_9 mct3_9 : Value} (ma3_9 : PySem.W.findIn K (.ref qC3) "_turn" = some (some (.ref mf3_9))) (mi3_9 : PySem.W.isFn K (.ref mf3_9) = true) (mk3_9 : PySem.W.keepIn K (.ref mf3_9) = true) (ml3_9 : K.lookup mf3_9 = some ⟨moc3_9, mod3_9, .func (PySem.W.fnOf "_turn" "Cells._turn" (defArgs s_Cells__turn) (defBody s_Cells__turn) (defScope s_Cells__turn) .none mkV3_9 mdc3_9 mpm3_9 man3_9 mcd3_9 mct3_9), msl3_9⟩) (mc3_9 : PySem.W.codeIn K mcd3_9 "Cells._turn" = true)
    {mf3_10 : Addr} {mod3_10 man3_10 : Option Addr} {msl3_10 : Array (Option Value)} {moc3_10 mkV3_10 mdc3_10 mpm3_10 mcd3_10 mct3_10 : Value} (ma3_10 : PySem.W.findIn K (.ref qC3) "_is_answered" = some (some (.ref mf3_10))) (mi3_10 : PySem.W.isFn K (.ref mf3_10) = true) (mk3_10 : PySem.W.keepIn K (.ref mf3_10) = true) (ml3_10 : K.lookup mf3_10 = some ⟨moc3_10, mod3_10, .func (PySem.W.fnOf "_is_answered" "Cells._is_answered" (defArgs s_Cells__is_answered) (defBody s_Cells__is_answered) (defScope s_Cells__is_answered) .none mkV3_10 mdc3_10 mpm3_10 man3_10 mcd3_10 mct3_10), msl3_10⟩) (mc3_10 : PySem.W.codeIn K mcd3_10 "Cells._is_answered" = true)
    {mf3_11 : Addr} {mod3_11 man3_11 : Option Addr} {msl3_11 : Array (Option Value)} {moc3_11 mkV3_11 mdc3_11 mpm3_11 mcd3_11 mct3_11 : Value} (ma3_11 : PySem.W.findIn K (.ref qC3) "_answer" = some (some (.ref mf3_11))) (mi3_11 : PySem.W.isFn K (.ref mf3_11) = true) (mk3_11 : PySem.W.keepIn K (.ref mf3_11) = true) (ml3_11 : K.lookup mf3_11 = some ⟨moc3_11, mod3_11, .func (PySem.W.fnOf "_answer" "Cells._answer" (defArgs s_Cells__answer) (defBody s_Cells__answer) (defScope s_Cells__answer) .none mkV3_11 mdc3_11 mpm3_11 man3_11 mcd3_11 mct3_11), msl3_11⟩) (mc3_11 : PySem.W.codeIn K mcd3_11 "Cells._answer" = true)
    {mf3_12 : Addr} {mod3_12 man3_12 : Option Addr} {msl3_12 : Array (Option Value)} {moc3_12 mkV3_12 mdc3_12 mpm3_12 mcd3_12 mct3_12 : Value} (ma3_12 : PySem.W.findIn K (.ref qC3) "_go_on" = some (some (.ref mf3_12))) (mi3_12 : PySem.W.isFn K (.ref mf3_12) = true) (mk3_12 : PySem.W.keepIn K (.ref mf3_12) = true) (ml3_12 : K.lookup mf3_12 = some ⟨moc3_12, mod3_12, .func (PySem.W.fnOf "_go_on" "Cells._go_on" (defArgs s_Cells__go_on) (defBody s_Cells__go_on) (defScope s_Cells__go_on) .none mkV3_12 mdc3_12 mpm3_12 man3_12 mcd3_12 mct3_12), msl3_12⟩) (mc3_12 : PySem.W.codeIn K mcd3_12 "Cells._go_on" = true)
    {mf3_13 : Addr} {mod3_13 man3_13 : Option Addr} {msl3_13 : Array (Option Value)} {moc3_13 mkV3_13 mdc3_13 mpm3_13 mcd3_13 mct3_13 : Value} (ma3_13 : PySem.W.findIn K (.ref qC3) "_close_ring" = some (some (.ref mf3_13))) (mi3_13 : PySem.W.isFn K (.ref mf3_13) = true) (mk3_13 : PySem.W.keepIn K (.ref mf3_13) = true) (ml3_13 : K.lookup mf3_13 = some ⟨moc3_13, mod3_13, .func (PySem.W.fnOf "_close_ring" "Cells._close_ring" (defArgs s_Cells__close_ring) (defBody s_Cells__close_ring) (defScope s_Cells__close_ring) .none mkV3_13 mdc3_13 mpm3_13 man3_13 mcd3_13 mct3_13), msl3_13⟩) (mc3_13 : PySem.W.codeIn K mcd3_13 "Cells._close_ring" = true)
    {mf3_14 : Addr} {mod3_14 man3_14 : Option Addr} {msl3_14 : Array (Option Value)} {moc3_14 mkV3_14 mdc3_14 mpm3_14 mcd3_14 mct3_14 : Value} (ma3_14 : PySem.W.findIn K (.ref qC3) "_close" = some (some (.ref mf3_14))) (mi3_14 : PySem.W.isFn K (.ref mf3_14) = true) (mk3_14 : PySem.W.keepIn K (.ref mf3_14) = true) (ml3_14 : K.lookup mf3_14 = some ⟨moc3_14, mod3_14, .func (PySem.W.fnOf "_close" "Cells._close" (defArgs s_Cells__close) (defBody s_Cells__close) (defScope s_Cells__close) .none mkV3_14 mdc3_14 mpm3_14 man3_14 mcd3_14 mct3_14), msl3_14⟩) (mc3_14 : PySem.W.codeIn K mcd3_14 "Cells._close" = true)
    (aT : PySem.W.nsIn K mainGlobals "TongueError" = some (some (.ref CT))) (iT : PySem.W.isClsIn K CT = true) (yT : PySem.W.typeIn K (.ref CT) = some (.type "type"))
    (eC0 : PySem.W.nsIn K mainGlobals "BadFormula" = some (some (.ref C0)))
    (xL0 : K.lookup C0 = some (excClassObj nm0 q0 C0 N0 bs0 [.ref CT, .type "ValueError", .type "Exception", .type "BaseException", .type "object"] true sn0 sub0 ab0 col0 dd0 jj0_0 jj1_0 jj2_0 jj3_0 jj5_0 "ValueError.__new__"))
    (sa0 : PySem.W.findIn K (.ref C0) "__setattr__" = some (some (.builtin "object.__setattr__")))
    (ga0 : PySem.W.findIn K (.ref C0) "__getattribute__" = some (some (.builtin "BaseException.__getattribute__")))
    (gg0 : PySem.W.findIn K (.ref C0) "__getattr__" = some none)
    (n1_0 : PySem.W.findIn K (.ref C0) "way" = some none)
    (n2_0 : PySem.W.findIn K (.ref C0) "reason" = some none)
    (iI0 : PySem.W.findIn K (.ref C0) "__init__" = some (some (.ref fI0)))
    (tI0 : PySem.W.typeIn K (.ref fI0) = some (.type "function"))
    (lI0 : K.lookup fI0 = some ⟨ocI0, odI0, .func (PySem.W.fnOf "__init__" "BadFormula.__init__" (defArgs s_BadFormula_init) (defBody s_BadFormula_init) (defScope s_BadFormula_init) .none kVI0 dcI0 pmI0 anI0 cdI0 ctI0), slI0⟩)
    (cI0 : PySem.W.codeIn K cdI0 "BadFormula.__init__" = true)
    (kI0 : PySem.W.keepIn K (.ref fI0) = true)
    (kC0 : PySem.W.keepIn K (.ref C0) = true)
    (xC0 : PySem.W.subIn K (.ref C0) (.type "BaseException") = some true)
    (tC0 : PySem.W.typeIn K (.ref C0) = some (.type "type"))
    (hC0 : PySem.W.hasDictIn K C0 = true)
    (jC0 : PySem.W.isClsIn K C0 = true)
    (sC0 : PySem.W.subIn K (.ref C0) (.ref C0) = some true)
    (uC0 : PySem.W.subIn K (.ref C0) (.ref CT) = some true)
    (vC0 : PySem.W.subIn K (.ref C0) (.type "ValueError") = some true)
    (gC0 : PySem.W.findIn K (.ref C0) "__class__" = some (some (.builtin "object.__class__")))
    (oC0 : PySem.W.specialIn K (.builtin "object.__class__") "__get__" = some (some (.builtin "getset_descriptor.__get__")))
    (wC0 : PySem.W.takesIn K (.builtin "object.__class__") = some true)
    (mC0 : PySem.W.mroIn K C0 (.type "object") = some true)
    (ep0 : PySem.W.nsIn K mainGlobals "BadName" = some (some (.ref D0)))
    (qp0 : PySem.W.excIn K D0 [.type "ValueError", .type "Exception", .type "BaseException", .type "object"] "ValueError.__new__" = true)
    (kq0 : PySem.W.keepIn K (.ref D0) = true)
    (bp0 : PySem.W.subIn K (.ref D0) (.type "BaseException") = some true)
    (tp0 : PySem.W.typeIn K (.ref D0) = some (.type "type"))
    (cp0 : PySem.W.isClsIn K D0 = true)
    (ep1 : PySem.W.nsIn K mainGlobals "BadValue" = some (some (.ref D1)))
    (qp1 : PySem.W.excIn K D1 [.type "ValueError", .type "Exception", .type "BaseException", .type "object"] "ValueError.__new__" = true)
    (kq1 : PySem.W.keepIn K (.ref D1) = true)
    (bp1 : PySem.W.subIn K (.ref D1) (.type "BaseException") = some true)
    (tp1 : PySem.W.typeIn K (.ref D1) = some (.type "type"))
    (cp1 : PySem.W.isClsIn K D1 = true)
    (ep2 : PySem.W.nsIn K mainGlobals "NoCell" = some (some (.ref D2)))
    (qp2 : PySem.W.excIn K D2 [.type "ValueError", .type "Exception", .type "BaseException", .type "object"] "ValueError.__new__" = true)
    (kq2 : PySem.W.keepIn K (.ref D2) = true)
    (bp2 : PySem.W.subIn K (.ref D2) (.type "BaseException") = some true)
    (tp2 : PySem.W.typeIn K (.ref D2) = some (.type "type"))
    (cp2 : PySem.W.isClsIn K D2 = true)
    (ep3 : PySem.W.nsIn K mainGlobals "TooManyCells" = some (some (.ref D3)))
    (qp3 : PySem.W.excIn K D3 [.type "ValueError", .type "Exception", .type "BaseException", .type "object"] "ValueError.__new__" = true)
    (kq3 : PySem.W.keepIn K (.ref D3) = true)
    (bp3 : PySem.W.subIn K (.ref D3) (.type "BaseException") = some true)
    (tp3 : PySem.W.typeIn K (.ref D3) = some (.type "type"))
    (cp3 : PySem.W.isClsIn K D3 = true)
    (sp0_0 : PySem.W.subIn K (.ref D0) (.ref D0) = some true)
    (sp0_1 : PySem.W.subIn K (.ref D0) (.ref D1) = some false)
    (sp0_2 : PySem.W.subIn K (.ref D0) (.ref D2) = some false)
    (sp0_3 : PySem.W.subIn K (.ref D0) (.ref D3) = some false)
    (sp1_0 : PySem.W.subIn K (.ref D1) (.ref D0) = some false)
    (sp1_1 : PySem.W.subIn K (.ref D1) (.ref D1) = some true)
    (sp1_2 : PySem.W.subIn K (.ref D1) (.ref D2) = some false)
    (sp1_3 : PySem.W.subIn K (.ref D1) (.ref D3) = some false)
    (sp2_0 : PySem.W.subIn K (.ref D2) (.ref D0) = some false)
    (sp2_1 : PySem.W.subIn K (.ref D2) (.ref D1) = some false)
    (sp2_2 : PySem.W.subIn K (.ref D2) (.ref D2) = some true)
    (sp2_3 : PySem.W.subIn K (.ref D2) (.ref D3) = some false)
    (sp3_0 : PySem.W.subIn K (.ref D3) (.ref D0) = some false)
    (sp3_1 : PySem.W.subIn K (.ref D3) (.ref D1) = some false)
    (sp3_2 : PySem.W.subIn K (.ref D3) (.ref D2) = some false)
    (sp3_3 : PySem.W.subIn K (.ref D3) (.ref D3) = some true)
    {tco : Value} {tcd : Option Addr} {tvs : Array Value} {tcs : Array (Option Value)} (tlk : K.lookup tc = some ⟨tco, tcd, .fields tvs, tcs⟩) (tvp : tvs[11]? = some (.ref tP)) (tno : K.lookup tP = none)
 :
    ∃ (fd : FuncData) (c P : Addr), PySem.W.tabIn K "is_name" = some (c, P) ∧ K.lookup P = none ∧ (∀ (s : Shared) (v : Value), BindsTo s fd ⟨[v], []⟩ [("script", v)]) ∧ ∀ base : Heap, K.In base → base.Ns mainGlobals mg → GxR.TabB base mg c P → FnOk l.prog w K mg base CX0 lawLevel fa fd ["script"] (Spc K (W_law P)) := by
  have e := hfa.symm.trans (PySem.W.mg_of X G a23)
  cases e
  have T : Top K mg w := ⟨⟨f0, _, fun_mk (st := s__wall) l0 c0 k0, PySem.W.mg_of X G a0, (fun_mk (st := s__wall) l0 c0 k0).binds (ps := ["k"]) fun _ _ _ _ _ _ us hl => match us, hl with | [_], _ => rfl⟩, ⟨f1, _, fun_mk (st := s_is_name) l1 c1 k1, PySem.W.mg_of X G a1, (fun_mk (st := s_is_name) l1 c1 k1).binds (ps := ["text"]) fun _ _ _ _ _ _ us hl => match us, hl with | [_], _ => rfl⟩, ⟨f2, _, fun_mk (st := s_check_formula) l2 c2 k2, PySem.W.mg_of X G a2, (fun_mk (st := s_check_formula) l2 c2 k2).binds (ps := ["formula"]) fun _ _ _ _ _ _ us hl => match us, hl with | [_], _ => rfl⟩, ⟨f3, _, fun_mk (st := s_check_part) l3 c3 k3, PySem.W.mg_of X G a3, (fun_mk (st := s_check_part) l3 c3 k3).binds (ps := ["formula", "way"]) fun _ _ _ _ _ _ us hl => match us, hl with | [_, _], _ => rfl⟩, ⟨f4, _, fun_mk (st := s_check_tuple) l4 c4 k4, PySem.W.mg_of X G a4, (fun_mk (st := s_check_tuple) l4 c4 k4).binds (ps := ["formula", "way"]) fun _ _ _ _ _ _ us hl => match us, hl with | [_, _], _ => rfl⟩, ⟨f5, _, fun_mk (st := s_check_cell_name) l5 c5 k5, PySem.W.mg_of X G a5, (fun_mk (st := s_check_cell_name) l5 c5 k5).binds (ps := ["name", "way"]) fun _ _ _ _ _ _ us hl => match us, hl with | [_, _], _ => rfl⟩, ⟨f6, _, fun_mk (st := s_joined) l6 c6 k6, PySem.W.mg_of X G a6, (fun_mk (st := s_joined) l6 c6 k6).binds (ps := ["word", "first", "second"]) fun _ _ _ _ _ _ us hl => match us, hl with | [_, _, _], _ => rfl⟩, ⟨f7, _, fun_mk (st := s_check_name) l7 c7 k7, PySem.W.mg_of X G a7, (fun_mk (st := s_check_name) l7 c7 k7).binds (ps := ["name"]) fun _ _ _ _ _ _ us hl => match us, hl with | [_], _ => rfl⟩, ⟨f8, _, fun_mk (st := s_is_value) l8 c8 k8, PySem.W.mg_of X G a8, (fun_mk (st := s_is_value) l8 c8 k8).binds (ps := ["value"]) fun _ _ _ _ _ _ us hl => match us, hl with | [_], _ => rfl⟩, ⟨f9, _, fun_mk (st := s__law_pool) l9 c9 k9, PySem.W.mg_of X G a9, (fun_mk (st := s__law_pool) l9 c9 k9).binds (ps := ["script"]) fun _ _ _ _ _ _ us hl => match us, hl with | [_], _ => rfl⟩, ⟨f10, _, fun_mk (st := s__law_take) l10 c10 k10, PySem.W.mg_of X G a10, (fun_mk (st := s__law_take) l10 c10 k10).binds (ps := ["pool", "many"]) fun _ _ _ _ _ _ us hl => match us, hl with | [_, _], _ => rfl⟩, ⟨f11, _, fun_mk (st := s__law_same) l11 c11 k11, PySem.W.mg_of X G a11, (fun_mk (st := s__law_same) l11 c11 k11).binds (ps := ["actual", "due"]) fun _ _ _ _ _ _ us hl => match us, hl with | [_, _], _ => rfl⟩, ⟨f12, _, fun_mk (st := s__law_names) l12 c12 k12, PySem.W.mg_of X G a12, (fun_mk (st := s__law_names) l12 c12 k12).binds (ps := ["pool", "many"]) fun _ _ _ _ _ _ us hl => match us, hl with | [_, _], _ => rfl⟩, ⟨f13, _, fun_mk (st := s__law_value) l13 c13 k13, PySem.W.mg_of X G a13, (fun_mk (st := s__law_value) l13 c13 k13).binds (ps := ["pool"]) fun _ _ _ _ _ _ us hl => match us, hl with | [_], _ => rfl⟩, ⟨f14, _, fun_mk (st := s__law_formula) l14 c14 k14, PySem.W.mg_of X G a14, (fun_mk (st := s__law_formula) l14 c14 k14).binds (ps := ["pool", "names", "depth"]) fun _ _ _ _ _ _ us hl => match us, hl with | [_, _, _], _ => rfl⟩, ⟨f15, _, fun_mk (st := s__law_sum) l15 c15 k15, PySem.W.mg_of X G a15, (fun_mk (st := s__law_sum) l15 c15 k15).binds (ps := ["word", "one", "other"]) fun _ _ _ _ _ _ us hl => match us, hl with | [_, _, _], _ => rfl⟩, ⟨f16, _, fun_mk (st := s__law_next) l16 c16 k16, PySem.W.mg_of X G a16, (fun_mk (st := s__law_next) l16 c16 k16).binds (ps := ["formula", "told", "used"]) fun _ _ _ _ _ _ us hl => match us, hl with | [_, _, _], _ => rfl⟩, ⟨f17, _, fun_mk (st := s__law_worth) l17 c17 k17, PySem.W.mg_of X G a17, (fun_mk (st := s__law_worth) l17 c17 k17).binds (ps := ["state", "name"]) fun _ _ _ _ _ _ us hl => match us, hl with | [_, _], _ => rfl⟩, ⟨f18, _, fun_mk (st := s__law_go_on) l18 c18 k18, PySem.W.mg_of X G a18, (fun_mk (st := s__law_go_on) l18 c18 k18).binds (ps := ["state", "name"]) fun _ _ _ _ _ _ us hl => match us, hl with | [_, _], _ => rfl⟩, ⟨f19, _, fun_mk (st := s__law_rings) l19 c19 k19, PySem.W.mg_of X G a19, (fun_mk (st := s__law_rings) l19 c19 k19).binds (ps := ["asked"]) fun _ _ _ _ _ _ us hl => match us, hl with | [_], _ => rfl⟩, ⟨f20, _, fun_mk (st := s__law_from_nothing) l20 c20 k20, PySem.W.mg_of X G a20, (fun_mk (st := s__law_from_nothing) l20 c20 k20).binds (ps := ["rules"]) fun _ _ _ _ _ _ us hl => match us, hl with | [_], _ => rfl⟩, ⟨f21, _, fun_mk (st := s__law_set) l21 c21 k21, PySem.W.mg_of X G a21, (fun_mk (st := s__law_set) l21 c21 k21).binds (ps := ["pool", "cells", "rules", "names"]) fun _ _ _ _ _ _ us hl => match us, hl with | [_, _, _, _], _ => rfl⟩, ⟨f22, _, fun_mk (st := s__law_all_reads) l22 c22 k22, PySem.W.mg_of X G a22, (fun_mk (st := s__law_all_reads) l22 c22 k22).binds (ps := ["memo"]) fun _ _ _ _ _ _ us hl => match us, hl with | [_], _ => rfl⟩, PySem.W.mg_none_of X G z0, PySem.W.mg_none_of X G z1, PySem.W.mg_none_of X G z2, PySem.W.mg_none_of X G z3, PySem.W.mg_none_of X G z4, PySem.W.mg_none_of X G z5, PySem.W.mg_none_of X G z6, PySem.W.mg_none_of X G z7, PySem.W.mg_none_of X G z8, PySem.W.mg_none_of X G z9, PySem.W.mg_none_of X G z10, PySem.W.mg_none_of X G z11, PySem.W.mg_none_of X G z12, ⟨zt0, by rw [← ge0]; exact PySem.W.mg_of X G gs0⟩, ⟨zt1, PySem.W.mg_of X G gs1⟩, ⟨zt2, PySem.W.mg_of X G gs2⟩, ⟨zt3, PySem.W.mg_of X G gs3⟩, ⟨ga4, PySem.W.mg_of X G gs4, by cases ge4; exact ⟨⟨_, _, gk4, ⟨⟨_, _, rfl, gq4_0⟩, ⟨_, _, rfl, gq4_1⟩, ⟨_, _, rfl, gq4_2⟩, ⟨_, _, rfl, gq4_3⟩, ⟨_, _, rfl, gq4_4⟩, True.intro⟩, ⟨_, _, _, _, rfl, rfl, ⟨_, rfl⟩, ⟨_, _, _, _, rfl, rfl, ⟨_, rfl⟩, ⟨_, _, _, _, rfl, rfl, ⟨_, rfl⟩, ⟨_, _, _, _, rfl, rfl, ⟨_, rfl⟩, ⟨_, _, _, _, rfl, rfl, ⟨_, rfl⟩, rfl⟩⟩⟩⟩⟩⟩, gb4⟩⟩, ⟨zt5, by rw [← ge5]; exact PySem.W.mg_of X G gs5⟩, ⟨zt6, PySem.W.mg_of X G gs6⟩, ⟨zt7, by rw [← ge7]; exact PySem.W.mg_of X G gs7⟩, ⟨zt8, by rw [← ge8]; exact PySem.W.mg_of X G gs8⟩, ⟨qC0, ⟨kp0, kh0, ko0, ks0⟩, PySem.W.mg_of X G ke0, kf0_0, kf0_1, kf0_2, kf0_3, kf0_4, ⟨mf0_0, _, fun_mk (st := s_Evaluation___init__) ml0_0 mc0_0 mk0_0, ⟨ma0_0, mi0_0, mk0_0⟩, (fun_mk (st := s_Evaluation___init__) ml0_0 mc0_0 mk0_0).binds (ps := ["self", "formula", "answers"]) fun _ _ _ _ _ _ us hl => match us, hl with | [_, _, _], _ => rfl⟩, ⟨mf0_1, _, fun_mk (st := s_Evaluation_result) ml0_1 mc0_1 mk0_1, ⟨ma0_1, mi0_1, mk0_1⟩, (fun_mk (st := s_Evaluation_result) ml0_1 mc0_1 mk0_1).binds (ps := ["self"]) fun _ _ _ _ _ _ us hl => match us, hl with | [_], _ => rfl⟩, ⟨mf0_2, _, fun_mk (st := s_Evaluation__value) ml0_2 mc0_2 mk0_2, ⟨ma0_2, mi0_2, mk0_2⟩, (fun_mk (st := s_Evaluation__value) ml0_2 mc0_2 mk0_2).binds (ps := ["self", "formula"]) fun _ _ _ _ _ _ us hl => match us, hl with | [_, _], _ => rfl⟩, ⟨mf0_3, _, fun_mk (st := s_Evaluation__named) ml0_3 mc0_3 mk0_3, ⟨ma0_3, mi0_3, mk0_3⟩, (fun_mk (st := s_Evaluation__named) ml0_3 mc0_3 mk0_3).binds (ps := ["self", "name"]) fun _ _ _ _ _ _ us hl => match us, hl with | [_, _], _ => rfl⟩, ⟨mf0_4, _, fun_mk (st := s_Evaluation__told) ml0_4 mc0_4 mk0_4, ⟨ma0_4, mi0_4, mk0_4⟩, (fun_mk (st := s_Evaluation__told) ml0_4 mc0_4 mk0_4).binds (ps := ["self", "name"]) fun _ _ _ _ _ _ us hl => match us, hl with | [_, _], _ => rfl⟩, km0, kk0⟩, ⟨qC1, ⟨kp1, kh1, ko1, ks1⟩, PySem.W.mg_of X G ke1, kf1_0, kf1_1, kf1_2, ⟨mf1_0, _, fun_mk (st := s_Memo___init__) ml1_0 mc1_0 mk1_0, ⟨ma1_0, mi1_0, mk1_0⟩, (fun_mk (st := s_Memo___init__) ml1_0 mc1_0 mk1_0).binds (ps := ["self", "told", "answer", "last"]) fun _ _ _ _ _ _ us hl => match us, hl with | [_, _, _, _], _ => rfl⟩, km1, kk1⟩, ⟨qC2, ⟨kp2, kh2, ko2, ks2⟩, PySem.W.mg_of X G ke2, kf2_0, kf2_1, kf2_2, kf2_3, kf2_4, ⟨mf2_0, _, fun_mk (st := s_Turn___init__) ml2_0 mc2_0 mk2_0, ⟨ma2_0, mi2_0, mk2_0⟩, (fun_mk (st := s_Turn___init__) ml2_0 mc2_0 mk2_0).binds (ps := ["self", "name", "formula", "memo"]) fun _ _ _ _ _ _ us hl => match us, hl with | [_, _, _, _], _ => rfl⟩, ⟨mf2_1, _, fun_mk (st := s_Turn_next_name) ml2_1 mc2_1 mk2_1, ⟨ma2_1, mi2_1, mk2_1⟩, (fun_mk (st := s_Turn_next_name) ml2_1 mc2_1 mk2_1).binds (ps := ["self"]) fun _ _ _ _ _ _ us hl => match us, hl with | [_], _ => rfl⟩, ⟨mf2_2, _, fun_mk (st := s_Turn_hear) ml2_2 mc2_2 mk2_2, ⟨ma2_2, mi2_2, mk2_2⟩, (fun_mk (st := s_Turn_hear) ml2_2 mc2_2 mk2_2).binds (ps := ["self", "name", "answer"]) fun _ _ _ _ _ _ us hl => match us, hl with | [_, _, _], _ => rfl⟩, ⟨mf2_3, _, fun_mk (st := s_Turn_result) ml2_3 mc2_3 mk2_3, ⟨ma2_3, mi2_3, mk2_3⟩, (fun_mk (st := s_Turn_result) ml2_3 mc2_3 mk2_3).binds (ps := ["self"]) fun _ _ _ _ _ _ us hl => match us, hl with | [_], _ => rfl⟩, ⟨mf2_4, _, fun_mk (st := s_Turn__evaluation) ml2_4 mc2_4 mk2_4, ⟨ma2_4, mi2_4, mk2_4⟩, (fun_mk (st := s_Turn__evaluation) ml2_4 mc2_4 mk2_4).binds (ps := ["self"]) fun _ _ _ _ _ _ us hl => match us, hl with | [_], _ => rfl⟩, km2, kk2⟩, ⟨qC3, ⟨kp3, kh3, ko3, ks3⟩, PySem.W.mg_of X G ke3, kf3_0, kf3_1, kf3_2, ⟨mf3_0, _, fun_mk (st := s_Cells___init__) ml3_0 mc3_0 mk3_0, ⟨ma3_0, mi3_0, mk3_0⟩, (fun_mk (st := s_Cells___init__) ml3_0 mc3_0 mk3_0).binds (ps := ["self"]) fun _ _ _ _ _ _ us hl => match us, hl with | [_], _ => rfl⟩, ⟨mp3_1, mf3_1, _, ⟨ma3_1, mg3_1, mt3_1, ⟨_, mr3_1⟩⟩, fun_mk (st := s_Cells_cell_names) ml3_1 mc3_1 mk3_1, (fun_mk (st := s_Cells_cell_names) ml3_1 mc3_1 mk3_1).binds (ps := ["self"]) fun _ _ _ _ _ _ us hl => match us, hl with | [_], _ => rfl⟩, ⟨mf3_2, _, fun_mk (st := s_Cells_put) ml3_2 mc3_2 mk3_2, ⟨ma3_2, mi3_2, mk3_2⟩, (fun_mk (st := s_Cells_put) ml3_2 mc3_2 mk3_2).binds (ps := ["self", "name", "value"]) fun _ _ _ _ _ _ us hl => match us, hl with | [_, _, _], _ => rfl⟩, ⟨mf3_3, _, fun_mk (st := s_Cells_define) ml3_3 mc3_3 mk3_3, ⟨ma3_3, mi3_3, mk3_3⟩, (fun_mk (st := s_Cells_define) ml3_3 mc3_3 mk3_3).binds (ps := ["self", "name", "formula"]) fun _ _ _ _ _ _ us hl => match us, hl with | [_, _, _], _ => rfl⟩, ⟨mf3_4, _, fun_mk (st := s_Cells_ask) ml3_4 mc3_4 mk3_4, ⟨ma3_4, mi3_4, mk3_4⟩, (fun_mk (st := s_Cells_ask) ml3_4 mc3_4 mk3_4).binds (ps := ["self", "name"]) fun _ _ _ _ _ _ us hl => match us, hl with | [_, _], _ => rfl⟩, ⟨mf3_5, _, fun_mk (st := s_Cells_reads) ml3_5 mc3_5 mk3_5, ⟨ma3_5, mi3_5, mk3_5⟩, (fun_mk (st := s_Cells_reads) ml3_5 mc3_5 mk3_5).binds (ps := ["self", "name"]) fun _ _ _ _ _ _ us hl => match us, hl with | [_, _], _ => rfl⟩, ⟨mf3_6, _, fun_mk (st := s_Cells__check_cell) ml3_6 mc3_6 mk3_6, ⟨ma3_6, mi3_6, mk3_6⟩, (fun_mk (st := s_Cells__check_cell) ml3_6 mc3_6 mk3_6).binds (ps := ["self", "name"]) fun _ _ _ _ _ _ us hl => match us, hl with | [_, _], _ => rfl⟩, ⟨mf3_7, _, fun_mk (st := s_Cells__give_rule) ml3_7 mc3_7 mk3_7, ⟨ma3_7, mi3_7, mk3_7⟩, (fun_mk (st := s_Cells__give_rule) ml3_7 mc3_7 mk3_7).binds (ps := ["self", "name", "rule"]) fun _ _ _ _ _ _ us hl => match us, hl with | [_, _, _], _ => rfl⟩, ⟨mf3_8, _, fun_mk (st := s_Cells__begin_revision) ml3_8 mc3_8 mk3_8, ⟨ma3_8, mi3_8, mk3_8⟩, (fun_mk (st := s_Cells__begin_revision) ml3_8 mc3_8 mk3_8).binds (ps := ["self", "name"]) fun _ _ _ _ _ _ us hl => match us, hl with | [_, _], _ => rfl⟩, ⟨mf3_9, _, fun_mk (st := s_Cells__turn) ml3_9 mc3_9 mk3_9, ⟨ma3_9, mi3_9, mk3_9⟩, (fun_mk (st := s_Cells__turn) ml3_9 mc3_9 mk3_9).binds (ps := ["self", "name"]) fun _ _ _ _ _ _ us hl => match us, hl with | [_, _], _ => rfl⟩, ⟨mf3_10, _, fun_mk (st := s_Cells__is_answered) ml3_10 mc3_10 mk3_10, ⟨ma3_10, mi3_10, mk3_10⟩, (fun_mk (st := s_Cells__is_answered) ml3_10 mc3_10 mk3_10).binds (ps := ["self", "name"]) fun _ _ _ _ _ _ us hl => match us, hl with | [_, _], _ => rfl⟩, ⟨mf3_11, _, fun_mk (st := s_Cells__answer) ml3_11 mc3_11 mk3_11, ⟨ma3_11, mi3_11, mk3_11⟩, (fun_mk (st := s_Cells__answer) ml3_11 mc3_11 mk3_11).binds (ps := ["self", "name"]) fun _ _ _ _ _ _ us hl => match us, hl with | [_, _], _ => rfl⟩, ⟨mf3_12, _, fun_mk (st := s_Cells__go_on) ml3_12 mc3_12 mk3_12, ⟨ma3_12, mi3_12, mk3_12⟩, (fun_mk (st := s_Cells__go_on) ml3_12 mc3_12 mk3_12).binds (ps := ["self", "turns"]) fun _ _ _ _ _ _ us hl => match us, hl with | [_, _], _ => rfl⟩, ⟨mf3_13, _, fun_mk (st := s_Cells__close_ring) ml3_13 mc3_13 mk3_13, ⟨ma3_13, mi3_13, mk3_13⟩, (fun_mk (st := s_Cells__close_ring) ml3_13 mc3_13 mk3_13).binds (ps := ["self", "turns", "name"]) fun _ _ _ _ _ _ us hl => match us, hl with | [_, _, _], _ => rfl⟩, ⟨mf3_14, _, fun_mk (st := s_Cells__close) ml3_14 mc3_14 mk3_14, ⟨ma3_14, mi3_14, mk3_14⟩, (fun_mk (st := s_Cells__close) ml3_14 mc3_14 mk3_14).binds (ps := ["self", "turn", "answer", "last"]) fun _ _ _ _ _ _ us hl => match us, hl with | [_, _, _, _], _ => rfl⟩, km3, kk3⟩, ⟨C0, CT, ⟨⟨⟨nm0, q0, N0, bs0, _, sn0, sub0, ab0, col0, dd0, jj0_0, jj1_0, jj2_0, jj3_0, jj5_0, xL0, rfl⟩, sa0, xC0, tC0, kC0⟩, PySem.W.mg_of X G eC0, ⟨fI0, _, iI0, tI0, fun_mk (st := s_BadFormula_init) lI0 cI0 kI0, (fun_mk (st := s_BadFormula_init) lI0 cI0 kI0).binds (ps := ["self", "way", "reason"]) fun _ _ _ _ _ _ us hl => match us, hl with | [_, _, _], _ => rfl⟩, n1_0, n2_0, ⟨ga0, gg0, xC0, hC0⟩, exm_self xC0 jC0 tC0 sC0, ⟨ga0, gg0, xC0, hC0, gC0, oC0, wC0, mC0⟩⟩, PySem.W.mg_of X G aT, kit_ref iT yT uC0, kit_ty (by decide +kernel) vC0⟩, ⟨D0, D1, D2, D3, ⟨⟨PySem.W.mg_of X G ep0, qp0, kq0, bp0, tp0, cp0⟩, ⟨PySem.W.mg_of X G ep1, qp1, kq1, bp1, tp1, cp1⟩, ⟨PySem.W.mg_of X G ep2, qp2, kq2, bp2, tp2, cp2⟩, ⟨PySem.W.mg_of X G ep3, qp3, kq3, bp3, tp3, cp3⟩⟩, exm_pair bp0 cp0 tp0 sp0_0, exm_pair bp1 cp1 tp1 sp0_1, exm_pair bp2 cp2 tp2 sp0_2, exm_pair bp3 cp3 tp3 sp0_3, exm_pair bp0 cp0 tp0 sp1_0, exm_pair bp1 cp1 tp1 sp1_1, exm_pair bp2 cp2 tp2 sp1_2, exm_pair bp3 cp3 tp3 sp1_3, exm_pair bp0 cp0 tp0 sp2_0, exm_pair bp1 cp1 tp1 sp2_1, exm_pair bp2 cp2 tp2 sp2_2, exm_pair bp3 cp3 tp3 sp2_3, exm_pair bp0 cp0 tp0 sp3_0, exm_pair bp1 cp1 tp1 sp3_1, exm_pair bp2 cp2 tp2 sp3_2, exm_pair bp3 cp3 tp3 sp3_3⟩⟩
  have tht : PySem.W.tabIn K "is_name" = some (tc, tP) := by
    unfold PySem.W.tabIn
    rw [a1]
    simp only [l1, tlk, PySem.W.fnOf, tvp]
  have B : ∀ base : Heap, GxR.TabB base mg tc tP → DefB K mg base "is_name" s_is_name ["text"] tP := fun base tb => ⟨f1, _, tc, ⟨_, _, _, _, _, _, _, _, rfl, l1, c1⟩, PySem.W.mg_of X G a1, (fun_mk (st := s_is_name) l1 c1 k1).binds (ps := ["text"]) fun _ _ _ _ _ _ us hl => match us, hl with | [_], _ => rfl, k1, tb⟩
  exact ⟨PySem.W.fnOf "law" "law" (defArgs s_law) (defBody s_law) (defScope s_law) .none kV23 dc23 pm23 an23 cd23 ct23, tc, tP, tht, tno, fun s v => .of_eq rfl, fun base _ _ tb => ok_law T (B base tb) (fun_mk (st := s_law) l23 c23 k23)⟩


end PK

open PySem PySem.W PyProof.Rows
set_option maxHeartbeats 0 in
theorem PySem.Challenge.cw_tongues_k27_answers_with_rings_holds : PySem.Challenge.rw_tongues_k27_answers_with_rings.Holds := by
  w_on; o_law; k_head; (case hw => w_witness2)
  k_fill
  refine Tg.walk_tab (l := PySem.Challenge.rw_tongues_k27_answers_with_rings) (n := 63) (k := PK.lawLevel) (x := "script") (nm := "is_name") (W := PK.W_law) rfl (by decide) rfl ⟨rfl, by decide, by decide⟩ (fun w h Y => PySem.W.kIn_of Y) ⟨_, rfl⟩ ?F PK.law_asks
  case F =>
    intro w mg fa h KX G hmg
    refine' PK.all_mk KX G hmg ?a0 ?l0 ?c0 ?k0 ?a1 ?l1 ?c1 ?k1 ?a2 ?l2 ?c2 ?k2 ?a3 ?l3 ?c3 ?k3 ?a4 ?l4 ?c4 ?k4 ?a5 ?l5 ?c5 ?k5 ?a6 ?l6 ?c6 ?k6 ?a7 ?l7 ?c7 ?k7 ?a8 ?l8 ?c8 ?k8 ?a9 ?l9 ?c9 ?k9 ?a10 ?l10 ?c10 ?k10 ?a11 ?l11 ?c11 ?k11 ?a12 ?l12 ?c12 ?k12 ?a13 ?l13 ?c13 ?k13 ?a14 ?l14 ?c14 ?k14 ?a15 ?l15 ?c15 ?k15 ?a16 ?l16 ?c16 ?k16 ?a17 ?l17 ?c17 ?k17 ?a18 ?l18 ?c18 ?k18 ?a19 ?l19 ?c19 ?k19 ?a20 ?l20 ?c20 ?k20 ?a21 ?l21 ?c21 ?k21 ?a22 ?l22 ?c22 ?k22 ?a23 ?l23 ?c23 ?k23 ?z0 ?z1 ?z2 ?z3 ?z4 ?z5 ?z6 ?z7 ?z8 ?z9 ?z10 ?z11 ?z12 ?gs0 ?ge0 ?gs1 ?gs2 ?gs3 ?gs4 ?gk4 ?ge4 ?gb4 ?gq4_0 ?gq4_1 ?gq4_2 ?gq4_3 ?gq4_4 ?gs5 ?ge5 ?gs6 ?gs7 ?ge7 ?gs8 ?ge8 ?ke0 ?kp0 ?kh0 ?ko0 ?ks0 ?km0 ?kk0 ?kf0_0 ?kf0_1 ?kf0_2 ?kf0_3 ?kf0_4 ?ma0_0 ?mi0_0 ?mk0_0 ?ml0_0 ?mc0_0 ?ma0_1 ?mi0_1 ?mk0_1 ?ml0_1 ?mc0_1 ?ma0_2 ?mi0_2 ?mk0_2 ?ml0_2 ?mc0_2 ?ma0_3 ?mi0_3 ?mk0_3 ?ml0_3 ?mc0_3 ?ma0_4 ?mi0_4 ?mk0_4 ?ml0_4 ?mc0_4 ?ke1 ?kp1 ?kh1 ?ko1 ?ks1 ?km1 ?kk1 ?kf1_0 ?kf1_1 ?kf1_2 ?ma1_0 ?mi1_0 ?mk1_0 ?ml1_0 ?mc1_0 ?ke2 ?kp2 ?kh2 ?ko2 ?ks2 ?km2 ?kk2 ?kf2_0 ?kf2_1 ?kf2_2 ?kf2_3 ?kf2_4 ?ma2_0 ?mi2_0 ?mk2_0 ?ml2_0 ?mc2_0 ?ma2_1 ?mi2_1 ?mk2_1 ?ml2_1 ?mc2_1 ?ma2_2 ?mi2_2 ?mk2_2 ?ml2_2 ?mc2_2 ?ma2_3 ?mi2_3 ?mk2_3 ?ml2_3 ?mc2_3 ?ma2_4 ?mi2_4 ?mk2_4 ?ml2_4 ?mc2_4 ?ke3 ?kp3 ?kh3 ?ko3 ?ks3 ?km3 ?kk3 ?kf3_0 ?kf3_1 ?kf3_2 ?ma3_0 ?mi3_0 ?mk3_0 ?ml3_0 ?mc3_0 ?ma3_1 ?mg3_1 ?mt3_1 ?mr3_1 ?mk3_1 ?ml3_1 ?mc3_1 ?ma3_2 ?mi3_2 ?mk3_2 ?ml3_2 ?mc3_2 ?ma3_3 ?mi3_3 ?mk3_3 ?ml3_3 ?mc3_3 ?ma3_4 ?mi3_4 ?mk3_4 ?ml3_4 ?mc3_4 ?ma3_5 ?mi3_5 ?mk3_5 ?ml3_5 ?mc3_5 ?ma3_6 ?mi3_6 ?mk3_6 ?ml3_6 ?mc3_6 ?ma3_7 ?mi3_7 ?mk3_7 ?ml3_7 ?mc3_7 ?ma3_8 ?mi3_8 ?mk3_8 ?ml3_8 ?mc3_8 ?ma3_9 ?mi3_9 ?mk3_9 ?ml3_9 ?mc3_9 ?ma3_10 ?mi3_10 ?mk3_10 ?ml3_10 ?mc3_10 ?ma3_11 ?mi3_11 ?mk3_11 ?ml3_11 ?mc3_11 ?ma3_12 ?mi3_12 ?mk3_12 ?ml3_12 ?mc3_12 ?ma3_13 ?mi3_13 ?mk3_13 ?ml3_13 ?mc3_13 ?ma3_14 ?mi3_14 ?mk3_14 ?ml3_14 ?mc3_14 ?aT ?iT ?yT ?eC0 ?xL0 ?sa0 ?ga0 ?gg0 ?n1_0 ?n2_0 ?iI0 ?tI0 ?lI0 ?cI0 ?kI0 ?kC0 ?xC0 ?tC0 ?hC0 ?jC0 ?sC0 ?uC0 ?vC0 ?gC0 ?oC0 ?wC0 ?mC0 ?ep0 ?qp0 ?kq0 ?bp0 ?tp0 ?cp0 ?ep1 ?qp1 ?kq1 ?bp1 ?tp1 ?cp1 ?ep2 ?qp2 ?kq2 ?bp2 ?tp2 ?cp2 ?ep3 ?qp3 ?kq3 ?bp3 ?tp3 ?cp3 ?sp0_0 ?sp0_1 ?sp0_2 ?sp0_3 ?sp1_0 ?sp1_1 ?sp1_2 ?sp1_3 ?sp2_0 ?sp2_1 ?sp2_2 ?sp2_3 ?sp3_0 ?sp3_1 ?sp3_2 ?sp3_3 ?tlk ?tvp ?tno
    (case a0 => k_is); (case l0 => k_is); (case c0 => k_is); (case k0 => k_is); (case a1 => k_is); (case l1 => k_is); (case c1 => k_is); (case k1 => k_is); (case a2 => k_is); (case l2 => k_is); (case c2 => k_is); (case k2 => k_is); (case a3 => k_is); (case l3 => k_is); (case c3 => k_is); (case k3 => k_is); (case a4 => k_is); (case l4 => k_is); (case c4 => k_is); (case k4 => k_is); (case a5 => k_is); (case l5 => k_is); (case c5 => k_is); (case k5 => k_is); (case a6 => k_is); (case l6 => k_is); (case c6 => k_is); (case k6 => k_is); (case a7 => k_is); (case l7 => k_is); (case c7 => k_is); (case k7 => k_is); (case a8 => k_is); (case l8 => k_is); (case c8 => k_is); (case k8 => k_is); (case a9 => k_is); (case l9 => k_is); (case c9 => k_is); (case k9 => k_is); (case a10 => k_is); (case l10 => k_is); (case c10 => k_is); (case k10 => k_is); (case a11 => k_is); (case l11 => k_is); (case c11 => k_is); (case k11 => k_is); (case a12 => k_is); (case l12 => k_is); (case c12 => k_is); (case k12 => k_is); (case a13 => k_is); (case l13 => k_is); (case c13 => k_is); (case k13 => k_is); (case a14 => k_is); (case l14 => k_is); (case c14 => k_is); (case k14 => k_is); (case a15 => k_is); (case l15 => k_is); (case c15 => k_is); (case k15 => k_is); (case a16 => k_is); (case l16 => k_is); (case c16 => k_is); (case k16 => k_is); (case a17 => k_is); (case l17 => k_is); (case c17 => k_is); (case k17 => k_is); (case a18 => k_is); (case l18 => k_is); (case c18 => k_is); (case k18 => k_is); (case a19 => k_is); (case l19 => k_is); (case c19 => k_is); (case k19 => k_is); (case a20 => k_is); (case l20 => k_is); (case c20 => k_is); (case k20 => k_is); (case a21 => k_is); (case l21 => k_is); (case c21 => k_is); (case k21 => k_is); (case a22 => k_is); (case l22 => k_is); (case c22 => k_is); (case k22 => k_is); (case a23 => k_is); (case l23 => k_is); (case c23 => k_is); (case k23 => k_is); (case z0 => k_is); (case z1 => k_is); (case z2 => k_is); (case z3 => k_is); (case z4 => k_is); (case z5 => k_is); (case z6 => k_is); (case z7 => k_is); (case z8 => k_is); (case z9 => k_is); (case z10 => k_is); (case z11 => k_is); (case z12 => k_is); (case gs0 => k_is); (case ge0 => first | rfl | decide +kernel); (case gs1 => k_is); (case gs2 => k_is); (case gs3 => k_is); (case gs4 => k_is); (case gk4 => k_is); (case ge4 => first | rfl | decide +kernel); (case gb4 => first | rfl | decide +kernel); (case gq4_0 => first | rfl | decide +kernel); (case gq4_1 => first | rfl | decide +kernel); (case gq4_2 => first | rfl | decide +kernel); (case gq4_3 => first | rfl | decide +kernel); (case gq4_4 => first | rfl | decide +kernel); (case gs5 => k_is); (case ge5 => first | rfl | decide +kernel); (case gs6 => k_is); (case gs7 => k_is); (case ge7 => first | rfl | decide +kernel); (case gs8 => k_is); (case ge8 => first | rfl | decide +kernel); (case ke0 => k_is); (case kp0 => k_is); (case kh0 => k_is); (case ko0 => k_is); (case ks0 => k_is); (case km0 => k_is); (case kk0 => k_is); (case kf0_0 => k_is); (case kf0_1 => k_is); (case kf0_2 => k_is); (case kf0_3 => k_is); (case kf0_4 => k_is); (case ma0_0 => k_is); (case mi0_0 => k_is); (case mk0_0 => k_is); (case ml0_0 => k_is); (case mc0_0 => k_is); (case ma0_1 => k_is); (case mi0_1 => k_is); (case mk0_1 => k_is); (case ml0_1 => k_is); (case mc0_1 => k_is); (case ma0_2 => k_is); (case mi0_2 => k_is); (case mk0_2 => k_is); (case ml0_2 => k_is); (case mc0_2 => k_is); (case ma0_3 => k_is); (case mi0_3 => k_is); (case mk0_3 => k_is); (case ml0_3 => k_is); (case mc0_3 => k_is); (case ma0_4 => k_is); (case mi0_4 => k_is); (case mk0_4 => k_is); (case ml0_4 => k_is); (case mc0_4 => k_is); (case ke1 => k_is); (case kp1 => k_is); (case kh1 => k_is); (case ko1 => k_is); (case ks1 => k_is); (case km1 => k_is); (case kk1 => k_is); (case kf1_0 => k_is); (case kf1_1 => k_is); (case kf1_2 => k_is); (case ma1_0 => k_is); (case mi1_0 => k_is); (case mk1_0 => k_is); (case ml1_0 => k_is); (case mc1_0 => k_is); (case ke2 => k_is); (case kp2 => k_is); (case kh2 => k_is); (case ko2 => k_is); (case ks2 => k_is); (case km2 => k_is); (case kk2 => k_is); (case kf2_0 => k_is); (case kf2_1 => k_is); (case kf2_2 => k_is); (case kf2_3 => k_is); (case kf2_4 => k_is); (case ma2_0 => k_is); (case mi2_0 => k_is); (case mk2_0 => k_is); (case ml2_0 => k_is); (case mc2_0 => k_is); (case ma2_1 => k_is); (case mi2_1 => k_is); (case mk2_1 => k_is); (case ml2_1 => k_is); (case mc2_1 => k_is); (case ma2_2 => k_is); (case mi2_2 => k_is); (case mk2_2 => k_is); (case ml2_2 => k_is); (case mc2_2 => k_is); (case ma2_3 => k_is); (case mi2_3 => k_is); (case mk2_3 => k_is); (case ml2_3 => k_is); (case mc2_3 => k_is); (case ma2_4 => k_is); (case mi2_4 => k_is); (case mk2_4 => k_is); (case ml2_4 => k_is); (case mc2_4 => k_is); (case ke3 => k_is); (case kp3 => k_is); (case kh3 => k_is); (case ko3 => k_is); (case ks3 => k_is); (case km3 => k_is); (case kk3 => k_is); (case kf3_0 => k_is); (case kf3_1 => k_is); (case kf3_2 => k_is); (case ma3_0 => k_is); (case mi3_0 => k_is); (case mk3_0 => k_is); (case ml3_0 => k_is); (case mc3_0 => k_is); (case ma3_1 => k_is); (case mg3_1 => k_is); (case mt3_1 => k_is); (case mr3_1 => k_is); (case mk3_1 => k_is); (case ml3_1 => k_is); (case mc3_1 => k_is); (case ma3_2 => k_is); (case mi3_2 => k_is); (case mk3_2 => k_is); (case ml3_2 => k_is); (case mc3_2 => k_is); (case ma3_3 => k_is); (case mi3_3 => k_is); (case mk3_3 => k_is); (case ml3_3 => k_is); (case mc3_3 => k_is); (case ma3_4 => k_is); (case mi3_4 => k_is); (case mk3_4 => k_is); (case ml3_4 => k_is); (case mc3_4 => k_is); (case ma3_5 => k_is); (case mi3_5 => k_is); (case mk3_5 => k_is); (case ml3_5 => k_is); (case mc3_5 => k_is); (case ma3_6 => k_is); (case mi3_6 => k_is); (case mk3_6 => k_is); (case ml3_6 => k_is); (case mc3_6 => k_is); (case ma3_7 => k_is); (case mi3_7 => k_is); (case mk3_7 => k_is); (case ml3_7 => k_is); (case mc3_7 => k_is); (case ma3_8 => k_is); (case mi3_8 => k_is); (case mk3_8 => k_is); (case ml3_8 => k_is); (case mc3_8 => k_is); (case ma3_9 => k_is); (case mi3_9 => k_is); (case mk3_9 => k_is); (case ml3_9 => k_is); (case mc3_9 => k_is); (case ma3_10 => k_is); (case mi3_10 => k_is); (case mk3_10 => k_is); (case ml3_10 => k_is); (case mc3_10 => k_is); (case ma3_11 => k_is); (case mi3_11 => k_is); (case mk3_11 => k_is); (case ml3_11 => k_is); (case mc3_11 => k_is); (case ma3_12 => k_is); (case mi3_12 => k_is); (case mk3_12 => k_is); (case ml3_12 => k_is); (case mc3_12 => k_is); (case ma3_13 => k_is); (case mi3_13 => k_is); (case mk3_13 => k_is); (case ml3_13 => k_is); (case mc3_13 => k_is); (case ma3_14 => k_is); (case mi3_14 => k_is); (case mk3_14 => k_is); (case ml3_14 => k_is); (case mc3_14 => k_is); (case aT => k_is); (case iT => k_is); (case yT => k_is); (case eC0 => k_is); (case xL0 => k_is); (case sa0 => k_is); (case ga0 => k_is); (case gg0 => k_is); (case n1_0 => k_is); (case n2_0 => k_is); (case iI0 => k_is); (case tI0 => k_is); (case lI0 => k_is); (case cI0 => k_is); (case kI0 => k_is); (case kC0 => k_is); (case xC0 => k_is); (case tC0 => k_is); (case hC0 => k_is); (case jC0 => k_is); (case sC0 => k_is); (case uC0 => k_is); (case vC0 => k_is); (case gC0 => k_is); (case oC0 => k_is); (case wC0 => k_is); (case mC0 => k_is); (case ep0 => k_is); (case qp0 => k_exc); (case kq0 => k_is); (case bp0 => k_is); (case tp0 => k_is); (case cp0 => k_is); (case ep1 => k_is); (case qp1 => k_exc); (case kq1 => k_is); (case bp1 => k_is); (case tp1 => k_is); (case cp1 => k_is); (case ep2 => k_is); (case qp2 => k_exc); (case kq2 => k_is); (case bp2 => k_is); (case tp2 => k_is); (case cp2 => k_is); (case ep3 => k_is); (case qp3 => k_exc); (case kq3 => k_is); (case bp3 => k_is); (case tp3 => k_is); (case cp3 => k_is); (case sp0_0 => k_is); (case sp0_1 => k_is); (case sp0_2 => k_is); (case sp0_3 => k_is); (case sp1_0 => k_is); (case sp1_1 => k_is); (case sp1_2 => k_is); (case sp1_3 => k_is); (case sp2_0 => k_is); (case sp2_1 => k_is); (case sp2_2 => k_is); (case sp2_3 => k_is); (case sp3_0 => k_is); (case sp3_1 => k_is); (case sp3_2 => k_is); (case sp3_3 => k_is); (case tlk => k_is); (case tvp => first | rfl | decide +kernel); (case tno => first | rfl | decide +kernel)
