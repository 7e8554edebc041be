import PyProof.Rows.All
import Wide.All
import OpenK.AllK
import Wide.FinOn
import HandS.ForMost
import HandS.RaiseMore
import HandS.StrMore
import HandS.Zip
import KE.GoesEnum
import KE.GoesMore
import PySem.Challenge.RW_heldwater_k00_basins_read
set_option Elab.async false
set_option linter.all false
set_option maxRecDepth 100000
/-! DA: values as data. A data value D stands for a Python value by what the heap holds; a cell is data or a place of the store of lists and dicts that still change. -/
namespace DL
open PySem L2

/-- data: no address in it -/
inductive D where
  | non | bl (b : Bool) | int (i : Int) | str (x : Str) | tup (ds : List D) | lst (ds : List D) | wls (ds : List D) | dct (kvs : List (Key × D))
/-- data, or the k-th object of the store -/
inductive C where
  | d (x : D) | p (k : Nat)
/-- an object that may change -/
inductive SO where
  | lst (cs : List C) | dct (kvs : List (Key × C)) | fro (x : D)
def SO.isFro : SO → Bool
  | .fro _ => true
  | _ => false
abbrev Env := List (Option C)
abbrev Sto := List SO

mutual
inductive Rep (K : PySem.W.Frag) (F : Hp) : D → V → Prop
  | non : Rep K F .non .non
  | bl {b : Bool} : Rep K F (.bl b) (.bl b)
  | int {i : Int} : Rep K F (.int i) (.int i)
  | str {x : Str} : Rep K F (.str x) (.str x)
  | tup {ds : List D} {a : Addr} {vs : List V} : SqT K F a vs → Reps K F ds vs → Rep K F (.tup ds) (.ref a)
  | lst {ds : List D} {a : Addr} {vs : List V} : F a = some (.lst vs) → Reps K F ds vs → Rep K F (.lst ds) (.ref a)
  | wls {ds : List D} {a : Addr} {vs : List V} : SqL K F a vs → Reps K F ds vs → Rep K F (.wls ds) (.ref a)
  | dct {kvs : List (Key × D)} {a : Addr} {vs : List V} : F a = some (.dK ((kvs.map (·.1)).zip vs)) → Reps K F (kvs.map (·.2)) vs → Rep K F (.dct kvs) (.ref a)
inductive Reps (K : PySem.W.Frag) (F : Hp) : List D → List V → Prop
  | nil : Reps K F [] []
  | cons {x : D} {v : V} {xs : List D} {vs : List V} : Rep K F x v → Reps K F xs vs → Reps K F (x :: xs) (v :: vs)
end

section
variable {K : PySem.W.Frag} {F F' H H' : Hp}
theorem same_sqt {a : Addr} {vs : List V} (e : Same F F') (h : SqT K F a vs) : SqT K F' a vs := by
  rcases h with (h | ⟨o, h⟩) | h
  · exact .inl (.inl (e _ _ h))
  · exact .inl (.inr ⟨o, e _ _ h⟩)
  · exact .inr h
mutual
theorem Rep.mono (e : Same F F') : ∀ {x : D} {v : V}, Rep K F x v → Rep K F' x v
  | _, _, .non => .non
  | _, _, .bl => .bl
  | _, _, .int => .int
  | _, _, .str => .str
  | _, _, .tup h r => .tup (same_sqt e h) (Reps.mono e r)
  | _, _, .lst h r => .lst (e _ _ h) (Reps.mono e r)
  | _, _, .wls h r => .wls (e.seq h) (Reps.mono e r)
  | _, _, .dct h r => .dct (e _ _ h) (Reps.mono e r)
theorem Reps.mono (e : Same F F') : ∀ {xs : List D} {vs : List V}, Reps K F xs vs → Reps K F' xs vs
  | _, _, .nil => .nil
  | _, _, .cons h r => .cons (Rep.mono e h) (Reps.mono e r)
end
theorem Reps.len : ∀ {xs : List D} {vs : List V}, Reps K F xs vs → xs.length = vs.length
  | _, _, .nil => rfl
  | _, _, .cons _ r => by rw [List.length_cons, List.length_cons, r.len]
theorem Reps.get : ∀ {xs : List D} {vs : List V} {i : Nat} {x : D}, Reps K F xs vs → xs[i]? = some x → ∃ v, vs[i]? = some v ∧ Rep K F x v
  | _, _, _, _, .nil, h => by simp at h
  | _, _, 0, _, .cons h _, e => by simp at e; subst e; exact ⟨_, rfl, h⟩
  | _, _, i + 1, _, .cons _ r, e => by
    obtain ⟨v, h1, h2⟩ := Reps.get (i := i) r (by simpa using e)
    exact ⟨v, by simpa using h1, h2⟩
theorem Reps.app : ∀ {xs ys : List D} {vs us : List V}, Reps K F xs vs → Reps K F ys us → Reps K F (xs ++ ys) (vs ++ us)
  | _, _, _, _, .nil, q => q
  | _, _, _, _, .cons h r, q => .cons h (r.app q)
theorem Reps.set : ∀ {xs : List D} {vs : List V} {i : Nat} {x : D} {v : V}, Reps K F xs vs → Rep K F x v → Reps K F (xs.set i x) (vs.set i v)
  | _, _, _, _, _, .nil, _ => .nil
  | _, _, 0, _, _, .cons _ r, q => .cons q r
  | _, _, i + 1, _, _, .cons h r, q => .cons h (r.set q)
theorem Reps.take : ∀ {xs : List D} {vs : List V} (n : Nat), Reps K F xs vs → Reps K F (xs.take n) (vs.take n)
  | _, _, 0, _ => .nil
  | _, _, _ + 1, .nil => .nil
  | _, _, n + 1, .cons h r => .cons h (r.take n)
theorem Reps.drop : ∀ {xs : List D} {vs : List V} (n : Nat), Reps K F xs vs → Reps K F (xs.drop n) (vs.drop n)
  | _, _, 0, r => r
  | _, _, _ + 1, .nil => .nil
  | _, _, n + 1, .cons _ r => r.drop n

/-- top-level content may stand in H alone (an object of the store) -/
inductive RepP (K : PySem.W.Frag) (F H : Hp) : D → V → Prop
  | non : RepP K F H .non .non
  | bl {b : Bool} : RepP K F H (.bl b) (.bl b)
  | int {i : Int} : RepP K F H (.int i) (.int i)
  | str {x : Str} : RepP K F H (.str x) (.str x)
  | tup {ds : List D} {a : Addr} {vs : List V} : SqT K F a vs → Reps K F ds vs → RepP K F H (.tup ds) (.ref a)
  | lst {ds : List D} {a : Addr} {vs : List V} : H a = some (.lst vs) → Reps K F ds vs → RepP K F H (.lst ds) (.ref a)
  | wls {ds : List D} {a : Addr} {vs : List V} : SqL K F a vs → Reps K F ds vs → RepP K F H (.wls ds) (.ref a)
  | dct {kvs : List (Key × D)} {a : Addr} {vs : List V} : H a = some (.dK ((kvs.map (·.1)).zip vs)) → Reps K F (kvs.map (·.2)) vs → RepP K F H (.dct kvs) (.ref a)
theorem Rep.p (e : Same F H) {x : D} {v : V} : Rep K F x v → RepP K F H x v
  | .non => .non
  | .bl => .bl
  | .int => .int
  | .str => .str
  | .tup h r => .tup h r
  | .lst h r => .lst (e _ _ h) r
  | .wls h r => .wls h r
  | .dct h r => .dct (e _ _ h) r

def RepC (K : PySem.W.Frag) (F : Hp) (A : List Addr) : C → V → Prop
  | .d x, v => Rep K F x v
  | .p k, v => ∃ a, A[k]? = some a ∧ v = .ref a
inductive RepCs (K : PySem.W.Frag) (F : Hp) (A : List Addr) : List C → List V → Prop
  | nil : RepCs K F A [] []
  | cons {c : C} {v : V} {cs : List C} {vs : List V} : RepC K F A c v → RepCs K F A cs vs → RepCs K F A (c :: cs) (v :: vs)
theorem RepC.mono {A : List Addr} {c : C} {v : V} (e : Same F F') (h : RepC K F A c v) : RepC K F' A c v := by
  cases c with
  | d y => exact Rep.mono e h
  | p k => exact h
theorem RepCs.mono {A : List Addr} (e : Same F F') : ∀ {cs : List C} {vs : List V}, RepCs K F A cs vs → RepCs K F' A cs vs
  | _, _, .nil => .nil
  | _, _, .cons h r => .cons (h.mono e) (r.mono e)
theorem RepCs.len {A : List Addr} : ∀ {cs : List C} {vs : List V}, RepCs K F A cs vs → cs.length = vs.length
  | _, _, .nil => rfl
  | _, _, .cons _ r => by rw [List.length_cons, List.length_cons, r.len]
theorem RepCs.get {A : List Addr} : ∀ {cs : List C} {vs : List V} {i : Nat} {c : C}, RepCs K F A cs vs → cs[i]? = some c → ∃ v, vs[i]? = some v ∧ RepC K F A c v
  | _, _, _, _, .nil, h => by simp at h
  | _, _, 0, _, .cons h _, e => by simp at e; subst e; exact ⟨_, rfl, h⟩
  | _, _, i + 1, _, .cons _ r, e => by
    obtain ⟨v, h1, h2⟩ := RepCs.get (i := i) r (by simpa using e)
    exact ⟨v, by simpa using h1, h2⟩
theorem RepCs.app {A : List Addr} : ∀ {xs ys : List C} {vs us : List V}, RepCs K F A xs vs → RepCs K F A ys us → RepCs K F A (xs ++ ys) (vs ++ us)
  | _, _, _, _, .nil, q => q
  | _, _, _, _, .cons h r, q => .cons h (r.app q)
theorem RepCs.set {A : List Addr} : ∀ {xs : List C} {vs : List V} {i : Nat} {x : C} {v : V}, RepCs K F A xs vs → RepC K F A x v → RepCs K F A (xs.set i x) (vs.set i v)
  | _, _, _, _, _, .nil, _ => .nil
  | _, _, 0, _, _, .cons _ r, q => .cons q r
  | _, _, i + 1, _, _, .cons h r, q => .cons h (r.set q)
theorem RepC.at {A B : List Addr} {c : C} {v : V} (h : RepC K F A c v) : RepC K F (A ++ B) c v := by
  cases c with
  | d x => exact h
  | p k =>
    obtain ⟨a, h1, h2⟩ := h
    exact ⟨a, by rw [List.getElem?_append_left (List.getElem?_eq_some_iff.mp h1).1]; exact h1, h2⟩
theorem RepCs.at {A B : List Addr} : ∀ {cs : List C} {vs : List V}, RepCs K F A cs vs → RepCs K F (A ++ B) cs vs
  | _, _, .nil => .nil
  | _, _, .cons h r => .cons h.at r.at
theorem Reps.cs {A : List Addr} : ∀ {ds : List D} {vs : List V}, Reps K F ds vs → RepCs K F A (ds.map .d) vs
  | _, _, .nil => .nil
  | _, _, .cons h r => .cons h r.cs
/-- all of them data -/
def allD : List C → Option (List D)
  | [] => some []
  | .d x :: cs => (allD cs).map (x :: ·)
  | .p _ :: _ => none
theorem allD_map (ds : List D) : allD (ds.map .d) = some ds := by
  induction ds with
  | nil => rfl
  | cons d ds ih => simp only [List.map_cons, allD, ih, Option.map_some]
theorem allD_reps {A : List Addr} : ∀ {cs : List C} {vs : List V} {ds : List D}, RepCs K F A cs vs → allD cs = some ds → Reps K F ds vs
  | _, _, _, .nil, h => by cases h; exact .nil
  | _, _, _, .cons (c := .d x) hr r, h => by
    simp only [allD, Option.map_eq_some_iff] at h
    obtain ⟨ds, h1, rfl⟩ := h
    exact .cons hr (allD_reps r h1)
  | _, _, _, .cons (c := .p _) _ _, h => by cases h
def SObj (K : PySem.W.Frag) (F H : Hp) (A : List Addr) (a : Addr) : SO → Prop
  | .lst cs => ∃ vs, H a = some (.lst vs) ∧ RepCs K F A cs vs
  | .dct kvs => ∃ vs, H a = some (.dK ((kvs.map (·.1)).zip vs)) ∧ RepCs K F A (kvs.map (·.2)) vs
  | .fro x => F a ≠ none ∧ Rep K F x (.ref a)
/-- F: what will not change; A: where the store's objects stand -/
structure SS (K : PySem.W.Frag) (F H : Hp) (A : List Addr) (st : Sto) : Prop where
  ex : Same F H
  len : A.length = st.length
  nd : A.Nodup
  fr : ∀ (k : Nat) (a : Addr) (o : SO), A[k]? = some a → st[k]? = some o → o.isFro = false → F a = none
  obj : ∀ (k : Nat) (a : Addr) (o : SO), A[k]? = some a → st[k]? = some o → SObj K F H A a o
structure Grow (A : List Addr) (F H F' H' : Hp) : Prop where
  ex : Same F F'
  new : ∀ a, F' a ≠ none → F a ≠ none ∨ H a = none ∨ a ∈ A
  keep : ∀ b o, H b = some o → b ∉ A → H' b = some o
  dom : ∀ b, H b ≠ none → H' b ≠ none
theorem Grow.refl {A : List Addr} : Grow A F H F H := ⟨Same.refl F, fun _ h => .inl h, fun _ _ h _ => h, fun _ h => h⟩
theorem Grow.trans {A : List Addr} {F1 H1 F2 H2 : Hp} (a : Grow A F H F1 H1) (b : Grow A F1 H1 F2 H2) : Grow A F H F2 H2 where
  ex := a.ex.trans b.ex
  new := fun x h => by
    rcases b.new x h with h | h | h
    · exact a.new x h
    · refine .inr (.inl ?_)
      cases q : H x with
      | none => rfl
      | some o => exact absurd h (a.dom x (by rw [q]; exact fun z => nomatch z))
    · exact .inr (.inr h)
  keep := fun x o h n => b.keep x o (a.keep x o h n) n
  dom := fun x h => b.dom x (a.dom x h)
theorem SObj.mono {A : List Addr} {a : Addr} {o : SO} (e : Same F F') (h : SObj K F H A a o) (hk : ∀ u, H a = some u → H' a = some u) : SObj K F' H' A a o := by
  cases o with
  | lst ds => obtain ⟨vs, h1, h2⟩ := h; exact ⟨vs, hk _ h1, h2.mono e⟩
  | dct kvs => obtain ⟨vs, h1, h2⟩ := h; exact ⟨vs, hk _ h1, h2.mono e⟩
  | fro x =>
    refine ⟨fun z => ?_, h.2.mono e⟩
    cases q : F a with
    | none => exact h.1 q
    | some u => rw [e _ _ q] at z; cases z
theorem SObj.at {A B : List Addr} {a : Addr} {o : SO} (h : SObj K F H A a o) : SObj K F H (A ++ B) a o := by
  cases o with
  | lst ds => obtain ⟨vs, h1, h2⟩ := h; exact ⟨vs, h1, h2.at⟩
  | dct kvs => obtain ⟨vs, h1, h2⟩ := h; exact ⟨vs, h1, h2.at⟩
  | fro x => exact h
theorem SObj.there {A : List Addr} {a : Addr} {o : SO} (e : Same F H) (h : SObj K F H A a o) : H a ≠ none := by
  cases o with
  | lst ds => obtain ⟨vs, h1, _⟩ := h; rw [h1]; exact fun z => nomatch z
  | dct ds => obtain ⟨vs, h1, _⟩ := h; rw [h1]; exact fun z => nomatch z
  | fro x =>
    intro z
    cases q : F a with
    | none => exact h.1 q
    | some u => rw [e _ _ q] at z; cases z
theorem SS.at_ {A : List Addr} {st : Sto} {q : Addr} (S : SS K F H A st) (ha : q ∈ A) : ∃ (k : Nat) (o : SO), A[k]? = some q ∧ st[k]? = some o := by
  obtain ⟨k, hk⟩ := List.getElem?_of_mem ha
  have hl : k < st.length := by rw [← S.len]; exact (List.getElem?_eq_some_iff.mp hk).1
  exact ⟨k, st[k], hk, List.getElem?_eq_getElem hl⟩
theorem SS.there {A : List Addr} {st : Sto} {q : Addr} (S : SS K F H A st) (ha : q ∈ A) : H q ≠ none := by
  obtain ⟨k, o, h1, h2⟩ := S.at_ ha
  exact (S.obj k q o h1 h2).there S.ex
theorem SS.fresh {A : List Addr} {st : Sto} {q : Addr} (S : SS K F H A st) (hq : H q = none) : q ∉ A := fun ha => S.there ha hq
/-- a new thing that will not change -/
theorem SS.new {A : List Addr} {st : Sto} {q : Addr} {o : HO} (S : SS K F H A st) (hq : H q = none) : SS K (upd F q o) (upd H q o) A st where
  ex := fun b u h => by
    by_cases e : b = q
    · subst e; rw [upd_same] at h ⊢; exact h
    · rw [upd_ne e] at h ⊢; exact S.ex b u h
  len := S.len
  nd := S.nd
  fr := fun k a u hk hu hf => by
    have hn : a ≠ q := fun z => S.fresh hq (by rw [← z]; exact List.mem_of_getElem? hk)
    rw [upd_ne hn]; exact S.fr k a u hk hu hf
  obj := fun k a o' hk ho => by
    refine (S.obj k a o' hk ho).mono (fun b u h => ?_) fun u hu => ?_
    · have : b ≠ q := fun z => by subst z; rw [show F b = none from (Same.free S.ex hq)] at h; cases h
      rw [upd_ne this]; exact h
    · rw [upd_ne (ne_of_none hu hq)]; exact hu
theorem Grow.new1 {A : List Addr} {q : Addr} {o : HO} (hF : F q = none) (hq : H q = none) : Grow A F H (upd F q o) (upd H q o) where
  ex := fun b u h => by
    have : b ≠ q := fun z => by subst z; rw [hF] at h; cases h
    rw [upd_ne this]; exact h
  new := fun a h => by
    by_cases e : a = q
    · subst e; exact .inr (.inl hq)
    · rw [upd_ne e] at h; exact .inl h
  keep := fun b u h _ => by rw [upd_ne (ne_of_none h hq)]; exact h
  dom := fun b h => by
    by_cases e : b = q
    · subst e; rw [upd_same]; exact fun z => nomatch z
    · rw [upd_ne e]; exact h

/-- what a cell holds, where all in it is data -/
def deref (st : Sto) : C → Option D
  | .d x => some x
  | .p k => match st[k]? with
    | some (.lst cs) => (allD cs).map .lst
    | some (.dct kvs) => (allD (kvs.map (·.2))).map fun ds => .dct ((kvs.map (·.1)).zip ds)
    | some (.fro x) => some x
    | none => none
theorem zip_fst {α β : Type} : ∀ {xs : List α} {ys : List β}, xs.length = ys.length → (xs.zip ys).map (·.1) = xs
  | [], [], _ => rfl
  | x :: xs, y :: ys, h => by
    show x :: (xs.zip ys).map (·.1) = x :: xs
    rw [zip_fst (by simpa using h)]
  | [], _ :: _, h => by simp at h
  | _ :: _, [], h => by simp at h
theorem zip_snd {α β : Type} : ∀ {xs : List α} {ys : List β}, xs.length = ys.length → (xs.zip ys).map (·.2) = ys
  | [], [], _ => rfl
  | x :: xs, y :: ys, h => by
    show y :: (xs.zip ys).map (·.2) = y :: ys
    rw [zip_snd (by simpa using h)]
  | [], _ :: _, h => by simp at h
  | _ :: _, [], h => by simp at h
theorem SS.deref {A : List Addr} {st : Sto} {c : C} {v : V} {x : D} (S : SS K F H A st) (r : RepC K F A c v) (h : deref st c = some x) : RepP K F H x v := by
  cases c with
  | d y => cases h; exact Rep.p S.ex r
  | p k =>
    obtain ⟨a, ha, rfl⟩ := r
    simp only [DL.deref] at h
    split at h
    · rename_i cs e
      simp only [Option.map_eq_some_iff] at h
      obtain ⟨ds, h1, rfl⟩ := h
      obtain ⟨vs, h2, h3⟩ := S.obj k a _ ha e
      exact .lst h2 (allD_reps h3 h1)
    · rename_i kvs e
      simp only [Option.map_eq_some_iff] at h
      obtain ⟨ds, h1, rfl⟩ := h
      obtain ⟨vs, h2, h3⟩ := S.obj k a _ ha e
      have h4 := allD_reps h3 h1
      have hl : (kvs.map (·.1)).length = ds.length := by rw [h4.len, ← h3.len, List.length_map, List.length_map]
      exact .dct (by rw [zip_fst hl]; exact h2) (by rw [zip_snd hl]; exact h4)
    · rename_i y e
      cases h
      exact Rep.p S.ex (S.obj k a _ ha e).2
    · cases h

structure SL (K : PySem.W.Frag) (F : Hp) (A : List Addr) (σ : St) (ρ : Env) : Prop where
  len : ρ.length = σ.length
  get : ∀ (i : Nat) (c : C), ρ[i]? = some (some c) → ∃ v, σ[i]? = some (some v) ∧ RepC K F A c v
theorem SL.mono {A : List Addr} {σ : St} {ρ : Env} (e : Same F F') (h : SL K F A σ ρ) : SL K F' A σ ρ := ⟨h.len, fun i c q => by
  obtain ⟨v, h1, h2⟩ := h.get i c q
  exact ⟨v, h1, h2.mono e⟩⟩
theorem SL.set {A : List Addr} {σ : St} {ρ : Env} {i : Nat} {c : C} {v : V} (h : SL K F A σ ρ) (r : RepC K F A c v) : SL K F A (σ.set i (some v)) (ρ.set i (some c)) := ⟨by rw [List.length_set, List.length_set, h.len], fun j c' q => by
  by_cases e : j = i
  · subst e
    by_cases hl : j < ρ.length
    · rw [List.getElem?_set_self hl] at q
      cases q
      exact ⟨v, by rw [List.getElem?_set_self (by rw [← h.len]; exact hl)], r⟩
    · rw [List.getElem?_eq_none (by rw [List.length_set]; omega)] at q; cases q
  · rw [List.getElem?_set_ne (Ne.symm e)] at q
    obtain ⟨w, h1, h2⟩ := h.get j c' q
    exact ⟨w, by rw [List.getElem?_set_ne (Ne.symm e)]; exact h1, h2⟩⟩
end

/-! ### readings by data -/
abbrev GE := Env → Sto → Option (C × Sto)
abbrev GT := Env → Sto → Option (Bool × Sto)
abbrev GA := Env → Sto → Option (List C × Sto)
inductive Res where
  | nx (ρ : Env) (st : Sto) | rt (c : C) (st : Sto) | bk (ρ : Env) (st : Sto) | ct (ρ : Env) (st : Sto)
abbrev GS := Env → Sto → Option Res
def tD (K : PySem.W.Frag) (G : GE) : TE := fun σ H Q => ∃ F A ρ st c st', SS K F H A st ∧ SL K F A σ ρ ∧ G ρ st = some (c, st') ∧
  ∀ v F' H', Grow A F H F' H' → SS K F' H' A st' → RepC K F' A c v → Q v H'
def tDT (K : PySem.W.Frag) (G : GT) : TT := fun σ H Q => ∃ F A ρ st b st', SS K F H A st ∧ SL K F A σ ρ ∧ G ρ st = some (b, st') ∧
  ∀ F' H', Grow A F H F' H' → SS K F' H' A st' → Q b H'
def tDA (K : PySem.W.Frag) (G : GA) : TA := fun σ H Q => ∃ F A ρ st cs st', SS K F H A st ∧ SL K F A σ ρ ∧ G ρ st = some (cs, st') ∧
  ∀ vs F' H', Grow A F H F' H' → SS K F' H' A st' → RepCs K F' A cs vs → Q vs H'
structure GrowS (A : List Addr) (F H : Hp) (A' : List Addr) (F' H' : Hp) : Prop where
  g : Grow A F H F' H'
  app : ∃ B, A' = A ++ B ∧ ∀ b, b ∈ B → H b = none
def Fin (K : PySem.W.Frag) (F H : Hp) (A : List Addr) (Dn : Ends) : Res → Prop
  | .nx ρ st => ∀ σ F' H' A', GrowS A F H A' F' H' → SS K F' H' A' st → SL K F' A' σ ρ → Dn.nx σ H'
  | .rt c st => ∀ v F' H' A', GrowS A F H A' F' H' → SS K F' H' A' st → RepC K F' A' c v → Dn.rt v H'
  | .bk ρ st => ∀ σ F' H' A', GrowS A F H A' F' H' → SS K F' H' A' st → SL K F' A' σ ρ → Dn.bk σ H'
  | .ct ρ st => ∀ σ F' H' A', GrowS A F H A' F' H' → SS K F' H' A' st → SL K F' A' σ ρ → Dn.ct σ H'
def tDS (K : PySem.W.Frag) (G : GS) : TS := fun Dn σ H => ∃ F A ρ st r, SS K F H A st ∧ SL K F A σ ρ ∧ G ρ st = some r ∧ Fin K F H A Dn r
theorem GrowS.refl {A : List Addr} {F H : Hp} : GrowS A F H A F H := ⟨.refl, [], by simp, fun _ h => by simp at h⟩
theorem GrowS.of {A : List Addr} {F H F' H' : Hp} (g : Grow A F H F' H') : GrowS A F H A F' H' := ⟨g, [], by simp, fun _ h => by simp at h⟩
theorem GrowS.trans {A A1 A2 : List Addr} {F H F1 H1 F2 H2 : Hp} (a : GrowS A F H A1 F1 H1) (b : GrowS A1 F1 H1 A2 F2 H2) : GrowS A F H A2 F2 H2 := by
  obtain ⟨B1, rfl, n1⟩ := a.app
  obtain ⟨B2, rfl, n2⟩ := b.app
  have back : ∀ x, H1 x = none → H x = none := fun x h => by
    cases q : H x with
    | none => rfl
    | some o => exact absurd h (a.g.dom x (by rw [q]; exact fun z => nomatch z))
  refine ⟨⟨a.g.ex.trans b.g.ex, fun x h => ?_, fun x o h n => ?_, fun x h => b.g.dom x (a.g.dom x h)⟩, B1 ++ B2, by rw [List.append_assoc], fun x h => ?_⟩
  · rcases b.g.new x h with h | h | h
    · exact a.g.new x h
    · exact .inr (.inl (back x h))
    · rcases List.mem_append.mp h with z | z
      · exact .inr (.inr z)
      · exact .inr (.inl (n1 x z))
  · refine b.g.keep x o (a.g.keep x o h n) fun z => ?_
    rcases List.mem_append.mp z with z | z
    · exact n z
    · rw [n1 x z] at h; cases h
  · rcases List.mem_append.mp h with z | z
    · exact n1 x z
    · exact back x (n2 x z)

/-! ### weaker readings -/
section
variable {X : Cx}
theorem pe_imp {e : Expr} {t u : TE} (h : PE X e t) (q : ∀ σ H Q, u σ H Q → t σ H Q) : PE X e u := ⟨fun pins s σ H Q I z => h.run pins s σ H Q I (q σ H Q z)⟩
theorem pt_imp {e : Expr} {t u : TT} (h : PT X e t) (q : ∀ σ H Q, u σ H Q → t σ H Q) : PT X e u := ⟨fun pins s σ H Q I z => h.run pins s σ H Q I (q σ H Q z)⟩
theorem pa_imp {e : List Expr} {t u : TA} (h : PA X e t) (q : ∀ σ H Q, u σ H Q → t σ H Q) : PA X e u := ⟨fun pos pins s σ H Q I z => h.run pos pins s σ H Q I (q σ H Q z)⟩
theorem ps_imp {e : Stmt} {t u : TS} (h : PS X e t) (q : ∀ D σ H, u D σ H → t D σ H) : PS X e u := ⟨fun pins s σ H Q I z => h.run pins s σ H Q I (q Q σ H z)⟩
theorem pss_imp {e : List Stmt} {t u : TS} (h : PSs X e t) (q : ∀ D σ H, u D σ H → t D σ H) : PSs X e u := ⟨fun pins s σ H Q I z => h.run pins s σ H Q I (q Q σ H z)⟩
end
end DL
/-! DB: expressions by data. -/
namespace DL
open PySem PySem.Spec PyProof.Rows L2

section
variable {X : Cx} {pos : Pos}
/-! ### names, constants -/
def eV (i : Nat) : GE := fun ρ st => match ρ[i]? with
  | some (some c) => some (c, st)
  | _ => none
def eK (x : D) : GE := fun _ st => some (.d x, st)
theorem de_v (i : Nat) {x : Str} {pos : Pos} (hN : X.N[i]? = some x := by rfl) (hv : Vis X.env.scope x := by first | exact Or.inl rfl | exact Or.inr (Or.inl rfl) | exact Or.inr (Or.inr rfl)) (hd : (x == ("__debug__" : Str)) = false := by decide)
    (hcd : (x == ("__classdict__" : Str)) = false := by decide) : PE X (.Name x pos) (tD X.K (eV i)) := by
  refine pe_imp (pe_var hN hv hd hcd) fun σ H Q ⟨F, A, ρ, st, c, st', S, L, g, k⟩ => ?_
  unfold eV at g
  split at g
  · rename_i c' e
    cases g
    obtain ⟨v, h1, h2⟩ := L.get i _ e
    exact ⟨v, h1, k v F H .refl S h2⟩
  · cases g
theorem k_imp {x : D} {v : V} (hv : ∀ F, Rep X.K F x v) : ∀ σ H Q, tD X.K (eK x) σ H Q → tC v σ H Q := fun σ H Q ⟨F, A, ρ, st, c, st', S, L, g, k⟩ => by
  cases g
  exact k v F H .refl S (hv F)
theorem de_int {i : Int} {j pos} : PE X (.Constant (.int i) j pos) (tD X.K (eK (.int i))) := pe_imp pe_int (k_imp fun _ => .int)
theorem de_bl {b : Bool} {j pos} : PE X (.Constant (.bool b) j pos) (tD X.K (eK (.bl b))) := pe_imp pe_bl (k_imp fun _ => .bl)
theorem de_non {j pos} : PE X (.Constant .none j pos) (tD X.K (eK .non)) := pe_imp pe_non (k_imp fun _ => .non)
theorem de_str {x : Str} {j pos} : PE X (.Constant (.str x) j pos) (tD X.K (eK (.str x))) := pe_imp pe_str (k_imp fun _ => .str)
/-- a module's constant -/
theorem de_gl {x : Str} {pos : Pos} {d : D} {v : V} {u : Value} (hg : Gl X x) (hm : X.mg x = some u) (r : RelV v u) (hv : ∀ F, Rep X.K F d v) (hd : (x == ("__debug__" : Str)) = false := by decide) : PE X (.Name x pos) (tD X.K (eK d)) := pe_imp (pe_glob hg hm r hd) (k_imp hv)
theorem de_gi {x : Str} {pos : Pos} {i : Int} (hg : Gl X x) (hm : ∃ t, X.mg x = some (.int i t)) (hd : (x == ("__debug__" : Str)) = false := by decide) : PE X (.Name x pos) (tD X.K (eK (.int i))) := by
  obtain ⟨t, h⟩ := hm
  exact de_gl hg h (v := .int i) ⟨t, rfl⟩ (fun _ => .int) hd

/-! ### two operands -/
def eOp (g : D → D → Option D) (a b : GE) : GE := fun ρ st => (a ρ st).bind fun p => (b ρ p.2).bind fun q => (deref q.2 p.1).bind fun x => (deref q.2 q.1).bind fun y => (g x y).bind fun z => some (.d z, q.2)
/-- what an operation of derefenced values asks -/
def rDD (K : PySem.W.Frag) (g : D → D → Option D) : R2 := fun v u H Q => ∃ F A st x y z, SS K F H A st ∧ RepP K F H x v ∧ RepP K F H y u ∧ g x y = some z ∧ ∀ w F' H', Grow A F H F' H' → SS K F' H' A st → Rep K F' z w → Q w H'
theorem bind_some {α β : Type} {x : Option α} {f : α → Option β} {b : β} (h : x.bind f = some b) : ∃ a, x = some a ∧ f a = some b := by
  cases x with
  | none => cases h
  | some a => exact ⟨a, rfl, h⟩
theorem bin_imp {K : PySem.W.Frag} {g : D → D → Option D} {a b : GE} {r : R2} (hr : ∀ v u H Q, rDD K g v u H Q → r v u H Q) : ∀ σ H Q, tD K (eOp g a b) σ H Q → tOp r (tD K a) (tD K b) σ H Q := fun σ H Q ⟨F, A, ρ, st, c, st', S, L, h, k⟩ => by
  obtain ⟨⟨c1, st1⟩, h1, h⟩ := bind_some h
  obtain ⟨⟨c2, st2⟩, h2, h⟩ := bind_some h
  obtain ⟨x, hx, h⟩ := bind_some h
  obtain ⟨y, hy, h⟩ := bind_some h
  obtain ⟨z, hz, h⟩ := bind_some h
  cases h
  refine ⟨F, A, ρ, st, c1, st1, S, L, h1, fun v F1 H1 g1 S1 r1 => ⟨F1, A, ρ, st1, c2, st2, S1, L.mono g1.ex, h2, fun u F2 H2 g2 S2 r2 => hr _ _ _ _ ⟨F2, A, st2, x, y, z, S2, S2.deref (r1.mono g2.ex) hx, S2.deref r2 hy, hz, fun w F3 H3 g3 S3 r3 => k w F3 H3 ((g1.trans g2).trans g3) S3 r3⟩⟩⟩
theorem de_op {op : Operator} {g : D → D → Option D} {a b : Expr} {Ga Gb : GE} (ho : OpR X (binaryOp op) (rDD X.K g)) (ha : PE X a (tD X.K Ga)) (hb : PE X b (tD X.K Gb)) : PE X (.BinOp a op b pos) (tD X.K (eOp g Ga Gb)) :=
  pe_imp (pe_op ho ha hb) (bin_imp fun _ _ _ _ h => h)
theorem de_cmp {op : CmpOp} {g : D → D → Option D} {a b : Expr} {Ga Gb : GE} (ho : OpR X (compareOp op) (rDD X.K g)) (ha : PE X a (tD X.K Ga)) (hb : PE X b (tD X.K Gb)) (hm : behindInMarks op b = false) : PE X (.Compare a [op] [b] pos) (tD X.K (eOp g Ga Gb)) :=
  pe_imp (pe_cmpR ho ha hb hm) (bin_imp fun _ _ _ _ h => h)
theorem de_ix {g : D → D → Option D} {a b : Expr} {Ga Gb : GE} (ho : IxR X (rDD X.K g)) (ha : PE X a (tD X.K Ga)) (hb : PE X b (tD X.K Gb)) (hs : PlainIx b := by exact fun _ _ => rfl) : PE X (.Subscript a b pos) (tD X.K (eOp g Ga Gb)) :=
  pe_imp (pe_ix ho ha hb hs) (bin_imp fun _ _ _ _ h => h)

theorem opr_imp {f : Value → Value → Sem Value} {r r' : R2} (h : OpR X f r) (q : ∀ x y H Q, r' x y H Q → r x y H Q) : OpR X f r' := fun pins s σ H x y v u Q I rx ry z => h pins s σ H x y v u Q I rx ry (q x y H Q z)
/-- by the values: each way by a rule -/
theorem opr_by {f : Value → Value → Sem Value} {r' : R2} (q : ∀ x y H Q, r' x y H Q → ∃ r : R2, OpR X f r ∧ r x y H Q) : OpR X f r' := fun pins s σ H x y v u Q I rx ry z => by
  obtain ⟨r, h, w⟩ := q x y H Q z
  exact h pins s σ H x y v u Q I rx ry w

theorem lim6 {n : Nat} (h : n ≤ 1000000) : n ≤ sizeLine := Nat.le_trans h (by decide)
theorem lim6' {n : Nat} (h : n < 1000000) : n < sizeLine := Nat.lt_of_lt_of_le h (by decide)

def addD : D → D → Option D
  | .int i, .int j => some (.int (i + j))
  | .str x, .str y => if x.length + y.length ≤ 1000000 then some (.str (x ++ y)) else none
  | .lst xs, .lst ys => if xs.length + ys.length ≤ 1000000 then some (.lst (xs ++ ys)) else none
  | _, _ => none
theorem op_addD : OpR X (binaryOp .Add) (rDD X.K addD) := opr_by fun v u H Q ⟨F, A, st, x, y, z, S, rx, ry, hz, k⟩ => by
  cases rx <;> cases ry <;> simp only [addD, reduceCtorEq] at hz
  · cases hz
    exact ⟨_, op_add, _, _, rfl, rfl, k _ F H .refl S .int⟩
  · split at hz
    · cases hz
      rename_i hl
      exact ⟨_, op_add_str, _, _, rfl, rfl, lim6 hl, k _ F H .refl S .str⟩
    · cases hz
  · split at hz
    · cases hz
      rename_i _ vs1 h1 q1 _ _ vs2 h2 q2 _ hl
      refine ⟨_, op_cat, _, _, _, _, rfl, rfl, h1, h2, by rw [← q1.len, ← q2.len]; exact lim6 hl, fun p hp => ?_⟩
      have hF : F p = none := S.ex.free hp
      have g : Grow A F H (upd F p (.lst (vs1 ++ vs2))) (upd H p (.lst (vs1 ++ vs2))) := .new1 hF hp
      exact k _ _ _ g (S.new hp) (.lst upd_same ((q1.app q2).mono g.ex))
    · cases hz

def iiD (f : Int → Int → D) : D → D → Option D
  | .int i, .int j => some (f i j)
  | _, _ => none
def ciD (c : Int → Int → Bool) (f : Int → Int → D) : D → D → Option D
  | .int i, .int j => if c i j then some (f i j) else none
  | _, _ => none
theorem ii_of {f : Value → Value → Sem Value} {g : Int → Int → Int} (h : OpR X f (rI0 fun i j => .int (g i j))) : OpR X f (rDD X.K (iiD fun i j => .int (g i j))) := opr_imp h fun v u H Q ⟨F, A, st, x, y, z, S, rx, ry, hz, k⟩ => by
  cases rx <;> cases ry <;> simp only [iiD, reduceCtorEq] at hz
  cases hz
  exact ⟨_, _, rfl, rfl, k _ F H .refl S .int⟩
theorem bi_of {f : Value → Value → Sem Value} {g : Int → Int → Bool} (h : OpR X f (rI0 fun i j => .bl (g i j))) : OpR X f (rDD X.K (iiD fun i j => .bl (g i j))) := opr_imp h fun v u H Q ⟨F, A, st, x, y, z, S, rx, ry, hz, k⟩ => by
  cases rx <;> cases ry <;> simp only [iiD, reduceCtorEq] at hz
  cases hz
  exact ⟨_, _, rfl, rfl, k _ F H .refl S .bl⟩
theorem ci_of {f : Value → Value → Sem Value} {Cc : Int → Int → Prop} {g : Int → Int → Int} {c : Int → Int → Bool} (h : OpR X f (rI Cc fun i j => .int (g i j))) (hc : ∀ i j, c i j = true → Cc i j) : OpR X f (rDD X.K (ciD c fun i j => .int (g i j))) := opr_imp h fun v u H Q ⟨F, A, st, x, y, z, S, rx, ry, hz, k⟩ => by
  cases rx <;> cases ry <;> simp only [ciD, reduceCtorEq] at hz
  split at hz
  · cases hz
    rename_i h1
    exact ⟨_, _, rfl, rfl, hc _ _ h1, k _ F H .refl S .int⟩
  · cases hz
def subD := iiD fun i j => .int (i - j)
def mulD := ciD (fun i j => decide (i.natAbs < 18446744073709551616) || decide (j.natAbs < 18446744073709551616)) fun i j => .int (i * j)
def divD := ciD (fun _ j => decide (0 < j ∧ j < 1073741824)) fun i j => .int (i / j)
def modD := ciD (fun _ j => decide (0 < j)) fun i j => .int (i % j)
def powD := ciD (fun i j => decide (0 ≤ j ∧ j ≤ 1000000 ∧ i.natAbs < 2 ^ 64)) fun i j => .int (i ^ j.toNat)
def ltD := iiD fun i j => .bl (decide (i < j))
def leD := iiD fun i j => .bl (decide (i ≤ j))
def gtD := iiD fun i j => .bl (decide (j < i))
def geD := iiD fun i j => .bl (decide (j ≤ i))
theorem op_subD : OpR X (binaryOp .Sub) (rDD X.K subD) := ii_of op_sub
theorem op_mulD : OpR X (binaryOp .Mult) (rDD X.K mulD) := ci_of op_mul fun i j h => by
  simp only [Bool.or_eq_true, decide_eq_true_eq] at h
  unfold CMul
  omega
theorem op_divD : OpR X (binaryOp .FloorDiv) (rDD X.K divD) := ci_of op_fdiv fun i j h => by simpa [CDiv] using h
theorem op_modD : OpR X (binaryOp .Mod) (rDD X.K modD) := ci_of op_mod fun i j h => by simpa using h
theorem op_powD : OpR X (binaryOp .Pow) (rDD X.K powD) := ci_of op_pow fun i j h => by simpa [CPow] using h
theorem op_ltD : OpR X (compareOp .Lt) (rDD X.K ltD) := bi_of op_lt
theorem op_leD : OpR X (compareOp .LtE) (rDD X.K leD) := bi_of op_le
theorem op_gtD : OpR X (compareOp .Gt) (rDD X.K gtD) := bi_of op_gt
theorem op_geD : OpR X (compareOp .GtE) (rDD X.K geD) := bi_of op_ge

/-! ### is None -/
def isND (neg : Bool) : D → D → Option D
  | x, .non => some (.bl (match x with | .non => !neg | _ => neg))
  | _, _ => none
theorem op_isND : OpR X (compareOp .Is) (rDD X.K (isND false)) := opr_imp op_isN fun v u H Q ⟨F, A, st, x, y, z, S, rx, ry, hz, k⟩ => by
  cases ry <;> simp only [isND, reduceCtorEq] at hz
  cases hz
  refine ⟨rfl, ?_⟩
  cases rx <;> exact k _ F H .refl S .bl
theorem op_notND : OpR X (compareOp .IsNot) (rDD X.K (isND true)) := opr_imp op_notN fun v u H Q ⟨F, A, st, x, y, z, S, rx, ry, hz, k⟩ => by
  cases ry <;> simp only [isND, reduceCtorEq] at hz
  cases hz
  refine ⟨rfl, ?_⟩
  cases rx <;> exact k _ F H .refl S .bl

/-! ### ==, !=: scalars, then data -/
mutual
def toPy : D → Option PyData
  | .non => some .none
  | .bl b => some (.bool b)
  | .int i => some (.int i)
  | .str x => some (.str x)
  | .tup ds => (toPys ds).map .tuple
  | .lst ds => (toPys ds).map .list
  | .wls _ => none
  | .dct _ => none
def toPys : List D → Option (List PyData)
  | [] => some []
  | d :: ds => (toPy d).bind fun p => (toPys ds).bind fun ps => some (p :: ps)
end
mutual
theorem dp_of {K : PySem.W.Frag} {F H : Hp} (e : Same F H) : ∀ {x : D} {v : V} {p : PyData}, Rep K F x v → toPy x = some p → Dp K H v p
  | _, _, _, .non, h => by cases h; exact .non
  | _, _, _, .bl, h => by cases h; exact .bl _
  | _, _, _, .int, h => by cases h; exact .int _
  | _, _, _, .str, h => by cases h; exact .str _
  | _, _, _, .tup hs hr, h => by
    simp only [toPy, Option.map_eq_some_iff] at h
    obtain ⟨ps, h1, rfl⟩ := h
    exact .tup (same_sqt e hs) (dps_of e hr h1)
  | _, _, _, .lst hs hr, h => by
    simp only [toPy, Option.map_eq_some_iff] at h
    obtain ⟨ps, h1, rfl⟩ := h
    exact .lst (SqL.of (e _ _ hs)) (dps_of e hr h1)
  | _, _, _, .wls _ _, h => by simp [toPy] at h
  | _, _, _, .dct _ _, h => by simp [toPy] at h
theorem dps_of {K : PySem.W.Frag} {F H : Hp} (e : Same F H) : ∀ {xs : List D} {vs : List V} {ps : List PyData}, Reps K F xs vs → toPys xs = some ps → DpAll K H vs ps
  | _, _, _, .nil, h => by cases h; exact .nil
  | _, _, _, .cons hr hrs, h => by
    simp only [toPys] at h
    obtain ⟨p, h1, h⟩ := bind_some h
    obtain ⟨ps, h2, h⟩ := bind_some h
    cases h
    exact .cons (dp_of e hr h1) (dps_of e hrs h2)
end
theorem dpp_of {K : PySem.W.Frag} {F H : Hp} (e : Same F H) {x : D} {v : V} {p : PyData} (r : RepP K F H x v) (h : toPy x = some p) : Dp K H v p := by
  cases r with
  | non => cases h; exact .non
  | bl => cases h; exact .bl _
  | int => cases h; exact .int _
  | str => cases h; exact .str _
  | tup hs hr =>
    simp only [toPy, Option.map_eq_some_iff] at h
    obtain ⟨ps, h1, rfl⟩ := h
    exact .tup (same_sqt e hs) (dps_of e hr h1)
  | lst hs hr =>
    simp only [toPy, Option.map_eq_some_iff] at h
    obtain ⟨ps, h1, rfl⟩ := h
    exact .lst (SqL.of hs) (dps_of e hr h1)
  | wls _ _ => simp [toPy] at h
  | dct _ _ => simp [toPy] at h
def eqS : D → D → Option Bool
  | .non, .non => some true
  | .int i, .int j => some (i == j)
  | .str x, .str y => some (x == y)
  | .bl a, .bl b => some (a == b)
  | .non, .int _ => some false
  | .non, .str _ => some false
  | .int _, .non => some false
  | .str _, .non => some false
  | .int _, .str _ => some false
  | .str _, .int _ => some false
  | x, y => (toPy x).bind fun p => (toPy y).bind fun q => if SeqAt.shaped p = true ∧ SeqAt.shaped q = true then some (PyData.eqv p q) else none
def eqD (neg : Bool) (x y : D) : Option D := (eqS x y).map fun b => .bl (if neg then !b else b)
theorem eqD_ways {K : PySem.W.Frag} {F H : Hp} {A : List Addr} {st : Sto} {x y : D} {v u : V} {b : Bool} (S : SS K F H A st) (rx : RepP K F H x v) (ry : RepP K F H y u) (h : eqS x y = some b) :
    (scal v u = true ∧ decide (v = u) = b) ∨ ∃ d e, Dp K H v d ∧ Dp K H u e ∧ SeqAt.shaped d = true ∧ SeqAt.shaped e = true ∧ PyData.eqv d e = b := by
  have deep : ((toPy x).bind fun p => (toPy y).bind fun q => if SeqAt.shaped p = true ∧ SeqAt.shaped q = true then some (PyData.eqv p q) else none) = some b → ∃ d e, Dp K H v d ∧ Dp K H u e ∧ SeqAt.shaped d = true ∧ SeqAt.shaped e = true ∧ PyData.eqv d e = b := fun h => by
    obtain ⟨p, h1, h⟩ := bind_some h
    obtain ⟨q, h2, h⟩ := bind_some h
    split at h
    · rename_i hs
      cases h
      exact ⟨p, q, dpp_of S.ex rx h1, dpp_of S.ex ry h2, hs.1, hs.2, rfl⟩
    · cases h
  cases rx <;> cases ry <;> simp only [eqS] at h <;> first
    | (cases h; exact .inl ⟨rfl, by first | rfl | exact dec_int | exact dec_str | exact dec_bl⟩)
    | exact .inr (deep h)
theorem op_eqDD (hu : X.A.units + 64 < cLine) : OpR X (compareOp .Eq) (rDD X.K (eqD false)) := opr_by fun v u H Q ⟨F, A, st, x, y, z, S, rx, ry, hz, k⟩ => by
  unfold eqD at hz
  cases hb : eqS x y with
  | none => rw [hb] at hz; cases hz
  | some b =>
    rw [hb] at hz
    cases hz
    have kk : Q (.bl b) H := k _ F H .refl S .bl
    rcases eqD_ways S rx ry hb with ⟨h1, h2⟩ | ⟨d, e, h1, h2, h3, h4, h5⟩
    · exact ⟨_, op_eq, h1, by rw [h2]; exact kk⟩
    · exact ⟨_, op_eqD hu, d, e, h1, h2, h3, h4, by rw [h5]; exact kk⟩
theorem op_neDD (hu : X.A.units + 64 < cLine) : OpR X (compareOp .NotEq) (rDD X.K (eqD true)) := opr_by fun v u H Q ⟨F, A, st, x, y, z, S, rx, ry, hz, k⟩ => by
  unfold eqD at hz
  cases hb : eqS x y with
  | none => rw [hb] at hz; cases hz
  | some b =>
    rw [hb] at hz
    cases hz
    have kk : Q (.bl (!b)) H := k _ F H .refl S .bl
    rcases eqD_ways S rx ry hb with ⟨h1, h2⟩ | ⟨d, e, h1, h2, h3, h4, h5⟩
    · exact ⟨_, op_ne, h1, by rw [h2]; exact kk⟩
    · exact ⟨_, op_neD hu, d, e, h1, h2, h3, h4, by rw [h5]; exact kk⟩
end
end DL
/-! DC: index, slices, in, tests, displays, calls. -/
namespace DL
open PySem PySem.Spec PyProof.Rows L2

section
variable {X : Cx} {pos : Pos}
/-! ### index -/
theorem ixN_lt {n : Nat} {i : Int} {j : Nat} (h : ixN n i = some j) : j < n := by
  unfold ixN at h
  split at h
  · split at h
    · cases h; omega
    · cases h
  · split at h
    · cases h; omega
    · cases h
theorem Reps.at {K : PySem.W.Frag} {F : Hp} {xs : List D} {vs : List V} {i : Int} {x : D} (r : Reps K F xs vs) (h : atI xs i = some x) : ∃ v, atI vs i = some v ∧ Rep K F x v := by
  unfold atI at h ⊢
  rw [← r.len]
  cases e : ixN xs.length i with
  | none => rw [e] at h; cases h
  | some j =>
    rw [e] at h
    exact r.get h
def keyD : D → Option Key
  | .int i => some (.inl i)
  | .str x => some (.inr x)
  | _ => none
def lookD (kvs : List (Key × D)) (k : Key) : Option D := (kvs.find? fun kv => decide (kv.1 = k)).map (·.2)
def ixD : D → D → Option D
  | .tup xs, .int i => atI xs i
  | .lst xs, .int i => atI xs i
  | .wls xs, .int i => atI xs i
  | .str x, .int i => if x.length ≤ 1000000 then (atI x.cps.toList i).map fun c => .str ⟨#[c]⟩ else none
  | _, _ => none
theorem ixr_by {r' : R2} (q : ∀ (x y : V) (H : Hp) (Q : VK), r' x y H Q → ∃ r : R2, IxR X r ∧ r x y H Q) : IxR X r' := fun value slice pins s σ H x y v u Q I rx ry z hs => by
  obtain ⟨r, h, w⟩ := q x y H Q z
  exact h value slice pins s σ H x y v u Q I rx ry w hs
theorem ix_D : IxR X (rDD X.K ixD) := ixr_by fun v u H Q ⟨F, A, st, x, y, z, S, rx, ry, hz, k⟩ => by
  cases rx <;> cases ry <;> simp only [ixD, reduceCtorEq] at hz
  · split at hz
    · rename_i hl
      simp only [Option.map_eq_some_iff] at hz
      obtain ⟨c, hc, rfl⟩ := hz
      exact ⟨_, ix_str, _, _, c, rfl, rfl, lim6 hl, hc, k _ F H .refl S .str⟩
    · cases hz
  · rename_i hs hr _ _
    obtain ⟨w, h1, h2⟩ := hr.at hz
    exact ⟨_, ix_tup, _, _, _, w, rfl, rfl, same_sqt S.ex hs, h1, k _ F H .refl S h2⟩
  · rename_i hs hr _ _
    obtain ⟨w, h1, h2⟩ := hr.at hz
    exact ⟨_, ix_list, _, _, _, w, rfl, rfl, SqL.of hs, h1, k _ F H .refl S h2⟩
  · rename_i hs hr _ _
    obtain ⟨w, h1, h2⟩ := hr.at hz
    exact ⟨_, ix_list, _, _, _, w, rfl, rfl, S.ex.seq hs, h1, k _ F H .refl S h2⟩

/-! ### in, not in: flat things -/
def flatD : D → Bool
  | .non => true
  | .bl _ => true
  | .int _ => true
  | .str _ => true
  | _ => false
def toV : D → V
  | .bl b => .bl b
  | .int i => .int i
  | .str x => .str x
  | _ => .non
theorem flat_rep {K : PySem.W.Frag} {F : Hp} {x : D} {v : V} (r : Rep K F x v) (h : flatD x = true) : v = toV x ∧ flatV v = true := by
  cases r <;> first | exact ⟨rfl, rfl⟩ | cases h
theorem flat_repp {K : PySem.W.Frag} {F H : Hp} {x : D} {v : V} (r : RepP K F H x v) (h : flatD x = true) : v = toV x ∧ flatV v = true := by
  cases r <;> first | exact ⟨rfl, rfl⟩ | cases h
theorem flat_reps {K : PySem.W.Frag} {F : Hp} : ∀ {xs : List D} {vs : List V}, Reps K F xs vs → xs.all flatD = true → vs = xs.map toV ∧ vs.all flatV = true
  | _, _, .nil, _ => ⟨rfl, rfl⟩
  | _, _, .cons h r, e => by
    rw [List.all_cons, Bool.and_eq_true] at e
    obtain ⟨h1, h2⟩ := flat_rep h e.1
    obtain ⟨h3, h4⟩ := flat_reps r e.2
    refine ⟨by rw [h1, h3, List.map_cons], by rw [List.all_cons, h2, h4]; rfl⟩
def inD (neg : Bool) : D → D → Option D
  | x, .tup ys => if flatD x = true ∧ ys.all flatD = true then some (.bl (if neg then !inV (toV x) (ys.map toV) else inV (toV x) (ys.map toV))) else none
  | x, .lst ys => if flatD x = true ∧ ys.all flatD = true then some (.bl (if neg then !inV (toV x) (ys.map toV) else inV (toV x) (ys.map toV))) else none
  | _, _ => none
theorem in_ways {K : PySem.W.Frag} {neg : Bool} {v u : V} {H : Hp} {Q : VK} (h : rDD K (inD neg) v u H Q) : rIn K neg v u H Q := by
  obtain ⟨F, A, st, x, y, z, S, rx, ry, hz, k⟩ := h
  cases ry <;> simp only [inD, reduceCtorEq] at hz
  · rename_i hs hr
    split at hz
    · rename_i hf
      cases hz
      obtain ⟨e1, f1⟩ := flat_repp rx hf.1
      obtain ⟨e2, f2⟩ := flat_reps hr hf.2
      exact ⟨_, _, rfl, .inr (same_sqt S.ex hs), f1, f2, by rw [e1, e2]; exact k _ F H .refl S .bl⟩
    · cases hz
  · rename_i hs hr
    split at hz
    · rename_i hf
      cases hz
      obtain ⟨e1, f1⟩ := flat_repp rx hf.1
      obtain ⟨e2, f2⟩ := flat_reps hr hf.2
      exact ⟨_, _, rfl, .inl (SqL.of hs), f1, f2, by rw [e1, e2]; exact k _ F H .refl S .bl⟩
    · cases hz
theorem op_inD : OpR X (compareOp .In) (rDD X.K (inD false)) := opr_imp op_in_seq fun _ _ _ _ h => in_ways h
theorem op_ninD : OpR X (compareOp .NotIn) (rDD X.K (inD true)) := opr_imp op_notIn_seq fun _ _ _ _ h => in_ways h

/-! ### slices -/
def GO := Env → Sto → Option (Option Int × Sto)
def tDO (K : PySem.W.Frag) (G : GO) : TO := fun σ H Q => ∃ F A ρ st o st', SS K F H A st ∧ SL K F A σ ρ ∧ G ρ st = some (o, st') ∧ ∀ F' H', Grow A F H F' H' → SS K F' H' A st' → Q o H'
theorem po_imp {e : Option Expr} {t u : TO} (h : PO X e t) (q : ∀ σ H Q, u σ H Q → t σ H Q) : PO X e u := ⟨fun pins s σ H Q I z => h.run pins s σ H Q I (q σ H Q z)⟩
def oN : GO := fun _ st => some (none, st)
def oI (a : GE) : GO := fun ρ st => (a ρ st).bind fun p => match p.1 with
  | .d (.int i) => some (some i, p.2)
  | _ => none
theorem do_n : PO X none (tDO X.K oN) := po_imp po_none fun σ H Q ⟨F, A, ρ, st, o, st', S, L, g, k⟩ => by
  cases g
  exact k F H .refl S
theorem do_i {e : Expr} {G : GE} (h : PE X e (tD X.K G)) : PO X (some e) (tDO X.K (oI G)) := po_imp (po_some h) fun σ H Q ⟨F, A, ρ, st, o, st', S, L, g, k⟩ => by
  obtain ⟨⟨c, st1⟩, h1, g⟩ := bind_some g
  dsimp only at g
  split at g
  · rename_i i
    cases g
    refine ⟨F, A, ρ, st, _, _, S, L, h1, fun v F1 H1 g1 S1 r1 => ?_⟩
    cases r1
    exact ⟨i, rfl, k F1 H1 g1 S1⟩
  · cases g
def cutD (xs : List D) (lo hi : Option Int) : List D := (xs.drop (HT.sIx xs.length 0 lo)).take (HT.sIx xs.length xs.length hi - HT.sIx xs.length 0 lo)
theorem Reps.cut {K : PySem.W.Frag} {F : Hp} {xs : List D} {vs : List V} {lo hi : Option Int} (r : Reps K F xs vs) : Reps K F (cutD xs lo hi) (cutV vs lo hi) := by
  unfold cutD cutV
  rw [← r.len]
  exact (r.drop _).take _
/-- a slice of a list: a new list -/
def eSl (a : GE) (lo hi : GO) : GE := fun ρ st => (a ρ st).bind fun p => (lo ρ p.2).bind fun l => (hi ρ l.2).bind fun h => (deref h.2 p.1).bind fun x => match x with
  | .lst xs => some (.d (.lst (cutD xs l.1 h.1)), h.2)
  | _ => none
theorem de_sl {e : Expr} {lo hi : Option Expr} {p2 : Pos} {G : GE} {Gl Gh : GO} (he : PE X e (tD X.K G)) (hl : PO X lo (tDO X.K Gl)) (hh : PO X hi (tDO X.K Gh)) : PE X (.Subscript e (.Slice lo hi none p2) pos) (tD X.K (eSl G Gl Gh)) :=
  pe_imp (pe_slice sl_list he hl hh) fun σ H Q ⟨F, A, ρ, st, c, st', S, L, g, k⟩ => by
    obtain ⟨⟨c1, st1⟩, h1, g⟩ := bind_some g
    obtain ⟨⟨l, st2⟩, h2, g⟩ := bind_some g
    obtain ⟨⟨h, st3⟩, h3, g⟩ := bind_some g
    obtain ⟨x, h4, g⟩ := bind_some g
    cases x with
    | lst xs =>
      cases g
      refine ⟨F, A, ρ, st, c1, st1, S, L, h1, fun v F1 H1 g1 S1 r1 => ⟨F1, A, ρ, st1, l, st2, S1, L.mono g1.ex, h2, fun F2 H2 g2 S2 => ⟨F2, A, ρ, st2, h, st3, S2, (L.mono g1.ex).mono g2.ex, h3, fun F3 H3 g3 S3 => ?_⟩⟩⟩
      have rp := S3.deref ((r1.mono g2.ex).mono g3.ex) h4
      cases rp with
      | lst hs hr =>
        refine ⟨_, _, rfl, SqL.of hs, fun p hp => ?_⟩
        exact k _ _ _ (((g1.trans g2).trans g3).trans (.new1 (S3.ex.free hp) hp)) (S3.new hp) (.lst upd_same (hr.cut.mono (Grow.new1 (A := A) (S3.ex.free hp) hp).ex))
    | _ => cases g

/-! ### tests -/
def tB (a : GE) : GT := fun ρ st => (a ρ st).bind fun p => match p.1 with
  | .d (.bl b) => some (b, p.2)
  | _ => none
theorem dt_val {e : Expr} {G : GE} (h : PE X e (tD X.K G)) (hp : ∀ {t : TE}, PE X e t → PT X e (L2.tB t)) : PT X e (tDT X.K (tB G)) := pt_imp (hp h) fun σ H Q ⟨F, A, ρ, st, b, st', S, L, g, k⟩ => by
  obtain ⟨⟨c, st1⟩, h1, g⟩ := bind_some g
  dsimp only at g
  split at g
  · rename_i c' b'
    cases g
    refine ⟨F, A, ρ, st, _, _, S, L, h1, fun v F1 H1 g1 S1 r1 => ?_⟩
    cases r1
    exact ⟨_, rfl, k F1 H1 g1 S1⟩
  · cases g
/-- truth of what is no bool: None, an int, a text, a list, a tuple -/
def truD : D → Option Bool
  | .non => some false
  | .bl b => some b
  | .int i => some (i != 0)
  | .str x => if x.length ≤ 1000000 then some ((x.length : Int) != 0) else none
  | .lst ds => some !ds.isEmpty
  | .tup ds => some !ds.isEmpty
  | .wls ds => some !ds.isEmpty
  | .dct _ => none
theorem Reps.empty {K : PySem.W.Frag} {F : Hp} {xs : List D} {vs : List V} (r : Reps K F xs vs) : vs.isEmpty = xs.isEmpty := by cases r <;> rfl
theorem truD_V {K : PySem.W.Frag} {F H : Hp} {x : D} {v : V} {b : Bool} (ex : Same F H) (r : RepP K F H x v) (h : truD x = some b) : TruV K v H b := by
  have e := ex
  cases r <;> simp only [truD, reduceCtorEq] at h
  · cases h; rfl
  · cases h; rfl
  · cases h; rfl
  · split at h
    · rename_i hl; cases h; exact ⟨lim6 hl, rfl⟩
    · cases h
  · rename_i hs hr; cases h; exact .inr (.inl ⟨_, same_sqt e hs, by rw [hr.empty]⟩)
  · rename_i hs hr; cases h; exact .inl ⟨_, SqL.of hs, by rw [hr.empty]⟩
  · rename_i hs hr; cases h; exact .inl ⟨_, e.seq hs, by rw [hr.empty]⟩
def tTr (a : GE) : GT := fun ρ st => (a ρ st).bind fun p => (deref p.2 p.1).bind fun x => (truD x).bind fun b => some (b, p.2)
theorem dt_tr {e : Expr} {G : GE} (h : PE X e (tD X.K G)) (hw : ∀ whole, isTrue e X.env whole = (do let v ← whole; standAt e.pos; holding [v] (truthy v)) := by intro _; rfl) : PT X e (tDT X.K (tTr G)) := pt_imp (pt_truth h hw) fun σ H Q ⟨F, A, ρ, st, b, st', S, L, g, k⟩ => by
  obtain ⟨⟨c, st1⟩, h1, g⟩ := bind_some g
  obtain ⟨x, h2, g⟩ := bind_some g
  obtain ⟨b', h3, g⟩ := bind_some g
  cases g
  exact ⟨F, A, ρ, st, _, st1, S, L, h1, fun v F1 H1 g1 S1 r1 => ⟨_, truD_V S1.ex (S1.deref r1 h2) h3, k F1 H1 g1 S1⟩⟩
def gAnd (a b : GT) : GT := fun ρ st => (a ρ st).bind fun p => if p.1 = true then b ρ p.2 else some (false, p.2)
def gOr (a b : GT) : GT := fun ρ st => (a ρ st).bind fun p => if p.1 = true then some (true, p.2) else b ρ p.2
def gNot (a : GT) : GT := fun ρ st => (a ρ st).bind fun p => some (!p.1, p.2)
theorem and_imp {K : PySem.W.Frag} {a b : GT} : ∀ σ H Q, tDT K (gAnd a b) σ H Q → tAnd (tDT K a) (tDT K b) σ H Q := fun σ H Q ⟨F, A, ρ, st, o, st', S, L, g, k⟩ => by
  obtain ⟨⟨p, st1⟩, h1, g⟩ := bind_some g
  refine ⟨F, A, ρ, st, p, st1, S, L, h1, fun F1 H1 g1 S1 => ?_⟩
  dsimp only at g
  cases p with
  | true =>
    rw [if_pos rfl] at g
    refine iteT ⟨F1, A, ρ, st1, o, st', S1, L.mono g1.ex, g, fun F2 H2 g2 S2 => k F2 H2 (g1.trans g2) S2⟩
  | false =>
    rw [if_neg Bool.false_ne_true] at g
    cases g
    exact iteF (k F1 H1 g1 S1)
theorem or_imp {K : PySem.W.Frag} {a b : GT} : ∀ σ H Q, tDT K (gOr a b) σ H Q → tOr (tDT K a) (tDT K b) σ H Q := fun σ H Q ⟨F, A, ρ, st, o, st', S, L, g, k⟩ => by
  obtain ⟨⟨p, st1⟩, h1, g⟩ := bind_some g
  refine ⟨F, A, ρ, st, p, st1, S, L, h1, fun F1 H1 g1 S1 => ?_⟩
  dsimp only at g
  cases p with
  | true =>
    rw [if_pos rfl] at g
    cases g
    exact iteT (k F1 H1 g1 S1)
  | false =>
    rw [if_neg Bool.false_ne_true] at g
    refine iteF ⟨F1, A, ρ, st1, o, st', S1, L.mono g1.ex, g, fun F2 H2 g2 S2 => k F2 H2 (g1.trans g2) S2⟩
theorem pw_imp {e : Expr} {t u : TT} (h : PW X e t) (q : ∀ σ H Q, u σ H Q → t σ H Q) : PW X e u := ⟨fun w pins s σ H Q I z => h.run w pins s σ H Q I (q σ H Q z)⟩
theorem dw_and {a b : Expr} {rest : List Expr} {ta tb : GT} (ha : PT X a (tDT X.K ta)) (hb : PW X (.BoolOp .And (b :: rest) pos) (tDT X.K tb)) : PW X (.BoolOp .And (a :: b :: rest) pos) (tDT X.K (gAnd ta tb)) := pw_imp (pw_and ha hb) and_imp
theorem dw_or {a b : Expr} {rest : List Expr} {ta tb : GT} (ha : PT X a (tDT X.K ta)) (hb : PW X (.BoolOp .Or (b :: rest) pos) (tDT X.K tb)) : PW X (.BoolOp .Or (a :: b :: rest) pos) (tDT X.K (gOr ta tb)) := pw_imp (pw_or ha hb) or_imp
theorem dt_not {a : Expr} {ta : GT} (ha : PT X a (tDT X.K ta)) : PT X (.UnaryOp .Not a pos) (tDT X.K (gNot ta)) := pt_imp (pt_not ha) fun σ H Q ⟨F, A, ρ, st, o, st', S, L, g, k⟩ => by
  obtain ⟨⟨p, st1⟩, h1, g⟩ := bind_some g
  cases g
  exact ⟨F, A, ρ, st, p, st1, S, L, h1, fun F1 H1 g1 S1 => k F1 H1 g1 S1⟩
/-- and, or of bools as a value; e1 if t else e2 -/
def eAnd (a b : GE) : GE := fun ρ st => (a ρ st).bind fun p => match p.1 with
  | .d (.bl true) => b ρ p.2
  | .d (.bl false) => some (.d (.bl false), p.2)
  | _ => none
def eOr (a b : GE) : GE := fun ρ st => (a ρ st).bind fun p => match p.1 with
  | .d (.bl false) => b ρ p.2
  | .d (.bl true) => some (.d (.bl true), p.2)
  | _ => none
def eNot (a : GE) : GE := fun ρ st => (a ρ st).bind fun p => match p.1 with
  | .d (.bl b) => some (.d (.bl (!b)), p.2)
  | _ => none
theorem de_and {a b : Expr} {rest : List Expr} {ga gb : GE} (ha : PE X a (tD X.K ga)) (hb : PE X (.BoolOp .And (b :: rest) pos) (tD X.K gb)) : PE X (.BoolOp .And (a :: b :: rest) pos) (tD X.K (eAnd ga gb)) := pe_imp (pe_and ha hb) fun σ H Q ⟨F, A, ρ, st, c, st', S, L, g, k⟩ => by
  obtain ⟨⟨c1, st1⟩, h1, g⟩ := bind_some g
  dsimp only at g
  refine ⟨F, A, ρ, st, c1, st1, S, L, h1, fun v F1 H1 g1 S1 r1 => ?_⟩
  split at g
  · cases r1
    exact ⟨true, rfl, iteT ⟨F1, A, ρ, st1, c, st', S1, L.mono g1.ex, g, fun w F2 H2 g2 S2 r2 => k w F2 H2 (g1.trans g2) S2 r2⟩⟩
  · cases r1
    cases g
    exact ⟨false, rfl, iteF (k _ F1 H1 g1 S1 .bl)⟩
  · cases g
theorem de_or {a b : Expr} {rest : List Expr} {ga gb : GE} (ha : PE X a (tD X.K ga)) (hb : PE X (.BoolOp .Or (b :: rest) pos) (tD X.K gb)) : PE X (.BoolOp .Or (a :: b :: rest) pos) (tD X.K (eOr ga gb)) := pe_imp (pe_or ha hb) fun σ H Q ⟨F, A, ρ, st, c, st', S, L, g, k⟩ => by
  obtain ⟨⟨c1, st1⟩, h1, g⟩ := bind_some g
  dsimp only at g
  refine ⟨F, A, ρ, st, c1, st1, S, L, h1, fun v F1 H1 g1 S1 r1 => ?_⟩
  split at g
  · cases r1
    exact ⟨false, rfl, iteF ⟨F1, A, ρ, st1, c, st', S1, L.mono g1.ex, g, fun w F2 H2 g2 S2 r2 => k w F2 H2 (g1.trans g2) S2 r2⟩⟩
  · cases r1
    cases g
    exact ⟨true, rfl, iteT (k _ F1 H1 g1 S1 .bl)⟩
  · cases g
theorem de_one {op : BoolOp} {a : Expr} {ga : GE} (ha : PE X a (tD X.K ga)) : PE X (.BoolOp op [a] pos) (tD X.K ga) := pe_one ha
theorem de_not {a : Expr} {ga : GE} (ha : PE X a (tD X.K ga)) : PE X (.UnaryOp .Not a pos) (tD X.K (eNot ga)) := pe_imp (pe_not ha) fun σ H Q ⟨F, A, ρ, st, c, st', S, L, g, k⟩ => by
  obtain ⟨⟨c1, st1⟩, h1, g⟩ := bind_some g
  dsimp only at g
  split at g
  · cases g
    refine ⟨F, A, ρ, st, _, _, S, L, h1, fun v F1 H1 g1 S1 r1 => ?_⟩
    cases r1
    exact ⟨_, rfl, k _ F1 H1 g1 S1 .bl⟩
  · cases g
def eIf (t : GT) (a b : GE) : GE := fun ρ st => (t ρ st).bind fun p => if p.1 = true then a ρ p.2 else b ρ p.2
theorem de_if {c a b : Expr} {t : GT} {ga gb : GE} (hc : PT X c (tDT X.K t)) (ha : PE X a (tD X.K ga)) (hb : PE X b (tD X.K gb)) : PE X (.IfExp c a b pos) (tD X.K (eIf t ga gb)) := pe_imp (pe_ifExp hc ha hb) fun σ H Q ⟨F, A, ρ, st, c, st', S, L, g, k⟩ => by
  obtain ⟨⟨b, st1⟩, h1, g⟩ := bind_some g
  dsimp only at g
  refine ⟨F, A, ρ, st, b, st1, S, L, h1, fun F1 H1 g1 S1 => ?_⟩
  cases b with
  | true =>
    rw [if_pos rfl] at g
    exact iteT ⟨F1, A, ρ, st1, c, st', S1, L.mono g1.ex, g, fun w F2 H2 g2 S2 r2 => k w F2 H2 (g1.trans g2) S2 r2⟩
  | false =>
    rw [if_neg Bool.false_ne_true] at g
    exact iteF ⟨F1, A, ρ, st1, c, st', S1, L.mono g1.ex, g, fun w F2 H2 g2 S2 r2 => k w F2 H2 (g1.trans g2) S2 r2⟩

/-! ### argument lists, displays -/
def aN : GA := fun _ st => some ([], st)
def aC (a : GE) (r : GA) : GA := fun ρ st => (a ρ st).bind fun p => (r ρ p.2).bind fun q => some (p.1 :: q.1, q.2)
theorem da_n : PA X [] (tDA X.K aN) := pa_imp pa_nil fun σ H Q ⟨F, A, ρ, st, c, st', S, L, g, k⟩ => by
  cases g
  exact k _ F H .refl S .nil
theorem da_c {e : Expr} {es : List Expr} {ga : GE} {gr : GA} (ha : PE X e (tD X.K ga)) (hr : PA X es (tDA X.K gr)) (hs : starEach (e :: es) X.env = (false, eval e X.env) :: starEach es X.env := by rfl) : PA X (e :: es) (tDA X.K (aC ga gr)) := pa_imp (pa_cons ha hr hs) fun σ H Q ⟨F, A, ρ, st, c, st', S, L, g, k⟩ => by
  obtain ⟨⟨c1, st1⟩, h1, g⟩ := bind_some g
  obtain ⟨⟨cs, st2⟩, h2, g⟩ := bind_some g
  cases g
  exact ⟨F, A, ρ, st, c1, st1, S, L, h1, fun v F1 H1 g1 S1 r1 => ⟨F1, A, ρ, st1, cs, st2, S1, L.mono g1.ex, h2, fun vs F2 H2 g2 S2 r2 => k _ F2 H2 (g1.trans g2) S2 (.cons (r1.mono g2.ex) r2)⟩⟩
/-- what is put into data does not change any more -/
def frzL (f : C → Sto → Option (D × Sto)) : List C → Sto → Option (List D × Sto)
  | [], st => some ([], st)
  | c :: cs, st => (f c st).bind fun p => (frzL f cs p.2).bind fun q => some (p.1 :: q.1, q.2)
def frz : Nat → C → Sto → Option (D × Sto)
  | _, .d x, st => some (x, st)
  | 0, .p _, _ => none
  | n + 1, .p k, st => match st[k]? with
    | some (.fro x) => some (x, st)
    | some (.lst cs) => (frzL (frz n) cs st).bind fun q => some (.lst q.1, q.2.set k (.fro (.lst q.1)))
    | some (.dct kvs) => (frzL (frz n) (kvs.map (·.2)) st).bind fun q => some (.dct ((kvs.map (·.1)).zip q.1), q.2.set k (.fro (.dct ((kvs.map (·.1)).zip q.1))))
    | none => none
structure Frz (K : PySem.W.Frag) (A : List Addr) (F F' H : Hp) (st' : Sto) : Prop where
  ex : Same F F'
  new : ∀ a, F' a ≠ none → F a ≠ none ∨ a ∈ A
  ss : SS K F' H A st'
theorem Frz.grow {K : PySem.W.Frag} {A : List Addr} {F F' H : Hp} {st' : Sto} (f : Frz K A F F' H st') : Grow A F H F' H := ⟨f.ex, fun a h => (f.new a h).elim .inl fun z => .inr (.inr z), fun _ _ h _ => h, fun _ h => h⟩
/-- one object, its content told -/
theorem frz_one {K : PySem.W.Frag} {A : List Addr} {F H : Hp} {st : Sto} {k : Nat} {a : Addr} {o : HO} {x : D} (S : SS K F H A st) (ha : A[k]? = some a) (ho : H a = some o) (hx : ∀ F', Same F F' → F' a = some o → Rep K F' x (.ref a)) :
    Frz K A F (upd F a o) H (st.set k (.fro x)) := by
  have e1 : Same F (upd F a o) := fun b u h => by
    by_cases e : b = a
    · subst e; rw [upd_same]; rw [S.ex _ _ h] at ho; exact ho.symm
    · rw [upd_ne e]; exact h
  refine ⟨e1, fun b hb => ?_, ⟨fun b u h => ?_, by rw [List.length_set]; exact S.len, S.nd, fun j b u hj hu hf => ?_, fun j b u hj hu => ?_⟩⟩
  · by_cases e : b = a
    · subst e; exact .inr (List.mem_of_getElem? ha)
    · rw [upd_ne e] at hb; exact .inl hb
  · by_cases e : b = a
    · subst e; rw [upd_same] at h; cases h; exact ho
    · rw [upd_ne e] at h; exact S.ex b u h
  · by_cases e : j = k
    · subst e
      rw [List.getElem?_set_self (by rw [← S.len]; exact (List.getElem?_eq_some_iff.mp hj).1)] at hu
      cases hu
      cases hf
    · rw [List.getElem?_set_ne (Ne.symm e)] at hu
      have : b ≠ a := fun z => e ((List.getElem?_inj (List.getElem?_eq_some_iff.mp hj).1 S.nd).mp (by rw [hj, ha, z]))
      rw [upd_ne this]
      exact S.fr j b u hj hu hf
  · by_cases e : j = k
    · subst e
      rw [List.getElem?_set_self (by rw [← S.len]; exact (List.getElem?_eq_some_iff.mp hj).1)] at hu
      cases hu
      have : b = a := Option.some.inj (hj.symm.trans ha)
      subst this
      exact ⟨by rw [upd_same]; exact fun z => (nomatch z), hx _ e1 upd_same⟩
    · rw [List.getElem?_set_ne (Ne.symm e)] at hu
      exact (S.obj j b u hj hu).mono e1 fun _ z => z
theorem Frz.trans {K : PySem.W.Frag} {A : List Addr} {F F1 F2 H : Hp} {st1 st2 : Sto} (f : Frz K A F F1 H st1) (g : Frz K A F1 F2 H st2) : Frz K A F F2 H st2 := ⟨f.ex.trans g.ex, fun a h => (g.new a h).elim (fun z => f.new a z) .inr, g.ss⟩
theorem Frz.refl {K : PySem.W.Frag} {A : List Addr} {F H : Hp} {st : Sto} (S : SS K F H A st) : Frz K A F F H st := ⟨Same.refl F, fun _ h => .inl h, S⟩
theorem frzL_ok {K : PySem.W.Frag} {A : List Addr} {H : Hp} {f : C → Sto → Option (D × Sto)} (hf : ∀ (F : Hp) (st : Sto) (c : C) (v : V) (x : D) (st' : Sto), SS K F H A st → RepC K F A c v → f c st = some (x, st') → ∃ F', Frz K A F F' H st' ∧ Rep K F' x v) :
    ∀ (cs : List C) (F : Hp) (st : Sto) (vs : List V) (xs : List D) (st' : Sto), SS K F H A st → RepCs K F A cs vs → frzL f cs st = some (xs, st') → ∃ F', Frz K A F F' H st' ∧ Reps K F' xs vs
  | [], F, st, _, _, _, S, .nil, h => by cases h; exact ⟨F, .refl S, .nil⟩
  | c :: cs, F, st, _, _, _, S, .cons r rs, h => by
    obtain ⟨⟨x, st1⟩, h1, h⟩ := bind_some h
    obtain ⟨⟨xs, st2⟩, h2, h⟩ := bind_some h
    cases h
    obtain ⟨F1, f1, r1⟩ := hf F st c _ x st1 S r h1
    obtain ⟨F2, f2, r2⟩ := frzL_ok hf cs F1 st1 _ xs st2 f1.ss (rs.mono f1.ex) h2
    exact ⟨F2, f1.trans f2, .cons (r1.mono f2.ex) r2⟩
theorem frz_ok {K : PySem.W.Frag} {A : List Addr} {H : Hp} : ∀ (n : Nat) (F : Hp) (st : Sto) (c : C) (v : V) (x : D) (st' : Sto), SS K F H A st → RepC K F A c v → frz n c st = some (x, st') → ∃ F', Frz K A F F' H st' ∧ Rep K F' x v
  | _, F, st, .d y, v, x, st', S, r, h => by
    have h : some (y, st) = some (x, st') := by
      unfold frz at h
      exact h
    cases h
    exact ⟨F, .refl S, r⟩
  | 0, F, st, .p k, v, x, st', S, r, h => by cases h
  | n + 1, F, st, .p k, v, x, st', S, ⟨a, ha, e⟩, h => by
    subst e
    unfold frz at h
    split at h
    · rename_i y e1
      cases h
      exact ⟨F, .refl S, (S.obj k a _ ha e1).2⟩
    · rename_i cs e1
      obtain ⟨⟨ds, st1⟩, h1, h⟩ := bind_some h
      cases h
      obtain ⟨vs, h2, h3⟩ := S.obj k a _ ha e1
      obtain ⟨F1, f1, r1⟩ := frzL_ok (fun F st c v x st' => frz_ok n F st c v x st') cs F st vs ds st1 S h3 h1
      have g := frz_one (x := .lst ds) f1.ss ha h2 fun F' e he => .lst he (r1.mono e)
      exact ⟨_, f1.trans g, .lst upd_same (r1.mono g.ex)⟩
    · rename_i kvs e1
      obtain ⟨⟨ds, st1⟩, h1, h⟩ := bind_some h
      cases h
      obtain ⟨vs, h2, h3⟩ := S.obj k a _ ha e1
      obtain ⟨F1, f1, r1⟩ := frzL_ok (fun F st c v x st' => frz_ok n F st c v x st') _ F st vs ds st1 S h3 h1
      have hl : (kvs.map (·.1)).length = ds.length := by rw [r1.len, ← h3.len, List.length_map, List.length_map]
      have g := frz_one (x := .dct ((kvs.map (·.1)).zip ds)) f1.ss ha h2 fun F' e he => .dct (by rw [zip_fst hl]; exact he) (by rw [zip_snd hl]; exact r1.mono e)
      exact ⟨_, f1.trans g, .dct (by rw [zip_fst hl, upd_same]) (by rw [zip_snd hl]; exact r1.mono g.ex)⟩
    · cases h
theorem frzs_ok {K : PySem.W.Frag} {A : List Addr} {H : Hp} (n : Nat) : ∀ (cs : List C) (F : Hp) (st : Sto) (vs : List V) (xs : List D) (st' : Sto), SS K F H A st → RepCs K F A cs vs → frzL (frz n) cs st = some (xs, st') → ∃ F', Frz K A F F' H st' ∧ Reps K F' xs vs :=
  frzL_ok fun F st c v x st' => frz_ok n F st c v x st'
def eTup (a : GA) : GE := fun ρ st => (a ρ st).bind fun p => (frzL (frz 4) p.1 p.2).bind fun q => if q.1.length ≤ 1000000 then some (.d (.tup q.1), q.2) else none
def eLst (a : GA) : GE := fun ρ st => (a ρ st).bind fun p => (frzL (frz 4) p.1 p.2).bind fun q => if q.1.length ≤ 1000000 then some (.d (.lst q.1), q.2) else none
theorem de_tup {es : List Expr} {x1} {ga : GA} (h : PA X es (tDA X.K ga)) : PE X (.Tuple es x1 pos) (tD X.K (eTup ga)) := pe_imp (pe_tup h) fun σ H Q ⟨F, A, ρ, st, c, st', S, L, g, k⟩ => by
  obtain ⟨⟨cs, st1⟩, h1, g⟩ := bind_some g
  obtain ⟨⟨ds, st2⟩, h2, g⟩ := bind_some g
  split at g
  · rename_i hl
    cases g
    refine ⟨F, A, ρ, st, cs, st1, S, L, h1, fun vs F1 H1 g1 S1 r1 => ?_⟩
    obtain ⟨F2, f2, rr⟩ := frzs_ok 4 cs F1 st1 vs ds _ S1 r1 h2
    refine ⟨by rw [← rr.len]; exact lim6 hl, fun p hp => ?_⟩
    have g2 := Grow.new1 (A := A) (o := .tup vs) (f2.ss.ex.free hp) hp
    exact k _ _ _ ((g1.trans f2.grow).trans g2) (f2.ss.new hp) (.tup (SqT.of upd_same) (rr.mono g2.ex))
  · cases g
theorem de_lst {es : List Expr} {ga : GA} (h : PA X es (tDA X.K ga)) : PE X (.List es pos) (tD X.K (eLst ga)) := pe_imp (pe_lst h) fun σ H Q ⟨F, A, ρ, st, c, st', S, L, g, k⟩ => by
  obtain ⟨⟨cs, st1⟩, h1, g⟩ := bind_some g
  obtain ⟨⟨ds, st2⟩, h2, g⟩ := bind_some g
  split at g
  · rename_i hl
    cases g
    refine ⟨F, A, ρ, st, cs, st1, S, L, h1, fun vs F1 H1 g1 S1 r1 => ?_⟩
    obtain ⟨F2, f2, rr⟩ := frzs_ok 4 cs F1 st1 vs ds _ S1 r1 h2
    refine ⟨by rw [← rr.len]; exact lim6 hl, fun p hp => ?_⟩
    have g2 := Grow.new1 (A := A) (o := .lst vs) (f2.ss.ex.free hp) hp
    exact k _ _ _ ((g1.trans f2.grow).trans g2) (f2.ss.new hp) (.lst upd_same (rr.mono g2.ex))
  · cases g

/-! ### built-ins by values -/
/-- of dereferenced arguments a new or old datum -/
def rCD (K : PySem.W.Frag) (g : List D → Option D) : List V → Hp → VK → Prop := fun vs H Q => ∃ F A st xs z, SS K F H A st ∧ Paired (RepP K F H) xs vs ∧ g xs = some z ∧ ∀ w F' H', Grow A F H F' H' → SS K F' H' A st → Rep K F' z w → Q w H'
def derefs (st : Sto) : List C → Option (List D)
  | [] => some []
  | c :: cs => (deref st c).bind fun x => (derefs st cs).map (x :: ·)
theorem derefs_reps {K : PySem.W.Frag} {F H : Hp} {A : List Addr} {st : Sto} (S : SS K F H A st) : ∀ {cs : List C} {vs : List V} {ds : List D}, RepCs K F A cs vs → derefs st cs = some ds → Paired (RepP K F H) ds vs
  | _, _, _, .nil, h => by cases h; exact .nil
  | _, _, _, .cons hr r, h => by
    obtain ⟨x, h1, h⟩ := bind_some h
    simp only [Option.map_eq_some_iff] at h
    obtain ⟨ds, h2, rfl⟩ := h
    exact .cons (S.deref hr h1) (derefs_reps S r h2)
def eCB (g : List D → Option D) (a : GA) : GE := fun ρ st => (a ρ st).bind fun p => (derefs p.2 p.1).bind fun xs => (g xs).bind fun z => some (.d z, p.2)
theorem cb_imp {K : PySem.W.Frag} {g : List D → Option D} {ga : GA} : ∀ σ H Q, tD K (eCB g ga) σ H Q → tCB (rCD K g) (tDA K ga) σ H Q := fun σ H Q ⟨F, A, ρ, st, c, st', S, L, h, k⟩ => by
  obtain ⟨⟨cs, st1⟩, h1, h⟩ := bind_some h
  obtain ⟨xs, h2, h⟩ := bind_some h
  obtain ⟨z, h3, h⟩ := bind_some h
  cases h
  exact ⟨F, A, ρ, st, cs, st1, S, L, h1, fun vs F1 H1 g1 S1 r1 => ⟨F1, A, st1, xs, z, S1, derefs_reps S1 r1 h2, h3, fun w F2 H2 g2 S2 r2 => k w F2 H2 (g1.trans g2) S2 r2⟩⟩
theorem de_b {x : Str} {p : Pos} {e : Expr} {es : List Expr} {id : String} {g : List D → Option D} {ga : GA} (hc : CallR X (.builtin id) (rCD X.K g)) (hg : Gl X x) (hm : X.mg x = none) (hv : bootBuiltins x = some (.builtin id)) (ha : PA X (e :: es) (tDA X.K ga)) (hn : x ≠ "__name__" := by decide) (hdb : (x == ("__debug__" : Str)) = false := by decide)
    (he : starEach (e :: es) X.env = (false, eval e X.env) :: starEach es X.env := by rfl) (hpl : (backTo pos (starEach es X.env)).any (·.1) = false := by rfl) : PE X (.Call (.Name x p) (e :: es) [] pos) (tD X.K (eCB g ga)) :=
  pe_imp (pe_callB hc hg hm hv ha hn hdb he hpl) cb_imp
theorem de_ty {x : Str} {p : Pos} {e : Expr} {es : List Expr} {T : String} {g : List D → Option D} {ga : GA} (hc : CallR X (.type T) (rCD X.K g)) (hg : Gl X x) (hm : X.mg x = none) (hv : bootBuiltins x = some (.type T)) (ha : PA X (e :: es) (tDA X.K ga)) (hn : x ≠ "__name__" := by decide) (hdb : (x == ("__debug__" : Str)) = false := by decide)
    (he : starEach (e :: es) X.env = (false, eval e X.env) :: starEach es X.env := by rfl) (hpl : (backTo pos (starEach es X.env)).any (·.1) = false := by rfl) : PE X (.Call (.Name x p) (e :: es) [] pos) (tD X.K (eCB g ga)) :=
  pe_imp (pe_callTy hc hg hm hv ha hn hdb he hpl) cb_imp
theorem callr_by {f : Value} {r' : List V → Hp → VK → Prop} (q : ∀ xs H Q, r' xs H Q → ∃ r, CallR X f r ∧ r xs H Q) : CallR X f r' := fun pins s σ H xs us Q I rx z => by
  obtain ⟨r, h, w⟩ := q xs H Q z
  exact h pins s σ H xs us Q I rx w
def lenD : List D → Option D
  | [.tup xs] => some (.int xs.length)
  | [.lst xs] => some (.int xs.length)
  | [.wls xs] => some (.int xs.length)
  | [.str x] => if x.length ≤ 1000000 then some (.int x.length) else none
  | _ => none
theorem call_lenD : CallR X (.builtin "len") (rCD X.K lenD) := callr_by fun vs H Q ⟨F, A, st, xs, z, S, rs, hz, k⟩ => by
  cases rs with
  | nil => cases hz
  | cons r rs =>
    cases rs with
    | cons _ _ => cases r <;> cases hz
    | nil =>
      cases r <;> simp only [lenD, reduceCtorEq] at hz
      · split at hz
        · rename_i hl; cases hz
          exact ⟨_, call_len_str, _, rfl, lim6 hl, k _ F H .refl S .int⟩
        · cases hz
      · rename_i hs hr _; cases hz
        exact ⟨_, call_len_seq, _, _, rfl, .inr (same_sqt S.ex hs), by rw [← hr.len]; exact k _ F H .refl S .int⟩
      · rename_i hs hr _; cases hz
        exact ⟨_, call_len_seq, _, _, rfl, .inl (SqL.of hs), by rw [← hr.len]; exact k _ F H .refl S .int⟩
      · rename_i hs hr _; cases hz
        exact ⟨_, call_len_seq, _, _, rfl, .inl (S.ex.seq hs), by rw [← hr.len]; exact k _ F H .refl S .int⟩
def intD : List D → Option D
  | [.int i] => some (.int i)
  | [.bl b] => some (.int (if b then 1 else 0))
  | [.str x] => if x.length ≤ 640 then (PySem.intText? x).map .int else none
  | _ => none
theorem call_intD : CallR X (.type "int") (rCD X.K intD) := callr_by fun vs H Q ⟨F, A, st, xs, z, S, rs, hz, k⟩ => by
  cases rs with
  | nil => cases hz
  | cons r rs =>
    cases rs with
    | cons _ _ => cases r <;> cases hz
    | nil =>
      cases r <;> simp only [intD, reduceCtorEq] at hz
      · cases hz
        exact ⟨_, call_int1, .inr ⟨_, rfl, k _ F H .refl S .int⟩⟩
      · cases hz
        exact ⟨_, call_int1, .inl ⟨_, rfl, k _ F H .refl S .int⟩⟩
      · split at hz
        · rename_i hl
          simp only [Option.map_eq_some_iff] at hz
          obtain ⟨n, h1, rfl⟩ := hz
          exact ⟨_, call_int_str, _, n, rfl, h1, hl, k _ F H .refl S .int⟩
        · cases hz
def strD : List D → Option D
  | [.int i] => if i.natAbs.log2 < 1920 then some (.str (toString i)) else none
  | _ => none
theorem call_strD : CallR X (.type "str") (rCD X.K strD) := callr_by fun vs H Q ⟨F, A, st, xs, z, S, rs, hz, k⟩ => by
  cases rs with
  | nil => cases hz
  | cons r rs =>
    cases rs with
    | cons _ _ => cases r <;> cases hz
    | nil =>
      cases r <;> simp only [strD, reduceCtorEq] at hz
      split at hz
      · rename_i hl; cases hz
        exact ⟨_, call_str_int, _, rfl, hl, k _ F H .refl S .str⟩
      · cases hz
def tupleD : List D → Option D
  | [.tup xs] => some (.tup xs)
  | [.lst xs] => some (.tup xs)
  | _ => none
theorem call_tupleD : CallR X (.type "tuple") (rCD X.K tupleD) := callr_by fun vs H Q ⟨F, A, st, xs, z, S, rs, hz, k⟩ => by
  cases rs with
  | nil => cases hz
  | cons r rs =>
    cases rs with
    | cons _ _ => cases r <;> cases hz
    | nil =>
      cases r <;> simp only [tupleD, reduceCtorEq] at hz
      · rename_i hs hr _; cases hz
        exact ⟨_, call_tuple_of, _, _, rfl, .inr ⟨same_sqt S.ex hs, k _ F H .refl S (.tup hs hr)⟩⟩
      · rename_i a vs' hs hr _; cases hz
        refine ⟨_, call_tuple_of, a, vs', rfl, .inl ⟨SqL.of hs, fun l hl => ?_⟩⟩
        have g := Grow.new1 (A := A) (o := .tup vs') (S.ex.free hl) hl
        exact k _ _ _ g (S.new hl) (.tup (SqT.of upd_same) (hr.mono g.ex))
end
end DL
/-! DDx: statements, calls of defs, loops. -/
namespace DL
open PySem PySem.Spec PyProof.Rows L2

section
variable {X : Cx} {pos : Pos}
theorem SL.app {K : PySem.W.Frag} {F : Hp} {A B : List Addr} {σ : L2.St} {ρ : Env} (h : SL K F A σ ρ) : SL K F (A ++ B) σ ρ := ⟨h.len, fun i c q => by
  obtain ⟨v, h1, h2⟩ := h.get i c q
  exact ⟨v, h1, h2.at⟩⟩
theorem SL.grow {K : PySem.W.Frag} {F H F' H' : Hp} {A A' : List Addr} {σ : L2.St} {ρ : Env} (h : SL K F A σ ρ) (g : GrowS A F H A' F' H') : SL K F' A' σ ρ := by
  obtain ⟨B, rfl, _⟩ := g.app
  exact (h.mono g.g.ex).app

/-! ### blocks -/
def sNx : GS := fun ρ st => some (.nx ρ st)
def sSeq (a b : GS) : GS := fun ρ st => (a ρ st).bind fun r => match r with
  | .nx ρ' st' => b ρ' st'
  | r => some r
theorem Fin.mono {K : PySem.W.Frag} {F H F1 H1 : Hp} {A A1 : List Addr} {D : Ends} {r : Res} (g : GrowS A F H A1 F1 H1) (h : Fin K F H A D r) : Fin K F1 H1 A1 D r := by
  cases r with
  | nx ρ st => exact fun σ F' H' A' g' S L => h σ F' H' A' (g.trans g') S L
  | rt ρ st => exact fun σ F' H' A' g' S L => h σ F' H' A' (g.trans g') S L
  | bk ρ st => exact fun σ F' H' A' g' S L => h σ F' H' A' (g.trans g') S L
  | ct ρ st => exact fun σ F' H' A' g' S L => h σ F' H' A' (g.trans g') S L
theorem dss_n : PSs X [] (tDS X.K sNx) := pss_imp pss_nil fun Dn σ H ⟨F, A, ρ, st, r, S, L, g, k⟩ => by
  cases g
  exact k σ F H A .refl S L
theorem seq_imp {K : PySem.W.Frag} {a b : GS} : ∀ Dn σ H, tDS K (sSeq a b) Dn σ H → tSeq (tDS K a) (tDS K b) Dn σ H := fun Dn σ H ⟨F, A, ρ, st, r, S, L, g, k⟩ => by
  obtain ⟨r1, h1, g⟩ := bind_some g
  refine ⟨F, A, ρ, st, r1, S, L, h1, ?_⟩
  cases r1 with
  | nx ρ1 st1 => exact fun σ1 F1 H1 A1 g1 S1 L1 => ⟨F1, A1, ρ1, st1, r, S1, L1, g, k.mono g1⟩
  | rt c st1 => cases g; exact k
  | bk ρ1 st1 => cases g; exact k
  | ct ρ1 st1 => cases g; exact k
theorem dss_c {s : Stmt} {rest : List Stmt} {a b : GS} (h1 : PS X s (tDS X.K a)) (h2 : PSs X rest (tDS X.K b)) : PSs X (s :: rest) (tDS X.K (sSeq a b)) := pss_imp (pss_cons h1 h2) seq_imp
theorem dss_1 {s : Stmt} {a : GS} (h1 : PS X s (tDS X.K a)) : PSs X [s] (tDS X.K a) := pss_one h1
def sNo : GS := fun _ _ => none
theorem ds_no {s : Stmt} : PS X s (tDS X.K sNo) := ps_imp ps_never fun Dn σ H ⟨F, A, ρ, st, r, S, L, g, k⟩ => by cases g
theorem dss_no {s : List Stmt} : PSs X s (tDS X.K sNo) := pss_imp pss_never fun Dn σ H ⟨F, A, ρ, st, r, S, L, g, k⟩ => by cases g
theorem ds_pass : PS X (.Pass pos) (tDS X.K sNx) := ps_imp ps_pass fun Dn σ H ⟨F, A, ρ, st, r, S, L, g, k⟩ => by
  cases g
  exact k σ F H A .refl S L
def sBk : GS := fun ρ st => some (.bk ρ st)
def sCt : GS := fun ρ st => some (.ct ρ st)
theorem ds_break : PS X (.Break pos) (tDS X.K sBk) := ps_imp ps_break fun Dn σ H ⟨F, A, ρ, st, r, S, L, g, k⟩ => by
  cases g
  exact k σ F H A .refl S L
theorem ds_cont : PS X (.Continue pos) (tDS X.K sCt) := ps_imp ps_continue fun Dn σ H ⟨F, A, ρ, st, r, S, L, g, k⟩ => by
  cases g
  exact k σ F H A .refl S L
def sEx (a : GE) : GS := fun ρ st => (a ρ st).map fun p => .nx ρ p.2
def sRt (a : GE) : GS := fun ρ st => (a ρ st).map fun p => .rt p.1 p.2
theorem ds_ex {e : Expr} {a : GE} (he : PE X e (tD X.K a)) (hs : swapsWith e none pos.line X.env = pure false := by rfl) : PS X (.Expr e pos) (tDS X.K (sEx a)) := ps_imp (ps_expr he hs) fun Dn σ H ⟨F, A, ρ, st, r, S, L, g, k⟩ => by
  simp only [sEx, Option.map_eq_some_iff] at g
  obtain ⟨⟨c, st1⟩, h1, rfl⟩ := g
  exact ⟨F, A, ρ, st, c, st1, S, L, h1, fun v F1 H1 g1 S1 r1 => k σ F1 H1 A (.of g1) S1 (L.mono g1.ex)⟩
theorem ds_rt {e : Expr} {a : GE} (he : PE X e (tD X.K a)) : PS X (.Return (some e) pos) (tDS X.K (sRt a)) := ps_imp (ps_ret he) fun Dn σ H ⟨F, A, ρ, st, r, S, L, g, k⟩ => by
  simp only [sRt, Option.map_eq_some_iff] at g
  obtain ⟨⟨c, st1⟩, h1, rfl⟩ := g
  exact ⟨F, A, ρ, st, c, st1, S, L, h1, fun v F1 H1 g1 S1 r1 => k v F1 H1 A (.of g1) S1 r1⟩
def sRn : GS := fun ρ st => some (.rt (.d .non) st)
theorem ds_rn : PS X (.Return none pos) (tDS X.K sRn) := ps_imp ps_retN fun Dn σ H ⟨F, A, ρ, st, r, S, L, g, k⟩ => by
  cases g
  exact k _ F H A .refl S .non
def sIf (t : GT) (a b : GS) : GS := fun ρ st => (t ρ st).bind fun p => if p.1 = true then a ρ p.2 else b ρ p.2
theorem ds_if {c : Expr} {sa sb : List Stmt} {t : GT} {a b : GS} (hc : PT X c (tDT X.K t)) (ha : PSs X sa (tDS X.K a)) (hb : PSs X sb (tDS X.K b)) : PS X (.If c sa sb pos) (tDS X.K (sIf t a b)) := ps_imp (ps_if hc ha hb) fun Dn σ H ⟨F, A, ρ, st, r, S, L, g, k⟩ => by
  obtain ⟨⟨d, st1⟩, h1, g⟩ := bind_some g
  refine ⟨F, A, ρ, st, d, st1, S, L, h1, fun F1 H1 g1 S1 => ?_⟩
  dsimp only at g
  cases d with
  | true => rw [if_pos rfl] at g; exact iteT ⟨F1, A, ρ, st1, r, S1, L.mono g1.ex, g, k.mono (.of g1)⟩
  | false => rw [if_neg Bool.false_ne_true] at g; exact iteF ⟨F1, A, ρ, st1, r, S1, L.mono g1.ex, g, k.mono (.of g1)⟩

/-! ### names stored -/
def sSet (i : Nat) (a : GE) : GS := fun ρ st => (a ρ st).map fun p => .nx (ρ.set i (some p.1)) p.2
theorem set_imp {K : PySem.W.Frag} {i : Nat} {a : GE} : ∀ Dn σ H, tDS K (sSet i a) Dn σ H → tAsg (tD K a) (gName i) Dn σ H := fun Dn σ H ⟨F, A, ρ, st, r, S, L, g, k⟩ => by
  simp only [sSet, Option.map_eq_some_iff] at g
  obtain ⟨⟨c, st1⟩, h1, rfl⟩ := g
  exact ⟨F, A, ρ, st, c, st1, S, L, h1, fun v F1 H1 g1 S1 r1 => k _ F1 H1 A (.of g1) S1 ((L.mono g1.ex).set r1)⟩
theorem ds_set {i : Nat} {x : Str} {e : Expr} {a : GE} {pos' : Pos} (hN : X.N.Nodup) (hi : X.N[i]? = some x) (hx : Loc X.env.scope x) (he : PE X e (tD X.K a)) (hs : swapsWith e (some (.Name x pos')) pos.line X.env = pure false := by rfl) (hf : X.fn x = true ∨ X.env.scope.names.lookup x = some .local := by first | exact .inl rfl | exact .inr rfl | assumption) :
    PS X (.Assign [.Name x pos'] e pos) (tDS X.K (sSet i a)) := ps_imp (ps_set hN hi hx he hs hf) set_imp
/-- a new list that will change: its content is data, its place a new one of the store -/
def sNew (i : Nat) (a : GE) : GS := fun ρ st => (a ρ st).bind fun p => match p.1 with
  | .d (.lst ds) => some (.nx (ρ.set i (some (.p p.2.length))) (p.2 ++ [.lst (ds.map .d)]))
  | _ => none
/-- of an expression that makes its list anew -/
def tDN (K : PySem.W.Frag) (G : GE) : TE := fun σ H Q => ∃ F A ρ st ds st', SS K F H A st ∧ SL K F A σ ρ ∧ G ρ st = some (.d (.lst ds), st') ∧
  ∀ a vs F' H', Grow A F H F' H' → SS K F' H' A st' → F' a = none → H a = none → H' a = some (.lst vs) → a ∉ A → Reps K F' ds vs → Q (.ref a) H'
theorem SS.push {K : PySem.W.Frag} {F H : Hp} {A : List Addr} {st : Sto} {a : Addr} {o : SO} (S : SS K F H A st) (hF : o.isFro = false → F a = none) (ha : a ∉ A) (ho : SObj K F H (A ++ [a]) a o) : SS K F H (A ++ [a]) (st ++ [o]) := by
  have way : ∀ (k : Nat) (b : Addr) (u : SO), (A ++ [a])[k]? = some b → (st ++ [o])[k]? = some u → (A[k]? = some b ∧ st[k]? = some u) ∨ (b = a ∧ u = o) := fun k b u hk hu => by
    by_cases h : k < A.length
    · rw [List.getElem?_append_left h] at hk
      rw [List.getElem?_append_left (by rw [← S.len]; exact h)] at hu
      exact .inl ⟨hk, hu⟩
    · rw [List.getElem?_append_right (by omega)] at hk
      rw [List.getElem?_append_right (by rw [← S.len]; omega)] at hu
      rw [← S.len] at hu
      cases e : k - A.length with
      | zero => rw [e] at hk hu; cases hk; cases hu; exact .inr ⟨rfl, rfl⟩
      | succ n => rw [e] at hk; simp at hk
  refine ⟨S.ex, by rw [List.length_append, List.length_append, S.len]; rfl, ?_, fun k b u hk hu hf => ?_, fun k b u hk hu => ?_⟩
  · rw [List.nodup_append]
    refine ⟨S.nd, by simp, fun x hx y hy e => ?_⟩
    rw [List.mem_singleton] at hy
    subst hy
    subst e
    exact ha hx
  · rcases way k b u hk hu with ⟨h1, h2⟩ | ⟨rfl, rfl⟩
    · exact S.fr k b u h1 h2 hf
    · exact hF hf
  · rcases way k b u hk hu with ⟨h1, h2⟩ | ⟨rfl, rfl⟩
    · exact (S.obj k b u h1 h2).at
    · exact ho
theorem new_imp {K : PySem.W.Frag} {i : Nat} {a : GE} : ∀ Dn σ H, tDS K (sNew i a) Dn σ H → tAsg (tDN K a) (gName i) Dn σ H := fun Dn σ H ⟨F, A, ρ, st, r, S, L, g, k⟩ => by
  obtain ⟨⟨c, st1⟩, h1, g⟩ := bind_some g
  dsimp only at g
  split at g
  · rename_i ds
    cases g
    refine ⟨F, A, ρ, st, ds, st1, S, L, h1, fun b vs F1 H1 g1 S1 hF hH hb hA hr => ?_⟩
    refine k _ F1 H1 (A ++ [b]) ⟨g1, [b], rfl, fun x hx => by rw [List.mem_singleton] at hx; subst hx; exact hH⟩ (S1.push (fun _ => hF) hA ⟨vs, hb, hr.cs⟩) (((L.mono g1.ex).app (B := [b])).set ?_)
    exact ⟨b, by rw [← S1.len, List.getElem?_append_right (Nat.le_refl _), Nat.sub_self]; rfl, rfl⟩
  · cases g
theorem ds_new {i : Nat} {x : Str} {e : Expr} {a : GE} {pos' : Pos} (hN : X.N.Nodup) (hi : X.N[i]? = some x) (hx : Loc X.env.scope x) (he : PE X e (tDN X.K a)) (hs : swapsWith e (some (.Name x pos')) pos.line X.env = pure false := by rfl) (hf : X.fn x = true ∨ X.env.scope.names.lookup x = some .local := by first | exact .inl rfl | exact .inr rfl | assumption) :
    PS X (.Assign [.Name x pos'] e pos) (tDS X.K (sNew i a)) := ps_imp (ps_set hN hi hx he hs hf) new_imp
/-- [..], a new list -/
theorem dn_lst {es : List Expr} {ga : GA} (h : PA X es (tDA X.K ga)) : PE X (.List es pos) (tDN X.K (eLst ga)) := pe_imp (pe_lst h) fun σ H Q ⟨F, A, ρ, st, c, st', S, L, g, k⟩ => by
  obtain ⟨⟨cs, st1⟩, h1, g⟩ := bind_some g
  obtain ⟨⟨ds, st2⟩, h2, g⟩ := bind_some g
  split at g
  · rename_i hl
    cases g
    refine ⟨F, A, ρ, st, cs, _, S, L, h1, fun vs F0 H1 g0 S0 r1 => ?_⟩
    obtain ⟨F1, f2, rr⟩ := frzs_ok 4 cs F0 st1 vs ds _ S0 r1 h2
    have S1 := f2.ss
    have g1 := g0.trans f2.grow
    refine ⟨by rw [← rr.len]; exact lim6 hl, fun p hp => ?_⟩
    have hF1 : F1 p = none := S1.ex.free hp
    have hH : H p = none := by
      cases q : H p with
      | none => rfl
      | some o => exact absurd hp (g1.dom p (by rw [q]; exact fun z => nomatch z))
    have S2 : SS X.K F1 (upd H1 p (.lst vs)) A _ := ⟨fun b u h => by rw [upd_ne (ne_of_none h hF1)]; exact S1.ex b u h, S1.len, S1.nd, S1.fr, fun k a o hk ho => (S1.obj k a o hk ho).mono (Same.refl _) fun u hu => by rw [upd_ne (ne_of_none hu hp)]; exact hu⟩
    exact k p vs F1 _ ⟨g1.ex, g1.new, fun b o hb hn => by rw [upd_ne (ne_of_none (g1.keep b o hb hn) hp)]; exact g1.keep b o hb hn, fun b hb => by
      by_cases e : b = p
      · subst e; rw [upd_same]; exact fun z => nomatch z
      · rw [upd_ne e]; exact g1.dom b hb⟩ S2 hF1 hH upd_same (S1.fresh hp) rr
  · cases g
/-- targets: a name, names in a tuple -/
inductive Tg where
  | n (i : Nat) | t (is : List Nat)
def setAll : List Nat → List D → Env → Option Env
  | [], [], ρ => some ρ
  | i :: is, x :: xs, ρ => setAll is xs (ρ.set i (some (.d x)))
  | _, _, _ => none
def bindTg : Tg → D → Env → Option Env
  | .n i, x, ρ => some (ρ.set i (some (.d x)))
  | .t is, .tup xs, ρ => setAll is xs ρ
  | _, _, _ => none
def Tg.slots : Tg → List Nat
  | .n i => [i]
  | .t is => is
theorem wipe_get (σ : L2.St) (i : Nat) : ∀ vs : List Nat, (wipe σ vs)[i]? = if i ∈ vs ∧ i < σ.length then some none else σ[i]?
  | [] => by simp [wipe]
  | v :: vs => by
    unfold wipe
    by_cases h : v = i
    · subst h
      by_cases hl : v < σ.length
      · rw [List.getElem?_set_self (by rw [wipe_length]; exact hl), if_pos ⟨List.mem_cons_self, hl⟩]
      · rw [List.getElem?_eq_none (by rw [List.length_set, wipe_length]; omega), if_neg (fun z => hl z.2), List.getElem?_eq_none (by omega)]
    · rw [List.getElem?_set_ne h, wipe_get σ i vs]
      have : (i ∈ v :: vs) ↔ i ∈ vs := by simp [Ne.symm h]
      simp only [this]
theorem wipe_set {σ : L2.St} {i : Nat} {x : Option V} {vs : List Nat} (h : i ∈ vs) : wipe (σ.set i x) vs = wipe σ vs := by
  refine List.ext_getElem? fun j => ?_
  rw [wipe_get, wipe_get, List.length_set]
  by_cases e : j ∈ vs ∧ j < σ.length
  · rw [if_pos e, if_pos e]
  · rw [if_neg e, if_neg e]
    by_cases hj : i = j
    · subst hj
      have : ¬ i < σ.length := fun z => e ⟨h, z⟩
      rw [List.getElem?_eq_none (by rw [List.length_set]; omega), List.getElem?_eq_none (by omega)]
    · rw [List.getElem?_set_ne hj]
theorem wipe_wipe {σ : L2.St} {vs : List Nat} : wipe (wipe σ vs) vs = wipe σ vs := by
  refine List.ext_getElem? fun j => ?_
  rw [wipe_get (wipe σ vs), wipe_get, wipe_length]
  split <;> rfl
/-- a target serves a datum -/
def TgOk (K : PySem.W.Frag) (g : TG) (t : Tg) : Prop := ∀ (x : D) (v : V) (F H : Hp) (A : List Addr) (σ : L2.St) (ρ ρ' : Env) (Q : L2.St → Hp → Prop), Same F H → Rep K F x v → SL K F A σ ρ → bindTg t x ρ = some ρ' → (∀ σ', SL K F A σ' ρ' → (∀ vs : List Nat, (∀ i ∈ t.slots, i ∈ vs) → wipe σ' vs = wipe σ vs) → Q σ' H) → g v σ H Q
theorem tg_n {K : PySem.W.Frag} {i : Nat} : TgOk K (gName i) (.n i) := fun x v F H A σ ρ ρ' Q e r L h k => by
  cases h
  exact k _ (L.set r) fun vs hv => wipe_set (hv i (List.mem_singleton.mpr rfl))
def gNames : List Nat → TGs
  | [] => gNil
  | i :: is => gCons (gName i) (gNames is)
theorem gNames_ok {K : PySem.W.Frag} {F H : Hp} {A : List Addr} {Q : L2.St → Hp → Prop} : ∀ {is : List Nat} {xs : List D} {vs : List V} {σ : L2.St} {ρ ρ' : Env}, Reps K F xs vs → SL K F A σ ρ → setAll is xs ρ = some ρ' → (∀ σ', SL K F A σ' ρ' → (∀ vs : List Nat, (∀ i ∈ is, i ∈ vs) → wipe σ' vs = wipe σ vs) → Q σ' H) → gNames is vs σ H Q
  | [], [], _, _, _, _, .nil, L, h, k => by cases h; exact ⟨rfl, k _ L fun _ _ => rfl⟩
  | i :: is, x :: xs, _, _, _, _, .cons r rs, L, h, k => ⟨_, _, rfl, gNames_ok rs (SL.set (c := .d x) L r) h fun σ' L' w => k σ' L' fun vs hv => (w vs fun j hj => hv j (List.mem_cons_of_mem _ hj)).trans (wipe_set (hv i List.mem_cons_self))⟩
  | [], _ :: _, _, _, _, _, _, _, h, _ => by cases h
  | _ :: _, [], _, _, _, _, _, _, h, _ => by cases h
theorem setAll_len : ∀ {is : List Nat} {xs : List D} {ρ ρ' : Env}, setAll is xs ρ = some ρ' → xs.length = is.length
  | [], [], _, _, _ => rfl
  | i :: is, x :: xs, _, _, h => by rw [List.length_cons, List.length_cons, setAll_len (is := is) (xs := xs) h]
  | [], _ :: _, _, _, h => by cases h
  | _ :: _, [], _, _, h => by cases h
theorem tg_t {K : PySem.W.Frag} {is : List Nat} {n : Nat} (hn : n = is.length) : TgOk K (gTup K n (gNames is)) (.t is) := fun x v F H A σ ρ ρ' Q e r L h k => by
  cases r with
  | tup hs hr => exact ⟨_, _, rfl, same_sqt e hs, by rw [hn, ← hr.len]; exact setAll_len h, gNames_ok hr L h k⟩
  | _ => cases h
/-- a, b = e -/
def sUn (t : Tg) (a : GE) : GS := fun ρ st => (a ρ st).bind fun p => match p.1 with
  | .d x => (bindTg t x ρ).map fun ρ' => .nx ρ' p.2
  | _ => none
theorem ds_un {tg e : Expr} {a : GE} {g : TG} {t : Tg} (ht : TgOk X.K g t) (hg : PG X tg g) (he : PE X e (tD X.K a)) (hs : swapsWithSole [tg] e pos.line X.env = pure false := by rfl) (hw : swappedStores [tg] e X.env = pure none := by rfl)
    (h1 : (assignEach [tg] X.env).map (·.2) = [assign tg X.env] := by rfl) : PS X (.Assign [tg] e pos) (tDS X.K (sUn t a)) := ps_imp (ps_asg he hg hs hw h1) fun Dn σ H ⟨F, A, ρ, st, r, S, L, g, k⟩ => by
  obtain ⟨⟨c, st1⟩, h1, g⟩ := bind_some g
  dsimp only at g
  split at g
  · rename_i x
    simp only [Option.map_eq_some_iff] at g
    obtain ⟨ρ', h2, rfl⟩ := g
    refine ⟨F, A, ρ, st, _, _, S, L, h1, fun v F1 H1 g1 S1 r1 => ht x v F1 H1 A σ ρ ρ' _ S1.ex r1 (L.mono g1.ex) h2 fun σ' L' _ => k σ' F1 H1 A (.of g1) S1 L'⟩
  · cases g
/-- x += e -/
def sAug (i : Nat) (g : D → D → Option D) (a : GE) : GS := fun ρ st => match ρ[i]? with
  | some (some (.d x)) => (a ρ st).bind fun p => (deref p.2 p.1).bind fun y => (g x y).map fun z => .nx (ρ.set i (some (.d z))) p.2
  | _ => none
theorem ip_addD : PIp X .Add (rDD X.K (iiD fun i j => .int (i + j))) := fun pins s σ H x y v u Q I rx ry ⟨F, A, st, a, b, z, S, ra, rb, hz, k⟩ => by
  cases ra <;> cases rb <;> simp only [iiD, reduceCtorEq] at hz
  cases hz
  exact ip_add pins s σ H _ _ v u Q I rx ry ⟨_, _, rfl, rfl, k _ F H .refl S .int⟩
theorem ip_subD : PIp X .Sub (rDD X.K (iiD fun i j => .int (i - j))) := fun pins s σ H x y v u Q I rx ry ⟨F, A, st, a, b, z, S, ra, rb, hz, k⟩ => by
  cases ra <;> cases rb <;> simp only [iiD, reduceCtorEq] at hz
  cases hz
  exact ip_sub pins s σ H _ _ v u Q I rx ry ⟨_, _, rfl, rfl, k _ F H .refl S .int⟩
theorem ds_aug {i : Nat} {x : Str} {e : Expr} {a : GE} {op : Operator} {g : D → D → Option D} {pos' : Pos} (hN : X.N.Nodup) (hi : X.N[i]? = some x) (hx : Loc X.env.scope x) (he : PE X e (tD X.K a)) (ho : PIp X op (rDD X.K g)) (hf : X.fn x = true ∨ X.env.scope.names.lookup x = some .local := by first | exact .inl rfl | exact .inr rfl | assumption) :
    PS X (.AugAssign (.Name x pos') op e pos) (tDS X.K (sAug i g a)) := ps_imp (ps_aug hN hi hx he ho hf) fun Dn σ H ⟨F, A, ρ, st, r, S, L, h, k⟩ => by
  unfold sAug at h
  split at h
  · rename_i y e1
    obtain ⟨⟨c, st1⟩, h1, h⟩ := bind_some h
    obtain ⟨b, h2, h⟩ := bind_some h
    simp only [Option.map_eq_some_iff] at h
    obtain ⟨z, h3, rfl⟩ := h
    obtain ⟨v, hv, rv⟩ := L.get i _ e1
    refine ⟨v, hv, F, A, ρ, st, c, st1, S, L, h1, fun u F1 H1 g1 S1 r1 => ⟨F1, A, st1, y, b, z, S1, Rep.p S1.ex (Rep.mono g1.ex rv), S1.deref r1 h2, h3, fun w F2 H2 g2 S2 r2 => k _ F2 H2 A (.of (g1.trans g2)) S2 ((L.mono (g1.trans g2).ex).set r2)⟩⟩
  · cases h

/-! ### a def's promise by data, and its call -/
def spD (K : PySem.W.Frag) (n : Nat) (Φ : List C → Sto → Option (C × Sto)) : Sp := fun vs H Q E => vs.length = n ∧ ∃ F A cs st c st', SS K F H A st ∧ RepCs K F A cs vs ∧ Φ cs st = some (c, st') ∧
  ∀ v F' H', Grow A F H F' H' → SS K F' H' A st' → RepC K F' A c v → Q v H'
/-- what leaves a def: its own lists are gone or data now -/
def okC (n : Nat) : C → Bool
  | .d _ => true
  | .p k => decide (k < n)
def okSO (n : Nat) : SO → Bool
  | .lst cs => cs.all (okC n)
  | .dct kvs => (kvs.map (·.2)).all (okC n)
  | .fro _ => true
def cutSt (n : Nat) (c : C) (st : Sto) : Option (C × Sto) := if (st.take n).all (okSO n) = true then some (c, st.take n) else none
def fin (n : Nat) : C → Sto → Option (C × Sto)
  | .d x, st => cutSt n (.d x) st
  | .p k, st => if k < n then cutSt n (.p k) st else (frz 4 (.p k) st).bind fun q => cutSt n (.d q.1) q.2
def fnD (N n : Nat) (G : GS) : List C → Sto → Option (C × Sto) := fun cs st => if cs.length = n then (G (cs.map some ++ List.replicate (N - n) none) st).bind fun r => match r with
  | .rt c st' => fin st.length c st'
  | .nx _ st' => fin st.length (.d .non) st'
  | _ => none else none
theorem SL.start {K : PySem.W.Frag} {F : Hp} {A : List Addr} {N : List Str} {cs : List C} {vs : List V} (r : RepCs K F A cs vs) : SL K F A (L2.start N vs) (cs.map some ++ List.replicate (N.length - cs.length) none) := by
  unfold L2.start
  refine ⟨by rw [List.length_append, List.length_append, List.length_map, List.length_map, List.length_replicate, List.length_replicate, r.len], fun i c h => ?_⟩
  by_cases hi : i < cs.length
  · rw [List.getElem?_append_left (by rw [List.length_map]; exact hi), List.getElem?_map] at h
    rw [List.getElem?_append_left (by rw [List.length_map, ← r.len]; exact hi), List.getElem?_map]
    cases e : cs[i]? with
    | none => rw [e] at h; cases h
    | some c' =>
      rw [e] at h
      cases h
      obtain ⟨v, h1, h2⟩ := r.get e
      exact ⟨v, by rw [h1]; rfl, h2⟩
  · rw [List.getElem?_append_right (by rw [List.length_map]; omega), List.getElem?_replicate] at h
    split at h <;> cases h
/-- forgetting the later objects of the store -/
theorem okC_back {K : PySem.W.Frag} {F : Hp} {A B : List Addr} {c : C} {v : V} (h : RepC K F (A ++ B) c v) (ok : okC A.length c = true) : RepC K F A c v := by
  cases c with
  | d x => exact h
  | p k =>
    obtain ⟨a, h1, h2⟩ := h
    have hk : k < A.length := of_decide_eq_true ok
    exact ⟨a, by rw [List.getElem?_append_left hk] at h1; exact h1, h2⟩
theorem okCs_back {K : PySem.W.Frag} {F : Hp} {A B : List Addr} : ∀ {cs : List C} {vs : List V}, RepCs K F (A ++ B) cs vs → cs.all (okC A.length) = true → RepCs K F A cs vs
  | _, _, .nil, _ => .nil
  | _, _, .cons h r, e => by
    rw [List.all_cons, Bool.and_eq_true] at e
    exact .cons (okC_back h e.1) (okCs_back r e.2)
theorem SS.drop {K : PySem.W.Frag} {F H : Hp} {A B : List Addr} {st : Sto} (S : SS K F H (A ++ B) st) (ok : (st.take A.length).all (okSO A.length) = true) : SS K F H A (st.take A.length) := by
  have up : ∀ {k : Nat} {a : Addr} {o : SO}, A[k]? = some a → (st.take A.length)[k]? = some o → (A ++ B)[k]? = some a ∧ st[k]? = some o := fun {k a o} hk ho => ⟨by rw [List.getElem?_append_left (List.getElem?_eq_some_iff.mp hk).1]; exact hk, by
    rw [List.getElem?_take] at ho
    split at ho
    · exact ho
    · cases ho⟩
  refine ⟨S.ex, by rw [List.length_take, ← S.len, List.length_append]; omega, (List.nodup_append.mp S.nd).1, fun k a o hk ho hf => S.fr k a o (up hk ho).1 (up hk ho).2 hf, fun k a o hk ho => ?_⟩
  have ob := S.obj k a o (up hk ho).1 (up hk ho).2
  have oo : okSO A.length o = true := List.all_eq_true.mp ok o (List.mem_of_getElem? ho)
  cases o with
  | lst cs => obtain ⟨vs, h1, h2⟩ := ob; exact ⟨vs, h1, okCs_back h2 oo⟩
  | dct kvs => obtain ⟨vs, h1, h2⟩ := ob; exact ⟨vs, h1, okCs_back h2 oo⟩
  | fro x => exact ob
theorem cut_ok {K : PySem.W.Frag} {F0 H F1 H1 : Hp} {A0 A1 : List Addr} {st0 st1 st' : Sto} {c c' : C} {v : V} {Q : VK} (S0 : SS K F0 H A0 st0) (g1 : GrowS A0 F0 H A1 F1 H1) (S1 : SS K F1 H1 A1 st1) (r1 : RepC K F1 A1 c v) (hc : okC st0.length c = true) (h : cutSt st0.length c st1 = some (c', st'))
    (kk : ∀ v F' H', Grow A0 F0 H F' H' → SS K F' H' A0 st' → RepC K F' A0 c' v → Q v H') : Q v H1 := by
  obtain ⟨B, rfl, hB⟩ := g1.app
  unfold cutSt at h
  split at h
  · rename_i ok
    cases h
    rw [← S0.len] at ok hc kk
    exact kk v F1 H1 g1.g (S1.drop ok) (okC_back r1 hc)
  · cases h
/-- a def's promise by data, where no repr is under way (the guards are empty), and nothing leaves by an exception -/
structure FnG (P : Program) (w : World) (K : PySem.W.Frag) (mg : Str → Option Value) (base : Heap) (k : Nat) (f : Addr) (fd : FuncData) (ps : List Str) (Φ : List C → Sto → Option (C × Sto)) : Prop where
  go : ∀ (A : Around) (outer : List PySem.Env) (s : Shared) (H : Hp) (args : Args) (us : List Value) (vs : List V) (Q : VK), Room k A → A.guards = some [] → Env0 P w K mg base A outer s H → BindsTo s fd args (ps.zip us) → Vals vs us → spD K ps.length Φ vs H Q E0 →
    codeAny (model P w) A (.call (.ref f) args) (CR CX0 outer P w H s Q E0) s
theorem FnG.mono {P : Program} {w : World} {K : PySem.W.Frag} {mg : Str → Option Value} {base : Heap} {j k : Nat} {f : Addr} {fd : FuncData} {ps : List Str} {Φ : List C → Sto → Option (C × Sto)} (G : FnG P w K mg base j f fd ps Φ) (h : j ≤ k) : FnG P w K mg base k f fd ps Φ :=
  ⟨fun A outer s H args us vs Q hr => G.go A outer s H args us vs Q (hr.mono h)⟩
theorem guards_in (A : Around) (env : PySem.Env) (h : A.guards = some []) : (A.deeper env).guards = some [] := by
  first | exact h | simpa [Around.deeper] using h
/-- the data reading of a whole body serves the promise -/
theorem body_D {K : PySem.W.Frag} {N ps : List Str} {G : GS} {vs : List V} {H : Hp} {Q : VK} (h : spD K ps.length (fnD N.length ps.length G) vs H Q E0) : tDS K G { nx := fun _ H' => Q .non H', rt := Q } (L2.start N vs) H := by
  obtain ⟨hl, F0, A0, cs, st, c, st', S0, R0, h, kk⟩ := h
  unfold fnD at h
  split at h
  · rename_i hcl
    obtain ⟨r, h1, h⟩ := bind_some h
    refine ⟨F0, A0, _, st, r, S0, ?_, h1, ?_⟩
    · have := SL.start (N := N) R0
      rw [hcl] at this
      exact this
    · have fin_ok : ∀ (c1 : C) (st1 : Sto) (v : V) (F1 H1 : Hp) (A1 : List Addr), GrowS A0 F0 H A1 F1 H1 → SS K F1 H1 A1 st1 → RepC K F1 A1 c1 v → DL.fin st.length c1 st1 = some (c, st') → Q v H1 := fun c1 st1 v F1 H1 A1 g1 S1 r1 hf => by
        cases c1 with
        | d y => exact cut_ok S0 g1 S1 r1 rfl hf kk
        | p j =>
          have hf : (if j < st.length then cutSt st.length (.p j) st1 else (frz 4 (.p j) st1).bind fun q => cutSt st.length (.d q.1) q.2) = some (c, st') := hf
          by_cases hj : j < st.length
          · rw [if_pos hj] at hf
            exact cut_ok S0 g1 S1 r1 (decide_eq_true hj) hf kk
          · rw [if_neg hj] at hf
            obtain ⟨⟨x, st2⟩, h2, hf⟩ := bind_some hf
            obtain ⟨F2, f2, r2⟩ := frz_ok 4 F1 st1 (.p j) v x st2 S1 r1 h2
            exact cut_ok (c := .d x) S0 (g1.trans (.of f2.grow)) f2.ss r2 rfl hf kk
      cases r with
      | rt c1 st1 => exact fun v F1 H1 A1 g1 S1 r1 => fin_ok c1 st1 v F1 H1 A1 g1 S1 r1 h
      | nx ρ1 st1 => exact fun σ1 F1 H1 A1 g1 S1 _ => fin_ok (.d .non) st1 .non F1 H1 A1 g1 S1 .non h
      | bk _ _ => cases h
      | ct _ _ => cases h
  · cases h
theorem fn_D {P : Program} {w : World} {K : PySem.W.Frag} {mg : Str → Option Value} {base : Heap} {x qual : Str} {st0 : Stmt} {f : Addr} {fd : FuncData} {N ps : List Str} {k : Nat} {G : GS} (Fu : Fun K x qual st0 f fd) (S : FnScope N ps (defScope st0))
    (hbody : ∀ (cdv : Value) (A : Around) (outer : List PySem.Env) (s : Shared) (H : Hp), Room k (A.deeper (envOfC qual (defScope st0) s.heap.objs.size f cdv)) → (A.deeper (envOfC qual (defScope st0) s.heap.objs.size f cdv)).guards = some [] →
      PSs (cxOf CX0 P w K mg base N qual (defScope st0) f cdv A outer s H E0).nox (defBody st0) (tDS K G)) : FnG P w K mg base (k + 1) f fd ps (fnD N.length ps.length G) := by
  obtain ⟨cls, dct, kwV, docV, modV, annA, codeV, clo, slots, hfd, stands, coded⟩ := Fu.ex
  subst hfd
  refine ⟨fun A outer s H args us vs Q room quiet e0 binds rel sp => ?_⟩
  have inK : K.In s.heap := e0.mod.kin.keeps fun b o e => (e0.bs b o e).1
  have nol : s.heap.NoLimit := e0.mod.nolimit.keeps fun b o e => (e0.bs b o e).1
  have kinds : ∀ y ∈ ps.zip us, (defScope st0).names.lookup y.1 = some .local ∨ ((defScope st0).names.lookup y.1 = some .cell ∧ ((cellsFrom (s.heap.objs.size + 1) (defScope st0).names []).lookup y.1).isSome = true) := by
    intro y hy
    have hm : y.1 ∈ ps := by
      obtain ⟨n, v⟩ := y
      exact (List.of_mem_zip hy).1
    cases S.par y.1 hm with
    | inl h => exact .inl h
    | inr h => exact .inr ⟨h, PySem.W.cellsFrom_some _ _ _ (.inl h)⟩
  apply codeAny_call_function room.depth (inK _ _ stands) rfl S.co S.gen rfl (PySem.W.codeRec_of inK coded)
  apply binds
  apply wpAny_newFunctionEnv_cells S.kind kinds
  intro env eqn s1 begun
  subst eqn
  refine ⟨nol.keeps begun.toInCall.keep, codeAny_func ?_⟩
  have inv : Inv (cxOf CX0 P w K mg base N qual (defScope st0) f codeV A outer s H E0) [] (L2.start N vs) H s1 := inv_start S room.hd e0 sp.1 rel begun
  have run := ((hbody codeV A outer s H (room.deeper _) (guards_in _ _ quiet)).nox).run [] s1 (L2.start N vs) H _ inv (body_D sp)
  refine wpAny_mono run (fun fl s' hs => ?_) (fun _ _ z => z)
  cases fl with
  | ret u =>
    obtain ⟨v, σ1, H1, J, rv, q⟩ := hs
    exact ⟨v, H1, J.os, J.bare, J.base, J.hok, rv, q⟩
  | next =>
    obtain ⟨σ1, H1, J, q⟩ := hs
    exact ⟨V.non, H1, J.os, J.bare, J.base, J.hok, rfl, q⟩
  | brk =>
    obtain ⟨_, _, _, q⟩ := hs
    exact q.elim
  | cont =>
    obtain ⟨_, _, _, q⟩ := hs
    exact q.elim
/-- what a def is handed: its own store holds just the objects that it is passed -/
def ptrs : List C → List Nat
  | [] => []
  | .d _ :: r => ptrs r
  | .p k :: r => k :: ptrs r
def renum : Nat → List C → List C
  | _, [] => []
  | n, .d x :: r => .d x :: renum n r
  | n, .p _ :: r => .p n :: renum (n + 1) r
def flatSO : SO → Bool
  | .lst cs => cs.all (okC 0)
  | .dct kvs => (kvs.map (·.2)).all (okC 0)
  | .fro _ => true
def pick (st : Sto) : List Nat → Option Sto
  | [] => some []
  | k :: ks => match st[k]? with
    | some o => if flatSO o = true then (pick st ks).map (o :: ·) else none
    | none => none
def putBack : Sto → List Nat → Sto → Sto
  | st, k :: ks, o :: os => putBack (st.set k o) ks os
  | st, _, _ => st
def backC (ks : List Nat) : C → Option C
  | .d x => some (.d x)
  | .p i => match ks[i]? with
    | some k => some (.p k)
    | none => none
def eCall (Φ : List C → Sto → Option (C × Sto)) (a : GA) : GE := fun ρ st => (a ρ st).bind fun p => if (ptrs p.1).Nodup then (pick p.2 (ptrs p.1)).bind fun os => (Φ (renum 0 p.1) os).bind fun q => if q.2.all flatSO = true then (backC (ptrs p.1) q.1).map fun c => (c, putBack p.2 (ptrs p.1) q.2) else none else none
theorem pick_len {st : Sto} : ∀ {ks : List Nat} {os : Sto}, pick st ks = some os → os.length = ks.length
  | [], _, h => by cases h; rfl
  | k :: ks, os, h => by
    unfold pick at h
    split at h
    · split at h
      · simp only [Option.map_eq_some_iff] at h
        obtain ⟨r, h1, rfl⟩ := h
        rw [List.length_cons, List.length_cons, pick_len h1]
      · cases h
    · cases h
theorem pick_get {st : Sto} : ∀ {ks : List Nat} {os : Sto} {i k : Nat}, pick st ks = some os → ks[i]? = some k → os[i]? = st[k]? ∧ ∀ o, os[i]? = some o → flatSO o = true
  | [], _, _, _, _, h => by simp at h
  | j :: ks, os, i, k, h, hi => by
    unfold pick at h
    split at h
    · rename_i o ho
      split at h
      · rename_i hfl
        simp only [Option.map_eq_some_iff] at h
        obtain ⟨r, h1, rfl⟩ := h
        cases i with
        | zero =>
          simp at hi
          subst hi
          refine ⟨by rw [ho]; rfl, fun u hu => ?_⟩
          have : o = u := by simpa using hu
          rw [← this]; exact hfl
        | succ i => exact pick_get (i := i) h1 (by simpa using hi)
      · cases h
    · cases h
theorem flat_at {K : PySem.W.Frag} {F : Hp} {A A' : List Addr} : ∀ {cs : List C} {vs : List V}, RepCs K F A cs vs → cs.all (okC 0) = true → RepCs K F A' cs vs
  | _, _, .nil, _ => .nil
  | _, _, .cons (c := .d x) h r, e => by
    rw [List.all_cons, Bool.and_eq_true] at e
    exact .cons h (flat_at r e.2)
  | _, _, .cons (c := .p k) h r, e => by
    rw [List.all_cons, Bool.and_eq_true] at e
    exact absurd (of_decide_eq_true (p := k < 0) e.1) (Nat.not_lt_zero k)
theorem flatSO_at {K : PySem.W.Frag} {F H : Hp} {A A' : List Addr} {a : Addr} {o : SO} (h : SObj K F H A a o) (e : flatSO o = true) : SObj K F H A' a o := by
  cases o with
  | lst cs => obtain ⟨vs, h1, h2⟩ := h; exact ⟨vs, h1, flat_at h2 e⟩
  | dct kvs => obtain ⟨vs, h1, h2⟩ := h; exact ⟨vs, h1, flat_at h2 e⟩
  | fro x => exact h
theorem putBack_len : ∀ (ks : List Nat) (st os : Sto), (putBack st ks os).length = st.length
  | [], st, os => by cases os <;> rfl
  | k :: ks, st, [] => rfl
  | k :: ks, st, o :: os => by
    show (putBack (st.set k o) ks os).length = st.length
    rw [putBack_len ks, List.length_set]
theorem putBack_out : ∀ {ks : List Nat} {st os : Sto} {j : Nat}, j ∉ ks → (putBack st ks os)[j]? = st[j]?
  | [], st, os, j, _ => by cases os <;> rfl
  | k :: ks, st, [], j, _ => rfl
  | k :: ks, st, o :: os, j, h => by
    show (putBack (st.set k o) ks os)[j]? = st[j]?
    rw [putBack_out (fun z => h (List.mem_cons_of_mem _ z)), List.getElem?_set_ne (fun e => h (by rw [e]; exact List.mem_cons_self))]
theorem putBack_in : ∀ {ks : List Nat} {st os : Sto} {i k : Nat}, ks.Nodup → ks[i]? = some k → k < st.length → i < os.length → (putBack st ks os)[k]? = os[i]?
  | [], _, _, _, _, _, h, _, _ => by simp at h
  | j :: ks, st, [], i, k, _, _, _, hl => by simp at hl
  | j :: ks, st, o :: os, 0, k, nd, h, hk, _ => by
    simp at h
    subst h
    show (putBack (st.set j o) ks os)[j]? = some o
    rw [putBack_out (List.nodup_cons.mp nd).1, List.getElem?_set_self hk]
  | j :: ks, st, o :: os, i + 1, k, nd, h, hk, hl => by
    show (putBack (st.set j o) ks os)[k]? = os[i]?
    exact putBack_in (List.nodup_cons.mp nd).2 (by simpa using h) (by rw [List.length_set]; exact hk) (by simpa using hl)
def pickA (A : List Addr) (ks : List Nat) : List Addr := ks.map fun k => A.getD k 0
theorem getD_of {A : List Addr} {k : Nat} {a : Addr} (h : A[k]? = some a) : A.getD k 0 = a := by
  rw [List.getD_eq_getElem?_getD, h]; rfl
theorem renum_reps {K : PySem.W.Frag} {F : Hp} {A : List Addr} : ∀ {cs : List C} {vs : List V} (ks : List Nat), RepCs K F A cs vs → RepCs K F (pickA A (ks ++ ptrs cs)) (renum ks.length cs) vs
  | _, _, ks, .nil => .nil
  | _, _, ks, .cons (c := .d x) (cs := cs) h r => .cons h (renum_reps ks r)
  | _, _, ks, .cons (c := .p k) (cs := cs) h r => by
    obtain ⟨a, ha, e⟩ := h
    refine .cons ⟨a, ?_, e⟩ ?_
    · unfold pickA
      show (((ks ++ k :: ptrs cs)).map fun k => A.getD k 0)[ks.length]? = some a
      rw [List.getElem?_map, List.getElem?_append_right (Nat.le_refl _), Nat.sub_self]
      show some (A.getD k 0) = some a
      rw [getD_of ha]
    · have q := renum_reps (ks ++ [k]) r
      rw [List.append_assoc, List.length_append] at q
      exact q
theorem ptrs_in {K : PySem.W.Frag} {F : Hp} {A : List Addr} : ∀ {cs : List C} {vs : List V} {k : Nat}, RepCs K F A cs vs → k ∈ ptrs cs → k < A.length
  | _, _, _, .nil, h => by cases h
  | _, _, _, .cons (c := .d x) h r, q => ptrs_in r q
  | _, _, _, .cons (c := .p k) h r, q => by
    obtain ⟨a, ha, _⟩ := h
    rcases List.mem_cons.mp q with e | q
    · rw [e]; exact (List.getElem?_eq_some_iff.mp ha).1
    · exact ptrs_in r q
theorem mem_pickA {A : List Addr} {ks : List Nat} {a : Addr} (hk : ∀ k ∈ ks, k < A.length) (h : a ∈ pickA A ks) : ∃ k ∈ ks, A[k]? = some a := by
  unfold pickA at h
  obtain ⟨k, h1, h2⟩ := List.mem_map.mp h
  exact ⟨k, h1, by rw [← h2, List.getD_eq_getElem?_getD, List.getElem?_eq_getElem (hk k h1)]; rfl⟩
theorem SS.pick {K : PySem.W.Frag} {F H : Hp} {A : List Addr} {st os : Sto} {ks : List Nat} (S : SS K F H A st) (hk : ∀ k ∈ ks, k < A.length) (nd : ks.Nodup) (h : DL.pick st ks = some os) : SS K F H (pickA A ks) os where
  ex := S.ex
  len := by rw [pick_len h]; unfold pickA; rw [List.length_map]
  nd := by
    unfold pickA
    refine List.Pairwise.map _ (fun a b e => e) ?_ |> fun (x : List.Pairwise _ _) => x
    refine List.Pairwise.imp_of_mem (fun {a b} ha hb hab e => hab ?_) nd
    have h1 := List.getElem?_eq_getElem (hk a ha)
    have h2 := List.getElem?_eq_getElem (hk b hb)
    rw [getD_of h1, getD_of h2] at e
    exact (List.getElem?_inj (hk a ha) S.nd).mp (by rw [h1, h2, e])
  fr := fun i a o hi ho hf => by
    unfold pickA at hi
    rw [List.getElem?_map] at hi
    cases e : ks[i]? with
    | none => rw [e] at hi; cases hi
    | some k =>
      rw [e] at hi
      cases hi
      rw [(pick_get h e).1] at ho
      have h1 := List.getElem?_eq_getElem (hk k (List.mem_of_getElem? e))
      exact S.fr k _ o (by show A[k]? = some (A.getD k 0); rw [getD_of h1]; exact h1) ho hf
  obj := fun i a o hi ho => by
    unfold pickA at hi
    rw [List.getElem?_map] at hi
    cases e : ks[i]? with
    | none => rw [e] at hi; cases hi
    | some k =>
      rw [e] at hi
      cases hi
      have fl := (pick_get h e).2 o ho
      rw [(pick_get h e).1] at ho
      have h1 := List.getElem?_eq_getElem (hk k (List.mem_of_getElem? e))
      exact flatSO_at (S.obj k _ o (by show A[k]? = some (A.getD k 0); rw [getD_of h1]; exact h1) ho) fl
theorem SS.putBack {K : PySem.W.Frag} {F H F' H' : Hp} {A : List Addr} {st os' : Sto} {ks : List Nat} (S : SS K F H A st) (hk : ∀ k ∈ ks, k < A.length) (nd : ks.Nodup) (g : Grow (pickA A ks) F H F' H') (S' : SS K F' H' (pickA A ks) os') (fl : os'.all flatSO = true) : SS K F' H' A (DL.putBack st ks os') ∧ Grow A F H F' H' := by
  have sub : ∀ a, a ∈ pickA A ks → a ∈ A := fun a ha => by
    obtain ⟨k, _, h2⟩ := mem_pickA hk ha
    exact List.mem_of_getElem? h2
  have out : ∀ {k : Nat} {a : Addr}, A[k]? = some a → k ∉ ks → a ∉ pickA A ks := fun {k a} hka hm z => by
    obtain ⟨j, hj, h2⟩ := mem_pickA hk z
    have : k = j := (List.getElem?_inj (List.getElem?_eq_some_iff.mp hka).1 S.nd).mp (hka.trans h2.symm)
    exact hm (by rw [this]; exact hj)
  have inn : ∀ {k : Nat} {a : Addr} {o : SO}, A[k]? = some a → (DL.putBack st ks os')[k]? = some o → k ∈ ks → ∃ i, (pickA A ks)[i]? = some a ∧ os'[i]? = some o := fun {k a o} hka ho hm => by
    obtain ⟨i, hi⟩ := List.getElem?_of_mem hm
    have hkl : k < st.length := by rw [← S.len]; exact (List.getElem?_eq_some_iff.mp hka).1
    have hil : i < os'.length := by
      rw [← S'.len]; unfold pickA; rw [List.length_map]; exact (List.getElem?_eq_some_iff.mp hi).1
    rw [putBack_in nd hi hkl hil] at ho
    refine ⟨i, ?_, ho⟩
    unfold pickA
    rw [List.getElem?_map, hi]
    show some (A.getD k 0) = some a
    rw [getD_of hka]
  refine ⟨⟨S'.ex, by rw [putBack_len]; exact S.len, S.nd, fun k a o hka ho hf => ?_, fun k a o hka ho => ?_⟩, g.ex, fun a h => ?_, fun b o hb hn => g.keep b o hb fun z => hn (sub b z), g.dom⟩
  · by_cases hm : k ∈ ks
    · obtain ⟨i, h1, h2⟩ := inn hka ho hm
      exact S'.fr i a o h1 h2 hf
    · rw [putBack_out hm] at ho
      cases q : F' a with
      | none => rfl
      | some u =>
        rcases g.new a (by rw [q]; exact fun z => nomatch z) with z | z | z
        · exact absurd (S.fr k a o hka ho hf) z
        · exact absurd z (S.there (List.mem_of_getElem? hka))
        · exact absurd z (out hka hm)
  · by_cases hm : k ∈ ks
    · obtain ⟨i, h1, h2⟩ := inn hka ho hm
      exact flatSO_at (S'.obj i a o h1 h2) (List.all_eq_true.mp fl o (List.mem_of_getElem? h2))
    · rw [putBack_out hm] at ho
      exact (S.obj k a o hka ho).mono g.ex fun u hu => g.keep a u hu (out hka hm)
  · rcases g.new a h with z | z | z
    · exact .inl z
    · exact .inr (.inl z)
    · exact .inr (.inr (sub a z))
/-- the callee's promise at the caller's state -/
theorem call_G {k : Nat} {f : Addr} {fd : FuncData} {ps : List Str} {Φ : List C → Sto → Option (C × Sto)} (G : FnG X.prog X.w X.K X.mg X.base k f fd ps Φ) (hr : Room k X.A) (hq : X.A.guards = some []) (hb : Binds X.K fd ps [])
    {pins : List (Addr × Obj)} {σ : L2.St} {H : Hp} {s : Shared} {Q : VK} {us : List Value} {vs : List V} (I : Inv X pins σ H s) (r : Vals vs us) (h : spD X.K ps.length Φ vs H Q E0) : wpAny (model X.prog X.w) X.A (call (.ref f) us) (EP X pins σ Q) X.xe s := by
  have hl : us.length = ps.length := r.length.symm.trans h.1
  have bound := hb s us I.kIn (by rw [List.append_nil]; exact hl)
  rw [List.append_nil] at bound
  refine wpAny_call (codeAny_mono (G.go X.A X.stack s H ⟨us, []⟩ us vs Q hr hq I.env0 bound r h) ?_)
  intro res s' out
  match res, out with
  | .ok (.ret u), out => exact I.after out
  | .ok .next, out => exact out.elim
  | .ok .brk, out => exact out.elim
  | .ok .cont, out => exact out.elim
  | .error e, out => exact out.elim
theorem pe_G {k : Nat} {f : Addr} {fd : FuncData} {ps : List Str} {Φ : List C → Sto → Option (C × Sto)} {x : Str} {p : Pos} {e : Expr} {es : List Expr} {t : TA} (G : FnG X.prog X.w X.K X.mg X.base k f fd ps Φ) (hr : Room k X.A) (hq : X.A.guards = some []) (hg : Gl X x) (hm : X.mg x = some (.ref f)) (hk : PySem.W.keepIn X.K (.ref f) = true) (hb : Binds X.K fd ps [])
    (ha : PA X (e :: es) t) (hdb : (x == ("__debug__" : Str)) = false) (he : starEach (e :: es) X.env = (false, eval e X.env) :: starEach es X.env) (hpl : (backTo pos (starEach es X.env)).any (·.1) = false) :
    PE X (.Call (.Name x p) (e :: es) [] pos) (fun σ H Q => t σ H fun vs H1 => spD X.K ps.length Φ vs H1 Q E0) := by
  refine ⟨fun pins s σ H Q I h => wpAny_Call_Name_kw (ld_glob I hg hm ?_ hdb)⟩
  refine PySem.W.callWith_K (h₀ := X.base) I.ok.mod.kin hk ?_ he hpl
  refine thn (ha.run pos pins s σ H _ I h) ?_
  intro us s1 ⟨vs, H1, I1, r, q⟩
  exact ⟨I1.kIn, call_G G hr hq hb I1 r q⟩
theorem de_call {k j : Nat} {f : Addr} {fd : FuncData} {ps : List Str} {Φ : List C → Sto → Option (C × Sto)} {x : Str} {p : Pos} {e : Expr} {es : List Expr} {ga : GA} (G : FnG X.prog X.w X.K X.mg X.base k f fd ps Φ) (hr : Room j X.A) (hkj : k ≤ j) (hq : X.A.guards = some []) (hg : Gl X x) (hm : X.mg x = some (.ref f)) (hk : PySem.W.keepIn X.K (.ref f) = true) (hb : Binds X.K fd ps [])
    (hn : ∀ cs st r, Φ cs st = some r → cs.length = ps.length) (ha : PA X (e :: es) (tDA X.K ga)) (hdb : (x == ("__debug__" : Str)) = false := by decide) (he : starEach (e :: es) X.env = (false, eval e X.env) :: starEach es X.env := by rfl) (hpl : (backTo pos (starEach es X.env)).any (·.1) = false := by rfl) :
    PE X (.Call (.Name x p) (e :: es) [] pos) (tD X.K (eCall Φ ga)) := pe_imp (pe_G G (hr.mono hkj) hq hg hm hk hb ha hdb he hpl) fun σ H Q ⟨F, A, ρ, st, c, st', S, L, g, kk⟩ => by
  obtain ⟨⟨cs, st1⟩, h1, g⟩ := bind_some g
  dsimp only at g
  split at g
  · rename_i nd
    obtain ⟨os, h2, g⟩ := bind_some g
    obtain ⟨⟨c1, os'⟩, h3, g⟩ := bind_some g
    dsimp only at g
    by_cases fl : os'.all flatSO = true
    case neg => rw [if_neg fl] at g; cases g
    rw [if_pos fl] at g
    simp only [Option.map_eq_some_iff, Prod.mk.injEq] at g
    obtain ⟨c2, h4, rfl, rfl⟩ := g
    refine ⟨F, A, ρ, st, cs, st1, S, L, h1, fun vs F1 H1 g1 S1 r1 => ?_⟩
    have hki : ∀ k ∈ ptrs cs, k < A.length := fun k hk => ptrs_in r1 hk
    have rr : RepCs X.K F1 (pickA A (ptrs cs)) (renum 0 cs) vs := renum_reps [] r1
    refine ⟨by rw [← rr.len]; exact hn _ _ _ h3, F1, pickA A (ptrs cs), renum 0 cs, os, c1, os', S1.pick hki nd h2, rr, h3, fun v F2 H2 g2 S2 r2 => ?_⟩
    obtain ⟨S3, g3⟩ := S1.putBack hki nd g2 S2 fl
    refine kk v F2 H2 (g1.trans g3) S3 ?_
    cases c1 with
    | d y => cases h4; exact r2
    | p i =>
      obtain ⟨a, ha', e'⟩ := r2
      simp only [backC] at h4
      split at h4
      · rename_i k2 e2
        cases h4
        refine ⟨a, ?_, e'⟩
        unfold pickA at ha'
        rw [List.getElem?_map, e2] at ha'
        cases ha'
        have h5 := List.getElem?_eq_getElem (hki k2 (List.mem_of_getElem? e2))
        show A[k2]? = some (A.getD k2 0)
        rw [getD_of h5]; exact h5
      · cases h4
  · cases g
theorem fnD_len {N n : Nat} {G : GS} : ∀ cs st r, fnD N n G cs st = some r → cs.length = n := fun cs st r h => by
  unfold fnD at h
  split at h
  · assumption
  · cases h
end
end DL
/-! DF: what is walked; for; while; comprehensions. -/
namespace DL
open PySem PySem.Spec PyProof.Rows L2

/-- what a loop goes over: items that stay, or a list of the store -/
inductive Src where
  | items (ds : List D) | sto (k : Nat)
def itemAt (st : Sto) : Src → Nat → Option (Option D)
  | .items ds, i => some ds[i]?
  | .sto k, i => match st[k]? with
    | some (.lst cs) => match cs[i]? with
      | some (.d x) => some (some x)
      | some (.p _) => none
      | none => some none
    | _ => none
def srcLen (st : Sto) : Src → Nat
  | .items ds => ds.length
  | .sto k => match st[k]? with
    | some (.lst ds) => ds.length
    | _ => 0
abbrev GI := Env → Sto → Option (Src × Sto)
structure WalkOf (K : PySem.W.Frag) (A0 : List Addr) (F0 : Hp) (J : It) (src : Src) : Prop where
  stop : ∀ (F H : Hp) (B : List Addr) (st : Sto) (i : Nat), Same F0 F → SS K F H (A0 ++ B) st → itemAt st src i = some none → J.stop i H
  go : ∀ (F H : Hp) (B : List Addr) (st : Sto) (i : Nat) (x : D), Same F0 F → SS K F H (A0 ++ B) st → itemAt st src i = some (some x) →
    J.go i H ∧ ∀ v H', J.yld i H v H' → ∃ F', Grow (A0 ++ B) F H F' H' ∧ SS K F' H' (A0 ++ B) st ∧ Rep K F' x v
def tDI (K : PySem.W.Frag) (G : GI) : TI := fun σ H R => ∃ F A ρ st src st', SS K F H A st ∧ SL K F A σ ρ ∧ G ρ st = some (src, st') ∧
  ∀ J F' H', Grow A F H F' H' → SS K F' H' A st' → WalkOf K A F' J src → R J H'
section
variable {X : Cx} {pos : Pos} {tg : Expr}
theorem pi_imp {e : Expr} {t u : TI} (h : PI X tg e t) (q : ∀ σ H R, u σ H R → t σ H R) : PI X tg e u := ⟨fun pins s σ H R I z => h.run pins s σ H R I (q σ H R z)⟩

/-! ### a list or a tuple -/
theorem sqt_inj_len {i : Nat} {vs : List V} {x : V} (h : vs[i]? = some x) : i < vs.length := (List.getElem?_eq_some_iff.mp h).1
theorem walk_l {K : PySem.W.Frag} {A : List Addr} {F : Hp} {a : Addr} {vs : List V} {ds : List D} (h : SqL K F a vs) (r : Reps K F ds vs) : WalkOf K A F (Itl K a) (.items ds) where
  stop := fun F1 H B st i e S hi => by
    simp only [itemAt, Option.some.injEq] at hi
    exact ⟨vs, S.ex.seq (e.seq h), by rw [← r.len]; exact List.getElem?_eq_none_iff.mp hi⟩
  go := fun F1 H B st i x e S hi => by
    simp only [itemAt, Option.some.injEq] at hi
    obtain ⟨v, hv, rv⟩ := (r.mono e).get hi
    refine ⟨⟨vs, v, S.ex.seq (e.seq h), hv⟩, fun w H' ⟨e1, y⟩ => ?_⟩
    subst e1
    have : some v = some w := hv.symm.trans (y vs (S.ex.seq (e.seq h)))
    cases this
    exact ⟨F1, .refl, S, rv⟩
theorem walk_t {K : PySem.W.Frag} {A : List Addr} {F : Hp} {a : Addr} {vs : List V} {ds : List D} (h : SqT K F a vs) (r : Reps K F ds vs) : WalkOf K A F (Itt K a) (.items ds) where
  stop := fun F1 H B st i e S hi => by
    simp only [itemAt, Option.some.injEq] at hi
    exact ⟨vs, same_sqt S.ex (same_sqt e h), by rw [← r.len]; exact List.getElem?_eq_none_iff.mp hi⟩
  go := fun F1 H B st i x e S hi => by
    simp only [itemAt, Option.some.injEq] at hi
    obtain ⟨v, hv, rv⟩ := (r.mono e).get hi
    refine ⟨⟨vs, v, same_sqt S.ex (same_sqt e h), hv⟩, fun w H' ⟨e1, y⟩ => ?_⟩
    subst e1
    have : some v = some w := hv.symm.trans (y vs (same_sqt S.ex (same_sqt e h)))
    cases this
    exact ⟨F1, .refl, S, rv⟩
theorem walk_p {K : PySem.W.Frag} {A : List Addr} {F : Hp} {a : Addr} {k : Nat} (ha : A[k]? = some a) : WalkOf K A F (Itl K a) (.sto k) where
  stop := fun F1 H B st i e S hi => by
    simp only [itemAt] at hi
    split at hi
    · rename_i cs e1
      split at hi
      · cases hi
      · cases hi
      · rename_i e2
        have ha' : (A ++ B)[k]? = some a := by rw [List.getElem?_append_left (List.getElem?_eq_some_iff.mp ha).1]; exact ha
        obtain ⟨vs, h1, h2⟩ := S.obj k a _ ha' e1
        exact ⟨vs, SqL.of h1, by rw [← h2.len]; exact List.getElem?_eq_none_iff.mp e2⟩
    · cases hi
  go := fun F1 H B st i x e S hi => by
    simp only [itemAt] at hi
    split at hi
    · rename_i cs e1
      split at hi
      · rename_i y e2
        cases hi
        have ha' : (A ++ B)[k]? = some a := by rw [List.getElem?_append_left (List.getElem?_eq_some_iff.mp ha).1]; exact ha
        obtain ⟨vs, h1, h2⟩ := S.obj k a _ ha' e1
        obtain ⟨v, hv, rv⟩ := h2.get e2
        refine ⟨⟨vs, v, SqL.of h1, hv⟩, fun w H' ⟨e1, y⟩ => ?_⟩
        subst e1
        have : some v = some w := hv.symm.trans (y vs (SqL.of h1))
        cases this
        exact ⟨F1, .refl, S, rv⟩
      · cases hi
      · cases hi
    · cases hi
def iV (a : GE) : GI := fun ρ st => (a ρ st).bind fun p => match p.1 with
  | .d (.tup ds) => some (.items ds, p.2)
  | .d (.lst ds) => some (.items ds, p.2)
  | .d (.wls ds) => some (.items ds, p.2)
  | .p k => match p.2[k]? with
    | some (.lst _) => some (.sto k, p.2)
    | _ => none
  | _ => none
theorem di_v {l : Expr} {a : GE} (hl : PE X l (tD X.K a)) : PI X tg l (tDI X.K (iV a)) := ⟨fun pins s σ H R I ⟨F, A, ρ, st, src, st', S, L, g, k⟩ => by
  obtain ⟨⟨c, st1⟩, h1, g⟩ := bind_some g
  dsimp only at g
  split at g
  · cases g
    refine (pi_tup hl).run pins s σ H R I ⟨F, A, ρ, st, _, _, S, L, h1, fun v F1 H1 g1 S1 r1 => ?_⟩
    cases r1 with
    | tup hs hr => exact ⟨_, rfl, ⟨_, same_sqt S1.ex hs⟩, k _ F1 H1 g1 S1 (walk_t hs hr)⟩
  · cases g
    refine (pi_list hl).run pins s σ H R I ⟨F, A, ρ, st, _, _, S, L, h1, fun v F1 H1 g1 S1 r1 => ?_⟩
    cases r1 with
    | lst hs hr => exact ⟨_, rfl, ⟨_, SqL.of (S1.ex _ _ hs)⟩, k _ F1 H1 g1 S1 (walk_l (SqL.of hs) hr)⟩
  · cases g
    refine (pi_list hl).run pins s σ H R I ⟨F, A, ρ, st, _, _, S, L, h1, fun v F1 H1 g1 S1 r1 => ?_⟩
    cases r1 with
    | wls hs hr => exact ⟨_, rfl, ⟨_, S1.ex.seq hs⟩, k _ F1 H1 g1 S1 (walk_l hs hr)⟩
  · split at g
    · rename_i ds e1
      cases g
      refine (pi_list hl).run pins s σ H R I ⟨F, A, ρ, st, _, _, S, L, h1, fun v F1 H1 g1 S1 r1 => ?_⟩
      obtain ⟨a', ha, e⟩ := r1
      obtain ⟨vs, h2, _⟩ := S1.obj _ a' _ ha e1
      exact ⟨a', e, ⟨vs, SqL.of h2⟩, k _ F1 H1 g1 S1 (walk_p ha)⟩
    · cases g
  · cases g⟩
/-! ### ranges -/
def rngD (lo : Int) (n : Nat) : List D := (List.range n).map fun i => .int (lo + (i : Nat))
theorem walk_r {K : PySem.W.Frag} {A : List Addr} {F : Hp} {lo : Int} {n : Nat} : WalkOf K A F (Itr lo n) (.items (rngD lo n)) where
  stop := fun F1 H B st i e S hi => by
    simp only [itemAt, Option.some.injEq] at hi
    have := List.getElem?_eq_none_iff.mp hi
    show n ≤ i
    simpa [rngD] using this
  go := fun F1 H B st i x e S hi => by
    simp only [itemAt, Option.some.injEq] at hi
    have hl := (List.getElem?_eq_some_iff.mp hi).1
    have hl : i < n := by simpa [rngD] using hl
    refine ⟨hl, fun w H' ⟨e1, y⟩ => ?_⟩
    subst e1 y
    have : x = .int (lo + (i : Nat)) := by
      unfold rngD at hi
      rw [List.getElem?_map, List.getElem?_range hl] at hi
      cases hi
      rfl
    subst this
    exact ⟨F1, .refl, S, .int⟩
def iR1 (a : GA) : GI := fun ρ st => (a ρ st).bind fun p => match p.1 with
  | [.d (.int j)] => if j.natAbs < 1000000 then some (.items (rngD 0 j.toNat), p.2) else none
  | _ => none
def iR2 (a : GA) : GI := fun ρ st => (a ρ st).bind fun p => match p.1 with
  | [.d (.int i), .d (.int j)] => if i.natAbs < 1000000 ∧ j.natAbs < 1000000 then some (.items (rngD i (j - i).toNat), p.2) else none
  | _ => none
theorem di_r1 {a : Expr} {ga : GA} {p : Pos} (hg : Gl X "range") (hm : X.mg "range" = none) (ha : PA X [a] (tDA X.K ga)) (hs : starEach [a] X.env = [(false, eval a X.env)] := by rfl) : PI X tg (.Call (.Name "range" p) [a] [] pos) (tDI X.K (iR1 ga)) := pi_imp (pi_range1 hg hm ha hs) fun σ H R ⟨F, A, ρ, st, src, st', S, L, g, k⟩ => by
  obtain ⟨⟨cs, st1⟩, h1, g⟩ := bind_some g
  refine ⟨F, A, ρ, st, cs, st1, S, L, h1, fun vs F1 H1 g1 S1 r1 => ?_⟩
  dsimp only at g
  split at g
  · split at g
    · rename_i j hj
      cases g
      cases r1 with
      | cons r rr =>
        cases rr
        cases r
        exact ⟨_, rfl, by omega, by omega, k _ F1 H1 g1 S1 walk_r⟩
    · cases g
  · cases g
theorem di_r2 {a b : Expr} {ga : GA} {p : Pos} (hg : Gl X "range") (hm : X.mg "range" = none) (ha : PA X [a, b] (tDA X.K ga)) (hs : starEach [a, b] X.env = [(false, eval a X.env), (false, eval b X.env)] := by rfl) (hs2 : starEach [b] X.env = [(false, eval b X.env)] := by rfl) : PI X tg (.Call (.Name "range" p) [a, b] [] pos) (tDI X.K (iR2 ga)) := pi_imp (pi_range2 hg hm ha hs hs2) fun σ H R ⟨F, A, ρ, st, src, st', S, L, g, k⟩ => by
  obtain ⟨⟨cs, st1⟩, h1, g⟩ := bind_some g
  refine ⟨F, A, ρ, st, cs, st1, S, L, h1, fun vs F1 H1 g1 S1 r1 => ?_⟩
  dsimp only at g
  split at g
  · split at g
    · rename_i i j hj
      cases g
      cases r1 with
      | cons r rr =>
        cases rr with
        | cons r' rr =>
          cases rr
          cases r
          cases r'
          exact ⟨_, _, rfl, by omega, k _ F1 H1 g1 S1 walk_r⟩
    · cases g
  · cases g

/-! ### for -/
def forG (t : Tg) (body : GS) (src : Src) : Nat → Nat → Env → Sto → Option Res
  | 0, _, _, _ => none
  | n + 1, i, ρ, st => (itemAt st src i).bind fun o => match o with
    | none => some (.nx ρ st)
    | some x => (bindTg t x ρ).bind fun ρ1 => (body ρ1 st).bind fun r => match r with
      | .nx ρ2 st2 => forG t body src n (i + 1) ρ2 st2
      | .ct ρ2 st2 => forG t body src n (i + 1) ρ2 st2
      | .bk ρ2 st2 => some (.nx ρ2 st2)
      | .rt c st2 => some (.rt c st2)
def sFor (t : Tg) (gi : GI) (body : GS) : GS := fun ρ st => (gi ρ st).bind fun p => forG t body p.1 (srcLen p.2 p.1 + 1) 0 ρ p.2
theorem ds_for {iter : Expr} {body : List Stmt} {gi : GI} {g : TG} {t : Tg} {gb : GS} (hp : PassesOwn (model X.prog X.w) X.A X.env X.xe) (hc : X.calm = true) (hi : PI X tg iter (tDI X.K gi)) (ht : TgOk X.K g t) (hg : PG X tg g) (hb : PSs X body (tDS X.K gb))
    (hs : ∀ x, foldedSetIterable iter X.env x = pure x := by intro _; rfl) : PS X (.For tg iter body [] pos) (tDS X.K (sFor t gi gb)) := ps_imp (ps_for hp hc hi hg hb hs) fun Dn σ H ⟨F, A, ρ, st, r, S, L, h, k⟩ => by
  obtain ⟨⟨src, st1⟩, h1, h⟩ := bind_some h
  refine ⟨F, A, ρ, st, src, st1, S, L, h1, fun J F1 H1 g1 S1 w1 => ?_⟩
  refine ⟨fun i m σ' H' => ∃ F' B ρ' st', GrowS A F1 H1 (A ++ B) F' H' ∧ SS X.K F' H' (A ++ B) st' ∧ SL X.K F' (A ++ B) σ' ρ' ∧ forG t gb src m i ρ' st' = some r,
    ⟨_, F1, [], ρ, st1, by rw [List.append_nil]; exact .refl, by rw [List.append_nil]; exact S1, by rw [List.append_nil]; exact L.mono g1.ex, h⟩, fun i m σ' H' ⟨F', B, ρ', st', g', S', L', h'⟩ => ?_⟩
  cases m with
  | zero => cases h'
  | succ m =>
    obtain ⟨o, h2, h'⟩ := bind_some h'
    have k' : Fin X.K F' H' (A ++ B) Dn r := k.mono ((GrowS.of g1).trans g')
    cases o with
    | none =>
      cases h'
      exact .inl ⟨w1.stop F' H' B st' i g'.g.ex S' h2, k' σ' F' H' (A ++ B) .refl S' L'⟩
    | some x =>
      obtain ⟨ρ1, h3, h'⟩ := bind_some h'
      obtain ⟨r1, h4, h'⟩ := bind_some h'
      obtain ⟨go, yl⟩ := w1.go F' H' B st' i x g'.g.ex S' h2
      refine .inr ⟨go, fun σ2 H2 => ∃ F2 B2 ρ2 st2, GrowS A F1 H1 (A ++ B2) F2 H2 ∧ SS X.K F2 H2 (A ++ B2) st2 ∧ SL X.K F2 (A ++ B2) σ2 ρ2 ∧ forG t gb src m (i + 1) ρ2 st2 = some r, fun σ2 H2 w => ⟨m, Nat.lt_succ_self m, w⟩, fun v H2 hy => ?_⟩
      obtain ⟨F2, g2, S2, rv⟩ := yl v H2 hy
      refine ht x v F2 H2 (A ++ B) σ' ρ' ρ1 _ S2.ex rv (L'.mono g2.ex) h3 fun σ3 L3 _ => ?_
      refine ⟨F2, A ++ B, ρ1, st', r1, S2, L3, h4, ?_⟩
      have kk := k'.mono (GrowS.of g2)
      have gg : GrowS A F1 H1 (A ++ B) F2 H2 := g'.trans (.of g2)
      cases r1 with
      | nx ρ2 st2 =>
        intro σ4 F4 H4 A4 g4 S4 L4
        obtain ⟨B4, e4, n4⟩ := g4.app
        subst e4
        exact ⟨F4, B ++ B4, ρ2, st2, by rw [← List.append_assoc]; exact gg.trans g4, by rw [← List.append_assoc]; exact S4, by rw [← List.append_assoc]; exact L4, h'⟩
      | ct ρ2 st2 =>
        intro σ4 F4 H4 A4 g4 S4 L4
        obtain ⟨B4, e4, n4⟩ := g4.app
        subst e4
        exact ⟨F4, B ++ B4, ρ2, st2, by rw [← List.append_assoc]; exact gg.trans g4, by rw [← List.append_assoc]; exact S4, by rw [← List.append_assoc]; exact L4, h'⟩
      | bk ρ2 st2 => cases h'; exact kk
      | rt c st2 => cases h'; exact kk

/-! ### while -/
def whG (t : GT) (body : GS) : Nat → Env → Sto → Option Res
  | 0, _, _ => none
  | n + 1, ρ, st => (t ρ st).bind fun p => if p.1 = true then (body ρ p.2).bind fun r => match r with
      | .nx ρ2 st2 => whG t body n ρ2 st2
      | .ct ρ2 st2 => whG t body n ρ2 st2
      | .bk ρ2 st2 => some (.nx ρ2 st2)
      | .rt c st2 => some (.rt c st2)
    else some (.nx ρ p.2)
def sWh (N : Nat) (t : GT) (body : GS) : GS := fun ρ st => whG t body N ρ st
theorem ds_wh (N : Nat) {c : Expr} {body : List Stmt} {t : GT} {gb : GS} (hp : PassesOwn (model X.prog X.w) X.A X.env X.xe) (hc : PT X c (tDT X.K t)) (hb : PSs X body (tDS X.K gb)) : PS X (.While c body [] pos) (tDS X.K (sWh N t gb)) := ps_imp (ps_while hp hc hb) fun Dn σ H ⟨F, A, ρ, st, r, S, L, h, k⟩ => by
  refine ⟨fun m σ' H' => ∃ F' A' ρ' st', GrowS A F H A' F' H' ∧ SS X.K F' H' A' st' ∧ SL X.K F' A' σ' ρ' ∧ whG t gb m ρ' st' = some r, ⟨N, F, A, ρ, st, .refl, S, L, h⟩, fun m σ' H' ⟨F', A', ρ', st', g', S', L', h'⟩ => ?_⟩
  cases m with
  | zero => cases h'
  | succ m =>
    obtain ⟨⟨b, st1⟩, h1, h'⟩ := bind_some h'
    refine ⟨F', A', ρ', st', b, st1, S', L', h1, fun F1 H1 g1 S1 => ?_⟩
    have kk : Fin X.K F1 H1 A' Dn r := k.mono (g'.trans (.of g1))
    have gg : GrowS A F H A' F1 H1 := g'.trans (.of g1)
    dsimp only at h'
    cases b with
    | false =>
      rw [if_neg Bool.false_ne_true] at h'
      cases h'
      exact iteF (kk σ' F1 H1 A' .refl S1 (L'.mono g1.ex))
    | true =>
      rw [if_pos rfl] at h'
      obtain ⟨r1, h2, h'⟩ := bind_some h'
      refine iteT ⟨fun σ2 H2 => ∃ F2 A2 ρ2 st2, GrowS A F H A2 F2 H2 ∧ SS X.K F2 H2 A2 st2 ∧ SL X.K F2 A2 σ2 ρ2 ∧ whG t gb m ρ2 st2 = some r, fun σ2 H2 w => ⟨m, Nat.lt_succ_self m, w⟩, F1, A', ρ', st1, r1, S1, L'.mono g1.ex, h2, ?_⟩
      cases r1 with
      | nx ρ2 st2 => exact fun σ4 F4 H4 A4 g4 S4 L4 => ⟨F4, A4, ρ2, st2, gg.trans g4, S4, L4, h'⟩
      | ct ρ2 st2 => exact fun σ4 F4 H4 A4 g4 S4 L4 => ⟨F4, A4, ρ2, st2, gg.trans g4, S4, L4, h'⟩
      | bk ρ2 st2 => cases h'; exact kk
      | rt c st2 => cases h'; exact kk

/-! ### comprehensions -/
def wipeE : Env → List Nat → Env
  | ρ, [] => ρ
  | ρ, v :: vs => (wipeE ρ vs).set v none
theorem SL.none {K : PySem.W.Frag} {F : Hp} {A : List Addr} {σ : L2.St} {ρ : Env} {i : Nat} (h : SL K F A σ ρ) : SL K F A (σ.set i none) (ρ.set i none) := ⟨by rw [List.length_set, List.length_set, h.len], fun j c q => by
  by_cases e : j = i
  · subst e
    by_cases hl : j < ρ.length
    · rw [List.getElem?_set_self hl] at q; cases q
    · rw [List.getElem?_eq_none (by rw [List.length_set]; omega)] at q; cases q
  · rw [List.getElem?_set_ne (Ne.symm e)] at q
    obtain ⟨w, h1, h2⟩ := h.get j c q
    exact ⟨w, by rw [List.getElem?_set_ne (Ne.symm e)]; exact h1, h2⟩⟩
theorem SL.wipe {K : PySem.W.Frag} {F : Hp} {A : List Addr} {σ : L2.St} {ρ : Env} (h : SL K F A σ ρ) : ∀ vs : List Nat, SL K F A (L2.wipe σ vs) (wipeE ρ vs)
  | [] => h
  | v :: vs => (SL.wipe h vs).none
def lcG (t : Tg) (test : GT) (elt : GE) (src : Src) (ρ : Env) : Nat → Nat → Sto → List D → Option (List D × Sto)
  | 0, _, _, _ => none
  | n + 1, i, st, acc => (itemAt st src i).bind fun o => match o with
    | none => some (acc, st)
    | some x => (bindTg t x ρ).bind fun ρ1 => (test ρ1 st).bind fun p => if p.1 = true then (elt ρ1 p.2).bind fun q => (frz 4 q.1 q.2).bind fun y => if acc.length < 1000000 then lcG t test elt src ρ n (i + 1) y.2 (acc ++ [y.1]) else none
      else lcG t test elt src ρ n (i + 1) p.2 acc
def gYes : GT := fun _ st => some (true, st)
def eLc (vs : List Nat) (t : Tg) (gi : GI) (test : GT) (elt : GE) : GE := fun ρ st => (gi ρ st).bind fun p => (lcG t test elt p.1 (wipeE ρ vs) (srcLen p.2 p.1 + 1) 0 p.2 []).map fun q => (.d (.lst q.1), q.2)
theorem SS.other {K : PySem.W.Frag} {F H : Hp} {A : List Addr} {st : Sto} {a : Addr} {o : HO} (S : SS K F H A st) (hF : F a = none) (hA : a ∉ A) : SS K F (upd H a o) A st :=
  ⟨fun b u h => by rw [upd_ne (ne_of_none h hF)]; exact S.ex b u h, S.len, S.nd, S.fr, fun k b u hk hu => (S.obj k b u hk hu).mono (Same.refl _) fun w hw => by
    have : b ≠ a := fun z => by subst z; exact hA (List.mem_of_getElem? hk)
    rw [upd_ne this]; exact hw⟩
theorem Grow.other {A : List Addr} {F H F' H' : Hp} {a : Addr} {o : HO} (g : Grow A F H F' H') (hn : H a = none) : Grow A F H F' (upd H' a o) :=
  ⟨g.ex, g.new, fun b u hb n => by rw [upd_ne (ne_of_none hb hn)]; exact g.keep b u hb n, fun b hb => by
    by_cases e : b = a
    · subst e; rw [upd_same]; exact fun z => nomatch z
    · rw [upd_ne e]; exact g.dom b hb⟩
theorem lc_loop {K : PySem.W.Frag} {vs : List Nat} {t : Tg} {test : GT} {elt : GE} {g : TG} {σ : L2.St} {F0 H0 F1 H1 : Hp} {A : List Addr} {ρw : Env} {st1 st2 : Sto} {acc0 ds : List D} {us0 : List V} {src : Src} {J : It} {Da : Addr} {fuel : Nat} {Nd : Hp → Prop} (ht : TgOk K g t) (hv : ∀ i ∈ t.slots, i ∈ vs)
    (w1 : WalkOf K A F1 J src) (hH0 : H0 Da = none) (g1 : Grow A F0 H0 F1 H1) (S1 : SS K F1 H1 A st1) (hA : Da ∉ A) (L1 : SL K F1 A (L2.wipe σ vs) ρw) (hD : H1 Da = some (.lst us0)) (hF : F1 Da = none) (hr0 : Reps K F1 acc0 us0)
    (h0 : lcG t test elt src ρw fuel 0 st1 acc0 = some (ds, st2)) (hk : ∀ F' H' us, Grow A F0 H0 F' H' → SS K F' H' A st2 → H' Da = some (.lst us) → F' Da = none → Same F1 F' → Reps K F' ds us → Nd H') :
    ∃ W : Nat → Nat → Hp → Prop, (∃ m, W 0 m H1) ∧ ∀ i m H, W i m H → (J.stop i H ∧ Nd H) ∨ (J.go i H ∧ ∃ Nx : Hp → Prop, (∀ H', Nx H' → ∃ m', m' < m ∧ W (i + 1) m' H') ∧ ∀ x H', J.yld i H x H' → g x (L2.wipe σ vs) H' fun σ2 H2 => L2.wipe σ2 vs = L2.wipe σ vs ∧ tDT K test σ2 H2 fun b H3 =>
      if b = true then tD K elt σ2 H3 fun y H4 => ∃ acc, H4 Da = some (.lst acc) ∧ acc.length < sizeLine ∧ Nx (upd H4 Da (.lst (acc ++ [y]))) else Nx H3) := by
  refine ⟨fun i m H' => ∃ F' stc acc us, Grow A F0 H0 F' H' ∧ SS K F' H' A stc ∧ H' Da = some (.lst us) ∧ F' Da = none ∧ Same F1 F' ∧ Reps K F' acc us ∧ lcG t test elt src ρw m i stc acc = some (ds, st2),
    ⟨fuel, F1, st1, acc0, us0, g1, S1, hD, hF, Same.refl F1, hr0, h0⟩, fun i m H' ⟨F', stc, acc, us, g', S', hDa, hFD, e1, hr, h'⟩ => ?_⟩
  cases m with
  | zero => cases h'
  | succ m =>
    obtain ⟨o, h2, h'⟩ := bind_some h'
    have S'' : SS K F' H' (A ++ []) stc := by rw [List.append_nil]; exact S'
    cases o with
    | none =>
      cases h'
      exact .inl ⟨w1.stop F' H' [] _ i e1 S'' h2, hk F' H' us g' S' hDa hFD e1 hr⟩
    | some x =>
      obtain ⟨ρ1, h3, h'⟩ := bind_some h'
      obtain ⟨⟨b, st3⟩, h4, h'⟩ := bind_some h'
      obtain ⟨go, yl⟩ := w1.go F' H' [] stc i x e1 S'' h2
      refine .inr ⟨go, fun H2 => ∃ F2 st2' acc us, Grow A F0 H0 F2 H2 ∧ SS K F2 H2 A st2' ∧ H2 Da = some (.lst us) ∧ F2 Da = none ∧ Same F1 F2 ∧ Reps K F2 acc us ∧ lcG t test elt src ρw m (i + 1) st2' acc = some (ds, st2), fun H2 w => ⟨m, Nat.lt_succ_self m, w⟩, fun v H2 hy => ?_⟩
      obtain ⟨F2, g2, S2, rv⟩ := yl v H2 hy
      rw [List.append_nil] at g2 S2
      have stay : ∀ {Fa Ha Fb Hb : Hp} {ws : List V}, Grow A Fa Ha Fb Hb → Ha Da = some (.lst ws) → Fa Da = none → Hb Da = some (.lst ws) ∧ Fb Da = none := fun {Fa Ha Fb Hb ws} gg e1 e2 => ⟨gg.keep _ _ e1 hA, by
        cases q : Fb Da with
        | none => rfl
        | some o =>
          rcases gg.new Da (by rw [q]; exact fun z => nomatch z) with z | z | z
          · exact absurd e2 z
          · rw [e1] at z; cases z
          · exact absurd z hA⟩
      obtain ⟨hD2, hFD2⟩ := stay g2 hDa hFD
      refine ht x v F2 H2 A (L2.wipe σ vs) ρw ρ1 _ S2.ex rv (L1.mono (e1.trans g2.ex)) h3 fun σ3 L3 wv => ⟨(wv vs hv).trans wipe_wipe, ?_⟩
      refine ⟨F2, A, ρ1, stc, b, st3, S2, L3, h4, fun F3 H3 g3 S3 => ?_⟩
      obtain ⟨hD3, hFD3⟩ := stay g3 hD2 hFD2
      dsimp only at h'
      cases b with
      | false =>
        rw [if_neg Bool.false_ne_true] at h'
        exact iteF ⟨F3, st3, acc, us, (g'.trans g2).trans g3, S3, hD3, hFD3, (e1.trans g2.ex).trans g3.ex, (hr.mono g2.ex).mono g3.ex, h'⟩
      | true =>
        rw [if_pos rfl] at h'
        obtain ⟨⟨c, st4⟩, h5, h'⟩ := bind_some h'
        obtain ⟨⟨yd, st5⟩, h6, h'⟩ := bind_some h'
        refine iteT ⟨F3, A, ρ1, st3, c, st4, S3, L3.mono g3.ex, h5, fun y F4 H4 g4 S4 r4 => ?_⟩
        obtain ⟨F5, f5, r5⟩ := frz_ok 4 F4 st4 c y yd st5 S4 r4 h6
        have g5 := g4.trans f5.grow
        obtain ⟨hD5, hFD5⟩ := stay g5 hD3 hFD3
        dsimp only at h'
        split at h'
        · rename_i hl
          have hr5 := ((hr.mono g2.ex).mono g3.ex).mono g5.ex
          refine ⟨us, hD5, by rw [← hr5.len]; exact lim6' hl, F5, st5, acc ++ [yd], us ++ [y], ?_, f5.ss.other hFD5 hA, upd_same, hFD5, ((e1.trans g2.ex).trans g3.ex).trans g5.ex, hr5.app (.cons r5 .nil), h'⟩
          exact (((g'.trans g2).trans g3).trans g5).other hH0
        · cases h'
theorem lc_imp {K : PySem.W.Frag} {vs : List Nat} {t : Tg} {gi : GI} {test : GT} {elt : GE} {g : TG} {σ : L2.St} {H F : Hp} {A : List Addr} {ρ : Env} {st : Sto} {ds : List D} {st' : Sto} {Q : VK} (ht : TgOk K g t) (hv : ∀ i ∈ t.slots, i ∈ vs)
    (S : SS K F H A st) (L : SL K F A σ ρ) (h : eLc vs t gi test elt ρ st = some (.d (.lst ds), st'))
    (k : ∀ a us F' H', Grow A F H F' H' → SS K F' H' A st' → F' a = none → H a = none → H' a = some (.lst us) → a ∉ A → Reps K F' ds us → Q (.ref a) H') : tLc (tDI K gi) g (tDT K test) (tD K elt) vs σ H Q := by
  obtain ⟨⟨src, st1⟩, h1, h⟩ := bind_some h
  have hgi := h1
  simp only [Option.map_eq_some_iff, Prod.mk.injEq, C.d.injEq, D.lst.injEq] at h
  obtain ⟨⟨ds', st2⟩, h0, rfl, rfl⟩ := h
  clear h1
  refine ⟨F, A, ρ, st, src, st1, S, L, hgi, fun J F1 H1 g1 S1 w1 Da hD => ?_⟩
  have hF1 : F1 Da = none := S1.ex.free hD
  have hA : Da ∉ A := S1.fresh hD
  have hH : H Da = none := by
    cases q : H Da with
    | none => rfl
    | some o => exact absurd hD (g1.dom Da (by rw [q]; exact fun z => nomatch z))
  exact lc_loop ht hv w1 hH (g1.other hH) (S1.other hF1 hA) hA ((L.mono g1.ex).wipe vs) upd_same hF1 .nil h0 fun F' H' us g' S' hDa hFD _ hr => k Da us F' H' g' S' hFD hH hDa hA hr
theorem lc_lst {vs : List Nat} {t : Tg} {gi : GI} {test : GT} {elt : GE} {ρ : Env} {st st' : Sto} {c : C} (h : eLc vs t gi test elt ρ st = some (c, st')) : ∃ ds, c = .d (.lst ds) := by
  obtain ⟨⟨src, st1⟩, h1, h⟩ := bind_some h
  simp only [Option.map_eq_some_iff, Prod.mk.injEq] at h
  obtain ⟨q, _, e, _⟩ := h
  exact ⟨_, e.symm⟩
theorem yes_imp {K : PySem.W.Frag} : ∀ σ H Q, tDT K gYes σ H Q → tYes σ H Q := fun σ H Q ⟨F, A, ρ, st, b, st', S, L, g, k⟩ => by
  cases g
  exact k F H .refl S
theorem pts_imp {e : List Expr} {t u : TT} (h : PTs X e t) (q : ∀ σ H Q, u σ H Q → t σ H Q) : PTs X e u := ⟨fun pins s σ H Q I z => h.run pins s σ H Q I (q σ H Q z)⟩
theorem dts_n : PTs X [] (tDT X.K gYes) := pts_imp pts_nil yes_imp
theorem dts_1 {c : Expr} {t : GT} (h : PT X c (tDT X.K t)) : PTs X [c] (tDT X.K t) := pts_one h
theorem lc_frozen {K : PySem.W.Frag} {F F' H H' : Hp} {A : List Addr} {st' : Sto} {a : Addr} {us : List V} {ds : List D} {c : C} {Q : VK} (g : Grow A F H F' H') (S : SS K F' H' A st') (hF : F' a = none) (hH : H a = none) (hH' : H' a = some (.lst us)) (hA : a ∉ A) (hr : Reps K F' ds us)
    (k : ∀ v F' H', Grow A F H F' H' → SS K F' H' A st' → RepC K F' A (.d (.lst ds)) v → Q v H') : Q (.ref a) H' := by
  have e2 : Same F' (upd F' a (.lst us)) := fun b u h => by rw [upd_ne (ne_of_none h hF)]; exact h
  refine k _ (upd F' a (.lst us)) H' ⟨g.ex.trans e2, fun b hb => ?_, g.keep, g.dom⟩ ⟨fun b u h => ?_, S.len, S.nd, fun k b u hk hu hf => ?_, fun k b u hk hu => (S.obj k b u hk hu).mono e2 fun _ z => z⟩ (.lst upd_same (hr.mono e2))
  · by_cases e : b = a
    · subst e; exact .inr (.inl hH)
    · rw [upd_ne e] at hb; exact g.new b hb
  · by_cases e : b = a
    · subst e; rw [upd_same] at h; cases h; exact hH'
    · rw [upd_ne e] at h; exact S.ex b u h
  · rw [upd_ne (fun e => hA (by rw [← e]; exact List.mem_of_getElem? hk))]; exact S.fr k b u hk hu hf
/-- [e for a in xs for b in ys] -/
def lcG2 (t : Tg) (gi1 : GI) (vs1 : List Nat) (t1 : Tg) (test1 : GT) (elt : GE) (src : Src) (ρw : Env) : Nat → Nat → Sto → List D → Option (List D × Sto)
  | 0, _, _, _ => none
  | n + 1, i, st, acc => (itemAt st src i).bind fun o => match o with
    | none => some (acc, st)
    | some x => (bindTg t x ρw).bind fun ρ1 => (gi1 ρ1 st).bind fun p => (lcG t1 test1 elt p.1 (wipeE ρ1 vs1) (srcLen p.2 p.1 + 1) 0 p.2 acc).bind fun q => lcG2 t gi1 vs1 t1 test1 elt src ρw n (i + 1) q.2 q.1
def eLc2 (vs vs1 : List Nat) (t t1 : Tg) (gi gi1 : GI) (test1 : GT) (elt : GE) : GE := fun ρ st => (gi ρ st).bind fun p => (lcG2 t gi1 vs1 t1 test1 elt p.1 (wipeE ρ vs) (srcLen p.2 p.1 + 1) 0 p.2 []).map fun q => (.d (.lst q.1), q.2)
theorem lc2_imp {K : PySem.W.Frag} {vs vs1 : List Nat} {t t1 : Tg} {gi gi1 : GI} {test1 : GT} {elt : GE} {g gg1 : TG} {σ : L2.St} {H F : Hp} {A : List Addr} {ρ : Env} {st : Sto} {ds : List D} {st' : Sto} {Q : VK} (ht : TgOk K g t) (hv : ∀ i ∈ t.slots, i ∈ vs) (ht1 : TgOk K gg1 t1) (hv1 : ∀ i ∈ t1.slots, i ∈ vs1)
    (S : SS K F H A st) (L : SL K F A σ ρ) (h : eLc2 vs vs1 t t1 gi gi1 test1 elt ρ st = some (.d (.lst ds), st'))
    (k : ∀ a us F' H', Grow A F H F' H' → SS K F' H' A st' → F' a = none → H a = none → H' a = some (.lst us) → a ∉ A → Reps K F' ds us → Q (.ref a) H') : tLc2 (tDI K gi) g tYes (tDI K gi1) gg1 (tDT K test1) (tD K elt) vs vs1 σ H Q := by
  obtain ⟨⟨src, st1⟩, h1, h⟩ := bind_some h
  have hgi := h1
  simp only [Option.map_eq_some_iff, Prod.mk.injEq, C.d.injEq, D.lst.injEq] at h
  obtain ⟨⟨ds', st2⟩, h0, rfl, rfl⟩ := h
  clear h1
  refine ⟨F, A, ρ, st, src, st1, S, L, hgi, fun J F1 H1 g1 S1 w1 Da hD => ?_⟩
  have hF1 : F1 Da = none := S1.ex.free hD
  have hA : Da ∉ A := S1.fresh hD
  have hH : H Da = none := by
    cases q : H Da with
    | none => rfl
    | some o => exact absurd hD (g1.dom Da (by rw [q]; exact fun z => nomatch z))
  have L1 : SL K F1 A (L2.wipe σ vs) (wipeE ρ vs) := (L.mono g1.ex).wipe vs
  refine ⟨fun i m H' => ∃ F' stc acc us, Grow A F H F' H' ∧ SS K F' H' A stc ∧ H' Da = some (.lst us) ∧ F' Da = none ∧ Same F1 F' ∧ Reps K F' acc us ∧ lcG2 t gi1 vs1 t1 test1 elt src (wipeE ρ vs) m i stc acc = some (ds', st2),
    ⟨_, F1, st1, [], [], g1.other hH, S1.other hF1 hA, upd_same, hF1, Same.refl F1, .nil, h0⟩, fun i m H' ⟨F', stc, acc, us, g', S', hDa, hFD, e1, hr, h'⟩ => ?_⟩
  cases m with
  | zero => cases h'
  | succ m =>
    obtain ⟨o, h2, h'⟩ := bind_some h'
    have S'' : SS K F' H' (A ++ []) stc := by rw [List.append_nil]; exact S'
    cases o with
    | none =>
      cases h'
      exact .inl ⟨w1.stop F' H' [] _ i e1 S'' h2, k Da us F' H' g' S' hFD hH hDa hA hr⟩
    | some x =>
      obtain ⟨ρ1, h3, h'⟩ := bind_some h'
      obtain ⟨⟨src1, st3⟩, h4, h'⟩ := bind_some h'
      obtain ⟨⟨acc1, st4⟩, h5, h'⟩ := bind_some h'
      obtain ⟨go, yl⟩ := w1.go F' H' [] stc i x e1 S'' h2
      refine .inr ⟨go, fun H2 => ∃ F2 st2' acc us, Grow A F H F2 H2 ∧ SS K F2 H2 A st2' ∧ H2 Da = some (.lst us) ∧ F2 Da = none ∧ Same F1 F2 ∧ Reps K F2 acc us ∧ lcG2 t gi1 vs1 t1 test1 elt src (wipeE ρ vs) m (i + 1) st2' acc = some (ds', st2), fun H2 w => ⟨m, Nat.lt_succ_self m, w⟩, fun v H2 hy => ?_⟩
      obtain ⟨F2, g2, S2, rv⟩ := yl v H2 hy
      rw [List.append_nil] at g2 S2
      have stay : ∀ {Fa Ha Fb Hb : Hp} {ws : List V}, Grow A Fa Ha Fb Hb → Ha Da = some (.lst ws) → Fa Da = none → Hb Da = some (.lst ws) ∧ Fb Da = none := fun {Fa Ha Fb Hb ws} gg e1 e2 => ⟨gg.keep _ _ e1 hA, by
        cases q : Fb Da with
        | none => rfl
        | some o =>
          rcases gg.new Da (by rw [q]; exact fun z => nomatch z) with z | z | z
          · exact absurd e2 z
          · rw [e1] at z; cases z
          · exact absurd z hA⟩
      obtain ⟨hD2, hFD2⟩ := stay g2 hDa hFD
      refine ht x v F2 H2 A (L2.wipe σ vs) (wipeE ρ vs) ρ1 _ S2.ex rv (L1.mono (e1.trans g2.ex)) h3 fun σ3 L3 wv => ⟨(wv vs hv).trans wipe_wipe, ?_⟩
      unfold tYes
      refine iteT ?_
      refine ⟨F2, A, ρ1, stc, src1, st3, S2, L3, h4, fun J1 F3 H3 g3 S3 w3 => ?_⟩
      obtain ⟨hD3, hFD3⟩ := stay g3 hD2 hFD2
      exact lc_loop ht1 hv1 w3 hH ((g'.trans g2).trans g3) S3 hA ((L3.mono g3.ex).wipe vs1) hD3 hFD3 ((hr.mono g2.ex).mono g3.ex) h5 fun F4 H4 us4 g4 S4 hD4 hFD4 e4 hr4 => ⟨F4, st4, acc1, us4, g4, S4, hD4, hFD4, ((e1.trans g2.ex).trans g3.ex).trans e4, hr4, h'⟩
theorem lc2_lst {vs vs1 : List Nat} {t t1 : Tg} {gi gi1 : GI} {test : GT} {elt : GE} {ρ : Env} {st st' : Sto} {c : C} (h : eLc2 vs vs1 t t1 gi gi1 test elt ρ st = some (c, st')) : ∃ ds, c = .d (.lst ds) := by
  obtain ⟨⟨src, st1⟩, h1, h⟩ := bind_some h
  simp only [Option.map_eq_some_iff, Prod.mk.injEq] at h
  obtain ⟨q, _, e, _⟩ := h
  exact ⟨_, e.symm⟩
theorem de_lc2 {elt tg tg1 iter iter1 : Expr} {ifs1 : List Expr} {scope : Scope} {own : List (Str × Nat)} {vs1 : List Nat} {gi gi1 : GI} {g gg1 : TG} {t t1 : Tg} {gt1 : GT} {ge : GE} (hc : X.calm = true) (hN : X.N.Nodup) (hi : PI X tg iter (tDI X.K gi)) (ok : BlkOk X.N X.env.scope scope own) (hvs : ∀ i ∈ vs1, i ∈ own.map (·.2)) (ht : TgOk X.K g t) (hv : ∀ i ∈ t.slots, i ∈ own.map (·.2)) (ht1 : TgOk X.K gg1 t1) (hv1 : ∀ i ∈ t1.slots, i ∈ vs1)
    (hg : ∀ (s : Shared) (H : Hp) (C : Addr) (cl : List (Str × Addr)) (fp : List Addr), PG (X.blk s H scope (compEnvC scope cl C X.env) fp) tg g)
    (hi1 : ∀ (s : Shared) (H : Hp) (C : Addr) (cl : List (Str × Addr)) (fp : List Addr), PI (X.blk s H scope (compEnvC scope cl C X.env) fp) tg1 iter1 (tDI X.K gi1)) (hg1 : ∀ (s : Shared) (H : Hp) (C : Addr) (cl : List (Str × Addr)) (fp : List Addr), PG (X.blk s H scope (compEnvC scope cl C X.env) fp) tg1 gg1)
    (ht1t : ∀ (s : Shared) (H : Hp) (C : Addr) (cl : List (Str × Addr)) (fp : List Addr), PTs (X.blk s H scope (compEnvC scope cl C X.env) fp) ifs1 (tDT X.K gt1)) (he : ∀ (s : Shared) (H : Hp) (C : Addr) (cl : List (Str × Addr)) (fp : List Addr), PE (X.blk s H scope (compEnvC scope cl C X.env) fp) elt (tD X.K ge)) (hs : ∀ x, foldedSetIterable iter X.env x = pure x := by intro _; rfl) (hs1 : ∀ env x, foldedSetIterable iter1 env x = pure x := by intro _ _; rfl) :
    PE X (.ListComp elt [⟨tg, iter, [], 0⟩, ⟨tg1, iter1, ifs1, 0⟩] scope pos) (tD X.K (eLc2 (own.map (·.2)) vs1 t t1 gi gi1 gt1 ge)) := pe_imp (pe_lc2 hc hN hi ok hvs hg (fun _ _ _ _ _ => pts_nil) hi1 hg1 ht1t he hs hs1) fun σ H Q ⟨F, A, ρ, st, c, st', S, L, h, k⟩ => by
  obtain ⟨ds, rfl⟩ := lc2_lst h
  exact lc2_imp ht hv ht1 hv1 S L h fun a us F' H' gr S' hF hH hH' hA hr => lc_frozen (c := .d (.lst ds)) gr S' hF hH hH' hA hr k
/-- name = [e for .. for ..] -/
theorem ds_lc2 {i : Nat} {y : Str} {py spos : Pos} {elt tg tg1 iter iter1 : Expr} {ifs1 : List Expr} {scope : Scope} {own : List (Str × Nat)} {vs1 : List Nat} {gi gi1 : GI} {g gg1 : TG} {t t1 : Tg} {gt1 : GT} {ge : GE} (hc : X.calm = true) (hN : X.N.Nodup) (hy : X.N[i]? = some y) (hyl : X.env.scope.names.lookup y = some .local) (hsw : swapsWith (.ListComp elt [⟨tg, iter, [], 0⟩, ⟨tg1, iter1, ifs1, 0⟩] scope pos) (some (.Name y py)) spos.line X.env = pure true) (hi : PI X tg iter (tDI X.K gi)) (ok : BlkOk X.N X.env.scope scope own) (hvs : ∀ i ∈ vs1, i ∈ own.map (·.2)) (ht : TgOk X.K g t) (hv : ∀ i ∈ t.slots, i ∈ own.map (·.2)) (ht1 : TgOk X.K gg1 t1) (hv1 : ∀ i ∈ t1.slots, i ∈ vs1)
    (hg : ∀ (s : Shared) (H : Hp) (C : Addr) (cl : List (Str × Addr)) (fp : List Addr), PG (X.blk s H scope (compEnvC scope cl C X.env) fp) tg g)
    (hi1 : ∀ (s : Shared) (H : Hp) (C : Addr) (cl : List (Str × Addr)) (fp : List Addr), PI (X.blk s H scope (compEnvC scope cl C X.env) fp) tg1 iter1 (tDI X.K gi1)) (hg1 : ∀ (s : Shared) (H : Hp) (C : Addr) (cl : List (Str × Addr)) (fp : List Addr), PG (X.blk s H scope (compEnvC scope cl C X.env) fp) tg1 gg1)
    (ht1t : ∀ (s : Shared) (H : Hp) (C : Addr) (cl : List (Str × Addr)) (fp : List Addr), PTs (X.blk s H scope (compEnvC scope cl C X.env) fp) ifs1 (tDT X.K gt1)) (he : ∀ (s : Shared) (H : Hp) (C : Addr) (cl : List (Str × Addr)) (fp : List Addr), PE (X.blk s H scope (compEnvC scope cl C X.env) fp) elt (tD X.K ge)) (hs : ∀ x, foldedSetIterable iter X.env x = pure x := by intro _; rfl) (hs1 : ∀ env x, foldedSetIterable iter1 env x = pure x := by intro _ _; rfl) :
    PS X (.Assign [.Name y py] (.ListComp elt [⟨tg, iter, [], 0⟩, ⟨tg1, iter1, ifs1, 0⟩] scope pos) spos) (tDS X.K (sSet i (eLc2 (own.map (·.2)) vs1 t t1 gi gi1 gt1 ge))) := ps_imp (ps_setLc2 hc hN hy hyl hsw hi ok hvs hg (fun _ _ _ _ _ => pts_nil) hi1 hg1 ht1t he hs hs1) fun Dn σ H h => by
  obtain ⟨F, A, ρ, st, c, st', S, L, h, k⟩ := set_imp Dn σ H h
  obtain ⟨ds, rfl⟩ := lc2_lst h
  exact lc2_imp (Q := fun x H1 => gName i x σ H1 Dn.nx) ht hv ht1 hv1 S L h fun a us F' H' gr S' hF hH hH' hA hr => lc_frozen (c := .d (.lst ds)) (Q := fun x H1 => gName i x σ H1 Dn.nx) gr S' hF hH hH' hA hr k
section
variable {elt iter : Expr} {ifs : List Expr} {scope : Scope} {own : List (Str × Nat)} {gi : GI} {g : TG} {t : Tg} {gt : GT} {ge : GE}
theorem de_lc (hc : X.calm = true) (hN : X.N.Nodup) (hi : PI X tg iter (tDI X.K gi)) (ok : BlkOk X.N X.env.scope scope own) (ht : TgOk X.K g t) (hv : ∀ i ∈ t.slots, i ∈ own.map (·.2))
    (hg : ∀ (s : Shared) (H : Hp) (C : Addr) (cl : List (Str × Addr)) (fp : List Addr), PG (X.blk s H scope (compEnvC scope cl C X.env) fp) tg g) (htt : ∀ (s : Shared) (H : Hp) (C : Addr) (cl : List (Str × Addr)) (fp : List Addr), PTs (X.blk s H scope (compEnvC scope cl C X.env) fp) ifs (tDT X.K gt))
    (he : ∀ (s : Shared) (H : Hp) (C : Addr) (cl : List (Str × Addr)) (fp : List Addr), PE (X.blk s H scope (compEnvC scope cl C X.env) fp) elt (tD X.K ge)) (hs : ∀ x, foldedSetIterable iter X.env x = pure x := by intro _; rfl) :
    PE X (.ListComp elt [⟨tg, iter, ifs, 0⟩] scope pos) (tD X.K (eLc (own.map (·.2)) t gi gt ge)) := pe_imp (pe_lc hc hN hi ok hg htt he hs) fun σ H Q ⟨F, A, ρ, st, c, st', S, L, h, k⟩ => by
  obtain ⟨ds, rfl⟩ := lc_lst h
  exact lc_imp ht hv S L h fun a us F' H' gr S' hF hH hH' hA hr => lc_frozen (c := .d (.lst ds)) gr S' hF hH hH' hA hr k
theorem dn_lc (hc : X.calm = true) (hN : X.N.Nodup) (hi : PI X tg iter (tDI X.K gi)) (ok : BlkOk X.N X.env.scope scope own) (ht : TgOk X.K g t) (hv : ∀ i ∈ t.slots, i ∈ own.map (·.2))
    (hg : ∀ (s : Shared) (H : Hp) (C : Addr) (cl : List (Str × Addr)) (fp : List Addr), PG (X.blk s H scope (compEnvC scope cl C X.env) fp) tg g) (htt : ∀ (s : Shared) (H : Hp) (C : Addr) (cl : List (Str × Addr)) (fp : List Addr), PTs (X.blk s H scope (compEnvC scope cl C X.env) fp) ifs (tDT X.K gt))
    (he : ∀ (s : Shared) (H : Hp) (C : Addr) (cl : List (Str × Addr)) (fp : List Addr), PE (X.blk s H scope (compEnvC scope cl C X.env) fp) elt (tD X.K ge)) (hs : ∀ x, foldedSetIterable iter X.env x = pure x := by intro _; rfl) :
    PE X (.ListComp elt [⟨tg, iter, ifs, 0⟩] scope pos) (tDN X.K (eLc (own.map (·.2)) t gi gt ge)) := pe_imp (pe_lc hc hN hi ok hg htt he hs) fun σ H Q ⟨F, A, ρ, st, ds, st', S, L, h, k⟩ => lc_imp ht hv S L h k
/-- name = [..] -/
theorem ds_lc {i : Nat} {y : Str} {py spos : Pos} (hc : X.calm = true) (hN : X.N.Nodup) (hy : X.N[i]? = some y) (hyl : X.env.scope.names.lookup y = some .local) (hsw : swapsWith (.ListComp elt [⟨tg, iter, ifs, 0⟩] scope pos) (some (.Name y py)) spos.line X.env = pure true) (hi : PI X tg iter (tDI X.K gi)) (ok : BlkOk X.N X.env.scope scope own) (ht : TgOk X.K g t) (hv : ∀ i ∈ t.slots, i ∈ own.map (·.2))
    (hg : ∀ (s : Shared) (H : Hp) (C : Addr) (cl : List (Str × Addr)) (fp : List Addr), PG (X.blk s H scope (compEnvC scope cl C X.env) fp) tg g) (htt : ∀ (s : Shared) (H : Hp) (C : Addr) (cl : List (Str × Addr)) (fp : List Addr), PTs (X.blk s H scope (compEnvC scope cl C X.env) fp) ifs (tDT X.K gt))
    (he : ∀ (s : Shared) (H : Hp) (C : Addr) (cl : List (Str × Addr)) (fp : List Addr), PE (X.blk s H scope (compEnvC scope cl C X.env) fp) elt (tD X.K ge)) (hs : ∀ x, foldedSetIterable iter X.env x = pure x := by intro _; rfl) :
    PS X (.Assign [.Name y py] (.ListComp elt [⟨tg, iter, ifs, 0⟩] scope pos) spos) (tDS X.K (sSet i (eLc (own.map (·.2)) t gi gt ge))) := ps_imp (ps_setLc hc hN hy hyl hsw hi ok hg htt he hs) fun Dn σ H h => by
  obtain ⟨F, A, ρ, st, c, st', S, L, h, k⟩ := set_imp Dn σ H h
  obtain ⟨ds, rfl⟩ := lc_lst h
  exact lc_imp ht hv S L h fun a us F' H' gr S' hF hH hH' hA hr => lc_frozen (c := .d (.lst ds)) (Q := fun x H1 => gName i x σ H1 Dn.nx) gr S' hF hH hH' hA hr k
theorem ds_nlc {i : Nat} {y : Str} {py spos : Pos} (hc : X.calm = true) (hN : X.N.Nodup) (hy : X.N[i]? = some y) (hyl : X.env.scope.names.lookup y = some .local) (hsw : swapsWith (.ListComp elt [⟨tg, iter, ifs, 0⟩] scope pos) (some (.Name y py)) spos.line X.env = pure true) (hi : PI X tg iter (tDI X.K gi)) (ok : BlkOk X.N X.env.scope scope own) (ht : TgOk X.K g t) (hv : ∀ i ∈ t.slots, i ∈ own.map (·.2))
    (hg : ∀ (s : Shared) (H : Hp) (C : Addr) (cl : List (Str × Addr)) (fp : List Addr), PG (X.blk s H scope (compEnvC scope cl C X.env) fp) tg g) (htt : ∀ (s : Shared) (H : Hp) (C : Addr) (cl : List (Str × Addr)) (fp : List Addr), PTs (X.blk s H scope (compEnvC scope cl C X.env) fp) ifs (tDT X.K gt))
    (he : ∀ (s : Shared) (H : Hp) (C : Addr) (cl : List (Str × Addr)) (fp : List Addr), PE (X.blk s H scope (compEnvC scope cl C X.env) fp) elt (tD X.K ge)) (hs : ∀ x, foldedSetIterable iter X.env x = pure x := by intro _; rfl) :
    PS X (.Assign [.Name y py] (.ListComp elt [⟨tg, iter, ifs, 0⟩] scope pos) spos) (tDS X.K (sNew i (eLc (own.map (·.2)) t gi gt ge))) := ps_imp (ps_setLc hc hN hy hyl hsw hi ok hg htt he hs) fun Dn σ H h => by
  obtain ⟨F, A, ρ, st, ds, st', S, L, h, k⟩ := new_imp Dn σ H h
  exact lc_imp (Q := fun x H1 => gName i x σ H1 Dn.nx) ht hv S L h k
end
end
end DL
/-! DG: methods of lists, stores, dicts. -/
namespace DL
open PySem PySem.Spec PyProof.Rows L2

section
variable {X : Cx} {pos : Pos}
/-- an object of the store is written -/
theorem SS.write {K : PySem.W.Frag} {F H : Hp} {A : List Addr} {st : Sto} {k : Nat} {a : Addr} {o o' : SO} {u : HO} (S : SS K F H A st) (ha : A[k]? = some a) (ho : st[k]? = some o) (hf : o.isFro = false) (hn : o'.isFro = false) (hw : SObj K F (upd H a u) A a o') :
    SS K F (upd H a u) A (st.set k o') ∧ Grow A F H F (upd H a u) := by
  have hF : F a = none := S.fr k a o ha ho hf
  have hkl : k < st.length := (List.getElem?_eq_some_iff.mp ho).1
  refine ⟨⟨fun b w h => by rw [upd_ne (ne_of_none h hF)]; exact S.ex b w h, by rw [List.length_set]; exact S.len, S.nd, fun j b w hj hw' hfw => ?_, fun j b w hj hw' => ?_⟩, Same.refl F, fun _ h => .inl h, fun b w hb hna => ?_, fun b hb => ?_⟩
  · by_cases e : j = k
    · subst e
      have : b = a := Option.some.inj (hj.symm.trans ha)
      rw [this]; exact hF
    · rw [List.getElem?_set_ne (Ne.symm e)] at hw'
      exact S.fr j b w hj hw' hfw
  · by_cases e : j = k
    · subst e
      rw [List.getElem?_set_self hkl] at hw'
      cases hw'
      have : b = a := Option.some.inj (hj.symm.trans ha)
      subst this
      exact hw
    · rw [List.getElem?_set_ne (Ne.symm e)] at hw'
      have : b ≠ a := fun z => e ((List.getElem?_inj (List.getElem?_eq_some_iff.mp hj).1 S.nd).mp (by rw [hj, ha, z]))
      exact (S.obj j b w hj hw').mono (Same.refl F) fun x hx => by rw [upd_ne this]; exact hx
  · have : b ≠ a := fun z => by subst z; exact hna (List.mem_of_getElem? ha)
    rw [upd_ne this]; exact hb
  · by_cases e : b = a
    · subst e; rw [upd_same]; exact fun z => nomatch z
    · rw [upd_ne e]; exact hb
def isLst (st : Sto) (k : Nat) : Bool := match st[k]? with
  | some (.lst _) => true
  | _ => false
/-- xs.append(e), xs a list of the store -/
def eApp (o a : GE) : GE := fun ρ st => (o ρ st).bind fun p => match p.1 with
  | .p k => if isLst p.2 k = true then (a ρ p.2).bind fun q => match q.2[k]? with
    | some (.lst cs) => if cs.length < 1000000 then some (.d .non, q.2.set k (.lst (cs ++ [q.1]))) else none
    | _ => none
    else none
  | _ => none
theorem isLst_ty {K : PySem.W.Frag} {F H : Hp} {A : List Addr} {st : Sto} {k : Nat} {a : Addr} (S : SS K F H A st) (ha : A[k]? = some a) (h : isLst st k = true) : tyV K "list" (V.ref a) H := by
  unfold isLst at h
  split at h
  · rename_i cs e
    obtain ⟨vs, h1, _⟩ := S.obj k a _ ha e
    exact .inl ⟨rfl, vs, SqL.of h1⟩
  · cases h
section
variable {o e : Expr} {apos : Pos} {go ga : GE}
theorem de_app (ho : PE X o (tD X.K go)) (ha : PE X e (tD X.K ga)) (hst : starEach [e] X.env = (false, eval e X.env) :: starEach [] X.env := by rfl)
    (hbase : attributeBase o "append" X.env (eval o X.env) = eval o X.env := by rfl) (hfew : ((backTo pos (starEach (e :: []) X.env)).all (fun x => !x.1) && (backToKw pos (keywordEach [] X.env)).all (fun x => x.1.isSome)
      && decide ((e :: ([] : List Expr)).length + ([] : List Keyword).length + (if ([] : List Keyword).isEmpty then 0 else 1) < 30)) = true := by rfl)
    (hline : (apos.endLine == pos.line) = true := by rfl) (hplain : (backTo pos (starEach ([] : List Expr) X.env)).any (·.1) = false := by rfl) : PE X (.Call (.Attribute o "append" apos) [e] [] pos) (tD X.K (eApp go ga)) :=
  pe_imp (pe_bm PySem.F.plainAttrs_list PySem.F.slot_list_append PySem.F.type_list_append mt_append ho (da_c ha da_n hst) hbase hfew hline hst hplain) fun σ H Q ⟨F, A, ρ, st, c, st', S, L, g, k⟩ => by
    obtain ⟨⟨c1, st1⟩, h1, g⟩ := bind_some g
    dsimp only at g
    split at g
    · rename_i j
      split at g
      · rename_i hil
        obtain ⟨⟨c2, st2⟩, h2, g⟩ := bind_some g
        dsimp only at g
        split at g
        · rename_i cs e2
          split at g
          · rename_i hl
            cases g
            refine ⟨F, A, ρ, st, _, _, S, L, h1, fun v F1 H1 g1 S1 r1 => ?_⟩
            obtain ⟨a, hka, rfl⟩ := r1
            refine ⟨isLst_ty S1 hka hil, F1, A, ρ, st1, [c2], st2, S1, L.mono g1.ex, by simp [aC, aN, h2], fun vs F2 H2 g2 S2 r2 => ?_⟩
            cases r2 with
            | cons r rr =>
              cases rr
              obtain ⟨ws, hw, hr⟩ := S2.obj j a _ hka e2
              refine ⟨a, ws, _, rfl, rfl, hw, by rw [← hr.len]; exact lim6' hl, ?_⟩
              obtain ⟨S3, g3⟩ := S2.write (o' := .lst (cs ++ [c2])) hka e2 rfl rfl ⟨_, upd_same, hr.app (.cons r .nil)⟩
              exact k _ _ _ ((g1.trans g2).trans g3) S3 .non
          · cases g
        · cases g
      · cases g
    · cases g
/-- xs.extend(ys), ys data or another list of the store -/
def eExt (o a : GE) : GE := fun ρ st => (o ρ st).bind fun p => match p.1 with
  | .p k => if isLst p.2 k = true then (a ρ p.2).bind fun q => match q.2[k]?, deref q.2 q.1 with
    | some (.lst cs), some (.lst ds) => if cs.length + ds.length < 1000000 then some (.d .non, q.2.set k (.lst (cs ++ ds.map .d))) else none
    | _, _ => none
    else none
  | _ => none
theorem de_ext (ho : PE X o (tD X.K go)) (ha : PE X e (tD X.K ga)) (hst : starEach [e] X.env = (false, eval e X.env) :: starEach [] X.env := by rfl)
    (hbase : attributeBase o "extend" X.env (eval o X.env) = eval o X.env := by rfl) (hfew : ((backTo pos (starEach (e :: []) X.env)).all (fun x => !x.1) && (backToKw pos (keywordEach [] X.env)).all (fun x => x.1.isSome)
      && decide ((e :: ([] : List Expr)).length + ([] : List Keyword).length + (if ([] : List Keyword).isEmpty then 0 else 1) < 30)) = true := by rfl)
    (hline : (apos.endLine == pos.line) = true := by rfl) (hplain : (backTo pos (starEach ([] : List Expr) X.env)).any (·.1) = false := by rfl) : PE X (.Call (.Attribute o "extend" apos) [e] [] pos) (tD X.K (eExt go ga)) :=
  pe_imp (pe_bm PySem.F.plainAttrs_list PySem.F.slot_list_extend PySem.F.type_list_extend mt_extend ho (da_c ha da_n hst) hbase hfew hline hst hplain) fun σ H Q ⟨F, A, ρ, st, c, st', S, L, g, k⟩ => by
    obtain ⟨⟨c1, st1⟩, h1, g⟩ := bind_some g
    dsimp only at g
    split at g
    · rename_i j
      split at g
      · rename_i hil
        obtain ⟨⟨c2, st2⟩, h2, g⟩ := bind_some g
        dsimp only at g
        split at g
        · rename_i cs ds e2 e3
          split at g
          · rename_i hl
            cases g
            refine ⟨F, A, ρ, st, _, _, S, L, h1, fun v F1 H1 g1 S1 r1 => ?_⟩
            obtain ⟨a, hka, rfl⟩ := r1
            refine ⟨isLst_ty S1 hka hil, F1, A, ρ, st1, [c2], st2, S1, L.mono g1.ex, by simp [aC, aN, h2], fun vs F2 H2 g2 S2 r2 => ?_⟩
            cases r2 with
            | cons r rr =>
              cases rr
              obtain ⟨ws, hw, hr⟩ := S2.obj j a _ hka e2
              have rp := S2.deref r e3
              cases rp with
              | lst hb hd =>
                rename_i b us
                refine ⟨a, b, ws, us, rfl, rfl, hw, hb, by rw [← hr.len, ← hd.len]; exact Nat.le_of_lt (lim6' hl), ?_⟩
                obtain ⟨S3, g3⟩ := S2.write (o' := .lst (cs ++ ds.map .d)) hka e2 rfl rfl ⟨_, upd_same, hr.app hd.cs⟩
                exact k _ _ _ ((g1.trans g2).trans g3) S3 .non
          · cases g
        · cases g
      · cases g
    · cases g
/-- xs.index(y), flat things, there -/
def idxD (ds : List D) (y : D) : Option D := if flatD y = true ∧ ds.all flatD = true then (ds.findIdx? fun z => eqV (toV z) (toV y)).map fun j => .int (j : Nat) else none
def eIdx (o a : GE) : GE := fun ρ st => (o ρ st).bind fun p => match p.1 with
  | .d (.lst ds) => (a ρ p.2).bind fun q => match q.1 with
    | .d y => (idxD ds y).map fun z => (.d z, q.2)
    | _ => none
  | _ => none
theorem de_idx (ho : PE X o (tD X.K go)) (ha : PE X e (tD X.K ga)) (hst : starEach [e] X.env = (false, eval e X.env) :: starEach [] X.env := by rfl)
    (hbase : attributeBase o "index" X.env (eval o X.env) = eval o X.env := by rfl) (hfew : ((backTo pos (starEach (e :: []) X.env)).all (fun x => !x.1) && (backToKw pos (keywordEach [] X.env)).all (fun x => x.1.isSome)
      && decide ((e :: ([] : List Expr)).length + ([] : List Keyword).length + (if ([] : List Keyword).isEmpty then 0 else 1) < 30)) = true := by rfl)
    (hline : (apos.endLine == pos.line) = true := by rfl) (hplain : (backTo pos (starEach ([] : List Expr) X.env)).any (·.1) = false := by rfl) : PE X (.Call (.Attribute o "index" apos) [e] [] pos) (tD X.K (eIdx go ga)) :=
  pe_imp (pe_bm PySem.F.plainAttrs_list PySem.F.slot_list_index PySem.F.type_list_index mt_index ho (da_c ha da_n hst) hbase hfew hline hst hplain) fun σ H Q ⟨F, A, ρ, st, c, st', S, L, g, k⟩ => by
    obtain ⟨⟨c1, st1⟩, h1, g⟩ := bind_some g
    dsimp only at g
    split at g
    · rename_i ds
      obtain ⟨⟨c2, st2⟩, h2, g⟩ := bind_some g
      dsimp only at g
      split at g
      · rename_i y
        simp only [Option.map_eq_some_iff, Prod.mk.injEq] at g
        obtain ⟨z, h3, rfl, rfl⟩ := g
        unfold idxD at h3
        split at h3
        · rename_i hf
          simp only [Option.map_eq_some_iff] at h3
          obtain ⟨j, h4, rfl⟩ := h3
          refine ⟨F, A, ρ, st, _, _, S, L, h1, fun v F1 H1 g1 S1 r1 => ?_⟩
          cases r1 with
          | lst hs hr =>
            rename_i a us
            refine ⟨.inl ⟨rfl, us, SqL.of (S1.ex _ _ hs)⟩, F1, A, ρ, st1, [.d y], st2, S1, L.mono g1.ex, by simp [aC, aN, h2], fun vs F2 H2 g2 S2 r2 => ?_⟩
            cases r2 with
            | cons r rr =>
              cases rr
              obtain ⟨e1, f1⟩ := flat_rep r hf.1
              obtain ⟨e2, f2⟩ := flat_reps hr hf.2
              subst e1
              subst e2
              rw [List.findIdx?_eq_some_iff_getElem] at h4
              obtain ⟨hj, h5, h6⟩ := h4
              refine ⟨a, _, _, j, toV ds[j], rfl, rfl, SqL.of (S2.ex _ _ (g2.ex _ _ hs)), f1, f2, by rw [List.getElem?_map, List.getElem?_eq_getElem hj]; rfl, h5, fun m z' hm hz => ?_, k _ _ _ (g1.trans g2) S2 .int⟩
              rw [List.getElem?_map, List.getElem?_eq_getElem (by omega)] at hz
              cases hz
              exact Bool.eq_false_iff.mpr (h6 m hm)
        · cases h3
      · cases g
    · cases g
end

/-! ### methods of texts -/
def rMD (K : PySem.W.Frag) (g : List D → Option D) : V → List V → Hp → VK → Prop := fun x xs H Q => rCD K g (x :: xs) H Q
theorem mtr_by {id : String} {r' : V → List V → Hp → VK → Prop} (q : ∀ x xs H Q, r' x xs H Q → ∃ r, MtR X id r ∧ r x xs H Q) : MtR X id r' := fun pins s σ H x xs v us Q I rx rs z => by
  obtain ⟨r, h, w⟩ := q x xs H Q z
  exact h pins s σ H x xs v us Q I rx rs w
section
variable {o e : Expr} {apos : Pos} {go ga : GE} {id : String} {name : Str} {g : List D → Option D}
def eM0 (g : List D → Option D) (o : GE) : GE := fun ρ st => (o ρ st).bind fun p => match p.1 with
  | .d (.str a) => (g [.str a]).map fun z => (.d z, p.2)
  | _ => none
theorem de_m0 (slot : Slot "str" name id) (ty : typeOf (.builtin id) = pure (.type "method_descriptor")) (rule : MtR X id (rMD X.K g)) (ho : PE X o (tD X.K go))
    (hbase : attributeBase o name X.env (eval o X.env) = eval o X.env := by rfl) (hline : (apos.endLine == pos.line) = true := by rfl) : PE X (.Call (.Attribute o name apos) [] [] pos) (tD X.K (eM0 g go)) :=
  pe_imp (pe_m0 slot ty rule ho hbase hline) fun σ H Q ⟨F, A, ρ, st, c, st', S, L, h, k⟩ => by
    obtain ⟨⟨c1, st1⟩, h1, h⟩ := bind_some h
    dsimp only at h
    split at h
    · rename_i a
      simp only [Option.map_eq_some_iff, Prod.mk.injEq] at h
      obtain ⟨z, h2, rfl, rfl⟩ := h
      refine ⟨F, A, ρ, st, _, _, S, L, h1, fun v F1 H1 g1 S1 r1 => ?_⟩
      cases r1
      exact ⟨⟨a, rfl⟩, F1, A, _, [.str a], z, S1, .cons .str .nil, h2, fun w F2 H2 g2 S2 r2 => k w F2 H2 (g1.trans g2) S2 r2⟩
    · cases h
def eM1 (g : List D → Option D) (o a : GE) : GE := fun ρ st => (o ρ st).bind fun p => match p.1 with
  | .d (.str x) => (a ρ p.2).bind fun q => (deref q.2 q.1).bind fun y => (g [.str x, y]).map fun z => (.d z, q.2)
  | _ => none
theorem de_m1 (slot : Slot "str" name id) (ty : typeOf (.builtin id) = pure (.type "method_descriptor")) (rule : MtR X id (rMD X.K g)) (ho : PE X o (tD X.K go)) (ha : PE X e (tD X.K ga))
    (hs : starEach [e] X.env = [(false, eval e X.env)] := by rfl) (hbase : attributeBase o name X.env (eval o X.env) = eval o X.env := by rfl) (hline : (apos.endLine == pos.line) = true := by rfl) : PE X (.Call (.Attribute o name apos) [e] [] pos) (tD X.K (eM1 g go ga)) :=
  pe_imp (pe_m1 slot ty rule ho ha hs hbase hline) fun σ H Q ⟨F, A, ρ, st, c, st', S, L, h, k⟩ => by
    obtain ⟨⟨c1, st1⟩, h1, h⟩ := bind_some h
    dsimp only at h
    split at h
    · rename_i a
      obtain ⟨⟨c2, st2⟩, h2, h⟩ := bind_some h
      obtain ⟨y, h3, h⟩ := bind_some h
      simp only [Option.map_eq_some_iff, Prod.mk.injEq] at h
      obtain ⟨z, h4, rfl, rfl⟩ := h
      refine ⟨F, A, ρ, st, _, _, S, L, h1, fun v F1 H1 g1 S1 r1 => ?_⟩
      cases r1
      refine ⟨⟨a, rfl⟩, F1, A, ρ, _, c2, st2, S1, L.mono g1.ex, h2, fun v2 F2 H2 g2 S2 r2 => ⟨F2, A, st2, [.str a, y], z, S2, .cons .str (.cons (S2.deref r2 h3) .nil), h4, fun w F3 H3 g3 S3 r3 => k w F3 H3 ((g1.trans g2).trans g3) S3 r3⟩⟩
    · cases h
def sbD (f : Str → Bool) : List D → Option D
  | [.str x] => some (.bl (f x))
  | _ => none
theorem sb_of {f : Str → Bool} (h : MtR X id (fun x xs H Q => ∃ a, x = .str a ∧ xs = [] ∧ True ∧ Q (.bl (f a)) H)) : MtR X id (rMD X.K (sbD f)) := mtr_by fun x xs H Q ⟨F, A, st, ds, z, S, rs, hz, k⟩ => by
  cases rs with
  | cons r rs =>
    cases rs with
    | nil =>
      cases r <;> simp only [sbD, reduceCtorEq] at hz
      cases hz
      exact ⟨_, h, _, rfl, rfl, trivial, k _ F H .refl S .bl⟩
    | cons _ _ => cases r <;> cases hz
theorem m_isascii : MtR X "str.isascii" (rMD X.K (sbD Txt.isascii)) := sb_of mt_isascii
theorem m_isalpha : MtR X "str.isalpha" (rMD X.K (sbD Txt.isalpha)) := sb_of mt_isalpha
theorem m_islower : MtR X "str.islower" (rMD X.K (sbD Txt.islower)) := sb_of mt_islower
theorem m_isdigit : MtR X "str.isdigit" (rMD X.K (sbD Txt.isdigit)) := sb_of mt_isdigit
def splitD : List D → Option D
  | [.str a, .str b] => if (b.length == 0) = false ∧ a.length ≤ 1000000 then some (.lst ((Txt.split a b).map .str)) else none
  | _ => none
theorem reps_strs {K : PySem.W.Frag} {F : Hp} : ∀ ys : List Str, Reps K F (ys.map .str) (ys.map V.str)
  | [] => .nil
  | y :: ys => .cons .str (reps_strs ys)
theorem m_split : MtR X "str.split" (rMD X.K splitD) := mtr_by fun x xs H Q ⟨F, A, st, ds, z, S, rs, hz, k⟩ => by
  cases rs with
  | cons r rs =>
    cases rs with
    | nil => cases r <;> cases hz
    | cons r2 rs =>
      cases rs with
      | cons _ _ => cases r <;> cases r2 <;> cases hz
      | nil =>
        cases r <;> cases r2 <;> simp only [splitD, reduceCtorEq] at hz
        split at hz
        · rename_i hl
          cases hz
          refine ⟨_, mt_split, _, _, rfl, rfl, hl.1, Nat.le_trans (Nat.add_le_add_right hl.2 2) (by decide), fun p hp => ?_⟩
          exact k _ _ _ (.new1 (S.ex.free hp) hp) (S.new hp) (.lst upd_same (reps_strs _))
        · cases hz
def strsOf : List D → Option (List Str)
  | [] => some []
  | .str x :: r => (strsOf r).map (x :: ·)
  | _ => none
theorem strsOf_eq : ∀ {ds : List D} {ys : List Str}, strsOf ds = some ys → ds = ys.map .str
  | [], ys, h => by cases h; rfl
  | .str x :: r, ys, h => by
    simp only [strsOf, Option.map_eq_some_iff] at h
    obtain ⟨zs, h1, rfl⟩ := h
    rw [strsOf_eq h1]
    rfl
  | .non :: _, _, h => by cases h
  | .bl _ :: _, _, h => by cases h
  | .int _ :: _, _, h => by cases h
  | .tup _ :: _, _, h => by cases h
  | .lst _ :: _, _, h => by cases h
  | .wls _ :: _, _, h => by cases h
  | .dct _ :: _, _, h => by cases h
theorem reps_strs_inv {K : PySem.W.Frag} {F : Hp} : ∀ {ys : List Str} {vs : List V}, Reps K F (ys.map .str) vs → vs = ys.map V.str
  | [], _, .nil => rfl
  | y :: ys, _, .cons .str r => by rw [reps_strs_inv r]; rfl
def joinD : List D → Option D
  | [.str a, .lst ds] => (strsOf ds).bind fun ys => if (ys.map (·.length)).sum + ys.length * a.length ≤ 16777216 then some (.str (Txt.join a ys)) else none
  | [.str a, .tup ds] => (strsOf ds).bind fun ys => if (ys.map (·.length)).sum + ys.length * a.length ≤ 16777216 then some (.str (Txt.join a ys)) else none
  | _ => none
theorem m_join : MtR X "str.join" (rMD X.K joinD) := mtr_by fun x xs H Q ⟨F, A, st, ds, z, S, rs, hz, k⟩ => by
  cases rs with
  | cons r rs =>
    cases rs with
    | nil => cases r <;> cases hz
    | cons r2 rs =>
      cases rs with
      | cons _ _ => cases r <;> cases r2 <;> cases hz
      | nil =>
        cases r <;> cases r2 <;> simp only [joinD, reduceCtorEq] at hz
        · rename_i hs hr _
          obtain ⟨ys, h1, hz⟩ := bind_some hz
          split at hz
          · rename_i hl
            cases hz
            rw [strsOf_eq h1] at hr
            rw [reps_strs_inv hr] at hs
            exact ⟨_, mt_join, _, _, ys, rfl, rfl, .inr (same_sqt S.ex hs), hl, k _ F H .refl S .str⟩
          · cases hz
        · rename_i hs hr _
          obtain ⟨ys, h1, hz⟩ := bind_some hz
          split at hz
          · rename_i hl
            cases hz
            rw [strsOf_eq h1] at hr
            rw [reps_strs_inv hr] at hs
            exact ⟨_, mt_join, _, _, ys, rfl, rfl, .inl (SqL.of hs), hl, k _ F H .refl S .str⟩
          · cases hz
end
end
end DL
/-! DH: stores by place, dicts, enumerate, zip. -/
namespace DL
open PySem PySem.Spec PyProof.Rows L2

section
variable {X : Cx} {pos : Pos}
/-! ### xs[i] = e -/
def sPut (o i v : GE) : GS := fun ρ st => (v ρ st).bind fun p => (o ρ p.2).bind fun q => match q.1 with
  | .p k => (i ρ q.2).bind fun r => match r.1, r.2[k]? with
    | .d (.int n), some (.lst cs) => match ixN cs.length n with
      | some j => some (.nx ρ (r.2.set k (.lst (cs.set j p.1))))
      | none => none
    | _, _ => none
  | _ => none
theorem ds_put {o i e : Expr} {po : Pos} {go gi gv : GE} (ho : PE X o (tD X.K go)) (hi : PE X i (tD X.K gi)) (hv : PE X e (tD X.K gv))
    (ha : ∀ v, assign (.Subscript o i po) X.env v = (do
      let ov ← holding [v] (eval o X.env)
      let iv ← holding [v, ov] (eval i X.env)
      standAt po
      holding [v, ov, iv] (setItem ov iv v)
      release [v, ov, iv] []) := by intro _; rfl)
    (hs : swapsWithSole [.Subscript o i po] e pos.line X.env = pure false := by rfl) (hw : swappedStores [.Subscript o i po] e X.env = pure none := by rfl)
    (h1 : (assignEach [.Subscript o i po] X.env).map (·.2) = [assign (.Subscript o i po) X.env] := by rfl) : PS X (.Assign [.Subscript o i po] e pos) (tDS X.K (sPut go gi gv)) :=
  ps_imp (ps_asg hv (pg_sub ho hi set_list ha) hs hw h1) fun Dn σ H ⟨F, A, ρ, st, r, S, L, g, k⟩ => by
    obtain ⟨⟨c1, st1⟩, h1, g⟩ := bind_some g
    obtain ⟨⟨c2, st2⟩, h2, g⟩ := bind_some g
    dsimp only at g
    split at g
    · rename_i j
      obtain ⟨⟨c3, st3⟩, h3, g⟩ := bind_some g
      dsimp only at g
      split at g
      · rename_i n cs e3
        split at g
        · rename_i m em
          cases g
          refine ⟨F, A, ρ, st, c1, st1, S, L, h1, fun v F1 H1 g1 S1 r1 => ⟨F1, A, ρ, st1, _, _, S1, L.mono g1.ex, h2, fun w F2 H2 g2 S2 r2 => ?_⟩⟩
          refine ⟨F2, A, ρ, st2, _, _, S2, (L.mono g1.ex).mono g2.ex, h3, fun u F3 H3 g3 S3 r3 => ?_⟩
          obtain ⟨a, hka, rfl⟩ := r2
          cases r3
          obtain ⟨ws, hw, hr⟩ := S3.obj j a _ hka e3
          refine ⟨a, ws, n, m, rfl, rfl, hw, by rw [← hr.len]; exact em, ?_⟩
          obtain ⟨S4, g4⟩ := S3.write (o' := .lst (cs.set m c1)) hka e3 rfl rfl ⟨_, upd_same, hr.set ((r1.mono g2.ex).mono g3.ex)⟩
          exact k σ F3 _ A (.of (((g1.trans g2).trans g3).trans g4)) S4 (((L.mono g1.ex).mono g2.ex).mono g3.ex)
        · cases g
      · cases g
    · cases g
/-- an item of a list of lists -/
def eIxP (o i : GE) : GE := fun ρ st => (o ρ st).bind fun p => match p.1 with
  | .p k => (i ρ p.2).bind fun r => match r.1, r.2[k]? with
    | .d (.int n), some (.lst cs) => (atI cs n).map fun c => (c, r.2)
    | _, _ => none
  | _ => none
theorem RepCs.atI {K : PySem.W.Frag} {F : Hp} {A : List Addr} {xs : List C} {vs : List V} {i : Int} {x : C} (r : RepCs K F A xs vs) (h : L2.atI xs i = some x) : ∃ v, L2.atI vs i = some v ∧ RepC K F A x v := by
  unfold L2.atI at h ⊢
  rw [← r.len]
  cases e : ixN xs.length i with
  | none => rw [e] at h; cases h
  | some j =>
    rw [e] at h
    exact r.get h
theorem de_ixp {a b : Expr} {Ga Gb : GE} (ha : PE X a (tD X.K Ga)) (hb : PE X b (tD X.K Gb)) (hs : PlainIx b := by exact fun _ _ => rfl) : PE X (.Subscript a b pos) (tD X.K (eIxP Ga Gb)) :=
  pe_imp (pe_ix ix_list ha hb hs) fun σ H Q ⟨F, A, ρ, st, c, st', S, L, g, k⟩ => by
    obtain ⟨⟨c1, st1⟩, h1, g⟩ := bind_some g
    dsimp only at g
    split at g
    · rename_i j
      obtain ⟨⟨c2, st2⟩, h2, g⟩ := bind_some g
      dsimp only at g
      split at g
      · rename_i n cs e2
        simp only [Option.map_eq_some_iff, Prod.mk.injEq] at g
        obtain ⟨c3, h3, rfl, rfl⟩ := g
        refine ⟨F, A, ρ, st, _, _, S, L, h1, fun v F1 H1 g1 S1 r1 => ⟨F1, A, ρ, st1, _, _, S1, L.mono g1.ex, h2, fun w F2 H2 g2 S2 r2 => ?_⟩⟩
        obtain ⟨x, hka, rfl⟩ := r1
        cases r2
        obtain ⟨ws, hw, hr⟩ := S2.obj j x _ hka e2
        obtain ⟨y, h4, h5⟩ := hr.atI h3
        exact ⟨x, ws, n, y, rfl, rfl, SqL.of hw, h4, k y F2 H2 (g1.trans g2) S2 h5⟩
      · cases g
    · cases g

/-! ### dicts of the store and dicts as data -/
def lookC (kvs : List (Key × C)) (k : Key) : Option C := (kvs.find? fun kv => decide (kv.1 = k)).map (·.2)
theorem look_V {K : PySem.W.Frag} {F : Hp} {A : List Addr} : ∀ {kvs : List (Key × C)} {vs : List V} (k : Key), RepCs K F A (kvs.map (·.2)) vs →
    (lookC kvs k = none → valV ((kvs.map (·.1)).zip vs) k = none) ∧ ∀ c, lookC kvs k = some c → ∃ v, valV ((kvs.map (·.1)).zip vs) k = some v ∧ RepC K F A c v
  | [], _, k, .nil => ⟨fun _ => rfl, fun c h => by cases h⟩
  | (k1, c1) :: kvs, _, k, .cons (vs := vs) (v := v) h r => by
    obtain ⟨i1, i2⟩ := look_V (kvs := kvs) k r
    show (lookC ((k1, c1) :: kvs) k = none → valV ((k1, v) :: (kvs.map (·.1)).zip vs) k = none) ∧ ∀ c, lookC ((k1, c1) :: kvs) k = some c → ∃ w, valV ((k1, v) :: (kvs.map (·.1)).zip vs) k = some w ∧ RepC K F A c w
    by_cases e : k1 = k
    · subst e
      rw [valV_pos rfl]
      have : lookC ((k1, c1) :: kvs) k1 = some c1 := by simp [lookC]
      rw [this]
      exact ⟨fun h => (by cases h), fun c hc => (by cases hc; exact ⟨v, rfl, h⟩)⟩
    · rw [valV_neg (by exact e)]
      have : lookC ((k1, c1) :: kvs) k = lookC kvs k := by simp [lookC, List.find?_cons, e]
      rw [this]
      exact ⟨i1, i2⟩
def putC (kvs : List (Key × C)) (k : Key) (c : C) : List (Key × C) := if (kvs.any fun kv => decide (kv.1 = k)) = true then kvs.map (fun kv => if kv.1 = k then (kv.1, c) else kv) else kvs ++ [(k, c)]
theorem put_any {K : PySem.W.Frag} {F : Hp} {A : List Addr} {k : Key} : ∀ {kvs : List (Key × C)} {vs : List V}, RepCs K F A (kvs.map (·.2)) vs → ((kvs.map (·.1)).zip vs).any (fun kv => decide (kv.1 = k)) = kvs.any fun kv => decide (kv.1 = k)
  | [], _, .nil => rfl
  | (k1, c1) :: kvs, _, .cons (vs := vs) (v := v) h r => by
    show (decide (k1 = k) || ((kvs.map (·.1)).zip vs).any fun kv => decide (kv.1 = k)) = (decide (k1 = k) || kvs.any fun kv => decide (kv.1 = k))
    rw [put_any (kvs := kvs) r]
theorem put_map {K : PySem.W.Frag} {F : Hp} {A : List Addr} {k : Key} {c : C} {u : V} (hc : RepC K F A c u) : ∀ {kvs : List (Key × C)} {vs : List V}, RepCs K F A (kvs.map (·.2)) vs →
    ∃ ws, (((kvs.map (·.1)).zip vs).map fun kv => if kv.1 = k then (kv.1, u) else kv) = ((kvs.map fun kv => if kv.1 = k then (kv.1, c) else kv).map (·.1)).zip ws ∧ RepCs K F A ((kvs.map fun kv => if kv.1 = k then (kv.1, c) else kv).map (·.2)) ws
  | [], _, .nil => ⟨[], rfl, .nil⟩
  | (k1, c1) :: kvs, _, .cons (vs := vs) (v := v) h r => by
    obtain ⟨ws, e, q⟩ := put_map (k := k) hc (kvs := kvs) r
    by_cases hk : k1 = k
    · refine ⟨u :: ws, ?_, ?_⟩
      · simp only [List.map_cons, List.zip_cons_cons, if_pos hk]
        exact congrArg _ e
      · simp only [List.map_cons, if_pos hk]
        exact .cons hc q
    · refine ⟨v :: ws, ?_, ?_⟩
      · simp only [List.map_cons, List.zip_cons_cons, if_neg hk]
        exact congrArg _ e
      · simp only [List.map_cons, if_neg hk]
        exact .cons h q
theorem put_V {K : PySem.W.Frag} {F : Hp} {A : List Addr} {k : Key} {c : C} {u : V} (hc : RepC K F A c u) {kvs : List (Key × C)} {vs : List V} (r : RepCs K F A (kvs.map (·.2)) vs) :
    ∃ ws, putK ((kvs.map (·.1)).zip vs) k u = ((putC kvs k c).map (·.1)).zip ws ∧ RepCs K F A ((putC kvs k c).map (·.2)) ws := by
  unfold putK putC
  rw [put_any r]
  by_cases h : (kvs.any fun kv => decide (kv.1 = k)) = true
  · rw [if_pos h, if_pos h]
    exact put_map hc r
  · rw [if_neg h, if_neg h]
    refine ⟨vs ++ [u], ?_, ?_⟩
    · rw [List.map_append, List.zip_append (by rw [List.length_map, ← r.len, List.length_map])]
      rfl
    · rw [List.map_append]
      exact r.app (.cons hc .nil)
/-- x = {} -/
def sNewD (i : Nat) : GS := fun ρ st => some (.nx (ρ.set i (some (.p st.length))) (st ++ [.dct []]))
theorem ds_newD {i : Nat} {x : Str} {pos' pd : Pos} (hN : X.N.Nodup) (hi : X.N[i]? = some x) (hx : Loc X.env.scope x) (hs : swapsWith (.Dict [] [] pd) (some (.Name x pos')) pos.line X.env = pure false := by rfl) (hf : X.fn x = true ∨ X.env.scope.names.lookup x = some .local := by first | exact .inl rfl | exact .inr rfl | assumption) :
    PS X (.Assign [.Name x pos'] (.Dict [] [] pd) pos) (tDS X.K (sNewD i)) := ps_imp (ps_set hN hi hx pe_dnewK hs hf) fun Dn σ H ⟨F, A, ρ, st, r, S, L, g, k⟩ => by
  cases g
  intro p hp
  have hF := S.ex.free hp
  have hA := S.fresh hp
  refine k _ F (upd H p (.dK [])) (A ++ [p]) ⟨Grow.other .refl hp, [p], rfl, fun b hb => by rw [List.mem_singleton] at hb; subst hb; exact hp⟩ ((S.other hF hA).push (fun _ => hF) hA ⟨[], upd_same, .nil⟩) ((L.app (B := [p])).set (c := .p st.length) ?_)
  exact ⟨p, by rw [← S.len, List.getElem?_append_right (Nat.le_refl _), Nat.sub_self]; rfl, rfl⟩
/-- d[k] = e -/
def sPutD (o i v : GE) : GS := fun ρ st => (v ρ st).bind fun p => (o ρ p.2).bind fun q => match q.1 with
  | .p k => (i ρ q.2).bind fun r => match r.1 with
    | .d y => match keyD y, r.2[k]? with
      | some ky, some (.dct kvs) => if kvs.length < 1000000 then some (.nx ρ (r.2.set k (.dct (putC kvs ky p.1)))) else none
      | _, _ => none
    | _ => none
  | _ => none
theorem key_rep {K : PySem.W.Frag} {F : Hp} {y : D} {v : V} {k : Key} (r : Rep K F y v) (h : keyD y = some k) : v = kV k := by
  cases r <;> simp only [keyD, reduceCtorEq] at h <;> (cases h; rfl)
theorem ds_putD {o i e : Expr} {po : Pos} {go gi gv : GE} (hu : X.A.units + 1 < cLine) (ho : PE X o (tD X.K go)) (hi : PE X i (tD X.K gi)) (hv : PE X e (tD X.K gv)) (hs : swapsWith e (some (.Subscript o i po)) pos.line X.env = pure false := by rfl) :
    PS X (.Assign [.Subscript o i po] e pos) (tDS X.K (sPutD go gi gv)) := ps_imp (ps_dput hu ho hi hv hs) fun Dn σ H ⟨F, A, ρ, st, r, S, L, g, k⟩ => by
  obtain ⟨⟨c1, st1⟩, h1, g⟩ := bind_some g
  obtain ⟨⟨c2, st2⟩, h2, g⟩ := bind_some g
  dsimp only at g
  split at g
  · rename_i j
    obtain ⟨⟨c3, st3⟩, h3, g⟩ := bind_some g
    dsimp only at g
    split at g
    · rename_i y
      split at g
      · rename_i ky kvs ek e3
        split at g
        · rename_i hl
          cases g
          refine ⟨F, A, ρ, st, c1, st1, S, L, h1, fun v F1 H1 g1 S1 r1 => ⟨F1, A, ρ, st1, _, _, S1, L.mono g1.ex, h2, fun w F2 H2 g2 S2 r2 => ?_⟩⟩
          refine ⟨F2, A, ρ, st2, _, _, S2, (L.mono g1.ex).mono g2.ex, h3, fun u F3 H3 g3 S3 r3 => ?_⟩
          obtain ⟨a, hka, rfl⟩ := r2
          rw [key_rep r3 ek]
          obtain ⟨ws, hw, hr⟩ := S3.obj j a _ hka e3
          have hc : RepC X.K F3 A c1 v := (r1.mono g2.ex).mono g3.ex
          obtain ⟨us, e4, r4⟩ := put_V (k := ky) hc hr
          have hlen : ((kvs.map (·.1)).zip ws).length < sizeLine := by
            rw [List.length_zip, List.length_map, ← hr.len, List.length_map, Nat.min_self]
            exact lim6' hl
          refine ⟨a, _, rfl, DPut.k (k := ky) hw hlen, ?_⟩
          obtain ⟨S4, g4⟩ := S3.write (o' := .dct (putC kvs ky c1)) (u := .dK (putK ((kvs.map (·.1)).zip ws) ky v)) hka e3 rfl rfl ⟨us, by rw [upd_same, e4], r4⟩
          exact k σ F3 _ A (.of (((g1.trans g2).trans g3).trans g4)) S4 (((L.mono g1.ex).mono g2.ex).mono g3.ex)
        · cases g
      · cases g
    · cases g
  · cases g
/-- what stands behind a key: of a dict of the store or of data -/
def dictOf (st : Sto) : C → Option (List (Key × C))
  | .p k => match st[k]? with
    | some (.dct kvs) => some kvs
    | _ => none
  | .d (.dct kvs) => some (kvs.map fun kv => (kv.1, .d kv.2))
  | _ => none
theorem dict_rep {K : PySem.W.Frag} {F H : Hp} {A : List Addr} {st : Sto} {c : C} {v : V} {kvs : List (Key × C)} (S : SS K F H A st) (r : RepC K F A c v) (h : dictOf st c = some kvs) : ∃ a vs, v = .ref a ∧ H a = some (.dK ((kvs.map (·.1)).zip vs)) ∧ RepCs K F A (kvs.map (·.2)) vs := by
  cases c with
  | p k =>
    obtain ⟨a, hka, rfl⟩ := r
    simp only [dictOf] at h
    split at h
    · rename_i e
      cases h
      obtain ⟨vs, h1, h2⟩ := S.obj k a _ hka e
      exact ⟨a, vs, rfl, h1, h2⟩
    · cases h
  | d x =>
    cases r <;> simp only [dictOf, reduceCtorEq] at h
    cases h
    rename_i kv a vs h1 h2 
    refine ⟨a, vs, rfl, ?_, ?_⟩
    · rw [List.map_map]
      exact S.ex _ _ h1
    · rw [List.map_map]
      have := h2.cs (A := A)
      rw [List.map_map] at this
      exact this
def eGetD (o i : GE) : GE := fun ρ st => (o ρ st).bind fun p => (i ρ p.2).bind fun q => match q.1 with
  | .d y => (keyD y).bind fun ky => (dictOf q.2 p.1).bind fun kvs => (lookC kvs ky).map fun c => (c, q.2)
  | _ => none
theorem de_getD {o i : Expr} {go gi : GE} (hu : X.A.units + 1 < cLine) (ho : PE X o (tD X.K go)) (hi : PE X i (tD X.K gi)) (hs : NoSl i := by exact fun _ _ => rfl) : PE X (.Subscript o i pos) (tD X.K (eGetD go gi)) := pe_imp (pe_dget hu ho hi hs) fun σ H Q ⟨F, A, ρ, st, c, st', S, L, g, k⟩ => by
  obtain ⟨⟨c1, st1⟩, h1, g⟩ := bind_some g
  obtain ⟨⟨c2, st2⟩, h2, g⟩ := bind_some g
  dsimp only at g
  split at g
  · rename_i y
    obtain ⟨ky, h3, g⟩ := bind_some g
    obtain ⟨kvs, h4, g⟩ := bind_some g
    simp only [Option.map_eq_some_iff, Prod.mk.injEq] at g
    obtain ⟨c3, h5, rfl, rfl⟩ := g
    refine ⟨F, A, ρ, st, c1, st1, S, L, h1, fun v F1 H1 g1 S1 r1 => ⟨F1, A, ρ, st1, _, _, S1, L.mono g1.ex, h2, fun w F2 H2 g2 S2 r2 => ?_⟩⟩
    rw [key_rep r2 h3]
    obtain ⟨a, vs, rfl, h6, h7⟩ := dict_rep S2 (r1.mono g2.ex) h4
    obtain ⟨u, h8, h9⟩ := (look_V ky h7).2 _ h5
    exact ⟨a, u, rfl, by rw [← h8]; exact DGet.k h6, k u F2 H2 (g1.trans g2) S2 h9⟩
  · cases g
theorem isD_of {K : PySem.W.Frag} {F H : Hp} {A : List Addr} {st : Sto} {c : C} {v : V} {kvs : List (Key × C)} (S : SS K F H A st) (r : RepC K F A c v) (h : dictOf st c = some kvs) : ∃ a, v = .ref a ∧ IsD H a := by
  obtain ⟨a, vs, rfl, h1, _⟩ := dict_rep S r h
  exact ⟨a, rfl, .inl ⟨_, .inl h1⟩⟩
def eGet1 (o i : GE) : GE := fun ρ st => (o ρ st).bind fun p => (dictOf p.2 p.1).bind fun _ => (i ρ p.2).bind fun q => match q.1 with
  | .d y => (keyD y).bind fun ky => (dictOf q.2 p.1).bind fun kvs => some (match lookC kvs ky with | some c => c | none => .d .non, q.2)
  | _ => none
def eGet2 (o i e : GE) : GE := fun ρ st => (o ρ st).bind fun p => (dictOf p.2 p.1).bind fun _ => (i ρ p.2).bind fun q => (e ρ q.2).bind fun r => match q.1 with
  | .d y => (keyD y).bind fun ky => (dictOf r.2 p.1).bind fun kvs => some (match lookC kvs ky with | some c => c | none => r.1, r.2)
  | _ => none
theorem de_get1 {o i : Expr} {apos : Pos} {go gi : GE} (hu : X.A.units + 1 < cLine) (ho : PE X o (tD X.K go)) (hi : PE X i (tD X.K gi)) (m : M1 X o "get" apos i pos) : PE X (.Call (.Attribute o "get" apos) [i] [] pos) (tD X.K (eGet1 go gi)) := pe_imp (pe_dget1 hu ho hi m) fun σ H Q ⟨F, A, ρ, st, c, st', S, L, g, k⟩ => by
  obtain ⟨⟨c1, st1⟩, h1, g⟩ := bind_some g
  obtain ⟨kv0, h0, g⟩ := bind_some g
  obtain ⟨⟨c2, st2⟩, h2, g⟩ := bind_some g
  dsimp only at g
  split at g
  · rename_i y
    obtain ⟨ky, h3, g⟩ := bind_some g
    obtain ⟨kvs, h4, g⟩ := bind_some g
    cases g
    refine ⟨F, A, ρ, st, c1, st1, S, L, h1, fun v F1 H1 g1 S1 r1 => ?_⟩
    obtain ⟨a0, e0, d0⟩ := isD_of S1 r1 h0
    refine ⟨a0, e0, d0, F1, A, ρ, st1, _, _, S1, L.mono g1.ex, h2, fun w F2 H2 g2 S2 r2 => ?_⟩
    rw [key_rep r2 h3]
    obtain ⟨a, vs, e1, h6, h7⟩ := dict_rep S2 (r1.mono g2.ex) h4
    have ea : a0 = a := V.ref.inj (e0.symm.trans e1)
    subst ea
    refine ⟨_, DGet.k h6, ?_⟩
    cases e : lookC kvs ky with
    | none =>
      rw [(look_V ky h7).1 e]
      rw [e] at k
      exact k _ F2 H2 (g1.trans g2) S2 .non
    | some c =>
      obtain ⟨u, h8, h9⟩ := (look_V ky h7).2 c e
      rw [h8]
      rw [e] at k
      exact k _ F2 H2 (g1.trans g2) S2 h9
  · cases g
theorem de_get2 {o i e : Expr} {apos : Pos} {go gi ge : GE} (hu : X.A.units + 1 < cLine) (ho : PE X o (tD X.K go)) (hi : PE X i (tD X.K gi)) (he : PE X e (tD X.K ge)) (m : M2 X o "get" apos i e pos) : PE X (.Call (.Attribute o "get" apos) [i, e] [] pos) (tD X.K (eGet2 go gi ge)) := pe_imp (pe_dget2 hu ho hi he m) fun σ H Q ⟨F, A, ρ, st, c, st', S, L, g, k⟩ => by
  obtain ⟨⟨c1, st1⟩, h1, g⟩ := bind_some g
  obtain ⟨kv0, h0, g⟩ := bind_some g
  obtain ⟨⟨c2, st2⟩, h2, g⟩ := bind_some g
  obtain ⟨⟨c3, st3⟩, h5, g⟩ := bind_some g
  dsimp only at g
  split at g
  · rename_i y
    obtain ⟨ky, h3, g⟩ := bind_some g
    obtain ⟨kvs, h4, g⟩ := bind_some g
    cases g
    refine ⟨F, A, ρ, st, c1, st1, S, L, h1, fun v F1 H1 g1 S1 r1 => ?_⟩
    obtain ⟨a0, e0, d0⟩ := isD_of S1 r1 h0
    refine ⟨a0, e0, d0, F1, A, ρ, st1, _, _, S1, L.mono g1.ex, h2, fun w F2 H2 g2 S2 r2 => ?_⟩
    refine ⟨F2, A, ρ, st2, _, _, S2, (L.mono g1.ex).mono g2.ex, h5, fun u F3 H3 g3 S3 r3 => ?_⟩
    rw [key_rep r2 h3]
    obtain ⟨a, vs, e1, h6, h7⟩ := dict_rep S3 ((r1.mono g2.ex).mono g3.ex) h4
    have ea : a0 = a := V.ref.inj (e0.symm.trans e1)
    subst ea
    refine ⟨_, DGet.k h6, ?_⟩
    cases e : lookC kvs ky with
    | none =>
      rw [(look_V ky h7).1 e]
      rw [e] at k
      exact k _ F3 H3 ((g1.trans g2).trans g3) S3 r3
    | some c =>
      obtain ⟨u, h8, h9⟩ := (look_V ky h7).2 c e
      rw [h8]
      rw [e] at k
      exact k _ F3 H3 ((g1.trans g2).trans g3) S3 h9
  · cases g
end
end DL
/-! DI: enumerate of lists and tuples, zip. -/
namespace DL
open PySem PySem.Spec PyProof.Rows L2

/-! ### enumerate(a tuple) -/
set_option maxHeartbeats 1000000 in
theorem enum1_meets {v : Value} {o : Obj} {Ho : Heap → Prop} (B : Begins v o Ho) : Meets (Builtin.«enumerate.__new__» ⟨[.type "enumerate", v], []⟩) (fun _ R s => Ho s.heap ∧
    R (.ok (.ret (.ref (s.heap.push o).objs.size))) { s with heap := (s.heap.push o).push { cls := .type "enumerate", data := .fields #[.none, .bool false, .ref s.heap.objs.size, rawInt 0, .none, .none] } }) :=
  .of_wp fun prog w A R s both => by
    obtain ⟨hp, gn, dr, tk, os⟩ := s
    obtain ⟨pre, goal⟩ := both
    have sub := sub_enumerate
    have iter : ∀ {A' : Around} {E' : Value → Shared → Prop} {Q' : Value → Shared → Prop}, Q' (.ref hp.objs.size) ⟨hp.push o, gn, dr, tk, os⟩ → wpAny (model prog w) A' (pyIter v) Q' E' ⟨hp, gn, dr, tk, os⟩ := fun q => B.iter _ _ _ _ _ _ pre q
    wp_walk using iter
    refine wpAny_stack_any fun stk => wpAny_pure ?_
    split
    · rename_i kind _ _ _ _ _
      cases (kind == Value.type "enumerate") <;> (wp_walk using iter; exact ⟨_, rfl, goal⟩)
    · wp_walk using iter
      exact ⟨_, rfl, goal⟩
theorem enum1_call {prog : Program} {w : World} {A : Around} {E : Value → Shared → Prop} {s : Shared} {v : Value} {o : Obj} {Ho : Heap → Prop} {Q : Value → Shared → Prop} (B : Begins v o Ho) (pre : Ho s.heap)
    (goal : ∀ h', IsEnum h' (s.heap.objs.size + 1) s.heap.objs.size 0 .none → h'.get? s.heap.objs.size = some o → (∀ b u, s.heap.get? b = some u → h'.get? b = some u) → Q (.ref (s.heap.objs.size + 1)) { s with heap := h' }) :
    wpAny (model prog w) A (call (.type "enumerate") [v]) Q E s := by
  refine callType_new F.called_enumerate (by decide) (F.typeCall_enumerate_1 _) (F.newCall_enumerate_1 _) (fun x => F.args_object_init_2 x _) F.entry_enumerate_new (enum1_meets B) ⟨pre, ?_⟩
  have size1 : (s.heap.push o).objs.size = s.heap.objs.size + 1 := Heap.size_push ..
  show _ ∧ _
  rw [size1]
  have made : IsEnum ((s.heap.push o).push { cls := .type "enumerate", data := .fields #[.none, .bool false, .ref s.heap.objs.size, rawInt 0, .none, .none] }) (s.heap.objs.size + 1) s.heap.objs.size 0 .none := by
    have at_ := Heap.get?_push_size (s.heap.push o) (o := { cls := .type "enumerate", data := .fields #[.none, .bool false, .ref s.heap.objs.size, rawInt 0, .none, .none] }) rfl
    rw [size1] at at_
    exact at_
  exact ⟨⟨_, made, rfl⟩, goal _ made (Heap.get?_push_of_some _ (Heap.get?_push_size _ B.free)) fun b u z => Heap.get?_push_of_some _ (Heap.get?_push_of_some _ z)⟩
/-- the tuple at a, each item in a new pair with its number -/
def EnT (K : PySem.W.Frag) (a : Addr) : It where
  go := fun i H => ∃ (xs : List V) (x : V), SqT K H a xs ∧ xs[i]? = some x
  yld := fun i H v H' => ∃ T x, v = .ref T ∧ H T = none ∧ H' = upd H T (.tup [.int (i : Nat), x]) ∧ ∀ xs, SqT K H a xs → xs[i]? = some x
  stop := fun i H => ∃ xs : List V, SqT K H a xs ∧ xs.length ≤ i
theorem turn_EnT {P : Program} {w : World} {K : PySem.W.Frag} {elts : List Expr} {kk : Nat} {tpos : Pos} (a e it : Addr) (hne : e ≠ it) (hia : a ≠ it) :
    Turn P w K (.Tuple elts kk tpos) (EnT K a) [e, it] e (fun i h => (∃ old, IsEnum h e it ((i : Nat) : Int) old) ∧ h.IsTupleIter it a i) where
  mem := List.mem_cons_self
  obj := fun i h st b hb => by
    obtain ⟨⟨old, he⟩, o, ho, _, hd⟩ := st
    rcases List.mem_cons.mp hb with z | z
    · rw [z]
      refine ⟨_, he, fun v q => ?_⟩
      cases q
    · rw [List.mem_singleton] at z
      exact ⟨o, by rw [z]; exact ho, fun v q => by rw [hd] at q; cases q⟩
  keep := fun i h h' st k => by
    obtain ⟨⟨old, he⟩, hi⟩ := st
    exact ⟨⟨old, k e (by simp) _ he⟩, hi.at fun o q => k it (by simp) o q⟩
  item := by
    intro X hP hw hK hc i pins s σ H E I hf st hg
    subst hP hw hK
    obtain ⟨⟨old, he⟩, hit⟩ := st
    obtain ⟨xs, x, hq, hx⟩ := hg
    obtain ⟨its, rv, p, hz⟩ := I.tuple hq
    obtain ⟨u, hu, ru⟩ := rv.get hx
    have tup : s.heap.IsTuple a its.toArray := p
    have hea : e ≠ a := fun z => by
      obtain ⟨o, ho, hcl, _⟩ := tup
      rw [← z, he] at ho
      cases ho
      have : ("enumerate" : String) = "tuple" := by injection hcl
      exact absurd this (by decide)
    have il : i < its.toArray.size := by simpa using (List.getElem?_eq_some_iff.mp hu).1
    have elt : e < s.heap.objs.size := Heap.lt_size he
    have ilt : it < s.heap.objs.size := by obtain ⟨_, q, _⟩ := hit; exact Heap.lt_size q
    have quiet : X.A.in1.handled = none := I.ok.hd hc
    refine wpAny_pyNext_enum_itemC (Draws.tuple quiet it a hia its.toArray) he ⟨hit, tup⟩ il hne (by simp [hne, hea]) ?_
    intro y h' tk hy out st' hT hsz hk
    have ey : y = u := by
      have hy : its.toArray[i]? = some y := hy
      rw [List.getElem?_toArray, hu] at hy
      exact (Option.some.inj hy).symm
    subst ey
    refine ⟨_, rfl, wpAny_letOwnedTupleGo_enum out ?_⟩
    intro h'' he' sb
    have size_ne : s.heap.objs.size ≠ e := Nat.ne_of_gt elt
    have hT2 : h''.get? s.heap.objs.size = some { cls := .type "tuple", data := .seq #[.int i tk, y] } := (sb.2 _ size_ne).trans hT
    have laid : ObjOk X.prog X.w (upd H s.heap.objs.size (.tup [.int (i : Nat), x])) h'' s.heap.objs.size (.tup [.int (i : Nat), x]) :=
      ⟨by show 2 ≤ sizeLine; decide, [.int i tk, y], .cons ⟨_, rfl⟩ (.cons ru .nil), ⟨_, hT2, rfl, _, rfl⟩⟩
    have away : ∀ b o, b ∉ [e, it] → s.heap.get? b = some o → h''.get? b = some o := fun b o hb q => by
      have h1 : b ≠ e := fun z => hb (by simp [z])
      have h2 : b ≠ it := fun z => hb (by simp [z])
      exact (sb.2 b h1).trans (hk b o h1 h2 q)
    have inv : Inv X pins σ (upd H s.heap.objs.size (.tup [.int (i : Nat), x])) { s with heap := h'', toks := tk + 1 } := I.turnedNew away hf (Nat.le_refl _) laid
    refine ⟨.ref s.heap.objs.size, _, inv, rfl, ⟨_, x, rfl, I.hok.fresh (Nat.le_refl _), rfl, fun ys hys => by rw [I.tuple_inj hys hq]; exact hx⟩, ⟨⟨y, ?_⟩, st'.1.at fun o q => (sb.2 it (Ne.symm hne)).trans q⟩, fun b hb => ?_⟩
    · rw [show ((i + 1 : Nat) : Int) = (i : Int) + 1 by omega]
      exact he'
    · have lt : b < s.heap.objs.size := by
        rcases List.mem_cons.mp hb with z | z
        · rw [z]; exact elt
        · rw [List.mem_singleton] at z; rw [z]; exact ilt
      rw [upd_ne (Nat.ne_of_lt lt)]
      exact (hf b hb).1
  done := by
    intro X hP hw hK hc i pins s σ H E I hf st hg
    subst hP hw hK
    obtain ⟨⟨old, he⟩, hit⟩ := st
    obtain ⟨xs, hq, hx⟩ := hg
    obtain ⟨its, rv, p, hz⟩ := I.tuple hq
    have tup : s.heap.IsTuple a its.toArray := p
    have quiet : X.A.in1.handled = none := I.ok.hd hc
    obtain ⟨f0, f1, f2, f3, f4, f5⟩ := hf it (by simp)
    have none_at : its.toArray[i]? = none := by
      rw [List.getElem?_toArray]
      exact List.getElem?_eq_none_iff.mpr (by rw [← rv.length]; exact hx)
    have last : Draws X.prog X.w X.A.in1 it [it, a] i (fun _ _ => True) (fun j h => j = i ∧ h.IsTupleIter it a i ∧ h.IsTuple a its.toArray) := {
      live := fun j h st => let ⟨o, ho, _⟩ := st.2.1; ⟨o, ho⟩
      frame := fun j h h' st hk => ⟨st.1, st.2.1.at fun o q => hk it (by simp) o q, st.2.2.at fun o q => hk a (by simp) o q⟩
      item := fun j s Q E hj st _ => absurd st.1 (Nat.ne_of_lt hj)
      done := fun s Q E st hE => wpAny_nextOf_tuple_end quiet st.2.1 st.2.2 none_at hE }
    refine wpAny_pyNext_enum_endD last he ⟨rfl, hit, tup⟩ ?_
    intro h' ext
    exact ⟨rfl, I.turned (t' := s.toks) (fun b o hb q => ext b o hb q) f0 f1 f3 f4 f5⟩
  self := fun A i s Q E st h => by
    obtain ⟨⟨_, he⟩, _⟩ := st
    exact wpAny_pyIter_enum he h
section
variable {X : Cx} {pos tpos p : Pos} {e e2 : Expr} {elts : List Expr} {kk : Nat}
def iEnT (K : PySem.W.Frag) (ta : TA) : TI := fun σ H R => ta σ H fun vs H1 => ∃ a xs, vs = [.ref a] ∧ SqT K H1 a xs ∧ R (EnT K a) H1
theorem pi_enT {ta : TA} (hg : Gl X "enumerate") (hm : X.mg "enumerate" = none) (ha : PA X [e] ta) (hs : starEach [e] X.env = [(false, eval e X.env)]) : PI X (.Tuple elts kk tpos) (.Call (.Name "enumerate" p) [e] [] pos) (iEnT X.K ta) := by
  constructor
  intro pins s σ H R I h
  refine Call_ (ld_blt I hg hm boot_enumerate (PyProof.Rows.callWith_type1 ?_ hs rfl))
  refine thn (ha.run pos pins s σ H _ I h) ?_
  rintro us s1 ⟨vs, H1, I1, r1, a, xs, rfl, hq, q⟩
  obtain ⟨u, rfl, ru⟩ := r1.one
  cases ru
  obtain ⟨its, rv, pl, hz⟩ := I1.tuple hq
  have tup : s1.heap.IsTuple a its.toArray := pl
  have al : a < s1.heap.objs.size := by obtain ⟨o, ho, _⟩ := tup; exact Heap.lt_size ho
  refine enum1_call (begins_tuple a its.toArray) tup ?_
  intro h' made iter keep
  refine wpAny_pyIter_enum made ?_
  have I2 : Inv X pins σ H1 { s1 with heap := h' } := I1.kept (t' := s1.toks) keep
  refine ⟨s1.heap.objs.size + 1, [s1.heap.objs.size + 1, s1.heap.objs.size], _, _, H1, rfl, I2, turn_EnT a (s1.heap.objs.size + 1) s1.heap.objs.size (Nat.succ_ne_self _) (Nat.ne_of_lt al), ⟨⟨.none, made⟩, ⟨_, iter, rfl, rfl⟩⟩, ?_, q⟩
  intro b hb
  have hle : s1.heap.objs.size ≤ b := by
    rcases List.mem_cons.mp hb with z | z
    · rw [z]; exact Nat.le_succ _
    · rw [List.mem_singleton] at z; rw [z]; exact Nat.le_refl _
  exact I1.fpOk hle (I1.hok.fresh hle)
def enumD (ds : List D) : List D := ds.mapIdx fun i d => .tup [.int (i : Nat), d]
theorem pair_new {K : PySem.W.Frag} {F H : Hp} {A : List Addr} {st : Sto} {T : Addr} {x y : V} {dx dy : D} (S : SS K F H A st) (hT : H T = none) (rx : Rep K F dx x) (ry : Rep K F dy y) :
    ∃ F', Grow A F H F' (upd H T (.tup [x, y])) ∧ SS K F' (upd H T (.tup [x, y])) A st ∧ Rep K F' (.tup [dx, dy]) (.ref T) := by
  have g : Grow A F H (upd F T (.tup [x, y])) (upd H T (.tup [x, y])) := .new1 (S.ex.free hT) hT
  exact ⟨_, g, S.new hT, .tup (SqT.of upd_same) (.cons (rx.mono g.ex) (.cons (ry.mono g.ex) .nil))⟩
theorem walk_enL {K : PySem.W.Frag} {A : List Addr} {F : Hp} {a : Addr} {vs : List V} {ds : List D} (h : SqL K F a vs) (r : Reps K F ds vs) : WalkOf K A F (Ite K a) (.items (enumD ds)) where
  stop := fun F1 H B st i e S hi => by
    simp only [itemAt, Option.some.injEq] at hi
    have := List.getElem?_eq_none_iff.mp hi
    exact ⟨vs, S.ex.seq (e.seq h), by rw [← r.len]; simpa [enumD] using this⟩
  go := fun F1 H B st i x e S hi => by
    simp only [itemAt, Option.some.injEq, enumD, List.getElem?_mapIdx, Option.map_eq_some_iff] at hi
    obtain ⟨d, hd, rfl⟩ := hi
    obtain ⟨v, hv, rv⟩ := (r.mono e).get hd
    refine ⟨⟨vs, v, S.ex.seq (e.seq h), hv⟩, fun w H' ⟨T, y, ew, hT, eH, fy⟩ => ?_⟩
    subst ew eH
    have : some v = some y := hv.symm.trans (fy vs (S.ex.seq (e.seq h)))
    cases this
    exact pair_new S hT .int rv
theorem walk_enT {K : PySem.W.Frag} {A : List Addr} {F : Hp} {a : Addr} {vs : List V} {ds : List D} (h : SqT K F a vs) (r : Reps K F ds vs) : WalkOf K A F (EnT K a) (.items (enumD ds)) where
  stop := fun F1 H B st i e S hi => by
    simp only [itemAt, Option.some.injEq] at hi
    have := List.getElem?_eq_none_iff.mp hi
    exact ⟨vs, same_sqt S.ex (same_sqt e h), by rw [← r.len]; simpa [enumD] using this⟩
  go := fun F1 H B st i x e S hi => by
    simp only [itemAt, Option.some.injEq, enumD, List.getElem?_mapIdx, Option.map_eq_some_iff] at hi
    obtain ⟨d, hd, rfl⟩ := hi
    obtain ⟨v, hv, rv⟩ := (r.mono e).get hd
    refine ⟨⟨vs, v, same_sqt S.ex (same_sqt e h), hv⟩, fun w H' ⟨T, y, ew, hT, eH, fy⟩ => ?_⟩
    subst ew eH
    have : some v = some y := hv.symm.trans (fy vs (same_sqt S.ex (same_sqt e h)))
    cases this
    exact pair_new S hT .int rv
def iEn (a : GA) : GI := fun ρ st => (a ρ st).bind fun p => match p.1 with
  | [.d (.tup ds)] => some (.items (enumD ds), p.2)
  | [.d (.lst ds)] => some (.items (enumD ds), p.2)
  | _ => none
theorem di_en {ga : GA} (hg : Gl X "enumerate") (hm : X.mg "enumerate" = none) (ha : PA X [e] (tDA X.K ga)) (hs : starEach [e] X.env = [(false, eval e X.env)] := by rfl) : PI X (.Tuple elts kk tpos) (.Call (.Name "enumerate" p) [e] [] pos) (tDI X.K (iEn ga)) := ⟨fun pins s σ H R I ⟨F, A, ρ, st, src, st', S, L, g, k⟩ => by
  obtain ⟨⟨cs, st1⟩, h1, g⟩ := bind_some g
  dsimp only at g
  split at g
  · cases g
    refine (pi_enT hg hm ha hs).run pins s σ H R I ⟨F, A, ρ, st, _, _, S, L, h1, fun vs F1 H1 g1 S1 r1 => ?_⟩
    cases r1 with
    | cons r rr =>
      cases rr
      cases r with
      | tup h2 hr => exact ⟨_, _, rfl, same_sqt S1.ex h2, k _ F1 H1 g1 S1 (walk_enT h2 hr)⟩
  · cases g
    refine (pi_enum hg hm ha hs).run pins s σ H R I ⟨F, A, ρ, st, _, _, S, L, h1, fun vs F1 H1 g1 S1 r1 => ?_⟩
    cases r1 with
    | cons r rr =>
      cases rr
      cases r with
      | lst h2 hr => exact ⟨_, _, rfl, SqL.of (S1.ex _ _ h2), k _ F1 H1 g1 S1 (walk_enL (SqL.of h2) hr)⟩
  · cases g⟩
/-! ### zip -/
def zipD (xs ys : List D) : List D := (xs.zip ys).map fun p => .tup [p.1, p.2]
theorem zip_none {xs ys : List D} {i : Nat} (h : (zipD xs ys)[i]? = none) : xs.length ≤ i ∨ ys.length ≤ i := by
  have := List.getElem?_eq_none_iff.mp h
  simp only [zipD, List.length_map, List.length_zip] at this
  omega
theorem zip_some {xs ys : List D} {i : Nat} {z : D} (h : (zipD xs ys)[i]? = some z) : ∃ x y, xs[i]? = some x ∧ ys[i]? = some y ∧ z = .tup [x, y] := by
  simp only [zipD, List.getElem?_map, Option.map_eq_some_iff] at h
  obtain ⟨⟨x, y⟩, h1, rfl⟩ := h
  rw [List.getElem?_zip_eq_some] at h1
  exact ⟨x, y, h1.1, h1.2, rfl⟩
theorem walk_zL {K : PySem.W.Frag} {A : List Addr} {F : Hp} {a b : Addr} {vs us : List V} {ds es : List D} (h : SqL K F a vs) (r : Reps K F ds vs) (h' : SqL K F b us) (r' : Reps K F es us) : WalkOf K A F (Itz K a b) (.items (zipD ds es)) where
  stop := fun F1 H B st i e S hi => by
    simp only [itemAt, Option.some.injEq] at hi
    exact ⟨vs, us, S.ex.seq (e.seq h), S.ex.seq (e.seq h'), by rw [← r.len, ← r'.len]; exact zip_none hi⟩
  go := fun F1 H B st i x e S hi => by
    simp only [itemAt, Option.some.injEq] at hi
    obtain ⟨d, d', hd, hd', rfl⟩ := zip_some hi
    obtain ⟨v, hv, rv⟩ := (r.mono e).get hd
    obtain ⟨v', hv', rv'⟩ := (r'.mono e).get hd'
    refine ⟨⟨vs, us, v, v', S.ex.seq (e.seq h), S.ex.seq (e.seq h'), hv, hv'⟩, fun w H' ⟨T, y, y', ew, hT, eH, fy, fy'⟩ => ?_⟩
    subst ew eH
    have q1 : some v = some y := hv.symm.trans (fy vs (S.ex.seq (e.seq h)))
    have q2 : some v' = some y' := hv'.symm.trans (fy' us (S.ex.seq (e.seq h')))
    cases q1
    cases q2
    exact pair_new S hT rv rv'
theorem walk_zT {K : PySem.W.Frag} {A : List Addr} {F : Hp} {a b : Addr} {vs us : List V} {ds es : List D} (h : SqT K F a vs) (r : Reps K F ds vs) (h' : SqT K F b us) (r' : Reps K F es us) : WalkOf K A F (RZ.ItzT K a b) (.items (zipD ds es)) where
  stop := fun F1 H B st i e S hi => by
    simp only [itemAt, Option.some.injEq] at hi
    exact ⟨vs, us, same_sqt S.ex (same_sqt e h), same_sqt S.ex (same_sqt e h'), by rw [← r.len, ← r'.len]; exact zip_none hi⟩
  go := fun F1 H B st i x e S hi => by
    simp only [itemAt, Option.some.injEq] at hi
    obtain ⟨d, d', hd, hd', rfl⟩ := zip_some hi
    obtain ⟨v, hv, rv⟩ := (r.mono e).get hd
    obtain ⟨v', hv', rv'⟩ := (r'.mono e).get hd'
    refine ⟨⟨vs, us, v, v', same_sqt S.ex (same_sqt e h), same_sqt S.ex (same_sqt e h'), hv, hv'⟩, fun w H' ⟨T, y, y', ew, hT, eH, fy, fy'⟩ => ?_⟩
    subst ew eH
    have q1 : some v = some y := hv.symm.trans (fy vs (same_sqt S.ex (same_sqt e h)))
    have q2 : some v' = some y' := hv'.symm.trans (fy' us (same_sqt S.ex (same_sqt e h')))
    cases q1
    cases q2
    exact pair_new S hT rv rv'
def iZp (a : GA) : GI := fun ρ st => (a ρ st).bind fun p => match p.1 with
  | [.d (.tup ds), .d (.tup es)] => some (.items (zipD ds es), p.2)
  | [.d (.lst ds), .d (.lst es)] => some (.items (zipD ds es), p.2)
  | _ => none
theorem di_zp {ga : GA} (hg : Gl X "zip") (hm : X.mg "zip" = none) (ha : PA X [e, e2] (tDA X.K ga)) (hs : starEach [e, e2] X.env = (false, eval e X.env) :: starEach [e2] X.env := by rfl) (hpl : (backTo pos (starEach [e2] X.env)).any (·.1) = false := by rfl) :
    PI X (.Tuple elts kk tpos) (.Call (.Name "zip" p) [e, e2] [] pos) (tDI X.K (iZp ga)) := pi_imp (RZ.pi_zipA hg hm ha hs hpl) fun σ H R ⟨F, A, ρ, st, src, st', S, L, g, k⟩ => by
  obtain ⟨⟨cs, st1⟩, h1, g⟩ := bind_some g
  refine ⟨F, A, ρ, st, cs, st1, S, L, h1, fun vs F1 H1 g1 S1 r1 => ?_⟩
  dsimp only at g
  split at g
  · cases g
    cases r1 with
    | cons r rr =>
      cases rr with
      | cons r' rr =>
        cases rr
        cases r with
        | tup h2 hr =>
          cases r' with
          | tup h3 hr' => exact ⟨_, _, _, _, rfl, .inr ⟨same_sqt S1.ex h2, same_sqt S1.ex h3, k _ F1 H1 g1 S1 (walk_zT h2 hr h3 hr')⟩⟩
  · cases g
    cases r1 with
    | cons r rr =>
      cases rr with
      | cons r' rr =>
        cases rr
        cases r with
        | lst h2 hr =>
          cases r' with
          | lst h3 hr' => exact ⟨_, _, _, _, rfl, .inl ⟨SqL.of (S1.ex _ _ h2), SqL.of (S1.ex _ _ h3), k _ F1 H1 g1 S1 (walk_zL (SqL.of h2) hr (SqL.of h3) hr')⟩⟩
  · cases g
end
end DL
/-! DJ: repr, rpartition, slices by two, a module's tuple. -/
namespace DL
open PySem PySem.Spec PyProof.Rows L2

section
variable {X : Cx} {pos : Pos}
/-! ### repr -/
def reprD : List D → Option D
  | [x] => (toPy x).bind fun p => if p.showable = true ∧ p.hasDict = false ∧ p.shown.length ≤ 1000000 ∧ p.depth ≤ 40 then some (.str p.shown) else none
  | _ => none
theorem call_reprD (hq : X.A.guards = some []) (hu : X.A.units + 64 < cLine) : CallR X (.builtin "repr") (rCD X.K reprD) := fun pins s σ H vs us Q I rv ⟨F, A, st, xs, z, S, rs, hz, k⟩ => by
  cases rs with
  | nil => cases hz
  | cons r rs =>
    cases rs with
    | cons _ _ => cases r <;> cases hz
    | nil =>
      obtain ⟨u, rfl, ru⟩ := rv.one
      rename_i x v _
      have hz : ((toPy x).bind fun p => if p.showable = true ∧ p.hasDict = false ∧ p.shown.length ≤ 1000000 ∧ p.depth ≤ 40 then some (D.str p.shown) else none) = some z := hz
      obtain ⟨p, hp, hz⟩ := bind_some hz
      split at hz
      · rename_i c
        obtain ⟨c1, c2, c3, c4⟩ := c
        cases hz
        obtain ⟨as, rd⟩ := Dp.reads I p v u (dpp_of S.ex r hp) ru
        have goal : ∀ h' t tk, (∀ b o, s.heap.get? b = some o → h'.get? b = some o) → EP X pins σ Q (.str p.shown t) { s with heap := h', toks := tk } := fun h' t tk keep =>
          ⟨.str p.shown, H, I.kept keep, ⟨t, rfl⟩, k _ F H .refl S .str⟩
        cases r with
        | non =>
          cases hp; cases ru
          exact PySem.P.repr_of_none (goal _ _ _ fun _ _ z => z)
        | bl =>
          cases hp; cases ru
          exact PySem.P.repr_of_bool (goal _ _ _ fun _ _ z => z)
        | @int i =>
          cases hp
          obtain ⟨t, rfl⟩ := ru
          have small : i.natAbs.log2 < 1920 := of_decide_eq_true c1
          exact PySem.P.repr_of_int small (goal _ _ _ fun _ _ z => z)
        | str =>
          cases hp
          obtain ⟨t, rfl⟩ := ru
          exact PySem.P.repr_of_str (goal _ _ _ fun _ _ z => z) (lim6 c3)
        | tup _ _ => cases ru; exact repr_of_reads' rd c1 (fun q => by rw [c2] at q; cases q) hq (by omega) (fun _ _ z => z) (fun h' t tk keep => goal h' t tk keep) (lim6 c3)
        | lst _ _ => cases ru; exact repr_of_reads' rd c1 (fun q => by rw [c2] at q; cases q) hq (by omega) (fun _ _ z => z) (fun h' t tk keep => goal h' t tk keep) (lim6 c3)
        | wls _ _ => cases hp
        | dct _ _ => cases hp
      · cases hz

/-! ### rpartition -/
def rpartD : List D → Option D
  | [.str a, .str b] => if (b.length == 0) = false ∧ a.length ≤ 1000000 then some (.tup [.str (Txt.rpartition a b).1, .str (Txt.rpartition a b).2.1, .str (Txt.rpartition a b).2.2]) else none
  | _ => none
theorem m_rpart : MtR X "str.rpartition" (rMD X.K rpartD) := fun pins s σ H x xs v us Q I rx rxs ⟨Fr, A, st, ds, z, S, rs, hz, k⟩ => by
  cases rs with
  | cons r rs =>
    cases rs with
    | nil => cases r <;> cases hz
    | cons r2 rs =>
      cases rs with
      | cons _ _ => cases r <;> cases r2 <;> cases hz
      | nil =>
        cases r <;> cases r2 <;> simp only [rpartD, reduceCtorEq] at hz
        rename_i a b _
        split at hz
        · rename_i hl
          cases hz
          obtain ⟨t, rfl⟩ := rx
          obtain ⟨u, rfl, t2, rfl⟩ := rxs.one
          refine call_meets F.slot_str_rpartition (typeIs_str _ _ _) F.entry_str_rpartition (F.args_str_rpartition_2 _ _) (meets_str_rpartition a b t t2 hl.1 (lim6 hl.2)) ?_
          have fin : ∀ p, H p = none → Q (.ref p) (upd H p (.tup [.str (Txt.rpartition a b).1, .str (Txt.rpartition a b).2.1, .str (Txt.rpartition a b).2.2])) := fun p hp =>
            k _ _ _ (.new1 (S.ex.free hp) hp) (S.new hp) (.tup (SqT.of upd_same) (.cons .str (.cons .str (.cons .str .nil))))
          unfold Txt.rpartition at fin
          revert fin
          cases Builtin.Str.lastOccurrence a b 0 a.length with
          | none => exact fun fin => laid_parts I fin
          | some i => exact fun fin => laid_parts I fin
        · cases hz
end
end DL
namespace DL
open PySem PySem.Spec PyProof.Rows L2
/-! ### xs[lo:hi:k], a new list -/
def pickD {α : Type} (xs : List α) (lo hi st : Option Int) : List α := (sliceRange (sliceBounds lo hi st xs.length).1 (sliceBounds lo hi st xs.length).2.1 (sliceBounds lo hi st xs.length).2.2).filterMap fun i => xs[i]?
theorem pick_paired {α β : Type} {R : α → β → Prop} {xs : List α} {ys : List β} (h : Paired R xs ys) (hg : ∀ (i : Nat) (x : α), xs[i]? = some x → ∃ y, ys[i]? = some y ∧ R x y) (hn : ∀ i : Nat, xs[i]? = none → ys[i]? = none) : ∀ is : List Nat, Paired R (is.filterMap fun i => xs[i]?) (is.filterMap fun i => ys[i]?)
  | [] => .nil
  | i :: is => by
    cases e : xs[i]? with
    | none => rw [List.filterMap_cons_none e, List.filterMap_cons_none (hn i e)]; exact pick_paired h hg hn is
    | some x =>
      obtain ⟨y, hy, r⟩ := hg i x e
      rw [List.filterMap_cons_some e, List.filterMap_cons_some hy]
      exact .cons r (pick_paired h hg hn is)
theorem vals_pick {vs : List V} {us : List Value} (r : Vals vs us) (lo hi st : Option Int) : Vals (pickD vs lo hi st) (slicePick us.toArray lo hi st).toList := by
  unfold slicePick pickD
  rw [List.toList_toArray, List.size_toArray, ← r.length]
  simp only [List.getElem?_toArray]
  exact pick_paired r (fun i x h => r.get h) (fun i h => r.none_of h) _
theorem reps_pick {K : PySem.W.Frag} {F : Hp} {ds : List D} {vs : List V} (r : Reps K F ds vs) (lo hi st : Option Int) : Reps K F (pickD ds lo hi st) (pickD vs lo hi st) := by
  unfold pickD
  rw [← r.len]
  have all : ∀ is : List Nat, Reps K F (is.filterMap fun i => ds[i]?) (is.filterMap fun i => vs[i]?) := by
    intro is
    induction is with
    | nil => exact .nil
    | cons i is ih =>
      cases e : ds[i]? with
      | none =>
        have e2 : vs[i]? = none := List.getElem?_eq_none_iff.mpr (by rw [← r.len]; exact List.getElem?_eq_none_iff.mp e)
        rw [List.filterMap_cons_none e, List.filterMap_cons_none e2]; exact ih
      | some x =>
        obtain ⟨y, hy, q⟩ := r.get e
        rw [List.filterMap_cons_some e, List.filterMap_cons_some hy]
        exact .cons q ih
  exact all _
section
variable {X : Cx} {pos p2 : Pos} {e kx : Expr} {lo hi : Option Expr}
def tSl3 (K : PySem.W.Frag) (te : TE) (tl th tk : TO) : TE := fun σ H Q => te σ H fun x H1 => tl σ H1 fun l H2 => th σ H2 fun u H3 => tk σ H3 fun k H4 => ∃ a xs, x = .ref a ∧ SqL K H4 a xs ∧ k ≠ some 0 ∧ ∀ p, H4 p = none → Q (.ref p) (upd H4 p (.lst (pickD xs l u k)))
theorem pe_sl3 {te : TE} {tl th tk : TO} (he : PE X e te) (hl : PO X lo tl) (hh : PO X hi th) (hk : PO X (some kx) tk) : PE X (.Subscript e (.Slice lo hi (some kx) p2) pos) (tSl3 X.K te tl th tk) := by
  constructor
  intro pins s σ H Q I h
  refine Subscript_ (thn (he.run pins s σ H _ I h) ?_)
  rintro v s1 ⟨x, H1, I1, r1, q1⟩
  refine wpAny_Slice (thn (hl.run pins s1 σ H1 _ I1 q1) ?_)
  rintro vl s2 ⟨l, H2, I2, pl, q2⟩
  refine thn (hh.run pins s2 σ H2 _ I2 q2) ?_
  rintro vu s3 ⟨u, H3, I3, pu, q3⟩
  refine thn (hk.run pins s3 σ H3 _ I3 q3) ?_
  rintro vk s4 ⟨k, H4, I4, pk, a, xs, rfl, hx, h0, q4⟩
  cases r1
  have I5 : Inv X pins σ H4 { s4 with heap := s4.heap.push { cls := .type "slice", data := .fields #[vl, vu, vk] } } := I4.kept (t' := s4.toks) fun b o z => Heap.get?_push_of_some _ z
  obtain ⟨its, rv, ht, hz⟩ := I5.list hx
  have sized : its.toArray.size ≤ sizeLine := by rw [List.size_toArray, ← rv.length]; exact hz
  refine tail_any (ops := [.ref a, .ref s4.heap.objs.size]) ht.isList.typeIs slot_list_getitem.lookup (wpAny_getItem_list_slice ht.isList (Heap.IsSliceOf.new ..) pl pu pk h0 ?_ sized) (by with_unfolding_all rfl)
  have picked := vals_pick rv l u k
  have len_le : (pickD xs l u k).length ≤ sizeLine := by
    rw [picked.length, Array.length_toList]
    exact Nat.le_trans (slicePick_size_le its.toArray l u k) sized
  refine ⟨.ref _, _, I5.laid (t' := s4.toks) (o := .lst (pickD xs l u k)) (fun b o z => Heap.get?_push_of_some _ z) (Nat.le_refl _) ?_, rfl, q4 _ (I5.hok.fresh (Nat.le_refl _))⟩
  exact ⟨len_le, _, 0, picked, by rw [Array.toArray_toList]; exact Heap.get?_push_size _ rfl⟩
def eSl3 (a : GE) (lo hi k : GO) : GE := fun ρ st => (a ρ st).bind fun p => (lo ρ p.2).bind fun l => (hi ρ l.2).bind fun h => (k ρ h.2).bind fun m => (deref m.2 p.1).bind fun x => match x with
  | .lst xs => if m.1 ≠ some 0 then some (.d (.lst (pickD xs l.1 h.1 m.1)), m.2) else none
  | _ => none
theorem de_sl3 {G : GE} {Gl Gh Gk : GO} (he : PE X e (tD X.K G)) (hl : PO X lo (tDO X.K Gl)) (hh : PO X hi (tDO X.K Gh)) (hk : PO X (some kx) (tDO X.K Gk)) : PE X (.Subscript e (.Slice lo hi (some kx) p2) pos) (tD X.K (eSl3 G Gl Gh Gk)) :=
  pe_imp (pe_sl3 he hl hh hk) fun σ H Q ⟨F, A, ρ, st, c, st', S, L, g, kk⟩ => by
    obtain ⟨⟨c1, st1⟩, h1, g⟩ := bind_some g
    obtain ⟨⟨l, st2⟩, h2, g⟩ := bind_some g
    obtain ⟨⟨h, st3⟩, h3, g⟩ := bind_some g
    obtain ⟨⟨m, st4⟩, h4, g⟩ := bind_some g
    obtain ⟨x, h5, g⟩ := bind_some g
    cases x with
    | lst xs =>
      dsimp only at g
      split at g
      · rename_i hm
        cases g
        refine ⟨F, A, ρ, st, c1, st1, S, L, h1, fun v F1 H1 g1 S1 r1 => ⟨F1, A, ρ, st1, l, st2, S1, L.mono g1.ex, h2, fun F2 H2 g2 S2 => ⟨F2, A, ρ, st2, h, st3, S2, (L.mono g1.ex).mono g2.ex, h3, fun F3 H3 g3 S3 => ⟨F3, A, ρ, st3, m, _, S3, ((L.mono g1.ex).mono g2.ex).mono g3.ex, h4, fun F4 H4 g4 S4 => ?_⟩⟩⟩⟩
        have rp := S4.deref (((r1.mono g2.ex).mono g3.ex).mono g4.ex) h5
        cases rp with
        | lst hs hr =>
          refine ⟨_, _, rfl, SqL.of hs, hm, fun p hp => ?_⟩
          exact kk _ _ _ ((((g1.trans g2).trans g3).trans g4).trans (.new1 (S4.ex.free hp) hp)) (S4.new hp) (.lst upd_same ((reps_pick hr l h m).mono (Grow.new1 (A := A) (S4.ex.free hp) hp).ex))
      · cases g
    | _ => cases g
/-! ### a module's names -/
theorem de_gs {x y : Str} (hg : Gl X x) (hm : ∃ t, X.mg x = some (.str y t)) (hd : (x == ("__debug__" : Str)) = false := by decide) : PE X (.Name x pos) (tD X.K (eK (.str y))) := by
  obtain ⟨t, h⟩ := hm
  exact de_gl hg h (v := .str y) ⟨t, rfl⟩ (fun _ => .str) hd
/-- a tuple of the module's top: texts alone -/
structure TopStrs (K : PySem.W.Frag) (mg : Str → Option Value) (x : Str) (ys : List Str) : Prop where
  at_ : ∃ a, mg x = some (.ref a) ∧ SqT K (fun _ => none) a (ys.map V.str)
theorem de_gt {x : Str} {ys : List Str} (hg : Gl X x) (hm : TopStrs X.K X.mg x ys) (hd : (x == ("__debug__" : Str)) = false := by decide) : PE X (.Name x pos) (tD X.K (eK (.tup (ys.map .str)))) := by
  obtain ⟨a, h, q⟩ := hm.at_
  exact de_gl hg h (v := .ref a) rfl (fun F => .tup (same_sqt (fun b o z => by cases (show (none : Option HO) = some o from z)) q) (reps_strs ys)) hd
end
end DL
/-! DL: the law's end over a promise by data. -/
namespace DL
open PySem PySem.Spec PyProof.Rows L2

theorem reps_ints {K : PySem.W.Frag} {F : Hp} : ∀ ns : List Int, Reps K F (ns.map .int) (ns.map V.int)
  | [] => .nil
  | n :: ns => .cons .int (reps_ints ns)
/-- the heap at the entry: the script alone, where it is not one of the module's own objects -/
def entryH (K : PySem.W.Frag) (a : Addr) (o : Obj) (ns : List Int) : Hp := fun b => if b = a ∧ K.lookup a = none then some (.frz o (.lst (ns.map V.int))) else none
theorem entry_some {K : PySem.W.Frag} {a b : Addr} {o : Obj} {ns : List Int} {u : HO} (h : entryH K a o ns b = some u) : b = a ∧ K.lookup a = none ∧ u = .frz o (.lst (ns.map V.int)) := by
  unfold entryH at h
  split at h
  · rename_i c
    cases h
    exact ⟨c.1, c.2, rfl⟩
  · cases h
theorem law_G {P : Program} {w : World} {K : PySem.W.Frag} {mg mb : Str → Option Value} {k : Nat} {fa a : Addr} {fd : FuncData} {x : Str} {Φ : List C → Sto → Option (C × Sto)} {t : Shared} {vs : List Value} {ns : List Int}
    (inK : K.In t.heap) (glob : t.heap.Ns mainGlobals mg) (blt : t.heap.Ns builtinsNs mb) (boot : ∀ x : Str, x ≠ "__name__" → mb x = bootBuiltins x) (nol : t.heap.NoLimit) (gens : t.gens = #[])
    (obj : t.heap.get? a = some { cls := .type "list", data := .seq vs.toArray }) (whole : IntsAre vs ns) (size : ns.length ≤ sizeLine) (room : Room k callerA)
    (G : ∀ base : Heap, K.In base → base.Ns mainGlobals mg → FnG P w K mg base k fa fd [x] Φ) (bind : ∀ (s : Shared) (u : Value), BindsTo s fd ⟨[u], []⟩ [(x, u)])
    (ok : Φ [.d (.wls (ns.map .int))] [] = some (.d (.bl true), [])) :
    codeAny (model P w) callerA (.call (.ref fa) ⟨[.ref a], []⟩) (fun r s' => r = .ok (.ret (.bool true)) ∧ OldK t.heap s'.heap ∧ s'.os = t.os ∧ AllBare s'.gens) t := by
  let H := entryH K a { cls := .type "list", data := .seq vs.toArray } ns
  have vi := vals_ints whole
  have held : HOk P w H t.heap := fun b u e => by
    obtain ⟨rfl, _, rfl⟩ := entry_some e
    exact ⟨obj, by rw [List.length_map]; exact size, vs, _, vi, obj⟩
  have script : SqL K H a (ns.map V.int) := by
    cases q : K.lookup a with
    | none => exact .inl (.inr ⟨_, if_pos ⟨rfl, q⟩⟩)
    | some o =>
      have e := inK a o q
      rw [obj] at e
      cases e
      exact .inr ⟨_, vs.toArray, _, q, rfl, rfl, rfl, by rw [List.size_toArray, whole.length]; exact size, by simpa using vi⟩
  have clear : ∀ {b : Addr} {o : Obj}, K.lookup b = some o → H b = none := fun {b o} e => by
    cases q : H b with
    | none => rfl
    | some u =>
      obtain ⟨rfl, z, _⟩ := entry_some q
      rw [z] at e
      cases e
  have dicts : ∀ {b : Addr} {o : Obj} {es : Array DictEntry} {ep : Nat}, t.heap.get? b = some o → o.data = .dict es ep → H b = none := fun {b o es ep} e d => by
    cases q : H b with
    | none => rfl
    | some u =>
      obtain ⟨rfl, _, _⟩ := entry_some q
      rw [obj] at e
      cases e
      exact nomatch d
  have names : ∀ {b : Addr} {m : Str → Option Value}, t.heap.Ns b m → (hidT t.heap H).Ns b m := fun {b m} h => by
    obtain ⟨o, es, ep, e, d, rest⟩ := h
    exact ⟨o, es, ep, hidT_get e (dicts e d), d, rest⟩
  have inB : K.In (hidT t.heap H) := fun b o e => hidT_get (inK b o e) (clear e)
  have mod : Mod K mg (hidT t.heap H) := by
    obtain ⟨mc, c1, c2⟩ := nol
    exact ⟨inB, names glob, ⟨mb, names blt, boot⟩, mc, names c1, c2⟩
  have e0 : Env0 P w K mg (hidT t.heap H) callerA [] t H := by
    refine ⟨rfl, mod, fun b o e => of_hidT e, Nat.le_of_eq (hidT_size _ _), trivial, fun b hb => ?_, held, .of_eq gens⟩
    exact absurd (show b ∈ ([] : List Addr) from hb) (by simp)
  have sp : spD K [x].length Φ [V.ref a] H (fun v _ => v = .bl true) E0 := by
    refine ⟨rfl, H, [], _, [], _, [], ⟨Same.refl H, rfl, List.nodup_nil, fun k a o h => by simp at h, fun k a o h => by simp at h⟩, .cons (c := .d (.wls (ns.map .int))) (Rep.wls script (reps_ints ns)) .nil, ok, fun v F' H' _ _ r => ?_⟩
    cases r
    rfl
  refine codeAny_mono ((G _ inB (names glob)).go callerA [] t H ⟨[.ref a], []⟩ [.ref a] [.ref a] _ room rfl e0 (bind t (.ref a)) (.cons rfl .nil) sp) ?_
  intro res s' out
  match res, out with
  | .ok .next, out => exact out.elim
  | .ok .brk, out => exact out.elim
  | .ok .cont, out => exact out.elim
  | .error e, out => exact out.elim
  | .ok (.ret u), out =>
    obtain ⟨v, H', os, bare, un, held', rel, rfl⟩ := out
    cases rel
    refine ⟨rfl, OldK.of_keep fun b o e => ?_, os, bare⟩
    cases q : H b with
    | none => exact un.keep b o e q (by simp [frs]) (by simp)
    | some u =>
      obtain ⟨rfl, _, rfl⟩ := entry_some q
      obtain ⟨e2, _⟩ := held' b _ (un.frzs b _ _ q)
      rw [obj] at e
      cases e
      exact e2
/-- the goal that the head leaves, from the law's promise by data -/
theorem walk_G {l : PySem.W.OpenLaw} {n k : Nat} {q : Program} {loose : List Str} {XP : (Str → Option Value) → Heap → Prop} {YP : World → Heap → Prop} {d : DefRec} {K : Params → PySem.W.Frag} {x : Str} {Φ : List C → Sto → Option (C × Sto)}
    (hn : l.most = some n) (hn2 : n ≤ sizeLine) (hdf : d.params.defaults = []) (room : Room k callerA) (hY : ∀ (w : World) (h : Heap), YP w h → (K w.params).In h)
    (G : ∀ (w : World) (mg : Str → Option Value) (fa : Addr) (h : Heap), (K w.params).In h → h.Ns mainGlobals mg → mg d.name = some (.ref fa) →
      ∃ fd : FuncData, (∀ (s : Shared) (u : Value), BindsTo s fd ⟨[u], []⟩ [(x, u)]) ∧ ∀ base : Heap, (K w.params).In base → base.Ns mainGlobals mg → FnG l.prog w (K w.params) mg base k fa fd [x] Φ)
    (ok : ∀ ns : List Int, ns.length ≤ n → Φ [.d (.wls (ns.map .int))] [] = some (.d (.bl true), [])) : PySem.W.WalkO q loose XP YP l.row.toRowW d [] (fun f vs => PySem.call f vs) := by
  refine Att.attach_call hn hdf ?_
  intro w s0 t mg mb fa o pm cd doc a vs ns gr Y ho hd hcd hmg obj whole len gens
  have inK := hY w _ Y
  obtain ⟨fd, bind, hG⟩ := G w mg fa _ inK gr.T.g hmg
  exact law_G inK gr.T.g gr.T.b gr.T.builtins gr.T.nolimit gens obj whole (Nat.le_trans len hn2) room hG bind (ok ns len)
end DL
/-! DK: a compare as a test, minus. -/
namespace DL
open PySem PySem.Spec PyProof.Rows L2
section
variable {X : Cx} {pos : Pos}
theorem dt_cmp {op : CmpOp} {g : D → D → Option D} {a b : Expr} {Ga Gb : GE} (ho : OpR X (compareOp op) (rDD X.K g)) (ha : PE X a (tD X.K Ga)) (hb : PE X b (tD X.K Gb)) (hm : behindInMarks op b = false) : PT X (.Compare a [op] [b] pos) (tDT X.K (tB (eOp g Ga Gb))) :=
  pt_imp (pt_cmpR ho ha hb hm) fun σ H Q ⟨F, A, ρ, st, b, st', S, L, g, k⟩ => by
  obtain ⟨⟨c, st1⟩, h1, g⟩ := bind_some g
  dsimp only at g
  split at g
  · rename_i c' b'
    cases g
    refine bin_imp (K := X.K) (fun v u H Q h => h) σ H _ ⟨F, A, ρ, st, _, _, S, L, h1, fun v F1 H1 g1 S1 r1 => ?_⟩
    cases r1
    exact ⟨_, rfl, k F1 H1 g1 S1⟩
  · cases g
def eNeg (a : GE) : GE := fun ρ st => (a ρ st).bind fun p => match p.1 with
  | .d (.int i) => some (.d (.int (-i)), p.2)
  | _ => none
theorem de_neg {a : Expr} {ga : GE} (ha : PE X a (tD X.K ga)) : PE X (.UnaryOp .USub a pos) (tD X.K (eNeg ga)) :=
  pe_imp (pe_un un_neg ha) fun σ H Q ⟨F, A, ρ, st, c, st', S, L, g, k⟩ => by
  obtain ⟨⟨c1, st1⟩, h1, g⟩ := bind_some g
  dsimp only at g
  split at g
  · cases g
    refine ⟨F, A, ρ, st, _, _, S, L, h1, fun v F1 H1 g1 S1 r1 => ?_⟩
    cases r1
    exact ⟨_, rfl, k _ F1 H1 g1 S1 .int⟩
  · cases g
end
end DL
namespace Lw
open PySem PySem.Spec PyProof.Rows L2 DL
def top (i : Nat) : Stmt := PySem.Challenge.pw_heldwater_k00_basins_read.main.body.getD i (.Pass ⟨0, 0, 0, 0⟩)
structure Df (K : PySem.W.Frag) (mg : PySem.Str → Option Value) (x : PySem.Str) (st : Stmt) (ps : List PySem.Str) where
  f : Addr
  fd : FuncData
  F : Fun K x x st f fd
  b : Binds K fd ps []
  g : mg x = some (.ref f)
structure Txt (K : PySem.W.Frag) (mg : PySem.Str → Option Value) : Prop where
  b_len : mg "len" = none
  b_int : mg "int" = none
  b_range : mg "range" = none
  b_tuple : mg "tuple" = none
  b_str : mg "str" = none
  b_repr : mg "repr" = none
  b_enumerate : mg "enumerate" = none
  b_zip : mg "zip" = none
  c_NAME : ∃ t, mg "NAME" = some (.int 0 t)
  c_MOST_DIGITS : ∃ t, mg "MOST_DIGITS" = some (.int 9 t)
  c_ABOVE_ALL : ∃ t, mg "ABOVE_ALL" = some (.int 1000000000 t)
  c_MOST_LETTERS : ∃ t, mg "MOST_LETTERS" = some (.int 6 t)
  c_MOST_TRAVEL : ∃ t, mg "MOST_TRAVEL" = some (.int 2 t)
  c_MOST_WATER : ∃ t, mg "MOST_WATER" = some (.int 99 t)
  c_SITE_WORDS : TopStrs K mg "SITE_WORDS" ["to", "in", "reach", "room", "held"]
  c_MOST_MONTHS : ∃ t, mg "MOST_MONTHS" = some (.int 4 t)
  c_RIGHT_SITE : ∃ t, mg "RIGHT_SITE" = some (.int 1 t)
  c_MOST_RIGHTS : ∃ t, mg "MOST_RIGHTS" = some (.int 4 t)
  c_MOST_SITES : ∃ t, mg "MOST_SITES" = some (.int 4 t)
  c_HELD : ∃ t, mg "HELD" = some (.int 5 t)
  c_ROOM : ∃ t, mg "ROOM" = some (.int 4 t)
  c_INFLOWS : ∃ t, mg "INFLOWS" = some (.int 6 t)
  c_NEXT : ∃ t, mg "NEXT" = some (.int 1 t)
  c_TRAVEL : ∃ t, mg "TRAVEL" = some (.int 2 t)
  c_DEMANDS : ∃ t, mg "DEMANDS" = some (.int 2 t)

abbrev s_lw_draw : Stmt := top 51
theorem sc_lw_draw : FnScope ["box", "many", "at"] ["box", "many"] (defScope s_lw_draw) := ⟨rfl, rfl, rfl, by decide +kernel, rfl, by decide +kernel, by decide +kernel⟩
def G_lw_draw : GS :=
  (sSeq (sSet 2 (eOp ixD (eV 0) (eK (.int 1))))
    (sSeq (sPut (eV 0) (eK (.int 1)) (eOp addD (eV 2) (eK (.int 1))))
    (sSeq (sIf (DL.tB (eOp ltD (eV 2) (eCB lenD (aC (eOp ixD (eV 0) (eK (.int 0))) aN)))) (sRt (eOp modD (eCB intD (aC (eOp ixD (eOp ixD (eV 0) (eK (.int 0))) (eV 2)) aN)) (eV 1))) sNx)
    (sRt (eOp modD (eCB intD (aC (eOp addD (eOp mulD (eV 2) (eK (.int 7))) (eK (.int 3))) aN)) (eV 1))))))
def phi_lw_draw : List C → Sto → Option (C × Sto) := fnD 3 2 G_lw_draw
theorem ok_lw_draw {P : Program} {w : World} {K : PySem.W.Frag} {mg : PySem.Str → Option Value} {base : Heap} (T : Txt K mg) (D_lw_draw : Df K mg "_law_draw" s_lw_draw ["box", "many"]) : FnG P w K mg base 1 D_lw_draw.f D_lw_draw.fd ["box", "many"] phi_lw_draw :=
  fn_D (N := ["box", "many", "at"]) (k := 0) D_lw_draw.F sc_lw_draw fun cdv A outer s H hr hq => by
    have hu := hu_of hr
    have hu64 := hr.units
    exact (dss_c (ds_set (i := 2) sc_lw_draw.nd rfl (by first | exact .inl rfl | exact .inr rfl) (de_ix ix_D (de_v 0) de_int))
    (dss_c (ds_put (de_v 0) de_int (de_op op_addD (de_v 2) de_int))
    (dss_c (ds_if (dt_cmp op_ltD (de_v 2) (de_b call_lenD rfl T.b_len (by decide +kernel) (da_c (de_ix ix_D (de_v 0) de_int) da_n)) (by rfl)) (dss_1 (ds_rt (de_op op_modD (de_ty call_intD rfl T.b_int (by decide +kernel) (da_c (de_ix ix_D (de_ix ix_D (de_v 0) de_int) (de_v 2)) da_n)) (de_v 1)))) dss_n)
    (dss_1 (ds_rt (de_op op_modD (de_ty call_intD rfl T.b_int (by decide +kernel) (da_c (de_op op_addD (de_op op_mulD (de_v 2) de_int) de_int) da_n)) (de_v 1)))))))

abbrev s_lw_amount : Stmt := top 53
theorem sc_lw_amount : FnScope ["box"] ["box"] (defScope s_lw_amount) := ⟨rfl, rfl, rfl, by decide +kernel, rfl, by decide +kernel, by decide +kernel⟩
def G_lw_amount : GS :=
  (sRt (eOp ixD (eLst (aC (eK (.int 0)) (aC (eK (.int 1)) (aC (eK (.int 2)) (aC (eK (.int 3)) (aC (eK (.int 5)) (aC (eK (.int 9)) (aC (eK (.int 99)) (aC (eCall phi_lw_draw (aC (eV 0) (aC (eK (.int 20)) aN))) aN))))))))) (eCall phi_lw_draw (aC (eV 0) (aC (eK (.int 8)) aN)))))
def phi_lw_amount : List C → Sto → Option (C × Sto) := fnD 1 1 G_lw_amount
theorem ok_lw_amount {P : Program} {w : World} {K : PySem.W.Frag} {mg : PySem.Str → Option Value} {base : Heap} (T : Txt K mg) (D_lw_draw : Df K mg "_law_draw" s_lw_draw ["box", "many"]) (k_lw_draw : FnG P w K mg base 1 D_lw_draw.f D_lw_draw.fd ["box", "many"] phi_lw_draw) (D_lw_amount : Df K mg "_law_amount" s_lw_amount ["box"]) : FnG P w K mg base 2 D_lw_amount.f D_lw_amount.fd ["box"] phi_lw_amount :=
  fn_D (N := ["box"]) (k := 1) D_lw_amount.F sc_lw_amount fun cdv A outer s H hr hq => by
    have hu := hu_of hr
    have hu64 := hr.units
    exact (dss_1 (ds_rt (de_ix ix_D (de_lst (da_c de_int (da_c de_int (da_c de_int (da_c de_int (da_c de_int (da_c de_int (da_c de_int (da_c (de_call k_lw_draw hr (by decide) hq rfl D_lw_draw.g D_lw_draw.F.kp D_lw_draw.b fnD_len (da_c (de_v 0) (da_c de_int da_n))) da_n))))))))) (de_call k_lw_draw hr (by decide) hq rfl D_lw_draw.g D_lw_draw.F.kp D_lw_draw.b fnD_len (da_c (de_v 0) (da_c de_int da_n))))))

abbrev s_lw_basin : Stmt := top 54
theorem sc_lw_basin : FnScope ["box", "months", "many", "names", "sites", "s", "following", "travel", "reach", "room", "held", "k"] ["box"] (defScope s_lw_basin) := ⟨rfl, rfl, rfl, by decide +kernel, rfl, by decide +kernel, by decide +kernel⟩
def G_lw_basin : GS :=
  (sSeq (sSet 1 (eOp addD (eK (.int 1)) (eCall phi_lw_draw (aC (eV 0) (aC (eK (.int 4)) aN)))))
    (sSeq (sSet 2 (eOp addD (eK (.int 1)) (eCall phi_lw_draw (aC (eV 0) (aC (eK (.int 4)) aN)))))
    (sSeq (sSet 3 (eSl (eLst (aC (eK (.str "up")) (aC (eK (.str "dale")) (aC (eK (.str "weir")) (aC (eK (.str "mouth")) aN))))) (oI (eOp subD (eK (.int 4)) (eV 2))) oN))
    (sSeq (sNew 4 (eLst aN))
    (sSeq (sFor (.n 5) (iR1 (aC (eV 2) aN)) (sSeq (sSet 6 (eK .non))
    (sSeq (sSet 7 (eK (.int 0)))
    (sSeq (sSet 8 (eK .non))
    (sSeq (sIf (DL.tB (eOp ltD (eOp addD (eV 5) (eK (.int 1))) (eV 2))) (sSeq (sSet 6 (eOp ixD (eV 3) (eOp addD (eOp addD (eV 5) (eK (.int 1))) (eCall phi_lw_draw (aC (eV 0) (aC (eOp subD (eOp subD (eV 2) (eV 5)) (eK (.int 1))) aN))))))
    (sSeq (sSet 7 (eOp ixD (eLst (aC (eK (.int 0)) (aC (eK (.int 0)) (aC (eK (.int 1)) (aC (eK (.int 2)) aN))))) (eCall phi_lw_draw (aC (eV 0) (aC (eK (.int 4)) aN)))))
    (sSet 8 (eOp ixD (eLst (aC (eK .non) (aC (eK .non) (aC (eCall phi_lw_amount (aC (eV 0) aN)) (aC (eCall phi_lw_draw (aC (eV 0) (aC (eK (.int 6)) aN))) aN))))) (eCall phi_lw_draw (aC (eV 0) (aC (eK (.int 4)) aN))))))) sNx)
    (sSeq (sSet 9 (eOp ixD (eLst (aC (eK (.int 0)) (aC (eCall phi_lw_amount (aC (eV 0) aN)) (aC (eCall phi_lw_draw (aC (eV 0) (aC (eK (.int 9)) aN))) aN)))) (eCall phi_lw_draw (aC (eV 0) (aC (eK (.int 3)) aN)))))
    (sSeq (sSet 10 (eOp mulD (eCall phi_lw_draw (aC (eV 0) (aC (eOp addD (eV 9) (eK (.int 1))) aN))) (eCB intD (aC (eOp (eqD false) (eCall phi_lw_draw (aC (eV 0) (aC (eK (.int 3)) aN))) (eK (.int 0))) aN))))
    (sEx (eApp (eV 4) (eTup (aC (eOp ixD (eV 3) (eV 5)) (aC (eV 6) (aC (eV 7) (aC (eV 8) (aC (eV 9) (aC (eV 10) (aC (eCB tupleD (aC (eLc [11] (.n 11) (iR1 (aC (eV 1) aN)) gYes (eCall phi_lw_amount (aC (eV 0) aN))) aN)) aN)))))))))))))))))
    (sRt (eTup (aC (eV 1) (aC (eCB tupleD (aC (eV 4) aN)) aN)))))))))
def phi_lw_basin : List C → Sto → Option (C × Sto) := fnD 12 1 G_lw_basin
theorem ok_lw_basin {P : Program} {w : World} {K : PySem.W.Frag} {mg : PySem.Str → Option Value} {base : Heap} (T : Txt K mg) (D_lw_draw : Df K mg "_law_draw" s_lw_draw ["box", "many"]) (k_lw_draw : FnG P w K mg base 1 D_lw_draw.f D_lw_draw.fd ["box", "many"] phi_lw_draw) (D_lw_amount : Df K mg "_law_amount" s_lw_amount ["box"]) (k_lw_amount : FnG P w K mg base 2 D_lw_amount.f D_lw_amount.fd ["box"] phi_lw_amount) (D_lw_basin : Df K mg "_law_basin" s_lw_basin ["box"]) : FnG P w K mg base 3 D_lw_basin.f D_lw_basin.fd ["box"] phi_lw_basin :=
  fn_D (N := ["box", "months", "many", "names", "sites", "s", "following", "travel", "reach", "room", "held", "k"]) (k := 2) D_lw_basin.F sc_lw_basin fun cdv A outer s H hr hq => by
    have hu := hu_of hr
    have hu64 := hr.units
    exact (dss_c (ds_set (i := 1) sc_lw_basin.nd rfl (by first | exact .inl rfl | exact .inr rfl) (de_op op_addD de_int (de_call k_lw_draw hr (by decide) hq rfl D_lw_draw.g D_lw_draw.F.kp D_lw_draw.b fnD_len (da_c (de_v 0) (da_c de_int da_n)))))
    (dss_c (ds_set (i := 2) sc_lw_basin.nd rfl (by first | exact .inl rfl | exact .inr rfl) (de_op op_addD de_int (de_call k_lw_draw hr (by decide) hq rfl D_lw_draw.g D_lw_draw.F.kp D_lw_draw.b fnD_len (da_c (de_v 0) (da_c de_int da_n)))))
    (dss_c (ds_set (i := 3) sc_lw_basin.nd rfl (by first | exact .inl rfl | exact .inr rfl) (de_sl (de_lst (da_c de_str (da_c de_str (da_c de_str (da_c de_str da_n))))) (do_i (de_op op_subD de_int (de_v 2))) do_n))
    (dss_c (ds_new (i := 4) sc_lw_basin.nd rfl (by first | exact .inl rfl | exact .inr rfl) (dn_lst da_n))
    (dss_c (ds_for PassesOwn.never rfl (di_r1 rfl T.b_range (da_c (de_v 2) da_n)) tg_n (pg_name (i := 5) sc_lw_basin.nd rfl (by first | exact .inl rfl | exact .inr rfl)) (dss_c (ds_set (i := 6) sc_lw_basin.nd rfl (by first | exact .inl rfl | exact .inr rfl) de_non)
    (dss_c (ds_set (i := 7) sc_lw_basin.nd rfl (by first | exact .inl rfl | exact .inr rfl) de_int)
    (dss_c (ds_set (i := 8) sc_lw_basin.nd rfl (by first | exact .inl rfl | exact .inr rfl) de_non)
    (dss_c (ds_if (dt_cmp op_ltD (de_op op_addD (de_v 5) de_int) (de_v 2) (by rfl)) (dss_c (ds_set (i := 6) sc_lw_basin.nd rfl (by first | exact .inl rfl | exact .inr rfl) (de_ix ix_D (de_v 3) (de_op op_addD (de_op op_addD (de_v 5) de_int) (de_call k_lw_draw hr (by decide) hq rfl D_lw_draw.g D_lw_draw.F.kp D_lw_draw.b fnD_len (da_c (de_v 0) (da_c (de_op op_subD (de_op op_subD (de_v 2) (de_v 5)) de_int) da_n))))))
    (dss_c (ds_set (i := 7) sc_lw_basin.nd rfl (by first | exact .inl rfl | exact .inr rfl) (de_ix ix_D (de_lst (da_c de_int (da_c de_int (da_c de_int (da_c de_int da_n))))) (de_call k_lw_draw hr (by decide) hq rfl D_lw_draw.g D_lw_draw.F.kp D_lw_draw.b fnD_len (da_c (de_v 0) (da_c de_int da_n)))))
    (dss_1 (ds_set (i := 8) sc_lw_basin.nd rfl (by first | exact .inl rfl | exact .inr rfl) (de_ix ix_D (de_lst (da_c de_non (da_c de_non (da_c (de_call k_lw_amount hr (by decide) hq rfl D_lw_amount.g D_lw_amount.F.kp D_lw_amount.b fnD_len (da_c (de_v 0) da_n)) (da_c (de_call k_lw_draw hr (by decide) hq rfl D_lw_draw.g D_lw_draw.F.kp D_lw_draw.b fnD_len (da_c (de_v 0) (da_c de_int da_n))) da_n))))) (de_call k_lw_draw hr (by decide) hq rfl D_lw_draw.g D_lw_draw.F.kp D_lw_draw.b fnD_len (da_c (de_v 0) (da_c de_int da_n)))))))) dss_n)
    (dss_c (ds_set (i := 9) sc_lw_basin.nd rfl (by first | exact .inl rfl | exact .inr rfl) (de_ix ix_D (de_lst (da_c de_int (da_c (de_call k_lw_amount hr (by decide) hq rfl D_lw_amount.g D_lw_amount.F.kp D_lw_amount.b fnD_len (da_c (de_v 0) da_n)) (da_c (de_call k_lw_draw hr (by decide) hq rfl D_lw_draw.g D_lw_draw.F.kp D_lw_draw.b fnD_len (da_c (de_v 0) (da_c de_int da_n))) da_n)))) (de_call k_lw_draw hr (by decide) hq rfl D_lw_draw.g D_lw_draw.F.kp D_lw_draw.b fnD_len (da_c (de_v 0) (da_c de_int da_n)))))
    (dss_c (ds_set (i := 10) sc_lw_basin.nd rfl (by first | exact .inl rfl | exact .inr rfl) (de_op op_mulD (de_call k_lw_draw hr (by decide) hq rfl D_lw_draw.g D_lw_draw.F.kp D_lw_draw.b fnD_len (da_c (de_v 0) (da_c (de_op op_addD (de_v 9) de_int) da_n))) (de_ty call_intD rfl T.b_int (by decide +kernel) (da_c (de_cmp (op_eqDD hu64) (de_call k_lw_draw hr (by decide) hq rfl D_lw_draw.g D_lw_draw.F.kp D_lw_draw.b fnD_len (da_c (de_v 0) (da_c de_int da_n))) de_int (by rfl)) da_n))))
    (dss_1 (ds_ex (de_app (de_v 4) (de_tup (da_c (de_ix ix_D (de_v 3) (de_v 5)) (da_c (de_v 6) (da_c (de_v 7) (da_c (de_v 8) (da_c (de_v 9) (da_c (de_v 10) (da_c (de_ty call_tupleD rfl T.b_tuple (by decide +kernel) (da_c (de_lc (own := [("k", 11)]) rfl sc_lw_basin.nd (di_r1 rfl T.b_range (da_c (de_v 1) da_n)) (by first | exact blkOk_by (N := ["box", "months", "many", "names", "sites", "s", "following", "travel", "reach", "room", "held", "k"]) (sc := defScope s_lw_basin) (by decide +kernel) | exact blkOk_by (by rfl)) tg_n (by decide) (fun _ _ _ _ _ => (pg_name (i := 11) sc_lw_basin.nd rfl (by first | exact .inl rfl | exact .inr rfl))) (fun _ _ _ _ _ => dts_n) (fun _ _ _ _ _ => (de_call k_lw_amount hr (by decide) hq rfl D_lw_amount.g D_lw_amount.F.kp D_lw_amount.b fnD_len (da_c (de_v 0) da_n)))) da_n)) da_n))))))))))))))))))
    (dss_1 (ds_rt (de_tup (da_c (de_v 1) (da_c (de_ty call_tupleD rfl T.b_tuple (by decide +kernel) (da_c (de_v 4) da_n)) da_n))))))))))

abbrev s_lw_pick : Stmt := top 52
theorem sc_lw_pick : FnScope ["box", "rows"] ["box", "rows"] (defScope s_lw_pick) := ⟨rfl, rfl, rfl, by decide +kernel, rfl, by decide +kernel, by decide +kernel⟩
def G_lw_pick : GS :=
  (sRt (eOp ixD (eV 1) (eOp modD (eCB intD (aC (eCall phi_lw_draw (aC (eV 0) (aC (eK (.int 90)) aN))) aN)) (eCB lenD (aC (eV 1) aN)))))
def phi_lw_pick : List C → Sto → Option (C × Sto) := fnD 2 2 G_lw_pick
theorem ok_lw_pick {P : Program} {w : World} {K : PySem.W.Frag} {mg : PySem.Str → Option Value} {base : Heap} (T : Txt K mg) (D_lw_draw : Df K mg "_law_draw" s_lw_draw ["box", "many"]) (k_lw_draw : FnG P w K mg base 1 D_lw_draw.f D_lw_draw.fd ["box", "many"] phi_lw_draw) (D_lw_pick : Df K mg "_law_pick" s_lw_pick ["box", "rows"]) : FnG P w K mg base 2 D_lw_pick.f D_lw_pick.fd ["box", "rows"] phi_lw_pick :=
  fn_D (N := ["box", "rows"]) (k := 1) D_lw_pick.F sc_lw_pick fun cdv A outer s H hr hq => by
    have hu := hu_of hr
    have hu64 := hr.units
    exact (dss_1 (ds_rt (de_ix ix_D (de_v 1) (de_op op_modD (de_ty call_intD rfl T.b_int (by decide +kernel) (da_c (de_call k_lw_draw hr (by decide) hq rfl D_lw_draw.g D_lw_draw.F.kp D_lw_draw.b fnD_len (da_c (de_v 0) (da_c de_int da_n))) da_n)) (de_b call_lenD rfl T.b_len (by decide +kernel) (da_c (de_v 1) da_n))))))

abbrev s_lw_rights : Stmt := top 55
theorem sc_lw_rights : FnScope ["box", "basin", "found", "name", "k"] ["box", "basin"] (defScope s_lw_rights) := ⟨rfl, rfl, rfl, by decide +kernel, rfl, by decide +kernel, by decide +kernel⟩
def G_lw_rights : GS :=
  (sSeq (sNew 2 (eLst aN))
    (sSeq (sFor (.n 3) (iV (eSl (eLst (aC (eK (.str "a")) (aC (eK (.str "mill")) (aC (eK (.str "farm")) (aC (eK (.str "town")) aN))))) oN (oI (eCall phi_lw_draw (aC (eV 0) (aC (eK (.int 5)) aN)))))) (sEx (eApp (eV 2) (eTup (aC (eV 3) (aC (eOp ixD (eCall phi_lw_pick (aC (eV 0) (aC (eOp ixD (eV 1) (eK (.int 1))) aN))) (eK (.int 0))) (aC (eCB tupleD (aC (eLc [4] (.n 4) (iR1 (aC (eOp ixD (eV 1) (eK (.int 0))) aN)) gYes (eCall phi_lw_amount (aC (eV 0) aN))) aN)) aN)))))))
    (sRt (eCB tupleD (aC (eV 2) aN)))))
def phi_lw_rights : List C → Sto → Option (C × Sto) := fnD 5 2 G_lw_rights
theorem ok_lw_rights {P : Program} {w : World} {K : PySem.W.Frag} {mg : PySem.Str → Option Value} {base : Heap} (T : Txt K mg) (D_lw_draw : Df K mg "_law_draw" s_lw_draw ["box", "many"]) (k_lw_draw : FnG P w K mg base 1 D_lw_draw.f D_lw_draw.fd ["box", "many"] phi_lw_draw) (D_lw_amount : Df K mg "_law_amount" s_lw_amount ["box"]) (k_lw_amount : FnG P w K mg base 2 D_lw_amount.f D_lw_amount.fd ["box"] phi_lw_amount) (D_lw_pick : Df K mg "_law_pick" s_lw_pick ["box", "rows"]) (k_lw_pick : FnG P w K mg base 2 D_lw_pick.f D_lw_pick.fd ["box", "rows"] phi_lw_pick) (D_lw_rights : Df K mg "_law_rights" s_lw_rights ["box", "basin"]) : FnG P w K mg base 3 D_lw_rights.f D_lw_rights.fd ["box", "basin"] phi_lw_rights :=
  fn_D (N := ["box", "basin", "found", "name", "k"]) (k := 2) D_lw_rights.F sc_lw_rights fun cdv A outer s H hr hq => by
    have hu := hu_of hr
    have hu64 := hr.units
    exact (dss_c (ds_new (i := 2) sc_lw_rights.nd rfl (by first | exact .inl rfl | exact .inr rfl) (dn_lst da_n))
    (dss_c (ds_for PassesOwn.never rfl (di_v (de_sl (de_lst (da_c de_str (da_c de_str (da_c de_str (da_c de_str da_n))))) do_n (do_i (de_call k_lw_draw hr (by decide) hq rfl D_lw_draw.g D_lw_draw.F.kp D_lw_draw.b fnD_len (da_c (de_v 0) (da_c de_int da_n)))))) tg_n (pg_name (i := 3) sc_lw_rights.nd rfl (by first | exact .inl rfl | exact .inr rfl)) (dss_1 (ds_ex (de_app (de_v 2) (de_tup (da_c (de_v 3) (da_c (de_ix ix_D (de_call k_lw_pick hr (by decide) hq rfl D_lw_pick.g D_lw_pick.F.kp D_lw_pick.b fnD_len (da_c (de_v 0) (da_c (de_ix ix_D (de_v 1) de_int) da_n))) de_int) (da_c (de_ty call_tupleD rfl T.b_tuple (by decide +kernel) (da_c (de_lc (own := [("k", 4)]) rfl sc_lw_rights.nd (di_r1 rfl T.b_range (da_c (de_ix ix_D (de_v 1) de_int) da_n)) (by first | exact blkOk_by (N := ["box", "basin", "found", "name", "k"]) (sc := defScope s_lw_rights) (by decide +kernel) | exact blkOk_by (by rfl)) tg_n (by decide) (fun _ _ _ _ _ => (pg_name (i := 4) sc_lw_rights.nd rfl (by first | exact .inl rfl | exact .inr rfl))) (fun _ _ _ _ _ => dts_n) (fun _ _ _ _ _ => (de_call k_lw_amount hr (by decide) hq rfl D_lw_amount.g D_lw_amount.F.kp D_lw_amount.b fnD_len (da_c (de_v 0) da_n)))) da_n)) da_n))))))))
    (dss_1 (ds_rt (de_ty call_tupleD rfl T.b_tuple (by decide +kernel) (da_c (de_v 2) da_n))))))

abbrev s_lw_text : Stmt := top 59
theorem sc_lw_text : FnScope ["basin", "rights", "lines", "name", "following", "travel", "reach", "room", "held", "flow", "line", "one", "site", "demands"] ["basin", "rights"] (defScope s_lw_text) := ⟨rfl, rfl, rfl, by decide +kernel, rfl, by decide +kernel, by decide +kernel⟩
def G_lw_text : GS :=
  (sSeq (sNew 2 (eLst aN))
    (sSeq (sFor (.t [3, 4, 5, 6, 7, 8, 9]) (iV (eOp ixD (eV 0) (eK (.int 1)))) (sSeq (sSet 10 (eOp addD (eK (.str "site ")) (eV 3)))
    (sSeq (sIf (DL.tB (eOp (isND true) (eV 4) (eK .non))) (sSeq (sSet 10 (eOp addD (eOp addD (eV 10) (eK (.str " to "))) (eV 4)))
    (sSeq (sIf (DL.tB (eOp gtD (eV 5) (eK (.int 0)))) (sSet 10 (eOp addD (eOp addD (eV 10) (eK (.str " in "))) (eCB strD (aC (eV 5) aN)))) sNx)
    (sIf (DL.tB (eOp (isND true) (eV 6) (eK .non))) (sSet 10 (eOp addD (eOp addD (eV 10) (eK (.str " reach "))) (eCB strD (aC (eV 6) aN)))) sNx))) sNx)
    (sSeq (sIf (DL.tB (eOp gtD (eV 7) (eK (.int 0)))) (sSet 10 (eOp addD (eOp addD (eV 10) (eK (.str " room "))) (eCB strD (aC (eV 7) aN)))) sNx)
    (sSeq (sIf (DL.tB (eOp gtD (eV 8) (eK (.int 0)))) (sSet 10 (eOp addD (eOp addD (eV 10) (eK (.str " held "))) (eCB strD (aC (eV 8) aN)))) sNx)
    (sEx (eApp (eV 2) (eOp addD (eOp addD (eV 10) (eK (.str " flow "))) (eM1 joinD (eK (.str " ")) (eLc [11] (.n 11) (iV (eV 9)) gYes (eCB strD (aC (eV 11) aN))))))))))))
    (sSeq (sFor (.t [3, 12, 13]) (iV (eV 1)) (sEx (eApp (eV 2) (eOp addD (eOp addD (eOp addD (eOp addD (eOp addD (eK (.str "right ")) (eV 3)) (eK (.str " at "))) (eV 12)) (eK (.str " wants "))) (eM1 joinD (eK (.str " ")) (eLc [11] (.n 11) (iV (eV 13)) gYes (eCB strD (aC (eV 11) aN))))))))
    (sRt (eM1 joinD (eK (.str "\n")) (eV 2))))))
def phi_lw_text : List C → Sto → Option (C × Sto) := fnD 14 2 G_lw_text
theorem ok_lw_text {P : Program} {w : World} {K : PySem.W.Frag} {mg : PySem.Str → Option Value} {base : Heap} (T : Txt K mg) (D_lw_text : Df K mg "_law_text" s_lw_text ["basin", "rights"]) : FnG P w K mg base 1 D_lw_text.f D_lw_text.fd ["basin", "rights"] phi_lw_text :=
  fn_D (N := ["basin", "rights", "lines", "name", "following", "travel", "reach", "room", "held", "flow", "line", "one", "site", "demands"]) (k := 0) D_lw_text.F sc_lw_text fun cdv A outer s H hr hq => by
    have hu := hu_of hr
    have hu64 := hr.units
    exact (dss_c (ds_new (i := 2) sc_lw_text.nd rfl (by first | exact .inl rfl | exact .inr rfl) (dn_lst da_n))
    (dss_c (ds_for PassesOwn.never rfl (di_v (de_ix ix_D (de_v 0) de_int)) (tg_t (is := [3, 4, 5, 6, 7, 8, 9]) rfl) (pg_tup rfl (pgs_cons (pg_name (i := 3) sc_lw_text.nd rfl (by first | exact .inl rfl | exact .inr rfl)) (pgs_cons (pg_name (i := 4) sc_lw_text.nd rfl (by first | exact .inl rfl | exact .inr rfl)) (pgs_cons (pg_name (i := 5) sc_lw_text.nd rfl (by first | exact .inl rfl | exact .inr rfl)) (pgs_cons (pg_name (i := 6) sc_lw_text.nd rfl (by first | exact .inl rfl | exact .inr rfl)) (pgs_cons (pg_name (i := 7) sc_lw_text.nd rfl (by first | exact .inl rfl | exact .inr rfl)) (pgs_cons (pg_name (i := 8) sc_lw_text.nd rfl (by first | exact .inl rfl | exact .inr rfl)) (pgs_cons (pg_name (i := 9) sc_lw_text.nd rfl (by first | exact .inl rfl | exact .inr rfl)) pgs_nil)))))))) (dss_c (ds_set (i := 10) sc_lw_text.nd rfl (by first | exact .inl rfl | exact .inr rfl) (de_op op_addD de_str (de_v 3)))
    (dss_c (ds_if (dt_cmp op_notND (de_v 4) de_non (by rfl)) (dss_c (ds_set (i := 10) sc_lw_text.nd rfl (by first | exact .inl rfl | exact .inr rfl) (de_op op_addD (de_op op_addD (de_v 10) de_str) (de_v 4)))
    (dss_c (ds_if (dt_cmp op_gtD (de_v 5) de_int (by rfl)) (dss_1 (ds_set (i := 10) sc_lw_text.nd rfl (by first | exact .inl rfl | exact .inr rfl) (de_op op_addD (de_op op_addD (de_v 10) de_str) (de_ty call_strD rfl T.b_str (by decide +kernel) (da_c (de_v 5) da_n))))) dss_n)
    (dss_1 (ds_if (dt_cmp op_notND (de_v 6) de_non (by rfl)) (dss_1 (ds_set (i := 10) sc_lw_text.nd rfl (by first | exact .inl rfl | exact .inr rfl) (de_op op_addD (de_op op_addD (de_v 10) de_str) (de_ty call_strD rfl T.b_str (by decide +kernel) (da_c (de_v 6) da_n))))) dss_n)))) dss_n)
    (dss_c (ds_if (dt_cmp op_gtD (de_v 7) de_int (by rfl)) (dss_1 (ds_set (i := 10) sc_lw_text.nd rfl (by first | exact .inl rfl | exact .inr rfl) (de_op op_addD (de_op op_addD (de_v 10) de_str) (de_ty call_strD rfl T.b_str (by decide +kernel) (da_c (de_v 7) da_n))))) dss_n)
    (dss_c (ds_if (dt_cmp op_gtD (de_v 8) de_int (by rfl)) (dss_1 (ds_set (i := 10) sc_lw_text.nd rfl (by first | exact .inl rfl | exact .inr rfl) (de_op op_addD (de_op op_addD (de_v 10) de_str) (de_ty call_strD rfl T.b_str (by decide +kernel) (da_c (de_v 8) da_n))))) dss_n)
    (dss_1 (ds_ex (de_app (de_v 2) (de_op op_addD (de_op op_addD (de_v 10) de_str) (de_m1 PySem.F.slot_str_join PySem.F.type_str_join m_join de_str (de_lc (own := [("one", 11)]) rfl sc_lw_text.nd (di_v (de_v 9)) (by first | exact blkOk_by (N := ["basin", "rights", "lines", "name", "following", "travel", "reach", "room", "held", "flow", "line", "one", "site", "demands"]) (sc := defScope s_lw_text) (by decide +kernel) | exact blkOk_by (by rfl)) tg_n (by decide) (fun _ _ _ _ _ => (pg_name (i := 11) sc_lw_text.nd rfl (by first | exact .inl rfl | exact .inr rfl))) (fun _ _ _ _ _ => dts_n) (fun _ _ _ _ _ => (de_ty call_strD rfl T.b_str (by decide +kernel) (da_c (de_v 11) da_n))))))))))))))
    (dss_c (ds_for PassesOwn.never rfl (di_v (de_v 1)) (tg_t (is := [3, 12, 13]) rfl) (pg_tup rfl (pgs_cons (pg_name (i := 3) sc_lw_text.nd rfl (by first | exact .inl rfl | exact .inr rfl)) (pgs_cons (pg_name (i := 12) sc_lw_text.nd rfl (by first | exact .inl rfl | exact .inr rfl)) (pgs_cons (pg_name (i := 13) sc_lw_text.nd rfl (by first | exact .inl rfl | exact .inr rfl)) pgs_nil)))) (dss_1 (ds_ex (de_app (de_v 2) (de_op op_addD (de_op op_addD (de_op op_addD (de_op op_addD (de_op op_addD de_str (de_v 3)) de_str) (de_v 12)) de_str) (de_m1 PySem.F.slot_str_join PySem.F.type_str_join m_join de_str (de_lc (own := [("one", 11)]) rfl sc_lw_text.nd (di_v (de_v 13)) (by first | exact blkOk_by (N := ["basin", "rights", "lines", "name", "following", "travel", "reach", "room", "held", "flow", "line", "one", "site", "demands"]) (sc := defScope s_lw_text) (by decide +kernel) | exact blkOk_by (by rfl)) tg_n (by decide) (fun _ _ _ _ _ => (pg_name (i := 11) sc_lw_text.nd rfl (by first | exact .inl rfl | exact .inr rfl))) (fun _ _ _ _ _ => dts_n) (fun _ _ _ _ _ => (de_ty call_strD rfl T.b_str (by decide +kernel) (da_c (de_v 11) da_n))))))))))
    (dss_1 (ds_rt (de_m1 PySem.F.slot_str_join PySem.F.type_str_join m_join de_str (de_v 2)))))))

abbrev s_claims : Stmt := top 12
theorem sc_claims : FnScope ["basin", "rights", "months", "sites", "of_rights", "r", "m", "of_rooms", "s"] ["basin", "rights"] (defScope s_claims) := ⟨rfl, rfl, rfl, by decide +kernel, rfl, by decide +kernel, by decide +kernel⟩
def G_claims : GS :=
  (sSeq (sUn (.t [2, 3]) (eV 0))
    (sSeq (sSet 4 (eLc2 [5, 6] [6] (.n 5) (.n 6) (iR1 (aC (eCB lenD (aC (eV 1) aN)) aN)) (iR1 (aC (eV 2) aN)) gYes (eTup (aC (eK (.str "right")) (aC (eV 5) (aC (eV 6) aN))))))
    (sSeq (sSet 7 (eLc [8] (.n 8) (iR1 (aC (eCB lenD (aC (eV 3) aN)) aN)) gYes (eTup (aC (eK (.str "room")) (aC (eV 8) aN)))))
    (sRt (eCB tupleD (aC (eOp addD (eV 4) (eV 7)) aN))))))
def phi_claims : List C → Sto → Option (C × Sto) := fnD 9 2 G_claims
theorem ok_claims {P : Program} {w : World} {K : PySem.W.Frag} {mg : PySem.Str → Option Value} {base : Heap} (T : Txt K mg) (D_claims : Df K mg "claims" s_claims ["basin", "rights"]) : FnG P w K mg base 1 D_claims.f D_claims.fd ["basin", "rights"] phi_claims :=
  fn_D (N := ["basin", "rights", "months", "sites", "of_rights", "r", "m", "of_rooms", "s"]) (k := 0) D_claims.F sc_claims fun cdv A outer s H hr hq => by
    have hu := hu_of hr
    have hu64 := hr.units
    exact (dss_c (ds_un (tg_t (is := [2, 3]) rfl) (pg_tup rfl (pgs_cons (pg_name (i := 2) sc_claims.nd rfl (by first | exact .inl rfl | exact .inr rfl)) (pgs_cons (pg_name (i := 3) sc_claims.nd rfl (by first | exact .inl rfl | exact .inr rfl)) pgs_nil))) (de_v 0))
    (dss_c (ds_lc2 (i := 4) (own := [("r", 5), ("m", 6)]) (vs1 := [6]) rfl sc_claims.nd rfl rfl (sw_true rfl rfl rfl (by decide +kernel)) (di_r1 rfl T.b_range (da_c (de_b call_lenD rfl T.b_len (by decide +kernel) (da_c (de_v 1) da_n)) da_n)) (by first | exact blkOk_by (N := ["basin", "rights", "months", "sites", "of_rights", "r", "m", "of_rooms", "s"]) (sc := defScope s_claims) (by decide +kernel) | exact blkOk_by (by rfl)) (by decide) tg_n (by decide) tg_n (by decide) (fun _ _ _ _ _ => (pg_name (i := 5) sc_claims.nd rfl (by first | exact .inl rfl | exact .inr rfl))) (fun _ _ _ _ _ => (di_r1 rfl T.b_range (da_c (de_v 2) da_n))) (fun _ _ _ _ _ => (pg_name (i := 6) sc_claims.nd rfl (by first | exact .inl rfl | exact .inr rfl))) (fun _ _ _ _ _ => dts_n) (fun _ _ _ _ _ => (de_tup (da_c de_str (da_c (de_v 5) (da_c (de_v 6) da_n))))))
    (dss_c (ds_lc (i := 7) (own := [("s", 8)]) rfl sc_claims.nd rfl rfl (sw_true rfl rfl rfl (by decide +kernel)) (di_r1 rfl T.b_range (da_c (de_b call_lenD rfl T.b_len (by decide +kernel) (da_c (de_v 3) da_n)) da_n)) (by first | exact blkOk_by (N := ["basin", "rights", "months", "sites", "of_rights", "r", "m", "of_rooms", "s"]) (sc := defScope s_claims) (by decide +kernel) | exact blkOk_by (by rfl)) tg_n (by decide) (fun _ _ _ _ _ => (pg_name (i := 8) sc_claims.nd rfl (by first | exact .inl rfl | exact .inr rfl))) (fun _ _ _ _ _ => dts_n) (fun _ _ _ _ _ => (de_tup (da_c de_str (da_c (de_v 8) da_n)))))
    (dss_1 (ds_rt (de_ty call_tupleD rfl T.b_tuple (by decide +kernel) (da_c (de_op op_addD (de_v 4) (de_v 7)) da_n)))))))

abbrev s_lw_number : Stmt := top 56
theorem sc_lw_number : FnScope ["basin", "name", "site"] ["basin", "name"] (defScope s_lw_number) := ⟨rfl, rfl, rfl, by decide +kernel, rfl, by decide +kernel, by decide +kernel⟩
def G_lw_number : GS :=
  (sRt (eIdx (eLc [2] (.n 2) (iV (eOp ixD (eV 0) (eK (.int 1)))) gYes (eOp ixD (eV 2) (eK (.int 0)))) (eV 1)))
def phi_lw_number : List C → Sto → Option (C × Sto) := fnD 3 2 G_lw_number
theorem ok_lw_number {P : Program} {w : World} {K : PySem.W.Frag} {mg : PySem.Str → Option Value} {base : Heap} (T : Txt K mg) (D_lw_number : Df K mg "_law_number" s_lw_number ["basin", "name"]) : FnG P w K mg base 1 D_lw_number.f D_lw_number.fd ["basin", "name"] phi_lw_number :=
  fn_D (N := ["basin", "name", "site"]) (k := 0) D_lw_number.F sc_lw_number fun cdv A outer s H hr hq => by
    have hu := hu_of hr
    have hu64 := hr.units
    exact (dss_1 (ds_rt (de_idx (de_lc (own := [("site", 2)]) rfl sc_lw_number.nd (di_v (de_ix ix_D (de_v 0) de_int)) (by first | exact blkOk_by (N := ["basin", "name", "site"]) (sc := defScope s_lw_number) (by decide +kernel) | exact blkOk_by (by rfl)) tg_n (by decide) (fun _ _ _ _ _ => (pg_name (i := 2) sc_lw_number.nd rfl (by first | exact .inl rfl | exact .inr rfl))) (fun _ _ _ _ _ => dts_n) (fun _ _ _ _ _ => (de_ix ix_D (de_v 2) de_int))) (de_v 1))))

abbrev s_lw_claims : Stmt := top 57
theorem sc_lw_claims : FnScope ["basin", "rights", "found", "name", "site", "demands", "m", "s"] ["basin", "rights"] (defScope s_lw_claims) := ⟨rfl, rfl, rfl, by decide +kernel, rfl, by decide +kernel, by decide +kernel⟩
def G_lw_claims : GS :=
  (sSeq (sNew 2 (eLst aN))
    (sSeq (sFor (.t [3, 4, 5]) (iV (eV 1)) (sFor (.n 6) (iR1 (aC (eOp ixD (eV 0) (eK (.int 0))) aN)) (sEx (eApp (eV 2) (eLst (aC (eTup (aC (eCall phi_lw_number (aC (eV 0) (aC (eV 4) aN))) (aC (eCB intD (aC (eV 6) aN)) aN))) (aC (eOp ixD (eV 5) (eV 6)) aN)))))))
    (sSeq (sFor (.n 7) (iR1 (aC (eCB lenD (aC (eOp ixD (eV 0) (eK (.int 1))) aN)) aN)) (sEx (eApp (eV 2) (eLst (aC (eTup (aC (eCB intD (aC (eV 7) aN)) (aC (eOp subD (eOp ixD (eV 0) (eK (.int 0))) (eK (.int 1))) aN))) (aC (eOp ixD (eOp ixD (eOp ixD (eV 0) (eK (.int 1))) (eV 7)) (eK (.int 4))) aN))))))
    (sRt (eV 2)))))
def phi_lw_claims : List C → Sto → Option (C × Sto) := fnD 8 2 G_lw_claims
theorem ok_lw_claims {P : Program} {w : World} {K : PySem.W.Frag} {mg : PySem.Str → Option Value} {base : Heap} (T : Txt K mg) (D_lw_number : Df K mg "_law_number" s_lw_number ["basin", "name"]) (k_lw_number : FnG P w K mg base 1 D_lw_number.f D_lw_number.fd ["basin", "name"] phi_lw_number) (D_lw_claims : Df K mg "_law_claims" s_lw_claims ["basin", "rights"]) : FnG P w K mg base 2 D_lw_claims.f D_lw_claims.fd ["basin", "rights"] phi_lw_claims :=
  fn_D (N := ["basin", "rights", "found", "name", "site", "demands", "m", "s"]) (k := 1) D_lw_claims.F sc_lw_claims fun cdv A outer s H hr hq => by
    have hu := hu_of hr
    have hu64 := hr.units
    exact (dss_c (ds_new (i := 2) sc_lw_claims.nd rfl (by first | exact .inl rfl | exact .inr rfl) (dn_lst da_n))
    (dss_c (ds_for PassesOwn.never rfl (di_v (de_v 1)) (tg_t (is := [3, 4, 5]) rfl) (pg_tup rfl (pgs_cons (pg_name (i := 3) sc_lw_claims.nd rfl (by first | exact .inl rfl | exact .inr rfl)) (pgs_cons (pg_name (i := 4) sc_lw_claims.nd rfl (by first | exact .inl rfl | exact .inr rfl)) (pgs_cons (pg_name (i := 5) sc_lw_claims.nd rfl (by first | exact .inl rfl | exact .inr rfl)) pgs_nil)))) (dss_1 (ds_for PassesOwn.never rfl (di_r1 rfl T.b_range (da_c (de_ix ix_D (de_v 0) de_int) da_n)) tg_n (pg_name (i := 6) sc_lw_claims.nd rfl (by first | exact .inl rfl | exact .inr rfl)) (dss_1 (ds_ex (de_app (de_v 2) (de_lst (da_c (de_tup (da_c (de_call k_lw_number hr (by decide) hq rfl D_lw_number.g D_lw_number.F.kp D_lw_number.b fnD_len (da_c (de_v 0) (da_c (de_v 4) da_n))) (da_c (de_ty call_intD rfl T.b_int (by decide +kernel) (da_c (de_v 6) da_n)) da_n))) (da_c (de_ix ix_D (de_v 5) (de_v 6)) da_n)))))))))
    (dss_c (ds_for PassesOwn.never rfl (di_r1 rfl T.b_range (da_c (de_b call_lenD rfl T.b_len (by decide +kernel) (da_c (de_ix ix_D (de_v 0) de_int) da_n)) da_n)) tg_n (pg_name (i := 7) sc_lw_claims.nd rfl (by first | exact .inl rfl | exact .inr rfl)) (dss_1 (ds_ex (de_app (de_v 2) (de_lst (da_c (de_tup (da_c (de_ty call_intD rfl T.b_int (by decide +kernel) (da_c (de_v 7) da_n)) (da_c (de_op op_subD (de_ix ix_D (de_v 0) de_int) de_int) da_n))) (da_c (de_ix ix_D (de_ix ix_D (de_ix ix_D (de_v 0) de_int) (de_v 7)) de_int) da_n)))))))
    (dss_1 (ds_rt (de_v 2))))))

abbrev s_lw_cell : Stmt := top 47
theorem sc_lw_cell : FnScope ["script", "k"] ["script", "k"] (defScope s_lw_cell) := ⟨rfl, rfl, rfl, by decide +kernel, rfl, by decide +kernel, by decide +kernel⟩
def G_lw_cell : GS :=
  (sSeq (sIf (DL.tB (eOp ltD (eV 1) (eCB lenD (aC (eV 0) aN)))) (sRt (eOp ixD (eV 0) (eV 1))) sNx)
    (sRt (eK (.int 0))))
def phi_lw_cell : List C → Sto → Option (C × Sto) := fnD 2 2 G_lw_cell
theorem ok_lw_cell {P : Program} {w : World} {K : PySem.W.Frag} {mg : PySem.Str → Option Value} {base : Heap} (T : Txt K mg) (D_lw_cell : Df K mg "_law_cell" s_lw_cell ["script", "k"]) : FnG P w K mg base 1 D_lw_cell.f D_lw_cell.fd ["script", "k"] phi_lw_cell :=
  fn_D (N := ["script", "k"]) (k := 0) D_lw_cell.F sc_lw_cell fun cdv A outer s H hr hq => by
    have hu := hu_of hr
    have hu64 := hr.units
    exact (dss_c (ds_if (dt_cmp op_ltD (de_v 1) (de_b call_lenD rfl T.b_len (by decide +kernel) (da_c (de_v 0) da_n)) (by rfl)) (dss_1 (ds_rt (de_ix ix_D (de_v 0) (de_v 1)))) dss_n)
    (dss_1 (ds_rt de_int)))

abbrev s_lw_digits : Stmt := top 50
theorem sc_lw_digits : FnScope ["script", "first", "last", "digits", "k", "cell", "turn", "seed"] ["script", "first", "last"] (defScope s_lw_digits) := ⟨rfl, rfl, rfl, by decide +kernel, rfl, by decide +kernel, by decide +kernel⟩
def G_lw_digits : GS :=
  (sSeq (sNew 3 (eLst aN))
    (sSeq (sFor (.n 4) (iR2 (aC (eV 1) (aC (eV 2) aN))) (sSeq (sSet 5 (eCall phi_lw_cell (aC (eV 0) (aC (eV 4) aN))))
    (sSeq (sIf (DL.tB (eOp ltD (eV 5) (eK (.int 0)))) (sSet 5 (eOp subD (eK (.int 1)) (eOp mulD (eK (.int 2)) (eV 5)))) sNx)
    (sIf (DL.tB (eOp geD (eV 5) (eOp powD (eK (.int 10)) (eK (.int 18))))) (sFor (.n 6) (iR1 (aC (eK (.int 60)) aN)) (sIf (DL.tB (eOp gtD (eV 5) (eK (.int 0)))) (sSeq (sEx (eApp (eV 3) (eOp modD (eCB intD (aC (eV 5) aN)) (eK (.int 1000)))))
    (sSet 5 (eOp divD (eV 5) (eK (.int 1000))))) sNx)) (sSeq (sSet 7 (eOp modD (eCB intD (aC (eOp addD (eOp addD (eOp mulD (eV 5) (eK (.int 48271))) (eOp mulD (eV 4) (eK (.int 69621)))) (eK (.int 11))) aN)) (eK (.int 2147483647))))
    (sFor (.n 6) (iR1 (aC (eK (.int 12)) aN)) (sSeq (sSet 7 (eOp modD (eCB intD (aC (eOp addD (eOp addD (eOp mulD (eV 7) (eK (.int 16807))) (eOp mulD (eK (.int 7)) (eV 6))) (eK (.int 1))) aN)) (eK (.int 2147483647))))
    (sEx (eApp (eV 3) (eOp modD (eCB intD (aC (eOp divD (eV 7) (eK (.int 997))) aN)) (eK (.int 1000))))))))))))
    (sRt (eV 3))))
def phi_lw_digits : List C → Sto → Option (C × Sto) := fnD 8 3 G_lw_digits
theorem ok_lw_digits {P : Program} {w : World} {K : PySem.W.Frag} {mg : PySem.Str → Option Value} {base : Heap} (T : Txt K mg) (D_lw_cell : Df K mg "_law_cell" s_lw_cell ["script", "k"]) (k_lw_cell : FnG P w K mg base 1 D_lw_cell.f D_lw_cell.fd ["script", "k"] phi_lw_cell) (D_lw_digits : Df K mg "_law_digits" s_lw_digits ["script", "first", "last"]) : FnG P w K mg base 2 D_lw_digits.f D_lw_digits.fd ["script", "first", "last"] phi_lw_digits :=
  fn_D (N := ["script", "first", "last", "digits", "k", "cell", "turn", "seed"]) (k := 1) D_lw_digits.F sc_lw_digits fun cdv A outer s H hr hq => by
    have hu := hu_of hr
    have hu64 := hr.units
    exact (dss_c (ds_new (i := 3) sc_lw_digits.nd rfl (by first | exact .inl rfl | exact .inr rfl) (dn_lst da_n))
    (dss_c (ds_for PassesOwn.never rfl (di_r2 rfl T.b_range (da_c (de_v 1) (da_c (de_v 2) da_n))) tg_n (pg_name (i := 4) sc_lw_digits.nd rfl (by first | exact .inl rfl | exact .inr rfl)) (dss_c (ds_set (i := 5) sc_lw_digits.nd rfl (by first | exact .inl rfl | exact .inr rfl) (de_call k_lw_cell hr (by decide) hq rfl D_lw_cell.g D_lw_cell.F.kp D_lw_cell.b fnD_len (da_c (de_v 0) (da_c (de_v 4) da_n))))
    (dss_c (ds_if (dt_cmp op_ltD (de_v 5) de_int (by rfl)) (dss_1 (ds_set (i := 5) sc_lw_digits.nd rfl (by first | exact .inl rfl | exact .inr rfl) (de_op op_subD de_int (de_op op_mulD de_int (de_v 5))))) dss_n)
    (dss_1 (ds_if (dt_cmp op_geD (de_v 5) (de_op op_powD de_int de_int) (by rfl)) (dss_1 (ds_for PassesOwn.never rfl (di_r1 rfl T.b_range (da_c de_int da_n)) tg_n (pg_name (i := 6) sc_lw_digits.nd rfl (by first | exact .inl rfl | exact .inr rfl)) (dss_1 (ds_if (dt_cmp op_gtD (de_v 5) de_int (by rfl)) (dss_c (ds_ex (de_app (de_v 3) (de_op op_modD (de_ty call_intD rfl T.b_int (by decide +kernel) (da_c (de_v 5) da_n)) de_int)))
    (dss_1 (ds_set (i := 5) sc_lw_digits.nd rfl (by first | exact .inl rfl | exact .inr rfl) (de_op op_divD (de_v 5) de_int)))) dss_n)))) (dss_c (ds_set (i := 7) sc_lw_digits.nd rfl (by first | exact .inl rfl | exact .inr rfl) (de_op op_modD (de_ty call_intD rfl T.b_int (by decide +kernel) (da_c (de_op op_addD (de_op op_addD (de_op op_mulD (de_v 5) de_int) (de_op op_mulD (de_v 4) de_int)) de_int) da_n)) de_int))
    (dss_1 (ds_for PassesOwn.never rfl (di_r1 rfl T.b_range (da_c de_int da_n)) tg_n (pg_name (i := 6) sc_lw_digits.nd rfl (by first | exact .inl rfl | exact .inr rfl)) (dss_c (ds_set (i := 7) sc_lw_digits.nd rfl (by first | exact .inl rfl | exact .inr rfl) (de_op op_modD (de_ty call_intD rfl T.b_int (by decide +kernel) (da_c (de_op op_addD (de_op op_addD (de_op op_mulD (de_v 7) de_int) (de_op op_mulD de_int (de_v 6))) de_int) da_n)) de_int))
    (dss_1 (ds_ex (de_app (de_v 3) (de_op op_modD (de_ty call_intD rfl T.b_int (by decide +kernel) (da_c (de_op op_divD (de_v 7) de_int) da_n)) de_int)))))))))))))
    (dss_1 (ds_rt (de_v 3)))))

abbrev s_lw_route : Stmt := top 60
theorem sc_lw_route : FnScope ["basin", "name", "found", "turn", "site"] ["basin", "name"] (defScope s_lw_route) := ⟨rfl, rfl, rfl, by decide +kernel, rfl, by decide +kernel, by decide +kernel⟩
def G_lw_route : GS :=
  (sSeq (sNew 2 (eLst (aC (eTup (aC (eV 1) (aC (eK (.int 0)) aN))) aN)))
    (sSeq (sFor (.n 3) (iR1 (aC (eK (.int 4)) aN)) (sSeq (sSet 4 (eOp ixD (eOp ixD (eV 0) (eK (.int 1))) (eCall phi_lw_number (aC (eV 0) (aC (eOp ixD (eOp ixD (eV 2) (eNeg (eK (.int 1)))) (eK (.int 0))) aN)))))
    (sIf (DL.tB (eOp (isND true) (eOp ixD (eV 4) (eK (.int 1))) (eK .non))) (sEx (eApp (eV 2) (eTup (aC (eOp ixD (eV 4) (eK (.int 1))) (aC (eOp addD (eOp ixD (eOp ixD (eV 2) (eNeg (eK (.int 1)))) (eK (.int 1))) (eOp ixD (eV 4) (eK (.int 2)))) aN))))) sNx)))
    (sRt (eCB tupleD (aC (eV 2) aN)))))
def phi_lw_route : List C → Sto → Option (C × Sto) := fnD 5 2 G_lw_route
theorem ok_lw_route {P : Program} {w : World} {K : PySem.W.Frag} {mg : PySem.Str → Option Value} {base : Heap} (T : Txt K mg) (D_lw_number : Df K mg "_law_number" s_lw_number ["basin", "name"]) (k_lw_number : FnG P w K mg base 1 D_lw_number.f D_lw_number.fd ["basin", "name"] phi_lw_number) (D_lw_route : Df K mg "_law_route" s_lw_route ["basin", "name"]) : FnG P w K mg base 2 D_lw_route.f D_lw_route.fd ["basin", "name"] phi_lw_route :=
  fn_D (N := ["basin", "name", "found", "turn", "site"]) (k := 1) D_lw_route.F sc_lw_route fun cdv A outer s H hr hq => by
    have hu := hu_of hr
    have hu64 := hr.units
    exact (dss_c (ds_new (i := 2) sc_lw_route.nd rfl (by first | exact .inl rfl | exact .inr rfl) (dn_lst (da_c (de_tup (da_c (de_v 1) (da_c de_int da_n))) da_n)))
    (dss_c (ds_for PassesOwn.never rfl (di_r1 rfl T.b_range (da_c de_int da_n)) tg_n (pg_name (i := 3) sc_lw_route.nd rfl (by first | exact .inl rfl | exact .inr rfl)) (dss_c (ds_set (i := 4) sc_lw_route.nd rfl (by first | exact .inl rfl | exact .inr rfl) (de_ix ix_D (de_ix ix_D (de_v 0) de_int) (de_call k_lw_number hr (by decide) hq rfl D_lw_number.g D_lw_number.F.kp D_lw_number.b fnD_len (da_c (de_v 0) (da_c (de_ix ix_D (de_ix ix_D (de_v 2) (de_neg de_int)) de_int) da_n)))))
    (dss_1 (ds_if (dt_cmp op_notND (de_ix ix_D (de_v 4) de_int) de_non (by rfl)) (dss_1 (ds_ex (de_app (de_v 2) (de_tup (da_c (de_ix ix_D (de_v 4) de_int) (da_c (de_op op_addD (de_ix ix_D (de_ix ix_D (de_v 2) (de_neg de_int)) de_int) (de_ix ix_D (de_v 4) de_int)) da_n)))))) dss_n))))
    (dss_1 (ds_rt (de_ty call_tupleD rfl T.b_tuple (by decide +kernel) (da_c (de_v 2) da_n))))))

abbrev s_site_line : Stmt := top 33
theorem sc_site_line : FnScope ["site", "name", "lower", "travel", "reach", "room", "held", "inflows", "pieces", "amount"] ["site"] (defScope s_site_line) := ⟨rfl, rfl, rfl, by decide +kernel, rfl, by decide +kernel, by decide +kernel⟩
def G_site_line : GS :=
  (sSeq (sUn (.t [1, 2, 3, 4, 5, 6, 7]) (eV 0))
    (sSeq (sNew 8 (eLst (aC (eK (.str "site")) (aC (eV 1) aN))))
    (sSeq (sIf (DL.tB (eOp (isND true) (eV 2) (eK .non))) (sSeq (sEx (eExt (eV 8) (eLst (aC (eK (.str "to")) (aC (eV 2) aN)))))
    (sSeq (sIf (DL.tB (eOp gtD (eV 3) (eK (.int 0)))) (sEx (eExt (eV 8) (eLst (aC (eK (.str "in")) (aC (eCB strD (aC (eV 3) aN)) aN))))) sNx)
    (sIf (DL.tB (eOp (isND true) (eV 4) (eK .non))) (sEx (eExt (eV 8) (eLst (aC (eK (.str "reach")) (aC (eCB strD (aC (eV 4) aN)) aN))))) sNx))) sNx)
    (sSeq (sIf (DL.tB (eOp gtD (eV 5) (eK (.int 0)))) (sEx (eExt (eV 8) (eLst (aC (eK (.str "room")) (aC (eCB strD (aC (eV 5) aN)) aN))))) sNx)
    (sSeq (sIf (DL.tB (eOp gtD (eV 6) (eK (.int 0)))) (sEx (eExt (eV 8) (eLst (aC (eK (.str "held")) (aC (eCB strD (aC (eV 6) aN)) aN))))) sNx)
    (sSeq (sEx (eApp (eV 8) (eK (.str "flow"))))
    (sSeq (sEx (eExt (eV 8) (eLc [9] (.n 9) (iV (eV 7)) gYes (eCB strD (aC (eV 9) aN)))))
    (sRt (eM1 joinD (eK (.str " ")) (eV 8))))))))))
def phi_site_line : List C → Sto → Option (C × Sto) := fnD 10 1 G_site_line
theorem ok_site_line {P : Program} {w : World} {K : PySem.W.Frag} {mg : PySem.Str → Option Value} {base : Heap} (T : Txt K mg) (D_site_line : Df K mg "site_line" s_site_line ["site"]) : FnG P w K mg base 1 D_site_line.f D_site_line.fd ["site"] phi_site_line :=
  fn_D (N := ["site", "name", "lower", "travel", "reach", "room", "held", "inflows", "pieces", "amount"]) (k := 0) D_site_line.F sc_site_line fun cdv A outer s H hr hq => by
    have hu := hu_of hr
    have hu64 := hr.units
    exact (dss_c (ds_un (tg_t (is := [1, 2, 3, 4, 5, 6, 7]) rfl) (pg_tup rfl (pgs_cons (pg_name (i := 1) sc_site_line.nd rfl (by first | exact .inl rfl | exact .inr rfl)) (pgs_cons (pg_name (i := 2) sc_site_line.nd rfl (by first | exact .inl rfl | exact .inr rfl)) (pgs_cons (pg_name (i := 3) sc_site_line.nd rfl (by first | exact .inl rfl | exact .inr rfl)) (pgs_cons (pg_name (i := 4) sc_site_line.nd rfl (by first | exact .inl rfl | exact .inr rfl)) (pgs_cons (pg_name (i := 5) sc_site_line.nd rfl (by first | exact .inl rfl | exact .inr rfl)) (pgs_cons (pg_name (i := 6) sc_site_line.nd rfl (by first | exact .inl rfl | exact .inr rfl)) (pgs_cons (pg_name (i := 7) sc_site_line.nd rfl (by first | exact .inl rfl | exact .inr rfl)) pgs_nil)))))))) (de_v 0))
    (dss_c (ds_new (i := 8) sc_site_line.nd rfl (by first | exact .inl rfl | exact .inr rfl) (dn_lst (da_c de_str (da_c (de_v 1) da_n))))
    (dss_c (ds_if (dt_cmp op_notND (de_v 2) de_non (by rfl)) (dss_c (ds_ex (de_ext (de_v 8) (de_lst (da_c de_str (da_c (de_v 2) da_n)))))
    (dss_c (ds_if (dt_cmp op_gtD (de_v 3) de_int (by rfl)) (dss_1 (ds_ex (de_ext (de_v 8) (de_lst (da_c de_str (da_c (de_ty call_strD rfl T.b_str (by decide +kernel) (da_c (de_v 3) da_n)) da_n)))))) dss_n)
    (dss_1 (ds_if (dt_cmp op_notND (de_v 4) de_non (by rfl)) (dss_1 (ds_ex (de_ext (de_v 8) (de_lst (da_c de_str (da_c (de_ty call_strD rfl T.b_str (by decide +kernel) (da_c (de_v 4) da_n)) da_n)))))) dss_n)))) dss_n)
    (dss_c (ds_if (dt_cmp op_gtD (de_v 5) de_int (by rfl)) (dss_1 (ds_ex (de_ext (de_v 8) (de_lst (da_c de_str (da_c (de_ty call_strD rfl T.b_str (by decide +kernel) (da_c (de_v 5) da_n)) da_n)))))) dss_n)
    (dss_c (ds_if (dt_cmp op_gtD (de_v 6) de_int (by rfl)) (dss_1 (ds_ex (de_ext (de_v 8) (de_lst (da_c de_str (da_c (de_ty call_strD rfl T.b_str (by decide +kernel) (da_c (de_v 6) da_n)) da_n)))))) dss_n)
    (dss_c (ds_ex (de_app (de_v 8) de_str))
    (dss_c (ds_ex (de_ext (de_v 8) (de_lc (own := [("amount", 9)]) rfl sc_site_line.nd (di_v (de_v 7)) (by first | exact blkOk_by (N := ["site", "name", "lower", "travel", "reach", "room", "held", "inflows", "pieces", "amount"]) (sc := defScope s_site_line) (by decide +kernel) | exact blkOk_by (by rfl)) tg_n (by decide) (fun _ _ _ _ _ => (pg_name (i := 9) sc_site_line.nd rfl (by first | exact .inl rfl | exact .inr rfl))) (fun _ _ _ _ _ => dts_n) (fun _ _ _ _ _ => (de_ty call_strD rfl T.b_str (by decide +kernel) (da_c (de_v 9) da_n))))))
    (dss_1 (ds_rt (de_m1 PySem.F.slot_str_join PySem.F.type_str_join m_join de_str (de_v 8)))))))))))

abbrev s_right_line : Stmt := top 34
theorem sc_right_line : FnScope ["right", "name", "place", "demands", "pieces", "amount"] ["right"] (defScope s_right_line) := ⟨rfl, rfl, rfl, by decide +kernel, rfl, by decide +kernel, by decide +kernel⟩
def G_right_line : GS :=
  (sSeq (sUn (.t [1, 2, 3]) (eV 0))
    (sSeq (sNew 4 (eLst (aC (eK (.str "right")) (aC (eV 1) (aC (eK (.str "at")) (aC (eV 2) (aC (eK (.str "wants")) aN)))))))
    (sSeq (sEx (eExt (eV 4) (eLc [5] (.n 5) (iV (eV 3)) gYes (eCB strD (aC (eV 5) aN)))))
    (sRt (eM1 joinD (eK (.str " ")) (eV 4))))))
def phi_right_line : List C → Sto → Option (C × Sto) := fnD 6 1 G_right_line
theorem ok_right_line {P : Program} {w : World} {K : PySem.W.Frag} {mg : PySem.Str → Option Value} {base : Heap} (T : Txt K mg) (D_right_line : Df K mg "right_line" s_right_line ["right"]) : FnG P w K mg base 1 D_right_line.f D_right_line.fd ["right"] phi_right_line :=
  fn_D (N := ["right", "name", "place", "demands", "pieces", "amount"]) (k := 0) D_right_line.F sc_right_line fun cdv A outer s H hr hq => by
    have hu := hu_of hr
    have hu64 := hr.units
    exact (dss_c (ds_un (tg_t (is := [1, 2, 3]) rfl) (pg_tup rfl (pgs_cons (pg_name (i := 1) sc_right_line.nd rfl (by first | exact .inl rfl | exact .inr rfl)) (pgs_cons (pg_name (i := 2) sc_right_line.nd rfl (by first | exact .inl rfl | exact .inr rfl)) (pgs_cons (pg_name (i := 3) sc_right_line.nd rfl (by first | exact .inl rfl | exact .inr rfl)) pgs_nil)))) (de_v 0))
    (dss_c (ds_new (i := 4) sc_right_line.nd rfl (by first | exact .inl rfl | exact .inr rfl) (dn_lst (da_c de_str (da_c (de_v 1) (da_c de_str (da_c (de_v 2) (da_c de_str da_n)))))))
    (dss_c (ds_ex (de_ext (de_v 4) (de_lc (own := [("amount", 5)]) rfl sc_right_line.nd (di_v (de_v 3)) (by first | exact blkOk_by (N := ["right", "name", "place", "demands", "pieces", "amount"]) (sc := defScope s_right_line) (by decide +kernel) | exact blkOk_by (by rfl)) tg_n (by decide) (fun _ _ _ _ _ => (pg_name (i := 5) sc_right_line.nd rfl (by first | exact .inl rfl | exact .inr rfl))) (fun _ _ _ _ _ => dts_n) (fun _ _ _ _ _ => (de_ty call_strD rfl T.b_str (by decide +kernel) (da_c (de_v 5) da_n))))))
    (dss_1 (ds_rt (de_m1 PySem.F.slot_str_join PySem.F.type_str_join m_join de_str (de_v 4)))))))

abbrev s_basin_text : Stmt := top 32
theorem sc_basin_text : FnScope ["basin", "rights", "lines", "site", "right"] ["basin", "rights"] (defScope s_basin_text) := ⟨rfl, rfl, rfl, by decide +kernel, rfl, by decide +kernel, by decide +kernel⟩
def G_basin_text : GS :=
  (sSeq (sNew 2 (eLc [3] (.n 3) (iV (eOp ixD (eV 0) (eK (.int 1)))) gYes (eCall phi_site_line (aC (eV 3) aN))))
    (sSeq (sEx (eExt (eV 2) (eLc [4] (.n 4) (iV (eV 1)) gYes (eCall phi_right_line (aC (eV 4) aN)))))
    (sRt (eM1 joinD (eK (.str "\n")) (eV 2)))))
def phi_basin_text : List C → Sto → Option (C × Sto) := fnD 5 2 G_basin_text
theorem ok_basin_text {P : Program} {w : World} {K : PySem.W.Frag} {mg : PySem.Str → Option Value} {base : Heap} (T : Txt K mg) (D_site_line : Df K mg "site_line" s_site_line ["site"]) (k_site_line : FnG P w K mg base 1 D_site_line.f D_site_line.fd ["site"] phi_site_line) (D_right_line : Df K mg "right_line" s_right_line ["right"]) (k_right_line : FnG P w K mg base 1 D_right_line.f D_right_line.fd ["right"] phi_right_line) (D_basin_text : Df K mg "basin_text" s_basin_text ["basin", "rights"]) : FnG P w K mg base 2 D_basin_text.f D_basin_text.fd ["basin", "rights"] phi_basin_text :=
  fn_D (N := ["basin", "rights", "lines", "site", "right"]) (k := 1) D_basin_text.F sc_basin_text fun cdv A outer s H hr hq => by
    have hu := hu_of hr
    have hu64 := hr.units
    exact (dss_c (ds_nlc (i := 2) (own := [("site", 3)]) rfl sc_basin_text.nd rfl rfl (sw_true rfl rfl rfl (by decide +kernel)) (di_v (de_ix ix_D (de_v 0) de_int)) (by first | exact blkOk_by (N := ["basin", "rights", "lines", "site", "right"]) (sc := defScope s_basin_text) (by decide +kernel) | exact blkOk_by (by rfl)) tg_n (by decide) (fun _ _ _ _ _ => (pg_name (i := 3) sc_basin_text.nd rfl (by first | exact .inl rfl | exact .inr rfl))) (fun _ _ _ _ _ => dts_n) (fun _ _ _ _ _ => (de_call k_site_line hr (by decide) hq rfl D_site_line.g D_site_line.F.kp D_site_line.b fnD_len (da_c (de_v 3) da_n))))
    (dss_c (ds_ex (de_ext (de_v 2) (de_lc (own := [("right", 4)]) rfl sc_basin_text.nd (di_v (de_v 1)) (by first | exact blkOk_by (N := ["basin", "rights", "lines", "site", "right"]) (sc := defScope s_basin_text) (by decide +kernel) | exact blkOk_by (by rfl)) tg_n (by decide) (fun _ _ _ _ _ => (pg_name (i := 4) sc_basin_text.nd rfl (by first | exact .inl rfl | exact .inr rfl))) (fun _ _ _ _ _ => dts_n) (fun _ _ _ _ _ => (de_call k_right_line hr (by decide) hq rfl D_right_line.g D_right_line.F.kp D_right_line.b fnD_len (da_c (de_v 4) da_n))))))
    (dss_1 (ds_rt (de_m1 PySem.F.slot_str_join PySem.F.type_str_join m_join de_str (de_v 2))))))

abbrev s_lw_same : Stmt := top 49
theorem sc_lw_same : FnScope ["actual", "due"] ["actual", "due"] (defScope s_lw_same) := ⟨rfl, rfl, rfl, by decide +kernel, rfl, by decide +kernel, by decide +kernel⟩
def G_lw_same : GS :=
  (sRt (eOp (eqD false) (eCB reprD (aC (eV 0) aN)) (eCB reprD (aC (eV 1) aN))))
def phi_lw_same : List C → Sto → Option (C × Sto) := fnD 2 2 G_lw_same
theorem ok_lw_same {P : Program} {w : World} {K : PySem.W.Frag} {mg : PySem.Str → Option Value} {base : Heap} (T : Txt K mg) (D_lw_same : Df K mg "_law_same" s_lw_same ["actual", "due"]) : FnG P w K mg base 1 D_lw_same.f D_lw_same.fd ["actual", "due"] phi_lw_same :=
  fn_D (N := ["actual", "due"]) (k := 0) D_lw_same.F sc_lw_same fun cdv A outer s H hr hq => by
    have hu := hu_of hr
    have hu64 := hr.units
    exact (dss_1 (ds_rt (de_cmp (op_eqDD hu64) (de_b (call_reprD hq hu64) rfl T.b_repr (by decide +kernel) (da_c (de_v 0) da_n)) (de_b (call_reprD hq hu64) rfl T.b_repr (by decide +kernel) (da_c (de_v 1) da_n)) (by rfl))))

abbrev s_site_number : Stmt := top 9
theorem sc_site_number : FnScope ["basin", "name", "s", "site"] ["basin", "name"] (defScope s_site_number) := ⟨rfl, rfl, rfl, by decide +kernel, rfl, by decide +kernel, by decide +kernel⟩
def G_site_number : GS :=
  (sSeq (sFor (.t [2, 3]) (iEn (aC (eOp ixD (eV 0) (eK (.int 1))) aN)) (sIf (DL.tB (eOp (eqD false) (eOp ixD (eV 3) (eK (.int 0))) (eV 1))) (sRt (eV 2)) sNx))
    (sRt (eK .non)))
def phi_site_number : List C → Sto → Option (C × Sto) := fnD 4 2 G_site_number
theorem ok_site_number {P : Program} {w : World} {K : PySem.W.Frag} {mg : PySem.Str → Option Value} {base : Heap} (T : Txt K mg) (D_site_number : Df K mg "site_number" s_site_number ["basin", "name"]) : FnG P w K mg base 1 D_site_number.f D_site_number.fd ["basin", "name"] phi_site_number :=
  fn_D (N := ["basin", "name", "s", "site"]) (k := 0) D_site_number.F sc_site_number fun cdv A outer s H hr hq => by
    have hu := hu_of hr
    have hu64 := hr.units
    exact (dss_c (ds_for PassesOwn.never rfl (di_en rfl T.b_enumerate (da_c (de_ix ix_D (de_v 0) de_int) da_n)) (tg_t (is := [2, 3]) rfl) (pg_tup rfl (pgs_cons (pg_name (i := 2) sc_site_number.nd rfl (by first | exact .inl rfl | exact .inr rfl)) (pgs_cons (pg_name (i := 3) sc_site_number.nd rfl (by first | exact .inl rfl | exact .inr rfl)) pgs_nil))) (dss_1 (ds_if (dt_cmp (op_eqDD hu64) (de_ix ix_D (de_v 3) (de_gi rfl T.c_NAME)) (de_v 1) (by rfl)) (dss_1 (ds_rt (de_v 2))) dss_n)))
    (dss_1 (ds_rt de_non)))

abbrev s_number : Stmt := top 23
theorem sc_number : FnScope ["piece"] ["piece"] (defScope s_number) := ⟨rfl, rfl, rfl, by decide +kernel, rfl, by decide +kernel, by decide +kernel⟩
def G_number : GS :=
  (sSeq (sIf (gOr (gNot (gAnd (DL.tB (eM0 (sbD Txt.isascii) (eV 0))) (DL.tB (eM0 (sbD Txt.isdigit) (eV 0))))) (gAnd (DL.tB (eOp (eqD false) (eOp ixD (eV 0) (eK (.int 0))) (eK (.str "0")))) (DL.tB (eOp (eqD true) (eV 0) (eK (.str "0")))))) (sRt (eK .non)) sNx)
    (sSeq (sIf (DL.tB (eOp gtD (eCB lenD (aC (eV 0) aN)) (eK (.int 9)))) (sRt (eK (.int 1000000000))) sNx)
    (sRt (eCB intD (aC (eV 0) aN)))))
def phi_number : List C → Sto → Option (C × Sto) := fnD 1 1 G_number
theorem ok_number {P : Program} {w : World} {K : PySem.W.Frag} {mg : PySem.Str → Option Value} {base : Heap} (T : Txt K mg) (D_number : Df K mg "number" s_number ["piece"]) : FnG P w K mg base 1 D_number.f D_number.fd ["piece"] phi_number :=
  fn_D (N := ["piece"]) (k := 0) D_number.F sc_number fun cdv A outer s H hr hq => by
    have hu := hu_of hr
    have hu64 := hr.units
    exact (dss_c (ds_if (PW.pt (dw_or (dt_not (PW.pt (dw_and (dt_val (de_m0 PySem.F.slot_str_isascii PySem.F.type_str_isascii m_isascii (de_v 0)) (fun h => pt_val h)) (pw_and1 (dt_val (de_m0 PySem.F.slot_str_isdigit PySem.F.type_str_isdigit m_isdigit (de_v 0)) (fun h => pt_val h)))))) (pw_or1 (PW.pt (dw_and (dt_cmp (op_eqDD hu64) (de_ix ix_D (de_v 0) de_int) de_str (by rfl)) (pw_and1 (dt_cmp (op_neDD hu64) (de_v 0) de_str (by rfl)))))))) (dss_1 (ds_rt de_non)) dss_n)
    (dss_c (ds_if (dt_cmp op_gtD (de_b call_lenD rfl T.b_len (by decide +kernel) (da_c (de_v 0) da_n)) (de_gi rfl T.c_MOST_DIGITS) (by rfl)) (dss_1 (ds_rt (de_gi rfl T.c_ABOVE_ALL))) dss_n)
    (dss_1 (ds_rt (de_ty call_intD rfl T.b_int (by decide +kernel) (da_c (de_v 0) da_n))))))

abbrev s_number_within : Stmt := top 24
theorem sc_number_within : FnScope ["piece", "least", "most", "amount"] ["piece", "least", "most"] (defScope s_number_within) := ⟨rfl, rfl, rfl, by decide +kernel, rfl, by decide +kernel, by decide +kernel⟩
def G_number_within : GS :=
  (sSeq (sSet 3 (eCall phi_number (aC (eV 0) aN)))
    (sSeq (sIf (gOr (DL.tB (eOp (isND false) (eV 3) (eK .non))) (gOr (DL.tB (eOp ltD (eV 3) (eV 1))) (DL.tB (eOp gtD (eV 3) (eV 2))))) (sRt (eK .non)) sNx)
    (sRt (eV 3))))
def phi_number_within : List C → Sto → Option (C × Sto) := fnD 4 3 G_number_within
theorem ok_number_within {P : Program} {w : World} {K : PySem.W.Frag} {mg : PySem.Str → Option Value} {base : Heap} (T : Txt K mg) (D_number : Df K mg "number" s_number ["piece"]) (k_number : FnG P w K mg base 1 D_number.f D_number.fd ["piece"] phi_number) (D_number_within : Df K mg "number_within" s_number_within ["piece", "least", "most"]) : FnG P w K mg base 2 D_number_within.f D_number_within.fd ["piece", "least", "most"] phi_number_within :=
  fn_D (N := ["piece", "least", "most", "amount"]) (k := 1) D_number_within.F sc_number_within fun cdv A outer s H hr hq => by
    have hu := hu_of hr
    have hu64 := hr.units
    exact (dss_c (ds_set (i := 3) sc_number_within.nd rfl (by first | exact .inl rfl | exact .inr rfl) (de_call k_number hr (by decide) hq rfl D_number.g D_number.F.kp D_number.b fnD_len (da_c (de_v 0) da_n)))
    (dss_c (ds_if (PW.pt (dw_or (dt_cmp op_isND (de_v 3) de_non (by rfl)) (dw_or (dt_cmp op_ltD (de_v 3) (de_v 1) (by rfl)) (pw_or1 (dt_cmp op_gtD (de_v 3) (de_v 2) (by rfl)))))) (dss_1 (ds_rt de_non)) dss_n)
    (dss_1 (ds_rt (de_v 3)))))

abbrev s_is_name : Stmt := top 22
theorem sc_is_name : FnScope ["piece"] ["piece"] (defScope s_is_name) := ⟨rfl, rfl, rfl, by decide +kernel, rfl, by decide +kernel, by decide +kernel⟩
def G_is_name : GS :=
  (sRt (eAnd (eM0 (sbD Txt.isascii) (eV 0)) (eAnd (eM0 (sbD Txt.isalpha) (eV 0)) (eAnd (eM0 (sbD Txt.islower) (eV 0)) (eOp leD (eCB lenD (aC (eV 0) aN)) (eK (.int 6)))))))
def phi_is_name : List C → Sto → Option (C × Sto) := fnD 1 1 G_is_name
theorem ok_is_name {P : Program} {w : World} {K : PySem.W.Frag} {mg : PySem.Str → Option Value} {base : Heap} (T : Txt K mg) (D_is_name : Df K mg "is_name" s_is_name ["piece"]) : FnG P w K mg base 1 D_is_name.f D_is_name.fd ["piece"] phi_is_name :=
  fn_D (N := ["piece"]) (k := 0) D_is_name.F sc_is_name fun cdv A outer s H hr hq => by
    have hu := hu_of hr
    have hu64 := hr.units
    exact (dss_1 (ds_rt (de_and (de_m0 PySem.F.slot_str_isascii PySem.F.type_str_isascii m_isascii (de_v 0)) (de_and (de_m0 PySem.F.slot_str_isalpha PySem.F.type_str_isalpha m_isalpha (de_v 0)) (de_and (de_m0 PySem.F.slot_str_islower PySem.F.type_str_islower m_islower (de_v 0)) (de_one (de_cmp op_leD (de_b call_lenD rfl T.b_len (by decide +kernel) (da_c (de_v 0) da_n)) (de_gi rfl T.c_MOST_LETTERS) (by rfl))))))))

abbrev s_read_piece : Stmt := top 39
theorem sc_read_piece : FnScope ["word", "piece"] ["word", "piece"] (defScope s_read_piece) := ⟨rfl, rfl, rfl, by decide +kernel, rfl, by decide +kernel, by decide +kernel⟩
def G_read_piece : GS :=
  (sSeq (sIf (DL.tB (eOp (eqD false) (eV 0) (eK (.str "to")))) (sRt (eIf (DL.tB (eCall phi_is_name (aC (eV 1) aN))) (eV 1) (eK .non))) sNx)
    (sSeq (sIf (DL.tB (eOp (eqD false) (eV 0) (eK (.str "in")))) (sRt (eCall phi_number_within (aC (eV 1) (aC (eK (.int 1)) (aC (eK (.int 2)) aN))))) sNx)
    (sSeq (sIf (DL.tB (eOp (eqD false) (eV 0) (eK (.str "reach")))) (sRt (eCall phi_number_within (aC (eV 1) (aC (eK (.int 0)) (aC (eK (.int 99)) aN))))) sNx)
    (sSeq (sIf (DL.tB (eOp (eqD false) (eV 0) (eK (.str "room")))) (sRt (eCall phi_number_within (aC (eV 1) (aC (eK (.int 1)) (aC (eK (.int 99)) aN))))) sNx)
    (sRt (eCall phi_number_within (aC (eV 1) (aC (eK (.int 1)) (aC (eK (.int 1000000000)) aN)))))))))
def phi_read_piece : List C → Sto → Option (C × Sto) := fnD 2 2 G_read_piece
theorem ok_read_piece {P : Program} {w : World} {K : PySem.W.Frag} {mg : PySem.Str → Option Value} {base : Heap} (T : Txt K mg) (D_is_name : Df K mg "is_name" s_is_name ["piece"]) (k_is_name : FnG P w K mg base 1 D_is_name.f D_is_name.fd ["piece"] phi_is_name) (D_number_within : Df K mg "number_within" s_number_within ["piece", "least", "most"]) (k_number_within : FnG P w K mg base 2 D_number_within.f D_number_within.fd ["piece", "least", "most"] phi_number_within) (D_read_piece : Df K mg "read_piece" s_read_piece ["word", "piece"]) : FnG P w K mg base 3 D_read_piece.f D_read_piece.fd ["word", "piece"] phi_read_piece :=
  fn_D (N := ["word", "piece"]) (k := 2) D_read_piece.F sc_read_piece fun cdv A outer s H hr hq => by
    have hu := hu_of hr
    have hu64 := hr.units
    exact (dss_c (ds_if (dt_cmp (op_eqDD hu64) (de_v 0) de_str (by rfl)) (dss_1 (ds_rt (de_if (dt_val (de_call k_is_name hr (by decide) hq rfl D_is_name.g D_is_name.F.kp D_is_name.b fnD_len (da_c (de_v 1) da_n)) (fun h => pt_val h)) (de_v 1) de_non))) dss_n)
    (dss_c (ds_if (dt_cmp (op_eqDD hu64) (de_v 0) de_str (by rfl)) (dss_1 (ds_rt (de_call k_number_within hr (by decide) hq rfl D_number_within.g D_number_within.F.kp D_number_within.b fnD_len (da_c (de_v 1) (da_c de_int (da_c (de_gi rfl T.c_MOST_TRAVEL) da_n)))))) dss_n)
    (dss_c (ds_if (dt_cmp (op_eqDD hu64) (de_v 0) de_str (by rfl)) (dss_1 (ds_rt (de_call k_number_within hr (by decide) hq rfl D_number_within.g D_number_within.F.kp D_number_within.b fnD_len (da_c (de_v 1) (da_c de_int (da_c (de_gi rfl T.c_MOST_WATER) da_n)))))) dss_n)
    (dss_c (ds_if (dt_cmp (op_eqDD hu64) (de_v 0) de_str (by rfl)) (dss_1 (ds_rt (de_call k_number_within hr (by decide) hq rfl D_number_within.g D_number_within.F.kp D_number_within.b fnD_len (da_c (de_v 1) (da_c de_int (da_c (de_gi rfl T.c_MOST_WATER) da_n)))))) dss_n)
    (dss_1 (ds_rt (de_call k_number_within hr (by decide) hq rfl D_number_within.g D_number_within.F.kp D_number_within.b fnD_len (da_c (de_v 1) (da_c de_int (da_c (de_gi rfl T.c_ABOVE_ALL) da_n))))))))))

abbrev s_read_told : Stmt := top 38
theorem sc_read_told : FnScope ["words", "pieces", "word", "told", "piece"] ["words", "pieces"] (defScope s_read_told) := ⟨rfl, rfl, rfl, by decide +kernel, rfl, by decide +kernel, by decide +kernel⟩
def G_read_told : GS :=
  (sSeq (sIf (DL.tB (eOp (eqD true) (eV 0) (eLc [2] (.n 2) (iV (eK (.tup ((["to", "in", "reach", "room", "held"] : List PySem.Str).map .str)))) (DL.tB (eOp (inD false) (eV 2) (eV 0))) (eV 2)))) (sRt (eK .non)) sNx)
    (sSeq (sIf (gAnd (DL.tB (eOp (inD true) (eK (.str "to")) (eV 0))) (gOr (DL.tB (eOp (inD false) (eK (.str "in")) (eV 0))) (DL.tB (eOp (inD false) (eK (.str "reach")) (eV 0))))) (sRt (eK .non)) sNx)
    (sSeq (sNewD 3)
    (sSeq (sFor (.t [2, 4]) (iZp (aC (eV 0) (aC (eV 1) aN))) (sSeq (sPutD (eV 3) (eV 2) (eCall phi_read_piece (aC (eV 2) (aC (eV 4) aN))))
    (sIf (DL.tB (eOp (isND false) (eGetD (eV 3) (eV 2)) (eK .non))) (sRt (eK .non)) sNx)))
    (sRt (eV 3))))))
def phi_read_told : List C → Sto → Option (C × Sto) := fnD 5 2 G_read_told
theorem ok_read_told {P : Program} {w : World} {K : PySem.W.Frag} {mg : PySem.Str → Option Value} {base : Heap} (T : Txt K mg) (D_read_piece : Df K mg "read_piece" s_read_piece ["word", "piece"]) (k_read_piece : FnG P w K mg base 3 D_read_piece.f D_read_piece.fd ["word", "piece"] phi_read_piece) (D_read_told : Df K mg "read_told" s_read_told ["words", "pieces"]) : FnG P w K mg base 4 D_read_told.f D_read_told.fd ["words", "pieces"] phi_read_told :=
  fn_D (N := ["words", "pieces", "word", "told", "piece"]) (k := 3) D_read_told.F sc_read_told fun cdv A outer s H hr hq => by
    have hu := hu_of hr
    have hu64 := hr.units
    exact (dss_c (ds_if (dt_cmp (op_neDD hu64) (de_v 0) (de_lc (own := [("word", 2)]) rfl sc_read_told.nd (di_v (de_gt rfl T.c_SITE_WORDS)) (by first | exact blkOk_by (N := ["words", "pieces", "word", "told", "piece"]) (sc := defScope s_read_told) (by decide +kernel) | exact blkOk_by (by rfl)) tg_n (by decide) (fun _ _ _ _ _ => (pg_name (i := 2) sc_read_told.nd rfl (by first | exact .inl rfl | exact .inr rfl))) (fun _ _ _ _ _ => (dts_1 (dt_cmp op_inD (de_v 2) (de_v 0) (by rfl)))) (fun _ _ _ _ _ => (de_v 2))) (by rfl)) (dss_1 (ds_rt de_non)) dss_n)
    (dss_c (ds_if (PW.pt (dw_and (dt_cmp op_ninD de_str (de_v 0) (by rfl)) (pw_and1 (PW.pt (dw_or (dt_cmp op_inD de_str (de_v 0) (by rfl)) (pw_or1 (dt_cmp op_inD de_str (de_v 0) (by rfl)))))))) (dss_1 (ds_rt de_non)) dss_n)
    (dss_c (ds_newD (i := 3) sc_read_told.nd rfl (by first | exact .inl rfl | exact .inr rfl))
    (dss_c (ds_for PassesOwn.never rfl (di_zp rfl T.b_zip (da_c (de_v 0) (da_c (de_v 1) da_n))) (tg_t (is := [2, 4]) rfl) (pg_tup rfl (pgs_cons (pg_name (i := 2) sc_read_told.nd rfl (by first | exact .inl rfl | exact .inr rfl)) (pgs_cons (pg_name (i := 4) sc_read_told.nd rfl (by first | exact .inl rfl | exact .inr rfl)) pgs_nil))) (dss_c (ds_putD hu (de_v 3) (de_v 2) (de_call k_read_piece hr (by decide) hq rfl D_read_piece.g D_read_piece.F.kp D_read_piece.b fnD_len (da_c (de_v 2) (da_c (de_v 4) da_n))))
    (dss_1 (ds_if (dt_cmp op_isND (de_getD hu (de_v 3) (de_v 2)) de_non (by rfl)) (dss_1 (ds_rt de_non)) dss_n))))
    (dss_1 (ds_rt (de_v 3)))))))

abbrev s_read_amounts : Stmt := top 41
theorem sc_read_amounts : FnScope ["text", "months", "amounts", "piece"] ["text", "months"] (defScope s_read_amounts) := ⟨rfl, rfl, rfl, by decide +kernel, rfl, by decide +kernel, by decide +kernel⟩
def G_read_amounts : GS :=
  (sSeq (sSet 2 (eLc [3] (.n 3) (iV (eM1 splitD (eV 0) (eK (.str " ")))) gYes (eCall phi_number_within (aC (eV 3) (aC (eK (.int 0)) (aC (eK (.int 99)) aN))))))
    (sSeq (sIf (gOr (DL.tB (eOp (inD false) (eK .non) (eV 2))) (DL.tB (eOp gtD (eCB lenD (aC (eV 2) aN)) (eK (.int 4))))) (sRt (eK .non)) sNx)
    (sSeq (sIf (gAnd (DL.tB (eOp (isND true) (eV 1) (eK .non))) (DL.tB (eOp (eqD true) (eCB lenD (aC (eV 2) aN)) (eV 1)))) (sRt (eK .non)) sNx)
    (sRt (eCB tupleD (aC (eV 2) aN))))))
def phi_read_amounts : List C → Sto → Option (C × Sto) := fnD 4 2 G_read_amounts
theorem ok_read_amounts {P : Program} {w : World} {K : PySem.W.Frag} {mg : PySem.Str → Option Value} {base : Heap} (T : Txt K mg) (D_number_within : Df K mg "number_within" s_number_within ["piece", "least", "most"]) (k_number_within : FnG P w K mg base 2 D_number_within.f D_number_within.fd ["piece", "least", "most"] phi_number_within) (D_read_amounts : Df K mg "read_amounts" s_read_amounts ["text", "months"]) : FnG P w K mg base 3 D_read_amounts.f D_read_amounts.fd ["text", "months"] phi_read_amounts :=
  fn_D (N := ["text", "months", "amounts", "piece"]) (k := 2) D_read_amounts.F sc_read_amounts fun cdv A outer s H hr hq => by
    have hu := hu_of hr
    have hu64 := hr.units
    exact (dss_c (ds_lc (i := 2) (own := [("piece", 3)]) rfl sc_read_amounts.nd rfl rfl (sw_true rfl rfl rfl (by decide +kernel)) (di_v (de_m1 PySem.F.slot_str_split PySem.F.type_str_split m_split (de_v 0) de_str)) (by first | exact blkOk_by (N := ["text", "months", "amounts", "piece"]) (sc := defScope s_read_amounts) (by decide +kernel) | exact blkOk_by (by rfl)) tg_n (by decide) (fun _ _ _ _ _ => (pg_name (i := 3) sc_read_amounts.nd rfl (by first | exact .inl rfl | exact .inr rfl))) (fun _ _ _ _ _ => dts_n) (fun _ _ _ _ _ => (de_call k_number_within hr (by decide) hq rfl D_number_within.g D_number_within.F.kp D_number_within.b fnD_len (da_c (de_v 3) (da_c de_int (da_c (de_gi rfl T.c_MOST_WATER) da_n))))))
    (dss_c (ds_if (PW.pt (dw_or (dt_cmp op_inD de_non (de_v 2) (by rfl)) (pw_or1 (dt_cmp op_gtD (de_b call_lenD rfl T.b_len (by decide +kernel) (da_c (de_v 2) da_n)) (de_gi rfl T.c_MOST_MONTHS) (by rfl))))) (dss_1 (ds_rt de_non)) dss_n)
    (dss_c (ds_if (PW.pt (dw_and (dt_cmp op_notND (de_v 1) de_non (by rfl)) (pw_and1 (dt_cmp (op_neDD hu64) (de_b call_lenD rfl T.b_len (by decide +kernel) (da_c (de_v 2) da_n)) (de_v 1) (by rfl))))) (dss_1 (ds_rt de_non)) dss_n)
    (dss_1 (ds_rt (de_ty call_tupleD rfl T.b_tuple (by decide +kernel) (da_c (de_v 2) da_n)))))))

abbrev s_read_site : Stmt := top 37
theorem sc_read_site : FnScope ["line", "months", "head", "_", "flow", "pieces", "told", "inflows"] ["line", "months"] (defScope s_read_site) := ⟨rfl, rfl, rfl, by decide +kernel, rfl, by decide +kernel, by decide +kernel⟩
def G_read_site : GS :=
  (sSeq (sUn (.t [2, 3, 4]) (eM1 rpartD (eV 0) (eK (.str " flow "))))
    (sSeq (sSet 5 (eM1 splitD (eV 2) (eK (.str " "))))
    (sSeq (sIf (gOr (DL.tB (eOp (eqD true) (eOp ixD (eV 5) (eK (.int 0))) (eK (.str "site")))) (gOr (DL.tB (eOp (eqD false) (eOp modD (eCB lenD (aC (eV 5) aN)) (eK (.int 2))) (eK (.int 1)))) (gNot (DL.tB (eCall phi_is_name (aC (eOp ixD (eV 5) (eK (.int 1))) aN)))))) (sRt (eK .non)) sNx)
    (sSeq (sSet 6 (eCall phi_read_told (aC (eSl3 (eV 5) (oI (eK (.int 2))) oN (oI (eK (.int 2)))) (aC (eSl3 (eV 5) (oI (eK (.int 3))) oN (oI (eK (.int 2)))) aN))))
    (sSeq (sSet 7 (eCall phi_read_amounts (aC (eV 4) (aC (eV 1) aN))))
    (sSeq (sIf (gOr (DL.tB (eOp (isND false) (eV 6) (eK .non))) (DL.tB (eOp (isND false) (eV 7) (eK .non)))) (sRt (eK .non)) sNx)
    (sRt (eTup (aC (eOp ixD (eV 5) (eK (.int 1))) (aC (eGet1 (eV 6) (eK (.str "to"))) (aC (eGet2 (eV 6) (eK (.str "in")) (eK (.int 0))) (aC (eGet1 (eV 6) (eK (.str "reach"))) (aC (eGet2 (eV 6) (eK (.str "room")) (eK (.int 0))) (aC (eGet2 (eV 6) (eK (.str "held")) (eK (.int 0))) (aC (eV 7) aN)))))))))))))))
def phi_read_site : List C → Sto → Option (C × Sto) := fnD 8 2 G_read_site
theorem ok_read_site {P : Program} {w : World} {K : PySem.W.Frag} {mg : PySem.Str → Option Value} {base : Heap} (T : Txt K mg) (D_is_name : Df K mg "is_name" s_is_name ["piece"]) (k_is_name : FnG P w K mg base 1 D_is_name.f D_is_name.fd ["piece"] phi_is_name) (D_read_told : Df K mg "read_told" s_read_told ["words", "pieces"]) (k_read_told : FnG P w K mg base 4 D_read_told.f D_read_told.fd ["words", "pieces"] phi_read_told) (D_read_amounts : Df K mg "read_amounts" s_read_amounts ["text", "months"]) (k_read_amounts : FnG P w K mg base 3 D_read_amounts.f D_read_amounts.fd ["text", "months"] phi_read_amounts) (D_read_site : Df K mg "read_site" s_read_site ["line", "months"]) : FnG P w K mg base 5 D_read_site.f D_read_site.fd ["line", "months"] phi_read_site :=
  fn_D (N := ["line", "months", "head", "_", "flow", "pieces", "told", "inflows"]) (k := 4) D_read_site.F sc_read_site fun cdv A outer s H hr hq => by
    have hu := hu_of hr
    have hu64 := hr.units
    exact (dss_c (ds_un (tg_t (is := [2, 3, 4]) rfl) (pg_tup rfl (pgs_cons (pg_name (i := 2) sc_read_site.nd rfl (by first | exact .inl rfl | exact .inr rfl)) (pgs_cons (pg_name (i := 3) sc_read_site.nd rfl (by first | exact .inl rfl | exact .inr rfl)) (pgs_cons (pg_name (i := 4) sc_read_site.nd rfl (by first | exact .inl rfl | exact .inr rfl)) pgs_nil)))) (de_m1 PySem.F.slot_str_rpartition PySem.F.type_str_rpartition m_rpart (de_v 0) de_str))
    (dss_c (ds_set (i := 5) sc_read_site.nd rfl (by first | exact .inl rfl | exact .inr rfl) (de_m1 PySem.F.slot_str_split PySem.F.type_str_split m_split (de_v 2) de_str))
    (dss_c (ds_if (PW.pt (dw_or (dt_cmp (op_neDD hu64) (de_ix ix_D (de_v 5) de_int) de_str (by rfl)) (dw_or (dt_cmp (op_eqDD hu64) (de_op op_modD (de_b call_lenD rfl T.b_len (by decide +kernel) (da_c (de_v 5) da_n)) de_int) de_int (by rfl)) (pw_or1 (dt_not (dt_val (de_call k_is_name hr (by decide) hq rfl D_is_name.g D_is_name.F.kp D_is_name.b fnD_len (da_c (de_ix ix_D (de_v 5) de_int) da_n)) (fun h => pt_val h))))))) (dss_1 (ds_rt de_non)) dss_n)
    (dss_c (ds_set (i := 6) sc_read_site.nd rfl (by first | exact .inl rfl | exact .inr rfl) (de_call k_read_told hr (by decide) hq rfl D_read_told.g D_read_told.F.kp D_read_told.b fnD_len (da_c (de_sl3 (de_v 5) (do_i de_int) do_n (do_i de_int)) (da_c (de_sl3 (de_v 5) (do_i de_int) do_n (do_i de_int)) da_n))))
    (dss_c (ds_set (i := 7) sc_read_site.nd rfl (by first | exact .inl rfl | exact .inr rfl) (de_call k_read_amounts hr (by decide) hq rfl D_read_amounts.g D_read_amounts.F.kp D_read_amounts.b fnD_len (da_c (de_v 4) (da_c (de_v 1) da_n))))
    (dss_c (ds_if (PW.pt (dw_or (dt_cmp op_isND (de_v 6) de_non (by rfl)) (pw_or1 (dt_cmp op_isND (de_v 7) de_non (by rfl))))) (dss_1 (ds_rt de_non)) dss_n)
    (dss_1 (ds_rt (de_tup (da_c (de_ix ix_D (de_v 5) de_int) (da_c (de_get1 hu (de_v 6) de_str ⟨rfl, rfl, rfl, rfl⟩) (da_c (de_get2 hu (de_v 6) de_str de_int ⟨rfl, rfl, rfl, rfl⟩) (da_c (de_get1 hu (de_v 6) de_str ⟨rfl, rfl, rfl, rfl⟩) (da_c (de_get2 hu (de_v 6) de_str de_int ⟨rfl, rfl, rfl, rfl⟩) (da_c (de_get2 hu (de_v 6) de_str de_int ⟨rfl, rfl, rfl, rfl⟩) (da_c (de_v 7) da_n))))))))))))))))

abbrev s_right_fault : Stmt := top 43
theorem sc_right_fault : FnScope ["sites", "rights", "right", "site", "earlier"] ["sites", "rights", "right"] (defScope s_right_fault) := ⟨rfl, rfl, rfl, by decide +kernel, rfl, by decide +kernel, by decide +kernel⟩
def G_right_fault : GS :=
  (sSeq (sIf (DL.tB (eOp (inD true) (eOp ixD (eV 2) (eK (.int 1))) (eLc [3] (.n 3) (iV (eV 0)) gYes (eOp ixD (eV 3) (eK (.int 0)))))) (sRt (eK (.str "no such site"))) sNx)
    (sSeq (sIf (DL.tB (eOp (eqD false) (eCB lenD (aC (eV 1) aN)) (eK (.int 4)))) (sRt (eK (.str "too many rights"))) sNx)
    (sSeq (sIf (DL.tB (eOp (inD false) (eOp ixD (eV 2) (eK (.int 0))) (eLc [4] (.n 4) (iV (eV 1)) gYes (eOp ixD (eV 4) (eK (.int 0)))))) (sRt (eK (.str "name twice"))) sNx)
    (sRt (eK .non)))))
def phi_right_fault : List C → Sto → Option (C × Sto) := fnD 5 3 G_right_fault
theorem ok_right_fault {P : Program} {w : World} {K : PySem.W.Frag} {mg : PySem.Str → Option Value} {base : Heap} (T : Txt K mg) (D_right_fault : Df K mg "right_fault" s_right_fault ["sites", "rights", "right"]) : FnG P w K mg base 1 D_right_fault.f D_right_fault.fd ["sites", "rights", "right"] phi_right_fault :=
  fn_D (N := ["sites", "rights", "right", "site", "earlier"]) (k := 0) D_right_fault.F sc_right_fault fun cdv A outer s H hr hq => by
    have hu := hu_of hr
    have hu64 := hr.units
    exact (dss_c (ds_if (dt_cmp op_ninD (de_ix ix_D (de_v 2) (de_gi rfl T.c_RIGHT_SITE)) (de_lc (own := [("site", 3)]) rfl sc_right_fault.nd (di_v (de_v 0)) (by first | exact blkOk_by (N := ["sites", "rights", "right", "site", "earlier"]) (sc := defScope s_right_fault) (by decide +kernel) | exact blkOk_by (by rfl)) tg_n (by decide) (fun _ _ _ _ _ => (pg_name (i := 3) sc_right_fault.nd rfl (by first | exact .inl rfl | exact .inr rfl))) (fun _ _ _ _ _ => dts_n) (fun _ _ _ _ _ => (de_ix ix_D (de_v 3) (de_gi rfl T.c_NAME)))) (by rfl)) (dss_1 (ds_rt de_str)) dss_n)
    (dss_c (ds_if (dt_cmp (op_eqDD hu64) (de_b call_lenD rfl T.b_len (by decide +kernel) (da_c (de_v 1) da_n)) (de_gi rfl T.c_MOST_RIGHTS) (by rfl)) (dss_1 (ds_rt de_str)) dss_n)
    (dss_c (ds_if (dt_cmp op_inD (de_ix ix_D (de_v 2) (de_gi rfl T.c_NAME)) (de_lc (own := [("earlier", 4)]) rfl sc_right_fault.nd (di_v (de_v 1)) (by first | exact blkOk_by (N := ["sites", "rights", "right", "site", "earlier"]) (sc := defScope s_right_fault) (by decide +kernel) | exact blkOk_by (by rfl)) tg_n (by decide) (fun _ _ _ _ _ => (pg_name (i := 4) sc_right_fault.nd rfl (by first | exact .inl rfl | exact .inr rfl))) (fun _ _ _ _ _ => dts_n) (fun _ _ _ _ _ => (de_ix ix_D (de_v 4) (de_gi rfl T.c_NAME)))) (by rfl)) (dss_1 (ds_rt de_str)) dss_n)
    (dss_1 (ds_rt de_non)))))

abbrev s_site_fault : Stmt := top 42
theorem sc_site_fault : FnScope ["sites", "rights", "site", "earlier"] ["sites", "rights", "site"] (defScope s_site_fault) := ⟨rfl, rfl, rfl, by decide +kernel, rfl, by decide +kernel, by decide +kernel⟩
def G_site_fault : GS :=
  (sSeq (sIf (tTr (eV 1)) (sRt (eK (.str "site behind a right"))) sNx)
    (sSeq (sIf (DL.tB (eOp (eqD false) (eCB lenD (aC (eV 0) aN)) (eK (.int 4)))) (sRt (eK (.str "too many sites"))) sNx)
    (sSeq (sIf (DL.tB (eOp (inD false) (eOp ixD (eV 2) (eK (.int 0))) (eLc [3] (.n 3) (iV (eV 0)) gYes (eOp ixD (eV 3) (eK (.int 0)))))) (sRt (eK (.str "name twice"))) sNx)
    (sSeq (sIf (DL.tB (eOp gtD (eOp ixD (eV 2) (eK (.int 5))) (eOp ixD (eV 2) (eK (.int 4))))) (sRt (eK (.str "held above room"))) sNx)
    (sRt (eK .non))))))
def phi_site_fault : List C → Sto → Option (C × Sto) := fnD 4 3 G_site_fault
theorem ok_site_fault {P : Program} {w : World} {K : PySem.W.Frag} {mg : PySem.Str → Option Value} {base : Heap} (T : Txt K mg) (D_site_fault : Df K mg "site_fault" s_site_fault ["sites", "rights", "site"]) : FnG P w K mg base 1 D_site_fault.f D_site_fault.fd ["sites", "rights", "site"] phi_site_fault :=
  fn_D (N := ["sites", "rights", "site", "earlier"]) (k := 0) D_site_fault.F sc_site_fault fun cdv A outer s H hr hq => by
    have hu := hu_of hr
    have hu64 := hr.units
    exact (dss_c (ds_if (dt_tr (de_v 1)) (dss_1 (ds_rt de_str)) dss_n)
    (dss_c (ds_if (dt_cmp (op_eqDD hu64) (de_b call_lenD rfl T.b_len (by decide +kernel) (da_c (de_v 0) da_n)) (de_gi rfl T.c_MOST_SITES) (by rfl)) (dss_1 (ds_rt de_str)) dss_n)
    (dss_c (ds_if (dt_cmp op_inD (de_ix ix_D (de_v 2) (de_gi rfl T.c_NAME)) (de_lc (own := [("earlier", 3)]) rfl sc_site_fault.nd (di_v (de_v 0)) (by first | exact blkOk_by (N := ["sites", "rights", "site", "earlier"]) (sc := defScope s_site_fault) (by decide +kernel) | exact blkOk_by (by rfl)) tg_n (by decide) (fun _ _ _ _ _ => (pg_name (i := 3) sc_site_fault.nd rfl (by first | exact .inl rfl | exact .inr rfl))) (fun _ _ _ _ _ => dts_n) (fun _ _ _ _ _ => (de_ix ix_D (de_v 3) (de_gi rfl T.c_NAME)))) (by rfl)) (dss_1 (ds_rt de_str)) dss_n)
    (dss_c (ds_if (dt_cmp op_gtD (de_ix ix_D (de_v 2) (de_gi rfl T.c_HELD)) (de_ix ix_D (de_v 2) (de_gi rfl T.c_ROOM)) (by rfl)) (dss_1 (ds_rt de_str)) dss_n)
    (dss_1 (ds_rt de_non))))))

abbrev s_read_right : Stmt := top 40
theorem sc_read_right : FnScope ["line", "months", "head", "_", "wants", "pieces", "demands"] ["line", "months"] (defScope s_read_right) := ⟨rfl, rfl, rfl, by decide +kernel, rfl, by decide +kernel, by decide +kernel⟩
def G_read_right : GS :=
  (sSeq (sUn (.t [2, 3, 4]) (eM1 rpartD (eV 0) (eK (.str " wants "))))
    (sSeq (sSet 5 (eM1 splitD (eV 2) (eK (.str " "))))
    (sSeq (sIf (gOr (DL.tB (eOp (eqD true) (eCB lenD (aC (eV 5) aN)) (eK (.int 4)))) (gOr (DL.tB (eOp (eqD true) (eOp ixD (eV 5) (eK (.int 0))) (eK (.str "right")))) (DL.tB (eOp (eqD true) (eOp ixD (eV 5) (eK (.int 2))) (eK (.str "at")))))) (sRt (eK .non)) sNx)
    (sSeq (sSet 6 (eCall phi_read_amounts (aC (eV 4) (aC (eV 1) aN))))
    (sSeq (sIf (gOr (gNot (DL.tB (eCall phi_is_name (aC (eOp ixD (eV 5) (eK (.int 1))) aN)))) (gOr (gNot (DL.tB (eCall phi_is_name (aC (eOp ixD (eV 5) (eK (.int 3))) aN)))) (DL.tB (eOp (isND false) (eV 6) (eK .non))))) (sRt (eK .non)) sNx)
    (sRt (eTup (aC (eOp ixD (eV 5) (eK (.int 1))) (aC (eOp ixD (eV 5) (eK (.int 3))) (aC (eV 6) aN))))))))))
def phi_read_right : List C → Sto → Option (C × Sto) := fnD 7 2 G_read_right
theorem ok_read_right {P : Program} {w : World} {K : PySem.W.Frag} {mg : PySem.Str → Option Value} {base : Heap} (T : Txt K mg) (D_read_amounts : Df K mg "read_amounts" s_read_amounts ["text", "months"]) (k_read_amounts : FnG P w K mg base 3 D_read_amounts.f D_read_amounts.fd ["text", "months"] phi_read_amounts) (D_is_name : Df K mg "is_name" s_is_name ["piece"]) (k_is_name : FnG P w K mg base 1 D_is_name.f D_is_name.fd ["piece"] phi_is_name) (D_read_right : Df K mg "read_right" s_read_right ["line", "months"]) : FnG P w K mg base 4 D_read_right.f D_read_right.fd ["line", "months"] phi_read_right :=
  fn_D (N := ["line", "months", "head", "_", "wants", "pieces", "demands"]) (k := 3) D_read_right.F sc_read_right fun cdv A outer s H hr hq => by
    have hu := hu_of hr
    have hu64 := hr.units
    exact (dss_c (ds_un (tg_t (is := [2, 3, 4]) rfl) (pg_tup rfl (pgs_cons (pg_name (i := 2) sc_read_right.nd rfl (by first | exact .inl rfl | exact .inr rfl)) (pgs_cons (pg_name (i := 3) sc_read_right.nd rfl (by first | exact .inl rfl | exact .inr rfl)) (pgs_cons (pg_name (i := 4) sc_read_right.nd rfl (by first | exact .inl rfl | exact .inr rfl)) pgs_nil)))) (de_m1 PySem.F.slot_str_rpartition PySem.F.type_str_rpartition m_rpart (de_v 0) de_str))
    (dss_c (ds_set (i := 5) sc_read_right.nd rfl (by first | exact .inl rfl | exact .inr rfl) (de_m1 PySem.F.slot_str_split PySem.F.type_str_split m_split (de_v 2) de_str))
    (dss_c (ds_if (PW.pt (dw_or (dt_cmp (op_neDD hu64) (de_b call_lenD rfl T.b_len (by decide +kernel) (da_c (de_v 5) da_n)) de_int (by rfl)) (dw_or (dt_cmp (op_neDD hu64) (de_ix ix_D (de_v 5) de_int) de_str (by rfl)) (pw_or1 (dt_cmp (op_neDD hu64) (de_ix ix_D (de_v 5) de_int) de_str (by rfl)))))) (dss_1 (ds_rt de_non)) dss_n)
    (dss_c (ds_set (i := 6) sc_read_right.nd rfl (by first | exact .inl rfl | exact .inr rfl) (de_call k_read_amounts hr (by decide) hq rfl D_read_amounts.g D_read_amounts.F.kp D_read_amounts.b fnD_len (da_c (de_v 4) (da_c (de_v 1) da_n))))
    (dss_c (ds_if (PW.pt (dw_or (dt_not (dt_val (de_call k_is_name hr (by decide) hq rfl D_is_name.g D_is_name.F.kp D_is_name.b fnD_len (da_c (de_ix ix_D (de_v 5) de_int) da_n)) (fun h => pt_val h))) (dw_or (dt_not (dt_val (de_call k_is_name hr (by decide) hq rfl D_is_name.g D_is_name.F.kp D_is_name.b fnD_len (da_c (de_ix ix_D (de_v 5) de_int) da_n)) (fun h => pt_val h))) (pw_or1 (dt_cmp op_isND (de_v 6) de_non (by rfl)))))) (dss_1 (ds_rt de_non)) dss_n)
    (dss_1 (ds_rt (de_tup (da_c (de_ix ix_D (de_v 5) de_int) (da_c (de_ix ix_D (de_v 5) de_int) (da_c (de_v 6) da_n)))))))))))

abbrev s_add_line : Stmt := top 36
theorem sc_add_line : FnScope ["sites", "rights", "line", "months", "site", "wrong", "right"] ["sites", "rights", "line"] (defScope s_add_line) := ⟨rfl, rfl, rfl, by decide +kernel, rfl, by decide +kernel, by decide +kernel⟩
def G_add_line : GS :=
  (sSeq (sSet 3 (eIf (tTr (eV 0)) (eCB lenD (aC (eOp ixD (eOp ixD (eV 0) (eK (.int 0))) (eK (.int 6))) aN)) (eK .non)))
    (sSeq (sSet 4 (eCall phi_read_site (aC (eV 2) (aC (eV 3) aN))))
    (sSeq (sIf (DL.tB (eOp (isND true) (eV 4) (eK .non))) (sSeq (sSet 5 (eCall phi_site_fault (aC (eV 0) (aC (eV 1) (aC (eV 4) aN)))))
    (sSeq (sEx (eApp (eV 0) (eV 4)))
    (sRt (eV 5)))) sNx)
    (sSeq (sSet 6 (eIf (tTr (eV 0)) (eCall phi_read_right (aC (eV 2) (aC (eV 3) aN))) (eK .non)))
    (sSeq (sIf (DL.tB (eOp (isND false) (eV 6) (eK .non))) (sRt (eK (.str "not a line"))) sNx)
    (sSeq (sSet 5 (eCall phi_right_fault (aC (eV 0) (aC (eV 1) (aC (eV 6) aN)))))
    (sSeq (sEx (eApp (eV 1) (eV 6)))
    (sRt (eV 5)))))))))
def phi_add_line : List C → Sto → Option (C × Sto) := fnD 7 3 G_add_line
theorem ok_add_line {P : Program} {w : World} {K : PySem.W.Frag} {mg : PySem.Str → Option Value} {base : Heap} (T : Txt K mg) (D_read_site : Df K mg "read_site" s_read_site ["line", "months"]) (k_read_site : FnG P w K mg base 5 D_read_site.f D_read_site.fd ["line", "months"] phi_read_site) (D_site_fault : Df K mg "site_fault" s_site_fault ["sites", "rights", "site"]) (k_site_fault : FnG P w K mg base 1 D_site_fault.f D_site_fault.fd ["sites", "rights", "site"] phi_site_fault) (D_read_right : Df K mg "read_right" s_read_right ["line", "months"]) (k_read_right : FnG P w K mg base 4 D_read_right.f D_read_right.fd ["line", "months"] phi_read_right) (D_right_fault : Df K mg "right_fault" s_right_fault ["sites", "rights", "right"]) (k_right_fault : FnG P w K mg base 1 D_right_fault.f D_right_fault.fd ["sites", "rights", "right"] phi_right_fault) (D_add_line : Df K mg "add_line" s_add_line ["sites", "rights", "line"]) : FnG P w K mg base 6 D_add_line.f D_add_line.fd ["sites", "rights", "line"] phi_add_line :=
  fn_D (N := ["sites", "rights", "line", "months", "site", "wrong", "right"]) (k := 5) D_add_line.F sc_add_line fun cdv A outer s H hr hq => by
    have hu := hu_of hr
    have hu64 := hr.units
    exact (dss_c (ds_set (i := 3) sc_add_line.nd rfl (by first | exact .inl rfl | exact .inr rfl) (de_if (dt_tr (de_v 0)) (de_b call_lenD rfl T.b_len (by decide +kernel) (da_c (de_ix ix_D (de_ix ix_D (de_v 0) de_int) (de_gi rfl T.c_INFLOWS)) da_n)) de_non))
    (dss_c (ds_set (i := 4) sc_add_line.nd rfl (by first | exact .inl rfl | exact .inr rfl) (de_call k_read_site hr (by decide) hq rfl D_read_site.g D_read_site.F.kp D_read_site.b fnD_len (da_c (de_v 2) (da_c (de_v 3) da_n))))
    (dss_c (ds_if (dt_cmp op_notND (de_v 4) de_non (by rfl)) (dss_c (ds_set (i := 5) sc_add_line.nd rfl (by first | exact .inl rfl | exact .inr rfl) (de_call k_site_fault hr (by decide) hq rfl D_site_fault.g D_site_fault.F.kp D_site_fault.b fnD_len (da_c (de_v 0) (da_c (de_v 1) (da_c (de_v 4) da_n)))))
    (dss_c (ds_ex (de_app (de_v 0) (de_v 4)))
    (dss_1 (ds_rt (de_v 5))))) dss_n)
    (dss_c (ds_set (i := 6) sc_add_line.nd rfl (by first | exact .inl rfl | exact .inr rfl) (de_if (dt_tr (de_v 0)) (de_call k_read_right hr (by decide) hq rfl D_read_right.g D_read_right.F.kp D_read_right.b fnD_len (da_c (de_v 2) (da_c (de_v 3) da_n))) de_non))
    (dss_c (ds_if (dt_cmp op_isND (de_v 6) de_non (by rfl)) (dss_1 (ds_rt de_str)) dss_n)
    (dss_c (ds_set (i := 5) sc_add_line.nd rfl (by first | exact .inl rfl | exact .inr rfl) (de_call k_right_fault hr (by decide) hq rfl D_right_fault.g D_right_fault.F.kp D_right_fault.b fnD_len (da_c (de_v 0) (da_c (de_v 1) (da_c (de_v 6) da_n)))))
    (dss_c (ds_ex (de_app (de_v 1) (de_v 6)))
    (dss_1 (ds_rt (de_v 5))))))))))

abbrev s_next_fault : Stmt := top 44
theorem sc_next_fault : FnScope ["sites", "s", "later"] ["sites", "s"] (defScope s_next_fault) := ⟨rfl, rfl, rfl, by decide +kernel, rfl, by decide +kernel, by decide +kernel⟩
def G_next_fault : GS :=
  (sSeq (sIf (DL.tB (eOp (eqD false) (eV 1) (eOp subD (eCB lenD (aC (eV 0) aN)) (eK (.int 1))))) (sRt (eIf (DL.tB (eOp (isND false) (eOp ixD (eOp ixD (eV 0) (eV 1)) (eK (.int 1))) (eK .non))) (eK .non) (eK (.str "outlet leads on")))) sNx)
    (sSeq (sIf (DL.tB (eOp (inD true) (eOp ixD (eOp ixD (eV 0) (eV 1)) (eK (.int 1))) (eLc [2] (.n 2) (iV (eSl (eV 0) (oI (eOp addD (eV 1) (eK (.int 1)))) oN)) gYes (eOp ixD (eV 2) (eK (.int 0)))))) (sRt (eK (.str "next is not later"))) sNx)
    (sRt (eK .non))))
def phi_next_fault : List C → Sto → Option (C × Sto) := fnD 3 2 G_next_fault
theorem ok_next_fault {P : Program} {w : World} {K : PySem.W.Frag} {mg : PySem.Str → Option Value} {base : Heap} (T : Txt K mg) (D_next_fault : Df K mg "next_fault" s_next_fault ["sites", "s"]) : FnG P w K mg base 1 D_next_fault.f D_next_fault.fd ["sites", "s"] phi_next_fault :=
  fn_D (N := ["sites", "s", "later"]) (k := 0) D_next_fault.F sc_next_fault fun cdv A outer s H hr hq => by
    have hu := hu_of hr
    have hu64 := hr.units
    exact (dss_c (ds_if (dt_cmp (op_eqDD hu64) (de_v 1) (de_op op_subD (de_b call_lenD rfl T.b_len (by decide +kernel) (da_c (de_v 0) da_n)) de_int) (by rfl)) (dss_1 (ds_rt (de_if (dt_cmp op_isND (de_ix ix_D (de_ix ix_D (de_v 0) (de_v 1)) (de_gi rfl T.c_NEXT)) de_non (by rfl)) de_non de_str))) dss_n)
    (dss_c (ds_if (dt_cmp op_ninD (de_ix ix_D (de_ix ix_D (de_v 0) (de_v 1)) (de_gi rfl T.c_NEXT)) (de_lc (own := [("later", 2)]) rfl sc_next_fault.nd (di_v (de_sl (de_v 0) (do_i (de_op op_addD (de_v 1) de_int)) do_n)) (by first | exact blkOk_by (N := ["sites", "s", "later"]) (sc := defScope s_next_fault) (by decide +kernel) | exact blkOk_by (by rfl)) tg_n (by decide) (fun _ _ _ _ _ => (pg_name (i := 2) sc_next_fault.nd rfl (by first | exact .inl rfl | exact .inr rfl))) (fun _ _ _ _ _ => dts_n) (fun _ _ _ _ _ => (de_ix ix_D (de_v 2) (de_gi rfl T.c_NAME)))) (by rfl)) (dss_1 (ds_rt de_str)) dss_n)
    (dss_1 (ds_rt de_non))))

abbrev s_parse_basin : Stmt := top 35
theorem sc_parse_basin : FnScope ["text", "sites", "rights", "k", "line", "wrong", "s"] ["text"] (defScope s_parse_basin) := ⟨rfl, rfl, rfl, by decide +kernel, rfl, by decide +kernel, by decide +kernel⟩
def G_parse_basin : GS :=
  (sSeq (sNew 1 (eLst aN))
    (sSeq (sNew 2 (eLst aN))
    (sSeq (sFor (.t [3, 4]) (iEn (aC (eM1 splitD (eV 0) (eK (.str "\n"))) aN)) (sSeq (sSet 5 (eCall phi_add_line (aC (eV 1) (aC (eV 2) (aC (eV 4) aN)))))
    (sIf (DL.tB (eOp (isND true) (eV 5) (eK .non))) sNo sNx)))
    (sSeq (sFor (.n 6) (iR1 (aC (eCB lenD (aC (eV 1) aN)) aN)) (sSeq (sSet 5 (eCall phi_next_fault (aC (eV 1) (aC (eV 6) aN))))
    (sIf (DL.tB (eOp (isND true) (eV 5) (eK .non))) sNo sNx)))
    (sRt (eTup (aC (eTup (aC (eCB lenD (aC (eOp ixD (eOp ixD (eV 1) (eK (.int 0))) (eK (.int 6))) aN)) (aC (eCB tupleD (aC (eV 1) aN)) aN))) (aC (eCB tupleD (aC (eV 2) aN)) aN))))))))
def phi_parse_basin : List C → Sto → Option (C × Sto) := fnD 7 1 G_parse_basin
theorem ok_parse_basin {P : Program} {w : World} {K : PySem.W.Frag} {mg : PySem.Str → Option Value} {base : Heap} (T : Txt K mg) (D_add_line : Df K mg "add_line" s_add_line ["sites", "rights", "line"]) (k_add_line : FnG P w K mg base 6 D_add_line.f D_add_line.fd ["sites", "rights", "line"] phi_add_line) (D_next_fault : Df K mg "next_fault" s_next_fault ["sites", "s"]) (k_next_fault : FnG P w K mg base 1 D_next_fault.f D_next_fault.fd ["sites", "s"] phi_next_fault) (D_parse_basin : Df K mg "parse_basin" s_parse_basin ["text"]) : FnG P w K mg base 7 D_parse_basin.f D_parse_basin.fd ["text"] phi_parse_basin :=
  fn_D (N := ["text", "sites", "rights", "k", "line", "wrong", "s"]) (k := 6) D_parse_basin.F sc_parse_basin fun cdv A outer s H hr hq => by
    have hu := hu_of hr
    have hu64 := hr.units
    exact (dss_c (ds_new (i := 1) sc_parse_basin.nd rfl (by first | exact .inl rfl | exact .inr rfl) (dn_lst da_n))
    (dss_c (ds_new (i := 2) sc_parse_basin.nd rfl (by first | exact .inl rfl | exact .inr rfl) (dn_lst da_n))
    (dss_c (ds_for PassesOwn.never rfl (di_en rfl T.b_enumerate (da_c (de_m1 PySem.F.slot_str_split PySem.F.type_str_split m_split (de_v 0) de_str) da_n)) (tg_t (is := [3, 4]) rfl) (pg_tup rfl (pgs_cons (pg_name (i := 3) sc_parse_basin.nd rfl (by first | exact .inl rfl | exact .inr rfl)) (pgs_cons (pg_name (i := 4) sc_parse_basin.nd rfl (by first | exact .inl rfl | exact .inr rfl)) pgs_nil))) (dss_c (ds_set (i := 5) sc_parse_basin.nd rfl (by first | exact .inl rfl | exact .inr rfl) (de_call k_add_line hr (by decide) hq rfl D_add_line.g D_add_line.F.kp D_add_line.b fnD_len (da_c (de_v 1) (da_c (de_v 2) (da_c (de_v 4) da_n)))))
    (dss_1 (ds_if (dt_cmp op_notND (de_v 5) de_non (by rfl)) (dss_1 ds_no) dss_n))))
    (dss_c (ds_for PassesOwn.never rfl (di_r1 rfl T.b_range (da_c (de_b call_lenD rfl T.b_len (by decide +kernel) (da_c (de_v 1) da_n)) da_n)) tg_n (pg_name (i := 6) sc_parse_basin.nd rfl (by first | exact .inl rfl | exact .inr rfl)) (dss_c (ds_set (i := 5) sc_parse_basin.nd rfl (by first | exact .inl rfl | exact .inr rfl) (de_call k_next_fault hr (by decide) hq rfl D_next_fault.g D_next_fault.F.kp D_next_fault.b fnD_len (da_c (de_v 1) (da_c (de_v 6) da_n))))
    (dss_1 (ds_if (dt_cmp op_notND (de_v 5) de_non (by rfl)) (dss_1 ds_no) dss_n))))
    (dss_1 (ds_rt (de_tup (da_c (de_tup (da_c (de_b call_lenD rfl T.b_len (by decide +kernel) (da_c (de_ix ix_D (de_ix ix_D (de_v 1) de_int) (de_gi rfl T.c_INFLOWS)) da_n)) (da_c (de_ty call_tupleD rfl T.b_tuple (by decide +kernel) (da_c (de_v 1) da_n)) da_n))) (da_c (de_ty call_tupleD rfl T.b_tuple (by decide +kernel) (da_c (de_v 2) da_n)) da_n)))))))))

abbrev s_route : Stmt := top 10
theorem sc_route : FnScope ["basin", "name", "pairs", "delay", "at", "site"] ["basin", "name"] (defScope s_route) := ⟨rfl, rfl, rfl, by decide +kernel, rfl, by decide +kernel, by decide +kernel⟩
def G_route : GS :=
  (sSeq (sNew 2 (eLst aN))
    (sSeq (sSet 3 (eK (.int 0)))
    (sSeq (sSet 4 (eCall phi_site_number (aC (eV 0) (aC (eV 1) aN))))
    (sSeq (sWh 12 (DL.tB (eOp (isND true) (eV 4) (eK .non))) (sSeq (sSet 5 (eOp ixD (eOp ixD (eV 0) (eK (.int 1))) (eV 4)))
    (sSeq (sEx (eApp (eV 2) (eTup (aC (eOp ixD (eV 5) (eK (.int 0))) (aC (eV 3) aN)))))
    (sSeq (sAug 3 (iiD fun i j => .int (i + j)) (eOp ixD (eV 5) (eK (.int 2))))
    (sSet 4 (eCall phi_site_number (aC (eV 0) (aC (eOp ixD (eV 5) (eK (.int 1))) aN))))))))
    (sRt (eCB tupleD (aC (eV 2) aN)))))))
def phi_route : List C → Sto → Option (C × Sto) := fnD 6 2 G_route
theorem ok_route {P : Program} {w : World} {K : PySem.W.Frag} {mg : PySem.Str → Option Value} {base : Heap} (T : Txt K mg) (D_site_number : Df K mg "site_number" s_site_number ["basin", "name"]) (k_site_number : FnG P w K mg base 1 D_site_number.f D_site_number.fd ["basin", "name"] phi_site_number) (D_route : Df K mg "route" s_route ["basin", "name"]) : FnG P w K mg base 2 D_route.f D_route.fd ["basin", "name"] phi_route :=
  fn_D (N := ["basin", "name", "pairs", "delay", "at", "site"]) (k := 1) D_route.F sc_route fun cdv A outer s H hr hq => by
    have hu := hu_of hr
    have hu64 := hr.units
    exact (dss_c (ds_new (i := 2) sc_route.nd rfl (by first | exact .inl rfl | exact .inr rfl) (dn_lst da_n))
    (dss_c (ds_set (i := 3) sc_route.nd rfl (by first | exact .inl rfl | exact .inr rfl) de_int)
    (dss_c (ds_set (i := 4) sc_route.nd rfl (by first | exact .inl rfl | exact .inr rfl) (de_call k_site_number hr (by decide) hq rfl D_site_number.g D_site_number.F.kp D_site_number.b fnD_len (da_c (de_v 0) (da_c (de_v 1) da_n))))
    (dss_c (ds_wh 12 PassesOwn.never (dt_cmp op_notND (de_v 4) de_non (by rfl)) (dss_c (ds_set (i := 5) sc_route.nd rfl (by first | exact .inl rfl | exact .inr rfl) (de_ix ix_D (de_ix ix_D (de_v 0) de_int) (de_v 4)))
    (dss_c (ds_ex (de_app (de_v 2) (de_tup (da_c (de_ix ix_D (de_v 5) (de_gi rfl T.c_NAME)) (da_c (de_v 3) da_n)))))
    (dss_c (ds_aug (i := 3) sc_route.nd rfl (by first | exact .inl rfl | exact .inr rfl) (de_ix ix_D (de_v 5) (de_gi rfl T.c_TRAVEL)) ip_addD)
    (dss_1 (ds_set (i := 4) sc_route.nd rfl (by first | exact .inl rfl | exact .inr rfl) (de_call k_site_number hr (by decide) hq rfl D_site_number.g D_site_number.F.kp D_site_number.b fnD_len (da_c (de_v 0) (da_c (de_ix ix_D (de_v 5) (de_gi rfl T.c_NEXT)) da_n)))))))))
    (dss_1 (ds_rt (de_ty call_tupleD rfl T.b_tuple (by decide +kernel) (da_c (de_v 2) da_n))))))))

abbrev s_upstream : Stmt := top 11
theorem sc_upstream : FnScope ["basin", "name", "names", "site", "lower", "_"] ["basin", "name"] (defScope s_upstream) := ⟨rfl, rfl, rfl, by decide +kernel, rfl, by decide +kernel, by decide +kernel⟩
def G_upstream : GS :=
  (sSeq (sNew 2 (eLst aN))
    (sSeq (sFor (.n 3) (iV (eOp ixD (eV 0) (eK (.int 1)))) (sIf (DL.tB (eOp (inD false) (eV 1) (eLc [4, 5] (.t [4, 5]) (iV (eCall phi_route (aC (eV 0) (aC (eOp ixD (eV 3) (eK (.int 0))) aN)))) gYes (eV 4)))) (sEx (eApp (eV 2) (eOp ixD (eV 3) (eK (.int 0))))) sNx))
    (sRt (eCB tupleD (aC (eV 2) aN)))))
def phi_upstream : List C → Sto → Option (C × Sto) := fnD 6 2 G_upstream
theorem ok_upstream {P : Program} {w : World} {K : PySem.W.Frag} {mg : PySem.Str → Option Value} {base : Heap} (T : Txt K mg) (D_route : Df K mg "route" s_route ["basin", "name"]) (k_route : FnG P w K mg base 2 D_route.f D_route.fd ["basin", "name"] phi_route) (D_upstream : Df K mg "upstream" s_upstream ["basin", "name"]) : FnG P w K mg base 3 D_upstream.f D_upstream.fd ["basin", "name"] phi_upstream :=
  fn_D (N := ["basin", "name", "names", "site", "lower", "_"]) (k := 2) D_upstream.F sc_upstream fun cdv A outer s H hr hq => by
    have hu := hu_of hr
    have hu64 := hr.units
    exact (dss_c (ds_new (i := 2) sc_upstream.nd rfl (by first | exact .inl rfl | exact .inr rfl) (dn_lst da_n))
    (dss_c (ds_for PassesOwn.never rfl (di_v (de_ix ix_D (de_v 0) de_int)) tg_n (pg_name (i := 3) sc_upstream.nd rfl (by first | exact .inl rfl | exact .inr rfl)) (dss_1 (ds_if (dt_cmp op_inD (de_v 1) (de_lc (own := [("lower", 4), ("_", 5)]) rfl sc_upstream.nd (di_v (de_call k_route hr (by decide) hq rfl D_route.g D_route.F.kp D_route.b fnD_len (da_c (de_v 0) (da_c (de_ix ix_D (de_v 3) (de_gi rfl T.c_NAME)) da_n)))) (by first | exact blkOk_by (N := ["basin", "name", "names", "site", "lower", "_"]) (sc := defScope s_upstream) (by decide +kernel) | exact blkOk_by (by rfl)) (tg_t (is := [4, 5]) rfl) (by decide) (fun _ _ _ _ _ => (pg_tup rfl (pgs_cons (pg_name (i := 4) sc_upstream.nd rfl (by first | exact .inl rfl | exact .inr rfl)) (pgs_cons (pg_name (i := 5) sc_upstream.nd rfl (by first | exact .inl rfl | exact .inr rfl)) pgs_nil)))) (fun _ _ _ _ _ => dts_n) (fun _ _ _ _ _ => (de_v 4))) (by rfl)) (dss_1 (ds_ex (de_app (de_v 2) (de_ix ix_D (de_v 3) (de_gi rfl T.c_NAME))))) dss_n)))
    (dss_1 (ds_rt (de_ty call_tupleD rfl T.b_tuple (by decide +kernel) (da_c (de_v 2) da_n))))))

abbrev s_claim_size : Stmt := top 14
theorem sc_claim_size : FnScope ["basin", "rights", "claim"] ["basin", "rights", "claim"] (defScope s_claim_size) := ⟨rfl, rfl, rfl, by decide +kernel, rfl, by decide +kernel, by decide +kernel⟩
def G_claim_size : GS :=
  (sSeq (sIf (DL.tB (eOp (eqD false) (eOp ixD (eV 2) (eK (.int 0))) (eK (.str "room")))) (sRt (eOp ixD (eOp ixD (eOp ixD (eV 0) (eK (.int 1))) (eOp ixD (eV 2) (eK (.int 1)))) (eK (.int 4)))) sNx)
    (sRt (eOp ixD (eOp ixD (eOp ixD (eV 1) (eOp ixD (eV 2) (eK (.int 1)))) (eK (.int 2))) (eOp ixD (eV 2) (eK (.int 2))))))
def phi_claim_size : List C → Sto → Option (C × Sto) := fnD 3 3 G_claim_size
theorem ok_claim_size {P : Program} {w : World} {K : PySem.W.Frag} {mg : PySem.Str → Option Value} {base : Heap} (T : Txt K mg) (D_claim_size : Df K mg "claim_size" s_claim_size ["basin", "rights", "claim"]) : FnG P w K mg base 1 D_claim_size.f D_claim_size.fd ["basin", "rights", "claim"] phi_claim_size :=
  fn_D (N := ["basin", "rights", "claim"]) (k := 0) D_claim_size.F sc_claim_size fun cdv A outer s H hr hq => by
    have hu := hu_of hr
    have hu64 := hr.units
    exact (dss_c (ds_if (dt_cmp (op_eqDD hu64) (de_ix ix_D (de_v 2) de_int) de_str (by rfl)) (dss_1 (ds_rt (de_ix ix_D (de_ix ix_D (de_ix ix_D (de_v 0) de_int) (de_ix ix_D (de_v 2) de_int)) (de_gi rfl T.c_ROOM)))) dss_n)
    (dss_1 (ds_rt (de_ix ix_D (de_ix ix_D (de_ix ix_D (de_v 1) (de_ix ix_D (de_v 2) de_int)) (de_gi rfl T.c_DEMANDS)) (de_ix ix_D (de_v 2) de_int)))))

abbrev s_claim_cell : Stmt := top 13
theorem sc_claim_cell : FnScope ["basin", "rights", "claim"] ["basin", "rights", "claim"] (defScope s_claim_cell) := ⟨rfl, rfl, rfl, by decide +kernel, rfl, by decide +kernel, by decide +kernel⟩
def G_claim_cell : GS :=
  (sSeq (sIf (DL.tB (eOp (eqD false) (eOp ixD (eV 2) (eK (.int 0))) (eK (.str "room")))) (sRt (eTup (aC (eOp ixD (eV 2) (eK (.int 1))) (aC (eOp subD (eOp ixD (eV 0) (eK (.int 0))) (eK (.int 1))) aN)))) sNx)
    (sRt (eTup (aC (eCall phi_site_number (aC (eV 0) (aC (eOp ixD (eOp ixD (eV 1) (eOp ixD (eV 2) (eK (.int 1)))) (eK (.int 1))) aN))) (aC (eOp ixD (eV 2) (eK (.int 2))) aN)))))
def phi_claim_cell : List C → Sto → Option (C × Sto) := fnD 3 3 G_claim_cell
theorem ok_claim_cell {P : Program} {w : World} {K : PySem.W.Frag} {mg : PySem.Str → Option Value} {base : Heap} (T : Txt K mg) (D_site_number : Df K mg "site_number" s_site_number ["basin", "name"]) (k_site_number : FnG P w K mg base 1 D_site_number.f D_site_number.fd ["basin", "name"] phi_site_number) (D_claim_cell : Df K mg "claim_cell" s_claim_cell ["basin", "rights", "claim"]) : FnG P w K mg base 2 D_claim_cell.f D_claim_cell.fd ["basin", "rights", "claim"] phi_claim_cell :=
  fn_D (N := ["basin", "rights", "claim"]) (k := 1) D_claim_cell.F sc_claim_cell fun cdv A outer s H hr hq => by
    have hu := hu_of hr
    have hu64 := hr.units
    exact (dss_c (ds_if (dt_cmp (op_eqDD hu64) (de_ix ix_D (de_v 2) de_int) de_str (by rfl)) (dss_1 (ds_rt (de_tup (da_c (de_ix ix_D (de_v 2) de_int) (da_c (de_op op_subD (de_ix ix_D (de_v 0) de_int) de_int) da_n))))) dss_n)
    (dss_1 (ds_rt (de_tup (da_c (de_call k_site_number hr (by decide) hq rfl D_site_number.g D_site_number.F.kp D_site_number.b fnD_len (da_c (de_v 0) (da_c (de_ix ix_D (de_ix ix_D (de_v 1) (de_ix ix_D (de_v 2) de_int)) (de_gi rfl T.c_RIGHT_SITE)) da_n))) (da_c (de_ix ix_D (de_v 2) de_int) da_n))))))

abbrev s_law : Stmt := top 61
theorem sc_law : FnScope ["script", "box", "basin", "rights", "text", "routes", "site", "due", "other", "pair", "told", "r", "m", "s", "rows", "k"] ["script"] (defScope s_law) := ⟨rfl, rfl, rfl, by decide +kernel, rfl, by decide +kernel, by decide +kernel⟩
def G_law : GS :=
  (sSeq (sNew 1 (eLst (aC (eCall phi_lw_digits (aC (eV 0) (aC (eK (.int 0)) (aC (eK (.int 50)) aN)))) (aC (eK (.int 0)) aN))))
    (sSeq (sSet 2 (eCall phi_lw_basin (aC (eV 1) aN)))
    (sSeq (sSet 3 (eCall phi_lw_rights (aC (eV 1) (aC (eV 2) aN))))
    (sSeq (sSet 4 (eCall phi_lw_text (aC (eV 2) (aC (eV 3) aN))))
    (sSeq (sIf (gOr (DL.tB (eOp (eqD true) (eCall phi_basin_text (aC (eV 2) (aC (eV 3) aN))) (eV 4))) (gNot (DL.tB (eCall phi_lw_same (aC (eCall phi_parse_basin (aC (eV 4) aN)) (aC (eTup (aC (eV 2) (aC (eV 3) aN))) aN)))))) (sRt (eK (.bl false))) sNx)
    (sSeq (sNewD 5)
    (sSeq (sFor (.n 6) (iV (eOp ixD (eV 2) (eK (.int 1)))) (sSeq (sPutD (eV 5) (eOp ixD (eV 6) (eK (.int 0))) (eCall phi_lw_route (aC (eV 2) (aC (eOp ixD (eV 6) (eK (.int 0))) aN))))
    (sIf (gOr (gNot (DL.tB (eCall phi_lw_same (aC (eCall phi_route (aC (eV 2) (aC (eOp ixD (eV 6) (eK (.int 0))) aN))) (aC (eGetD (eV 5) (eOp ixD (eV 6) (eK (.int 0)))) aN))))) (DL.tB (eOp (eqD true) (eCall phi_site_number (aC (eV 2) (aC (eOp ixD (eV 6) (eK (.int 0))) aN))) (eCall phi_lw_number (aC (eV 2) (aC (eOp ixD (eV 6) (eK (.int 0))) aN)))))) (sRt (eK (.bl false))) sNx)))
    (sSeq (sFor (.n 6) (iV (eOp ixD (eV 2) (eK (.int 1)))) (sSeq (sSet 7 (eCB tupleD (aC (eLc [8] (.n 8) (iV (eOp ixD (eV 2) (eK (.int 1)))) (DL.tB (eOp (inD false) (eOp ixD (eV 6) (eK (.int 0))) (eLc [9] (.n 9) (iV (eGetD (eV 5) (eOp ixD (eV 8) (eK (.int 0))))) gYes (eOp ixD (eV 9) (eK (.int 0)))))) (eOp ixD (eV 8) (eK (.int 0)))) aN)))
    (sIf (gNot (DL.tB (eCall phi_lw_same (aC (eCall phi_upstream (aC (eV 2) (aC (eOp ixD (eV 6) (eK (.int 0))) aN))) (aC (eV 7) aN))))) (sRt (eK (.bl false))) sNx)))
    (sSeq (sSet 10 (eCall phi_claims (aC (eV 2) (aC (eV 3) aN))))
    (sSeq (sSet 7 (eLst aN))
    (sSeq (sFor (.n 11) (iR1 (aC (eCB lenD (aC (eV 3) aN)) aN)) (sSet 7 (eOp addD (eV 7) (eLc [12] (.n 12) (iR1 (aC (eOp ixD (eV 2) (eK (.int 0))) aN)) gYes (eTup (aC (eK (.str "right")) (aC (eCB intD (aC (eV 11) aN)) (aC (eCB intD (aC (eV 12) aN)) aN))))))))
    (sSeq (sSet 7 (eOp addD (eV 7) (eLc [13] (.n 13) (iR1 (aC (eCB lenD (aC (eOp ixD (eV 2) (eK (.int 1))) aN)) aN)) gYes (eTup (aC (eK (.str "room")) (aC (eCB intD (aC (eV 13) aN)) aN))))))
    (sSeq (sIf (gOr (gNot (DL.tB (eCall phi_lw_same (aC (eV 10) (aC (eCB tupleD (aC (eV 7) aN)) aN))))) (DL.tB (eOp (isND true) (eCall phi_site_number (aC (eV 2) (aC (eK (.str "nix")) aN))) (eK .non)))) (sRt (eK (.bl false))) sNx)
    (sSeq (sSet 14 (eCall phi_lw_claims (aC (eV 2) (aC (eV 3) aN))))
    (sSeq (sFor (.n 15) (iR1 (aC (eCB lenD (aC (eV 10) aN)) aN)) (sIf (gOr (gNot (DL.tB (eCall phi_lw_same (aC (eCall phi_claim_cell (aC (eV 2) (aC (eV 3) (aC (eOp ixD (eV 10) (eV 15)) aN)))) (aC (eOp ixD (eOp ixD (eV 14) (eV 15)) (eK (.int 0))) aN))))) (DL.tB (eOp (eqD true) (eCall phi_claim_size (aC (eV 2) (aC (eV 3) (aC (eOp ixD (eV 10) (eV 15)) aN)))) (eOp ixD (eOp ixD (eV 14) (eV 15)) (eK (.int 1)))))) (sRt (eK (.bl false))) sNx))
    (sRt (eK (.bl true))))))))))))))))))
def phi_law : List C → Sto → Option (C × Sto) := fnD 16 1 G_law
theorem ok_law {P : Program} {w : World} {K : PySem.W.Frag} {mg : PySem.Str → Option Value} {base : Heap} (T : Txt K mg) (D_lw_digits : Df K mg "_law_digits" s_lw_digits ["script", "first", "last"]) (k_lw_digits : FnG P w K mg base 2 D_lw_digits.f D_lw_digits.fd ["script", "first", "last"] phi_lw_digits) (D_lw_basin : Df K mg "_law_basin" s_lw_basin ["box"]) (k_lw_basin : FnG P w K mg base 3 D_lw_basin.f D_lw_basin.fd ["box"] phi_lw_basin) (D_lw_rights : Df K mg "_law_rights" s_lw_rights ["box", "basin"]) (k_lw_rights : FnG P w K mg base 3 D_lw_rights.f D_lw_rights.fd ["box", "basin"] phi_lw_rights) (D_lw_text : Df K mg "_law_text" s_lw_text ["basin", "rights"]) (k_lw_text : FnG P w K mg base 1 D_lw_text.f D_lw_text.fd ["basin", "rights"] phi_lw_text) (D_basin_text : Df K mg "basin_text" s_basin_text ["basin", "rights"]) (k_basin_text : FnG P w K mg base 2 D_basin_text.f D_basin_text.fd ["basin", "rights"] phi_basin_text) (D_lw_same : Df K mg "_law_same" s_lw_same ["actual", "due"]) (k_lw_same : FnG P w K mg base 1 D_lw_same.f D_lw_same.fd ["actual", "due"] phi_lw_same) (D_parse_basin : Df K mg "parse_basin" s_parse_basin ["text"]) (k_parse_basin : FnG P w K mg base 7 D_parse_basin.f D_parse_basin.fd ["text"] phi_parse_basin) (D_lw_route : Df K mg "_law_route" s_lw_route ["basin", "name"]) (k_lw_route : FnG P w K mg base 2 D_lw_route.f D_lw_route.fd ["basin", "name"] phi_lw_route) (D_route : Df K mg "route" s_route ["basin", "name"]) (k_route : FnG P w K mg base 2 D_route.f D_route.fd ["basin", "name"] phi_route) (D_site_number : Df K mg "site_number" s_site_number ["basin", "name"]) (k_site_number : FnG P w K mg base 1 D_site_number.f D_site_number.fd ["basin", "name"] phi_site_number) (D_lw_number : Df K mg "_law_number" s_lw_number ["basin", "name"]) (k_lw_number : FnG P w K mg base 1 D_lw_number.f D_lw_number.fd ["basin", "name"] phi_lw_number) (D_upstream : Df K mg "upstream" s_upstream ["basin", "name"]) (k_upstream : FnG P w K mg base 3 D_upstream.f D_upstream.fd ["basin", "name"] phi_upstream) (D_claims : Df K mg "claims" s_claims ["basin", "rights"]) (k_claims : FnG P w K mg base 1 D_claims.f D_claims.fd ["basin", "rights"] phi_claims) (D_lw_claims : Df K mg "_law_claims" s_lw_claims ["basin", "rights"]) (k_lw_claims : FnG P w K mg base 2 D_lw_claims.f D_lw_claims.fd ["basin", "rights"] phi_lw_claims) (D_claim_cell : Df K mg "claim_cell" s_claim_cell ["basin", "rights", "claim"]) (k_claim_cell : FnG P w K mg base 2 D_claim_cell.f D_claim_cell.fd ["basin", "rights", "claim"] phi_claim_cell) (D_claim_size : Df K mg "claim_size" s_claim_size ["basin", "rights", "claim"]) (k_claim_size : FnG P w K mg base 1 D_claim_size.f D_claim_size.fd ["basin", "rights", "claim"] phi_claim_size) (D_law : Df K mg "law" s_law ["script"]) : FnG P w K mg base 8 D_law.f D_law.fd ["script"] phi_law :=
  fn_D (N := ["script", "box", "basin", "rights", "text", "routes", "site", "due", "other", "pair", "told", "r", "m", "s", "rows", "k"]) (k := 7) D_law.F sc_law fun cdv A outer s H hr hq => by
    have hu := hu_of hr
    have hu64 := hr.units
    exact (dss_c (ds_new (i := 1) sc_law.nd rfl (by first | exact .inl rfl | exact .inr rfl) (dn_lst (da_c (de_call k_lw_digits hr (by decide) hq rfl D_lw_digits.g D_lw_digits.F.kp D_lw_digits.b fnD_len (da_c (de_v 0) (da_c de_int (da_c de_int da_n)))) (da_c de_int da_n))))
    (dss_c (ds_set (i := 2) sc_law.nd rfl (by first | exact .inl rfl | exact .inr rfl) (de_call k_lw_basin hr (by decide) hq rfl D_lw_basin.g D_lw_basin.F.kp D_lw_basin.b fnD_len (da_c (de_v 1) da_n)))
    (dss_c (ds_set (i := 3) sc_law.nd rfl (by first | exact .inl rfl | exact .inr rfl) (de_call k_lw_rights hr (by decide) hq rfl D_lw_rights.g D_lw_rights.F.kp D_lw_rights.b fnD_len (da_c (de_v 1) (da_c (de_v 2) da_n))))
    (dss_c (ds_set (i := 4) sc_law.nd rfl (by first | exact .inl rfl | exact .inr rfl) (de_call k_lw_text hr (by decide) hq rfl D_lw_text.g D_lw_text.F.kp D_lw_text.b fnD_len (da_c (de_v 2) (da_c (de_v 3) da_n))))
    (dss_c (ds_if (PW.pt (dw_or (dt_cmp (op_neDD hu64) (de_call k_basin_text hr (by decide) hq rfl D_basin_text.g D_basin_text.F.kp D_basin_text.b fnD_len (da_c (de_v 2) (da_c (de_v 3) da_n))) (de_v 4) (by rfl)) (pw_or1 (dt_not (dt_val (de_call k_lw_same hr (by decide) hq rfl D_lw_same.g D_lw_same.F.kp D_lw_same.b fnD_len (da_c (de_call k_parse_basin hr (by decide) hq rfl D_parse_basin.g D_parse_basin.F.kp D_parse_basin.b fnD_len (da_c (de_v 4) da_n)) (da_c (de_tup (da_c (de_v 2) (da_c (de_v 3) da_n))) da_n))) (fun h => pt_val h)))))) (dss_1 (ds_rt de_bl)) dss_n)
    (dss_c (ds_newD (i := 5) sc_law.nd rfl (by first | exact .inl rfl | exact .inr rfl))
    (dss_c (ds_for PassesOwn.never rfl (di_v (de_ix ix_D (de_v 2) de_int)) tg_n (pg_name (i := 6) sc_law.nd rfl (by first | exact .inl rfl | exact .inr rfl)) (dss_c (ds_putD hu (de_v 5) (de_ix ix_D (de_v 6) de_int) (de_call k_lw_route hr (by decide) hq rfl D_lw_route.g D_lw_route.F.kp D_lw_route.b fnD_len (da_c (de_v 2) (da_c (de_ix ix_D (de_v 6) de_int) da_n))))
    (dss_1 (ds_if (PW.pt (dw_or (dt_not (dt_val (de_call k_lw_same hr (by decide) hq rfl D_lw_same.g D_lw_same.F.kp D_lw_same.b fnD_len (da_c (de_call k_route hr (by decide) hq rfl D_route.g D_route.F.kp D_route.b fnD_len (da_c (de_v 2) (da_c (de_ix ix_D (de_v 6) de_int) da_n))) (da_c (de_getD hu (de_v 5) (de_ix ix_D (de_v 6) de_int)) da_n))) (fun h => pt_val h))) (pw_or1 (dt_cmp (op_neDD hu64) (de_call k_site_number hr (by decide) hq rfl D_site_number.g D_site_number.F.kp D_site_number.b fnD_len (da_c (de_v 2) (da_c (de_ix ix_D (de_v 6) de_int) da_n))) (de_call k_lw_number hr (by decide) hq rfl D_lw_number.g D_lw_number.F.kp D_lw_number.b fnD_len (da_c (de_v 2) (da_c (de_ix ix_D (de_v 6) de_int) da_n))) (by rfl))))) (dss_1 (ds_rt de_bl)) dss_n))))
    (dss_c (ds_for PassesOwn.never rfl (di_v (de_ix ix_D (de_v 2) de_int)) tg_n (pg_name (i := 6) sc_law.nd rfl (by first | exact .inl rfl | exact .inr rfl)) (dss_c (ds_set (i := 7) sc_law.nd rfl (by first | exact .inl rfl | exact .inr rfl) (de_ty call_tupleD rfl T.b_tuple (by decide +kernel) (da_c (de_lc (own := [("other", 8)]) rfl sc_law.nd (di_v (de_ix ix_D (de_v 2) de_int)) (by first | exact blkOk_by (N := ["script", "box", "basin", "rights", "text", "routes", "site", "due", "other", "pair", "told", "r", "m", "s", "rows", "k"]) (sc := defScope s_law) (by decide +kernel) | exact blkOk_by (by rfl)) tg_n (by decide) (fun _ _ _ _ _ => (pg_name (i := 8) sc_law.nd rfl (by first | exact .inl rfl | exact .inr rfl))) (fun _ _ _ _ _ => (dts_1 (dt_cmp op_inD (de_ix ix_D (de_v 6) de_int) (de_lc (own := [("pair", 9)]) rfl sc_law.nd (di_v (de_getD hu (de_v 5) (de_ix ix_D (de_v 8) de_int))) (by first | exact blkOk_by (N := ["script", "box", "basin", "rights", "text", "routes", "site", "due", "other", "pair", "told", "r", "m", "s", "rows", "k"]) (sc := defScope s_law) (by decide +kernel) | exact blkOk_by (by rfl)) tg_n (by decide) (fun _ _ _ _ _ => (pg_name (i := 9) sc_law.nd rfl (by first | exact .inl rfl | exact .inr rfl))) (fun _ _ _ _ _ => dts_n) (fun _ _ _ _ _ => (de_ix ix_D (de_v 9) de_int))) (by rfl)))) (fun _ _ _ _ _ => (de_ix ix_D (de_v 8) de_int))) da_n)))
    (dss_1 (ds_if (dt_not (dt_val (de_call k_lw_same hr (by decide) hq rfl D_lw_same.g D_lw_same.F.kp D_lw_same.b fnD_len (da_c (de_call k_upstream hr (by decide) hq rfl D_upstream.g D_upstream.F.kp D_upstream.b fnD_len (da_c (de_v 2) (da_c (de_ix ix_D (de_v 6) de_int) da_n))) (da_c (de_v 7) da_n))) (fun h => pt_val h))) (dss_1 (ds_rt de_bl)) dss_n))))
    (dss_c (ds_set (i := 10) sc_law.nd rfl (by first | exact .inl rfl | exact .inr rfl) (de_call k_claims hr (by decide) hq rfl D_claims.g D_claims.F.kp D_claims.b fnD_len (da_c (de_v 2) (da_c (de_v 3) da_n))))
    (dss_c (ds_set (i := 7) sc_law.nd rfl (by first | exact .inl rfl | exact .inr rfl) (de_lst da_n))
    (dss_c (ds_for PassesOwn.never rfl (di_r1 rfl T.b_range (da_c (de_b call_lenD rfl T.b_len (by decide +kernel) (da_c (de_v 3) da_n)) da_n)) tg_n (pg_name (i := 11) sc_law.nd rfl (by first | exact .inl rfl | exact .inr rfl)) (dss_1 (ds_set (i := 7) sc_law.nd rfl (by first | exact .inl rfl | exact .inr rfl) (de_op op_addD (de_v 7) (de_lc (own := [("m", 12)]) rfl sc_law.nd (di_r1 rfl T.b_range (da_c (de_ix ix_D (de_v 2) de_int) da_n)) (by first | exact blkOk_by (N := ["script", "box", "basin", "rights", "text", "routes", "site", "due", "other", "pair", "told", "r", "m", "s", "rows", "k"]) (sc := defScope s_law) (by decide +kernel) | exact blkOk_by (by rfl)) tg_n (by decide) (fun _ _ _ _ _ => (pg_name (i := 12) sc_law.nd rfl (by first | exact .inl rfl | exact .inr rfl))) (fun _ _ _ _ _ => dts_n) (fun _ _ _ _ _ => (de_tup (da_c de_str (da_c (de_ty call_intD rfl T.b_int (by decide +kernel) (da_c (de_v 11) da_n)) (da_c (de_ty call_intD rfl T.b_int (by decide +kernel) (da_c (de_v 12) da_n)) da_n))))))))))
    (dss_c (ds_set (i := 7) sc_law.nd rfl (by first | exact .inl rfl | exact .inr rfl) (de_op op_addD (de_v 7) (de_lc (own := [("s", 13)]) rfl sc_law.nd (di_r1 rfl T.b_range (da_c (de_b call_lenD rfl T.b_len (by decide +kernel) (da_c (de_ix ix_D (de_v 2) de_int) da_n)) da_n)) (by first | exact blkOk_by (N := ["script", "box", "basin", "rights", "text", "routes", "site", "due", "other", "pair", "told", "r", "m", "s", "rows", "k"]) (sc := defScope s_law) (by decide +kernel) | exact blkOk_by (by rfl)) tg_n (by decide) (fun _ _ _ _ _ => (pg_name (i := 13) sc_law.nd rfl (by first | exact .inl rfl | exact .inr rfl))) (fun _ _ _ _ _ => dts_n) (fun _ _ _ _ _ => (de_tup (da_c de_str (da_c (de_ty call_intD rfl T.b_int (by decide +kernel) (da_c (de_v 13) da_n)) da_n)))))))
    (dss_c (ds_if (PW.pt (dw_or (dt_not (dt_val (de_call k_lw_same hr (by decide) hq rfl D_lw_same.g D_lw_same.F.kp D_lw_same.b fnD_len (da_c (de_v 10) (da_c (de_ty call_tupleD rfl T.b_tuple (by decide +kernel) (da_c (de_v 7) da_n)) da_n))) (fun h => pt_val h))) (pw_or1 (dt_cmp op_notND (de_call k_site_number hr (by decide) hq rfl D_site_number.g D_site_number.F.kp D_site_number.b fnD_len (da_c (de_v 2) (da_c de_str da_n))) de_non (by rfl))))) (dss_1 (ds_rt de_bl)) dss_n)
    (dss_c (ds_set (i := 14) sc_law.nd rfl (by first | exact .inl rfl | exact .inr rfl) (de_call k_lw_claims hr (by decide) hq rfl D_lw_claims.g D_lw_claims.F.kp D_lw_claims.b fnD_len (da_c (de_v 2) (da_c (de_v 3) da_n))))
    (dss_c (ds_for PassesOwn.never rfl (di_r1 rfl T.b_range (da_c (de_b call_lenD rfl T.b_len (by decide +kernel) (da_c (de_v 10) da_n)) da_n)) tg_n (pg_name (i := 15) sc_law.nd rfl (by first | exact .inl rfl | exact .inr rfl)) (dss_1 (ds_if (PW.pt (dw_or (dt_not (dt_val (de_call k_lw_same hr (by decide) hq rfl D_lw_same.g D_lw_same.F.kp D_lw_same.b fnD_len (da_c (de_call k_claim_cell hr (by decide) hq rfl D_claim_cell.g D_claim_cell.F.kp D_claim_cell.b fnD_len (da_c (de_v 2) (da_c (de_v 3) (da_c (de_ix ix_D (de_v 10) (de_v 15)) da_n)))) (da_c (de_ix ix_D (de_ix ix_D (de_v 14) (de_v 15)) de_int) da_n))) (fun h => pt_val h))) (pw_or1 (dt_cmp (op_neDD hu64) (de_call k_claim_size hr (by decide) hq rfl D_claim_size.g D_claim_size.F.kp D_claim_size.b fnD_len (da_c (de_v 2) (da_c (de_v 3) (da_c (de_ix ix_D (de_v 10) (de_v 15)) da_n)))) (de_ix ix_D (de_ix ix_D (de_v 14) (de_v 15)) de_int) (by rfl))))) (dss_1 (ds_rt de_bl)) dss_n)))
    (dss_1 (ds_rt de_bl)))))))))))))))))

end Lw
/-! EV: the readings as equations, for simp. -/
namespace DL
open PySem PySem.Spec PyProof.Rows L2
theorem bind_first {α β : Type} {a b : Option α} {f : α → Option β} (h : a = b) : a.bind f = b.bind f := by rw [h]
theorem map_first {α β : Type} {a b : Option α} {f : α → β} (h : a = b) : a.map f = b.map f := by rw [h]
section
variable {ρ : Env} {st : Sto}
def vK : Option (Option C) → Sto → Option (C × Sto)
  | some (some c), st => some (c, st)
  | _, _ => none
@[simp] theorem vK_some (c : C) : vK (some (some c)) st = some (c, st) := (rfl)
@[simp] theorem eV_ev (i : Nat) : eV i ρ st = vK ρ[i]? st := by
  unfold eV
  rcases h : ρ[i]? with _ | _ | c <;> rfl
@[simp] theorem eK_ev (x : D) : eK x ρ st = some (.d x, st) := (rfl)
@[simp] theorem eOp_ev (g : D → D → Option D) (a b : GE) : eOp g a b ρ st = (a ρ st).bind fun p => (b ρ p.2).bind fun q => (deref q.2 p.1).bind fun x => (deref q.2 q.1).bind fun y => (g x y).bind fun z => some (.d z, q.2) := (rfl)
@[simp] theorem deref_d (x : D) : deref st (.d x) = some x := (rfl)
def derK : Option SO → Option D
  | some (.lst cs) => (allD cs).map .lst
  | some (.dct kvs) => (allD (kvs.map (·.2))).map fun ds => .dct ((kvs.map (·.1)).zip ds)
  | some (.fro x) => some x
  | none => none
@[simp] theorem derK_lst (cs : List C) : derK (some (.lst cs)) = (allD cs).map .lst := (rfl)
@[simp] theorem derK_fro (x : D) : derK (some (.fro x)) = some x := (rfl)
@[simp] theorem deref_p (k : Nat) : deref st (.p k) = derK st[k]? := by
  unfold deref
  dsimp only
  rcases h : st[k]? with _ | (_ | _ | _) <;> rfl
@[simp] theorem allD_nil : allD [] = some [] := (rfl)
@[simp] theorem allD_cons (x : D) (cs : List C) : allD (.d x :: cs) = (allD cs).map (x :: ·) := (rfl)
@[simp] theorem allD_app (x : D) : ∀ (ds : List D), allD (ds.map .d ++ [.d x]) = some (ds ++ [x])
  | [] => rfl
  | d :: ds => by
    show (allD (ds.map .d ++ [.d x])).map (d :: ·) = _
    rw [allD_app x ds]
    rfl
@[simp] theorem allD_map_ev (ds : List D) : allD (ds.map .d) = some ds := allD_map ds
@[simp] theorem add_ii (i j : Int) : addD (.int i) (.int j) = some (.int (i + j)) := (rfl)
@[simp] theorem add_ss (x y : Str) : addD (.str x) (.str y) = if x.length + y.length ≤ 1000000 then some (.str (x ++ y)) else none := (rfl)
@[simp] theorem add_ll (x y : List D) : addD (.lst x) (.lst y) = if x.length + y.length ≤ 1000000 then some (.lst (x ++ y)) else none := (rfl)
@[simp] theorem ii_ii (f : Int → Int → D) (i j : Int) : iiD f (.int i) (.int j) = some (f i j) := (rfl)
@[simp] theorem ci_ii (c : Int → Int → Bool) (f : Int → Int → D) (i j : Int) : ciD c f (.int i) (.int j) = if c i j then some (f i j) else none := (rfl)
@[simp] theorem mul_ii (i j : Int) : mulD (.int i) (.int j) = if (decide (i.natAbs < 18446744073709551616) || decide (j.natAbs < 18446744073709551616)) = true then some (.int (i * j)) else none := (rfl)
@[simp] theorem ix_tup (xs : List D) (i : Int) : ixD (.tup xs) (.int i) = atI xs i := (rfl)
@[simp] theorem ix_lst (xs : List D) (i : Int) : ixD (.lst xs) (.int i) = atI xs i := (rfl)
@[simp] theorem ix_wls (xs : List D) (i : Int) : ixD (.wls xs) (.int i) = atI xs i := (rfl)
@[simp] theorem atI_k {α : Type} (xs : List α) (k : Nat) : atI xs (k : Int) = xs[k]? := by
  unfold atI ixN
  rw [if_pos (Int.natCast_nonneg k)]
  by_cases h : (k : Int) < xs.length
  · rw [if_pos h]
    rfl
  · rw [if_neg h, List.getElem?_eq_none (by omega)]
    rfl
@[simp] theorem atI_lit {α : Type} (xs : List α) (k : Nat) : atI xs (no_index (OfNat.ofNat k)) = xs[k]? := atI_k xs k
@[simp] theorem atI_0 {α : Type} (xs : List α) : atI xs 0 = xs[0]? := atI_k xs 0
@[simp] theorem atI_1 {α : Type} (xs : List α) : atI xs 1 = xs[1]? := atI_k xs 1
theorem ixN_nat (n k : Nat) (h : k < n) : ixN n (k : Int) = some k := by
  unfold ixN
  rw [if_pos (Int.natCast_nonneg k), if_pos (by omega)]
  rfl
@[simp] theorem isND_non (neg : Bool) : isND neg .non .non = some (.bl (!neg)) := (rfl)
@[simp] theorem isND_int (neg : Bool) (i : Int) : isND neg (.int i) .non = some (.bl neg) := (rfl)
@[simp] theorem isND_str (neg : Bool) (x : Str) : isND neg (.str x) .non = some (.bl neg) := (rfl)
@[simp] theorem isND_tup (neg : Bool) (x : List D) : isND neg (.tup x) .non = some (.bl neg) := (rfl)
/-! ### tests -/
def tbK : C × Sto → Option (Bool × Sto)
  | (.d (.bl b), st) => some (b, st)
  | _ => none
@[simp] theorem tbK_b (b : Bool) : tbK (.d (.bl b), st) = some (b, st) := (rfl)
@[simp] theorem tB_ev (a : GE) : DL.tB a ρ st = (a ρ st).bind tbK := by
  unfold DL.tB
  congr 1
  funext p
  obtain ⟨c, s⟩ := p
  unfold tbK
  split <;> simp_all
@[simp] theorem tTr_ev (a : GE) : tTr a ρ st = (a ρ st).bind fun p => (deref p.2 p.1).bind fun x => (truD x).bind fun b => some (b, p.2) := (rfl)
@[simp] theorem truD_lst (ds : List D) : truD (.lst ds) = some !ds.isEmpty := (rfl)
@[simp] theorem truD_tup (ds : List D) : truD (.tup ds) = some !ds.isEmpty := (rfl)
@[simp] theorem truD_int (i : Int) : truD (.int i) = some (i != 0) := (rfl)
@[simp] theorem truD_bl (i : Bool) : truD (.bl i) = some i := (rfl)
@[simp] theorem gAnd_ev (a b : GT) : gAnd a b ρ st = (a ρ st).bind fun p => if p.1 = true then b ρ p.2 else some (false, p.2) := (rfl)
@[simp] theorem gOr_ev (a b : GT) : gOr a b ρ st = (a ρ st).bind fun p => if p.1 = true then some (true, p.2) else b ρ p.2 := (rfl)
@[simp] theorem gNot_ev (a : GT) : gNot a ρ st = (a ρ st).bind fun p => some (!p.1, p.2) := (rfl)
def andK (b : GE) (ρ : Env) : C × Sto → Option (C × Sto)
  | (.d (.bl true), st) => b ρ st
  | (.d (.bl false), st) => some (.d (.bl false), st)
  | _ => none
@[simp] theorem andK_t (b : GE) : andK b ρ (.d (.bl true), st) = b ρ st := (rfl)
@[simp] theorem andK_f (b : GE) : andK b ρ (.d (.bl false), st) = some (.d (.bl false), st) := (rfl)
@[simp] theorem eAnd_ev (a b : GE) : eAnd a b ρ st = (a ρ st).bind (andK b ρ) := by
  unfold eAnd
  congr 1
  funext p
  obtain ⟨c, s⟩ := p
  unfold andK
  dsimp only
  split <;> simp_all
def orK (b : GE) (ρ : Env) : C × Sto → Option (C × Sto)
  | (.d (.bl false), st) => b ρ st
  | (.d (.bl true), st) => some (.d (.bl true), st)
  | _ => none
@[simp] theorem orK_t (b : GE) : orK b ρ (.d (.bl false), st) = b ρ st := (rfl)
@[simp] theorem orK_f (b : GE) : orK b ρ (.d (.bl true), st) = some (.d (.bl true), st) := (rfl)
@[simp] theorem eOr_ev (a b : GE) : eOr a b ρ st = (a ρ st).bind (orK b ρ) := by
  unfold eOr
  congr 1
  funext p
  obtain ⟨c, s⟩ := p
  unfold orK
  dsimp only
  split <;> simp_all
def notK : C × Sto → Option (C × Sto)
  | (.d (.bl b), st) => some (.d (.bl (!b)), st)
  | _ => none
@[simp] theorem notK_b (b : Bool) : notK (.d (.bl b), st) = some (.d (.bl (!b)), st) := (rfl)
@[simp] theorem eNot_ev (a : GE) : eNot a ρ st = (a ρ st).bind notK := by
  unfold eNot
  congr 1
  funext p
  obtain ⟨c, s⟩ := p
  unfold notK
  dsimp only
  split <;> simp_all
def negK : C × Sto → Option (C × Sto)
  | (.d (.int i), st) => some (.d (.int (-i)), st)
  | _ => none
@[simp] theorem negK_b (b : Int) : negK (.d (.int b), st) = some (.d (.int (-b)), st) := (rfl)
@[simp] theorem eNeg_ev (a : GE) : eNeg a ρ st = (a ρ st).bind negK := by
  unfold eNeg
  congr 1
  funext p
  obtain ⟨c, s⟩ := p
  unfold negK
  dsimp only
  split <;> simp_all
@[simp] theorem eIf_ev (t : GT) (a b : GE) : eIf t a b ρ st = (t ρ st).bind fun p => if p.1 = true then a ρ p.2 else b ρ p.2 := (rfl)
@[simp] theorem gYes_ev : gYes ρ st = some (true, st) := (rfl)
/-! ### arguments, displays -/
@[simp] theorem aN_ev : aN ρ st = some ([], st) := (rfl)
@[simp] theorem aC_ev (a : GE) (r : GA) : aC a r ρ st = (a ρ st).bind fun p => (r ρ p.2).bind fun q => some (p.1 :: q.1, q.2) := (rfl)
@[simp] theorem frzL_nil (f : C → Sto → Option (D × Sto)) : frzL f [] st = some ([], st) := (rfl)
@[simp] theorem frzL_cons (f : C → Sto → Option (D × Sto)) (c : C) (cs : List C) : frzL f (c :: cs) st = (f c st).bind fun p => (frzL f cs p.2).bind fun q => some (p.1 :: q.1, q.2) := (rfl)
theorem frz_d (n : Nat) (x : D) : frz n (.d x) st = some (x, st) := by cases n <;> rfl
@[simp] theorem frz4_d (x : D) : frz 4 (.d x) st = some (x, st) := (rfl)
theorem frzL_d (n : Nat) : ∀ ds : List D, frzL (frz n) (ds.map .d) st = some (ds, st)
  | [] => rfl
  | d :: ds => by
    show (frz n (.d d) st).bind (fun p => (frzL (frz n) (ds.map .d) p.2).bind fun q => some (p.1 :: q.1, q.2)) = _
    rw [frz_d]
    show (frzL (frz n) (ds.map .d) st).bind _ = _
    rw [frzL_d n ds]
    rfl
/-- a list of data, frozen -/
theorem frz_lst {k : Nat} {ds : List D} (h : st[k]? = some (.lst (ds.map .d))) : frz 4 (.p k) st = some (.lst ds, st.set k (.fro (.lst ds))) := by
  unfold frz
  rw [h]
  show (frzL (frz 3) (ds.map .d) st).bind _ = _
  rw [frzL_d 3 ds]
  rfl
@[simp] theorem eTup_ev (a : GA) : eTup a ρ st = (a ρ st).bind fun p => (frzL (frz 4) p.1 p.2).bind fun q => if q.1.length ≤ 1000000 then some (.d (.tup q.1), q.2) else none := (rfl)
@[simp] theorem eLst_ev (a : GA) : eLst a ρ st = (a ρ st).bind fun p => (frzL (frz 4) p.1 p.2).bind fun q => if q.1.length ≤ 1000000 then some (.d (.lst q.1), q.2) else none := (rfl)
@[simp] theorem derefs_nil : derefs st [] = some [] := (rfl)
@[simp] theorem derefs_cons (c : C) (cs : List C) : derefs st (c :: cs) = (deref st c).bind fun x => (derefs st cs).map (x :: ·) := (rfl)
@[simp] theorem eCB_ev (g : List D → Option D) (a : GA) : eCB g a ρ st = (a ρ st).bind fun p => (derefs p.2 p.1).bind fun xs => (g xs).bind fun z => some (.d z, p.2) := (rfl)
@[simp] theorem len_tup (xs : List D) : lenD [.tup xs] = some (.int xs.length) := (rfl)
@[simp] theorem len_lst (xs : List D) : lenD [.lst xs] = some (.int xs.length) := (rfl)
@[simp] theorem len_wls (xs : List D) : lenD [.wls xs] = some (.int xs.length) := (rfl)
@[simp] theorem len_str (x : Str) : lenD [.str x] = if x.length ≤ 1000000 then some (.int x.length) else none := (rfl)
@[simp] theorem int_int (i : Int) : DL.intD [.int i] = some (.int i) := (rfl)
@[simp] theorem int_bl (b : Bool) : DL.intD [.bl b] = some (.int (if b then 1 else 0)) := (rfl)
@[simp] theorem str_int (i : Int) : strD [.int i] = if i.natAbs.log2 < 1920 then some (.str (toString i)) else none := (rfl)
@[simp] theorem tup_tup (xs : List D) : tupleD [.tup xs] = some (.tup xs) := (rfl)
@[simp] theorem tup_lst (xs : List D) : tupleD [.lst xs] = some (.tup xs) := (rfl)
def sliK (l h : Option Int) (st : Sto) : D → Option (C × Sto)
  | .lst xs => some (.d (.lst (cutD xs l h)), st)
  | _ => none
@[simp] theorem sliK_l (l h : Option Int) (xs : List D) : sliK l h st (.lst xs) = some (.d (.lst (cutD xs l h)), st) := (rfl)
@[simp] theorem eSl_ev (a : GE) (lo hi : GO) : eSl a lo hi ρ st = (a ρ st).bind fun p => (lo ρ p.2).bind fun l => (hi ρ l.2).bind fun h => (deref h.2 p.1).bind (sliK l.1 h.1 h.2) := by
  unfold eSl sliK
  rfl
@[simp] theorem oN_ev : oN ρ st = some (none, st) := (rfl)
def oiK : C × Sto → Option (Option Int × Sto)
  | (.d (.int i), st) => some (some i, st)
  | _ => none
@[simp] theorem oiK_i (i : Int) : oiK (.d (.int i), st) = some (some i, st) := (rfl)
@[simp] theorem oI_ev (a : GE) : oI a ρ st = (a ρ st).bind oiK := by
  unfold oI
  congr 1
  funext p
  obtain ⟨c, s⟩ := p
  unfold oiK
  dsimp only
  split <;> simp_all
/-! ### statements -/
@[simp] theorem sNx_ev : sNx ρ st = some (.nx ρ st) := (rfl)
def seqK (b : GS) : Res → Option Res
  | .nx ρ st => b ρ st
  | r => some r
@[simp] theorem seqK_nx (b : GS) : seqK b (.nx ρ st) = b ρ st := (rfl)
@[simp] theorem seqK_rt (b : GS) (c : C) : seqK b (.rt c st) = some (.rt c st) := (rfl)
@[simp] theorem seqK_ct (b : GS) : seqK b (.ct ρ st) = some (.ct ρ st) := (rfl)
@[simp] theorem seqK_bk (b : GS) : seqK b (.bk ρ st) = some (.bk ρ st) := (rfl)
@[simp] theorem sSeq_ev (a b : GS) : sSeq a b ρ st = (a ρ st).bind (seqK b) := by
  unfold sSeq
  congr 1
@[simp] theorem sBk_ev : sBk ρ st = some (.bk ρ st) := (rfl)
@[simp] theorem sCt_ev : sCt ρ st = some (.ct ρ st) := (rfl)
@[simp] theorem sEx_ev (a : GE) : sEx a ρ st = (a ρ st).map fun p => .nx ρ p.2 := (rfl)
@[simp] theorem sRt_ev (a : GE) : sRt a ρ st = (a ρ st).map fun p => .rt p.1 p.2 := (rfl)
@[simp] theorem sRn_ev : sRn ρ st = some (.rt (.d .non) st) := (rfl)
@[simp] theorem sIf_ev (t : GT) (a b : GS) : sIf t a b ρ st = (t ρ st).bind fun p => if p.1 = true then a ρ p.2 else b ρ p.2 := (rfl)
@[simp] theorem sSet_ev (i : Nat) (a : GE) : sSet i a ρ st = (a ρ st).map fun p => .nx (ρ.set i (some p.1)) p.2 := (rfl)
def newK (i : Nat) (ρ : Env) : C × Sto → Option Res
  | (.d (.lst ds), st) => some (.nx (ρ.set i (some (.p st.length))) (st ++ [.lst (ds.map .d)]))
  | _ => none
@[simp] theorem newK_l (i : Nat) (ds : List D) : newK i ρ (.d (.lst ds), st) = some (.nx (ρ.set i (some (.p st.length))) (st ++ [.lst (ds.map .d)])) := (rfl)
@[simp] theorem sNew_ev (i : Nat) (a : GE) : sNew i a ρ st = (a ρ st).bind (newK i ρ) := by
  unfold sNew
  congr 1
  funext p
  obtain ⟨c, s⟩ := p
  unfold newK
  dsimp only
  split <;> simp_all
def unK (t : Tg) (ρ : Env) : C × Sto → Option Res
  | (.d x, st) => (bindTg t x ρ).map fun ρ' => .nx ρ' st
  | _ => none
@[simp] theorem unK_d (t : Tg) (x : D) : unK t ρ (.d x, st) = (bindTg t x ρ).map fun ρ' => .nx ρ' st := (rfl)
@[simp] theorem sUn_ev (t : Tg) (a : GE) : sUn t a ρ st = (a ρ st).bind (unK t ρ) := by
  unfold sUn
  congr 1
  funext p
  obtain ⟨c, s⟩ := p
  unfold unK
  cases c <;> rfl
@[simp] theorem bind_n (i : Nat) (x : D) : bindTg (.n i) x ρ = some (ρ.set i (some (.d x))) := (rfl)
@[simp] theorem bind_t (is : List Nat) (xs : List D) : bindTg (.t is) (.tup xs) ρ = setAll is xs ρ := (rfl)
@[simp] theorem setAll_nil : setAll [] [] ρ = some ρ := (rfl)
@[simp] theorem setAll_cons (i : Nat) (is : List Nat) (x : D) (xs : List D) : setAll (i :: is) (x :: xs) ρ = setAll is xs (ρ.set i (some (.d x))) := (rfl)
def augK (i : Nat) (g : D → D → Option D) (a : GE) (ρ : Env) (st : Sto) : Option (Option C) → Option Res
  | some (some (.d x)) => (a ρ st).bind fun p => (deref p.2 p.1).bind fun y => (g x y).map fun z => .nx (ρ.set i (some (.d z))) p.2
  | _ => none
@[simp] theorem augK_d (i : Nat) (g : D → D → Option D) (a : GE) (x : D) : augK i g a ρ st (some (some (.d x))) = (a ρ st).bind fun p => (deref p.2 p.1).bind fun y => (g x y).map fun z => .nx (ρ.set i (some (.d z))) p.2 := (rfl)
@[simp] theorem sAug_ev (i : Nat) (g : D → D → Option D) (a : GE) : sAug i g a ρ st = augK i g a ρ st ρ[i]? := by
  unfold sAug
  rcases h : ρ[i]? with _ | _ | (_ | _) <;> rfl
/-! ### calls -/
@[simp] theorem ptrs_nil : ptrs [] = [] := (rfl)
@[simp] theorem ptrs_d (x : D) (r : List C) : ptrs (.d x :: r) = ptrs r := (rfl)
@[simp] theorem ptrs_p (k : Nat) (r : List C) : ptrs (.p k :: r) = k :: ptrs r := (rfl)
@[simp] theorem renum_nil (n : Nat) : renum n [] = [] := (rfl)
@[simp] theorem renum_d (n : Nat) (x : D) (r : List C) : renum n (.d x :: r) = .d x :: renum n r := (rfl)
@[simp] theorem renum_p (n k : Nat) (r : List C) : renum n (.p k :: r) = .p n :: renum (n + 1) r := (rfl)
def pickK (r : Option Sto) : Option SO → Option Sto
  | some o => if flatSO o = true then r.map (o :: ·) else none
  | none => none
@[simp] theorem pickK_some (r : Option Sto) (o : SO) : pickK r (some o) = if flatSO o = true then r.map (o :: ·) else none := (rfl)
@[simp] theorem pick_nil : DL.pick st [] = some [] := (rfl)
@[simp] theorem pick_cons (k : Nat) (ks : List Nat) : DL.pick st (k :: ks) = pickK (DL.pick st ks) st[k]? := by
  show (match st[k]? with | some o => _ | none => _) = _
  rcases h : st[k]? with _ | o <;> rfl
@[simp] theorem putBack_nil (os : Sto) : putBack st [] os = st := by cases os <;> rfl
@[simp] theorem putBack_cons (k : Nat) (ks : List Nat) (o : SO) (os : Sto) : putBack st (k :: ks) (o :: os) = putBack (st.set k o) ks os := (rfl)
@[simp] theorem backC_d (ks : List Nat) (x : D) : backC ks (.d x) = some (.d x) := (rfl)
@[simp] theorem eCall_ev (Φ : List C → Sto → Option (C × Sto)) (a : GA) : eCall Φ a ρ st = (a ρ st).bind fun p => if (ptrs p.1).Nodup then (DL.pick p.2 (ptrs p.1)).bind fun os => (Φ (renum 0 p.1) os).bind fun q => if q.2.all flatSO = true then (backC (ptrs p.1) q.1).map fun c => (c, putBack p.2 (ptrs p.1) q.2) else none else none := (rfl)
@[simp] theorem flat_lst (cs : List C) : flatSO (.lst cs) = cs.all (okC 0) := (rfl)
@[simp] theorem okC_d (n : Nat) (x : D) : okC n (.d x) = true := (rfl)
@[simp] theorem all_okC (n : Nat) (ds : List D) : (ds.map C.d).all (okC n) = true := by simp
@[simp] theorem okSO_lst (n : Nat) (cs : List C) : okSO n (.lst cs) = cs.all (okC n) := (rfl)
def retK (n : Nat) : Res → Option (C × Sto)
  | .rt c st' => fin n c st'
  | .nx _ st' => fin n (.d .non) st'
  | _ => none
@[simp] theorem retK_rt (n : Nat) (c : C) : retK n (.rt c st) = fin n c st := (rfl)
@[simp] theorem retK_nx (n : Nat) : retK n (.nx ρ st) = fin n (.d .non) st := (rfl)
theorem fnD_ev (N n : Nat) (G : GS) (cs : List C) (h : cs.length = n) : fnD N n G cs st = (G (cs.map some ++ List.replicate (N - n) none) st).bind (retK st.length) := by
  unfold fnD
  rw [if_pos h]
  congr 1
@[simp] theorem fin_d (n : Nat) (x : D) : fin n (.d x) st = cutSt n (.d x) st := (rfl)
theorem fin_p {n k : Nat} (h : n ≤ k) : fin n (.p k) st = (frz 4 (.p k) st).bind fun q => cutSt n (.d q.1) q.2 := by
  show (if k < n then _ else _) = _
  rw [if_neg (by omega)]
@[simp] theorem cut_nil (c : C) : cutSt 0 c st = some (c, []) := (rfl)
@[simp] theorem cut_ev (n : Nat) (c : C) : cutSt n c st = if (st.take n).all (okSO n) = true then some (c, st.take n) else none := (rfl)
/-! ### iteration -/
def ivK : C × Sto → Option (Src × Sto)
  | (.d (.tup ds), st) => some (.items ds, st)
  | (.d (.lst ds), st) => some (.items ds, st)
  | (.d (.wls ds), st) => some (.items ds, st)
  | (.p k, st) => match st[k]? with
    | some (.lst _) => some (.sto k, st)
    | _ => none
  | _ => none
@[simp] theorem ivK_tup (ds : List D) : ivK (.d (.tup ds), st) = some (.items ds, st) := (rfl)
@[simp] theorem ivK_lst (ds : List D) : ivK (.d (.lst ds), st) = some (.items ds, st) := (rfl)
@[simp] theorem ivK_wls (ds : List D) : ivK (.d (.wls ds), st) = some (.items ds, st) := (rfl)
@[simp] theorem iV_ev (a : GE) : iV a ρ st = (a ρ st).bind ivK := by
  unfold iV
  congr 1
  funext p
  obtain ⟨c, s⟩ := p
  unfold ivK
  cases c with
  | d x => cases x <;> rfl
  | p k => rfl
def ir1K : List C × Sto → Option (Src × Sto)
  | ([.d (.int j)], st) => if j.natAbs < 1000000 then some (.items (rngD 0 j.toNat), st) else none
  | _ => none
@[simp] theorem ir1K_i (j : Int) : ir1K ([.d (.int j)], st) = if j.natAbs < 1000000 then some (.items (rngD 0 j.toNat), st) else none := (rfl)
@[simp] theorem iR1_ev (a : GA) : iR1 a ρ st = (a ρ st).bind ir1K := by
  unfold iR1
  congr 1
  funext p
  obtain ⟨c, s⟩ := p
  unfold ir1K
  dsimp only
  split <;> simp_all
def ir2K : List C × Sto → Option (Src × Sto)
  | ([.d (.int i), .d (.int j)], st) => if i.natAbs < 1000000 ∧ j.natAbs < 1000000 then some (.items (rngD i (j - i).toNat), st) else none
  | _ => none
@[simp] theorem ir2K_i (i j : Int) : ir2K ([.d (.int i), .d (.int j)], st) = if i.natAbs < 1000000 ∧ j.natAbs < 1000000 then some (.items (rngD i (j - i).toNat), st) else none := (rfl)
@[simp] theorem iR2_ev (a : GA) : iR2 a ρ st = (a ρ st).bind ir2K := by
  unfold iR2
  congr 1
  funext p
  obtain ⟨c, s⟩ := p
  unfold ir2K
  dsimp only
  split <;> simp_all
/-- a for over data: by the list -/
def forL (t : Tg) (body : GS) : List D → Env → Sto → Option Res
  | [], ρ, st => some (.nx ρ st)
  | x :: xs, ρ, st => (bindTg t x ρ).bind fun ρ1 => (body ρ1 st).bind fun r => match r with
    | .nx ρ2 st2 => forL t body xs ρ2 st2
    | .ct ρ2 st2 => forL t body xs ρ2 st2
    | .bk ρ2 st2 => some (.nx ρ2 st2)
    | .rt c st2 => some (.rt c st2)
def stepK (t : Tg) (body : GS) (xs : List D) : Res → Option Res
  | .nx ρ2 st2 => forL t body xs ρ2 st2
  | .ct ρ2 st2 => forL t body xs ρ2 st2
  | .bk ρ2 st2 => some (.nx ρ2 st2)
  | .rt c st2 => some (.rt c st2)
@[simp] theorem stepK_nx (t : Tg) (body : GS) (xs : List D) : stepK t body xs (.nx ρ st) = forL t body xs ρ st := (rfl)
@[simp] theorem stepK_ct (t : Tg) (body : GS) (xs : List D) : stepK t body xs (.ct ρ st) = forL t body xs ρ st := (rfl)
@[simp] theorem stepK_bk (t : Tg) (body : GS) (xs : List D) : stepK t body xs (.bk ρ st) = some (.nx ρ st) := (rfl)
@[simp] theorem stepK_rt (t : Tg) (body : GS) (xs : List D) (c : C) : stepK t body xs (.rt c st) = some (.rt c st) := (rfl)
theorem forL_nil (t : Tg) (body : GS) : forL t body [] ρ st = some (.nx ρ st) := rfl
theorem forL_cons (t : Tg) (body : GS) (x : D) (xs : List D) : forL t body (x :: xs) ρ st = (bindTg t x ρ).bind fun ρ1 => (body ρ1 st).bind (stepK t body xs) := by
  show (bindTg t x ρ).bind (fun ρ1 => (body ρ1 st).bind _) = _
  congr 1
theorem forG_items (t : Tg) (body : GS) (ds : List D) : ∀ (m i : Nat) (ρ : Env) (st : Sto), i + m = ds.length → forG t body (.items ds) (m + 1) i ρ st = forL t body (ds.drop i) ρ st
  | 0, i, ρ, st, h => by
    rw [List.drop_of_length_le (by omega)]
    show ((some ds[i]?).bind _) = _
    rw [List.getElem?_eq_none (by omega)]
    rfl
  | m + 1, i, ρ, st, h => by
    have hi : i < ds.length := by omega
    rw [List.drop_eq_getElem_cons hi]
    show ((some ds[i]?).bind _) = _
    rw [List.getElem?_eq_getElem hi]
    show (bindTg t ds[i] ρ).bind _ = (bindTg t ds[i] ρ).bind _
    congr 1
    funext ρ1
    congr 1
    funext r
    cases r with
    | nx ρ2 st2 => exact forG_items t body ds m (i + 1) ρ2 st2 (by omega)
    | ct ρ2 st2 => exact forG_items t body ds m (i + 1) ρ2 st2 (by omega)
    | bk ρ2 st2 => rfl
    | rt c st2 => rfl
def forK (t : Tg) (body : GS) (ρ : Env) : Src × Sto → Option Res
  | (.items ds, st) => forL t body ds ρ st
  | (src, st) => forG t body src (srcLen st src + 1) 0 ρ st
@[simp] theorem forK_i (t : Tg) (body : GS) (ds : List D) : forK t body ρ (.items ds, st) = forL t body ds ρ st := (rfl)
@[simp] theorem sFor_ev (t : Tg) (gi : GI) (body : GS) : sFor t gi body ρ st = (gi ρ st).bind (forK t body ρ) := by
  unfold sFor
  congr 1
  funext p
  obtain ⟨src, s⟩ := p
  cases src with
  | items ds =>
    have := forG_items t body ds ds.length 0 ρ s (by omega)
    simpa [forK, srcLen] using this
  | sto k => rfl
/-- a comprehension over data: by the list -/
def lcL (t : Tg) (test : GT) (elt : GE) (ρ : Env) : List D → Sto → List D → Option (List D × Sto)
  | [], st, acc => some (acc, st)
  | x :: xs, st, acc => (bindTg t x ρ).bind fun ρ1 => (test ρ1 st).bind fun p => if p.1 = true then (elt ρ1 p.2).bind fun q => (frz 4 q.1 q.2).bind fun y => if acc.length < 1000000 then lcL t test elt ρ xs y.2 (acc ++ [y.1]) else none
      else lcL t test elt ρ xs p.2 acc
theorem lcG_items (t : Tg) (test : GT) (elt : GE) (ρ : Env) (ds : List D) : ∀ (m i : Nat) (st : Sto) (acc : List D), i + m = ds.length → lcG t test elt (.items ds) ρ (m + 1) i st acc = lcL t test elt ρ (ds.drop i) st acc
  | 0, i, st, acc, h => by
    rw [List.drop_of_length_le (by omega)]
    show ((some ds[i]?).bind _) = _
    rw [List.getElem?_eq_none (by omega)]
    rfl
  | m + 1, i, st, acc, h => by
    have hi : i < ds.length := by omega
    rw [List.drop_eq_getElem_cons hi]
    show ((some ds[i]?).bind _) = _
    rw [List.getElem?_eq_getElem hi]
    show (bindTg t ds[i] ρ).bind _ = (bindTg t ds[i] ρ).bind _
    congr 1
    funext ρ1
    congr 1
    funext p
    rw [lcG_items t test elt ρ ds m (i + 1) p.2 acc (by omega)]
    congr 1
    congr 1
    funext q
    congr 1
    funext y
    rw [lcG_items t test elt ρ ds m (i + 1) y.2 (acc ++ [y.1]) (by omega)]
def lcK (t : Tg) (test : GT) (elt : GE) (ρ : Env) : Src × Sto → Option (List D × Sto)
  | (.items ds, st) => lcL t test elt ρ ds st []
  | (src, st) => lcG t test elt src ρ (srcLen st src + 1) 0 st []
@[simp] theorem lcK_i (t : Tg) (test : GT) (elt : GE) (ds : List D) : lcK t test elt ρ (.items ds, st) = lcL t test elt ρ ds st [] := (rfl)
@[simp] theorem eLc_ev (vs : List Nat) (t : Tg) (gi : GI) (test : GT) (elt : GE) : eLc vs t gi test elt ρ st = ((gi ρ st).bind (lcK t test elt (wipeE ρ vs))).map fun q => (.d (.lst q.1), q.2) := by
  unfold eLc
  rw [Option.map_bind]
  congr 1
  funext p
  obtain ⟨src, s⟩ := p
  cases src with
  | items ds =>
    have := lcG_items t test elt (wipeE ρ vs) ds ds.length 0 s [] (by omega)
    show Option.map _ _ = Option.map _ _
    congr 1
  | sto k => rfl
@[simp] theorem wipe_nil : wipeE ρ [] = ρ := (rfl)
@[simp] theorem wipe_cons (v : Nat) (vs : List Nat) : wipeE ρ (v :: vs) = (wipeE ρ vs).set v none := (rfl)
def put3K (ρ : Env) (k : Nat) (cs : List C) (c : C) (st : Sto) : Option Nat → Option Res
  | some j => some (.nx ρ (st.set k (.lst (cs.set j c))))
  | none => none
@[simp] theorem put3K_s (k : Nat) (cs : List C) (c : C) (j : Nat) : put3K ρ k cs c st (some j) = some (.nx ρ (st.set k (.lst (cs.set j c)))) := (rfl)
def put2K (ρ : Env) (k : Nat) (c : C) (st : Sto) : C → Option SO → Option Res
  | .d (.int n), some (.lst cs) => put3K ρ k cs c st (ixN cs.length n)
  | _, _ => none
@[simp] theorem put2K_s (k : Nat) (c : C) (n : Int) (cs : List C) : put2K ρ k c st (.d (.int n)) (some (.lst cs)) = put3K ρ k cs c st (ixN cs.length n) := (rfl)
def put1K (i : GE) (ρ : Env) (c : C) : C × Sto → Option Res
  | (.p k, st) => (i ρ st).bind fun r => put2K ρ k c r.2 r.1 r.2[k]?
  | _ => none
@[simp] theorem put1K_p (i : GE) (c : C) (k : Nat) : put1K i ρ c (.p k, st) = (i ρ st).bind fun r => put2K ρ k c r.2 r.1 r.2[k]? := (rfl)
@[simp] theorem sPut_ev (o i v : GE) : sPut o i v ρ st = (v ρ st).bind fun p => (o ρ p.2).bind (put1K i ρ p.1) := by
  unfold sPut
  congr 1
  funext p
  congr 1
  funext q
  obtain ⟨c, s⟩ := q
  cases c with
  | d x => rfl
  | p k =>
    show (i ρ s).bind _ = (i ρ s).bind _
    rfl
@[simp] theorem ixN_k (n k : Nat) : ixN n (k : Int) = if k < n then some k else none := by
  by_cases h : k < n
  · rw [ixN_nat n k h, if_pos h]
  · unfold ixN
    rw [if_pos (Int.natCast_nonneg k), if_neg (by omega), if_neg h]
@[simp] theorem ixN_lit (n k : Nat) : ixN n (no_index (OfNat.ofNat k)) = if k < n then some k else none := ixN_k n k
@[simp] theorem ixN_0 (n : Nat) : ixN n 0 = if 0 < n then some 0 else none := ixN_k n 0
@[simp] theorem ixN_1 (n : Nat) : ixN n 1 = if 1 < n then some 1 else none := ixN_k n 1
/-! ### append, extend -/
def isLK : Option SO → Bool
  | some (.lst _) => true
  | _ => false
theorem isLst_K (s : Sto) (k : Nat) : isLst s k = isLK s[k]? := by
  unfold isLst
  rcases s[k]? with _ | (_ | _ | _) <;> rfl
@[simp] theorem isLK_l (cs : List C) : isLK (some (.lst cs)) = true := (rfl)
def app2K (k : Nat) (c : C) (st : Sto) : Option SO → Option (C × Sto)
  | some (.lst cs) => if cs.length < 1000000 then some (.d .non, st.set k (.lst (cs ++ [c]))) else none
  | _ => none
@[simp] theorem app2K_l (k : Nat) (c : C) (cs : List C) : app2K k c st (some (.lst cs)) = if cs.length < 1000000 then some (.d .non, st.set k (.lst (cs ++ [c]))) else none := (rfl)
def app1K (a : GE) (ρ : Env) : C × Sto → Option (C × Sto)
  | (.p k, st) => if isLK st[k]? = true then (a ρ st).bind fun q => app2K k q.1 q.2 q.2[k]? else none
  | _ => none
@[simp] theorem app1K_p (a : GE) (k : Nat) : app1K a ρ (.p k, st) = if isLK st[k]? = true then (a ρ st).bind fun q => app2K k q.1 q.2 q.2[k]? else none := (rfl)
@[simp] theorem eApp_ev (o a : GE) : eApp o a ρ st = (o ρ st).bind (app1K a ρ) := by
  unfold eApp
  congr 1
  funext p
  obtain ⟨c, s⟩ := p
  cases c with
  | d x => rfl
  | p k =>
    show (if isLst s k = true then _ else none) = (if isLK s[k]? = true then _ else none)
    rw [isLst_K]
    congr 1
def ext2K (k : Nat) (st : Sto) : Option SO → Option D → Option (C × Sto)
  | some (.lst cs), some (.lst ds) => if cs.length + ds.length < 1000000 then some (.d .non, st.set k (.lst (cs ++ ds.map .d))) else none
  | _, _ => none
@[simp] theorem ext2K_l (k : Nat) (cs : List C) (ds : List D) : ext2K k st (some (.lst cs)) (some (.lst ds)) = if cs.length + ds.length < 1000000 then some (.d .non, st.set k (.lst (cs ++ ds.map .d))) else none := (rfl)
def ext1K (a : GE) (ρ : Env) : C × Sto → Option (C × Sto)
  | (.p k, st) => if isLK st[k]? = true then (a ρ st).bind fun q => ext2K k q.2 q.2[k]? (deref q.2 q.1) else none
  | _ => none
@[simp] theorem ext1K_p (a : GE) (k : Nat) : ext1K a ρ (.p k, st) = if isLK st[k]? = true then (a ρ st).bind fun q => ext2K k q.2 q.2[k]? (deref q.2 q.1) else none := (rfl)
@[simp] theorem eExt_ev (o a : GE) : eExt o a ρ st = (o ρ st).bind (ext1K a ρ) := by
  unfold eExt
  congr 1
  funext p
  obtain ⟨c, s⟩ := p
  cases c with
  | d x => rfl
  | p k =>
    show (if isLst s k = true then _ else none) = (if isLK s[k]? = true then _ else none)
    rw [isLst_K]
    congr 1
@[simp] theorem eq_ii (i j : Int) : eqD false (.int i) (.int j) = some (.bl (i == j)) := (rfl)
@[simp] theorem eq_ss (i j : Str) : eqD false (.str i) (.str j) = some (.bl (i == j)) := (rfl)
@[simp] theorem eq_sn (i : Str) : eqD false (.str i) .non = some (.bl false) := (rfl)
@[simp] theorem eq_ns (i : Str) : eqD false .non (.str i) = some (.bl false) := (rfl)
@[simp] theorem eq_nn : eqD false .non .non = some (.bl true) := (rfl)
@[simp] theorem ne_ii (i j : Int) : eqD true (.int i) (.int j) = some (.bl (!(i == j))) := (rfl)
@[simp] theorem ne_ss (i j : Str) : eqD true (.str i) (.str j) = some (.bl (!(i == j))) := (rfl)
/-- a for over data that keeps what is said of what is left -/
theorem forL_inv {t : Tg} {body : GS} (P : List D → Env → Sto → Prop) (h : ∀ x xs ρ st, P (x :: xs) ρ st → ∃ ρ1 ρ2 st2, bindTg t x ρ = some ρ1 ∧ body ρ1 st = some (.nx ρ2 st2) ∧ P xs ρ2 st2) :
    ∀ (xs : List D) (ρ : Env) (st : Sto), P xs ρ st → ∃ ρ' st', forL t body xs ρ st = some (.nx ρ' st') ∧ P [] ρ' st'
  | [], ρ, st, q => ⟨ρ, st, rfl, q⟩
  | x :: xs, ρ, st, q => by
    obtain ⟨ρ1, ρ2, st2, h1, h2, h3⟩ := h x xs ρ st q
    obtain ⟨ρ', st', h4, h5⟩ := forL_inv P h xs ρ2 st2 h3
    exact ⟨ρ', st', by rw [forL_cons, h1, Option.bind_some, h2, Option.bind_some, stepK_nx, h4], h5⟩
theorem atI_in {α : Type} {xs : List α} {i : Int} (h : 0 ≤ i) (h2 : i < xs.length) : ∃ x, x ∈ xs ∧ xs[i.toNat]? = some x ∧ atI xs i = some x := by
  obtain ⟨k, rfl⟩ := Int.eq_ofNat_of_zero_le h
  have hk : k < xs.length := by omega
  exact ⟨xs[k], List.getElem_mem hk, by simp, by rw [atI_k, List.getElem?_eq_getElem hk]⟩
/-! ### methods of texts -/
def m1K (g : List D → Option D) (a : GE) (ρ : Env) : C × Sto → Option (C × Sto)
  | (.d (.str x), st) => (a ρ st).bind fun q => (deref q.2 q.1).bind fun y => (g [.str x, y]).map fun z => (.d z, q.2)
  | _ => none
@[simp] theorem m1K_s (g : List D → Option D) (a : GE) (x : Str) : m1K g a ρ (.d (.str x), st) = (a ρ st).bind fun q => (deref q.2 q.1).bind fun y => (g [.str x, y]).map fun z => (.d z, q.2) := (rfl)
@[simp] theorem eM1_ev (g : List D → Option D) (o a : GE) : eM1 g o a ρ st = (o ρ st).bind (m1K g a ρ) := by
  unfold eM1
  congr 1
  funext p
  obtain ⟨c, s⟩ := p
  cases c with
  | d x => cases x <;> rfl
  | p k => rfl
def m0K (g : List D → Option D) : C × Sto → Option (C × Sto)
  | (.d (.str x), st) => (g [.str x]).map fun z => (.d z, st)
  | _ => none
@[simp] theorem m0K_s (g : List D → Option D) (x : Str) : m0K g (.d (.str x), st) = (g [.str x]).map fun z => (.d z, st) := (rfl)
@[simp] theorem eM0_ev (g : List D → Option D) (o : GE) : eM0 g o ρ st = (o ρ st).bind (m0K g) := by
  unfold eM0
  congr 1
  funext p
  obtain ⟨c, s⟩ := p
  cases c with
  | d x => cases x <;> rfl
  | p k => rfl
@[simp] theorem sb_s (f : Str → Bool) (x : Str) : sbD f [.str x] = some (.bl (f x)) := (rfl)
theorem strsOf_map : ∀ ys : List Str, strsOf (ys.map .str) = some ys
  | [] => rfl
  | y :: ys => by
    show (strsOf (ys.map .str)).map (y :: ·) = _
    rw [strsOf_map ys]
    rfl
theorem sum_len : ∀ (ys : List Str), (∀ y ∈ ys, y.length ≤ 100) → (ys.map (·.length)).sum ≤ 100 * ys.length
  | [], _ => by simp
  | y :: ys, h => by
    have := sum_len ys fun z hz => h z (by simp [hz])
    have h2 := h y (by simp)
    simp only [List.map_cons, List.sum_cons, List.length_cons]
    omega
theorem join_ok {a : Str} {ys : List Str} (ha : a.length ≤ 1) (h : ∀ y ∈ ys, y.length ≤ 100) (hl : ys.length ≤ 1000) : joinD [.str a, .lst (ys.map .str)] = some (.str (Txt.join a ys)) := by
  show (strsOf (ys.map .str)).bind _ = _
  rw [strsOf_map]
  have := sum_len ys h
  have h3 : ys.length * a.length ≤ ys.length * 1 := Nat.mul_le_mul_left _ ha
  exact if_pos (by omega)
theorem allD_append : ∀ (a b : List C), allD (a ++ b) = (allD a).bind fun x => (allD b).map (x ++ ·)
  | [], b => by
    show allD b = (allD b).map fun z => [] ++ z
    simp
  | .d x :: a, b => by
    show (allD (a ++ b)).map (x :: ·) = ((allD a).map (x :: ·)).bind _
    rw [allD_append a b]
    rcases allD a with _ | y <;> rcases allD b with _ | z <;> rfl
  | .p _ :: a, b => rfl
/-! ### dicts, zip, enumerate, slices by a step -/
@[simp] theorem sNewD_ev (i : Nat) : sNewD i ρ st = some (.nx (ρ.set i (some (.p st.length))) (st ++ [.dct []])) := (rfl)
def putD3K (ρ : Env) (k : Nat) (c : C) (st : Sto) : Option Key → Option SO → Option Res
  | some ky, some (.dct kvs) => if kvs.length < 1000000 then some (.nx ρ (st.set k (.dct (putC kvs ky c)))) else none
  | _, _ => none
@[simp] theorem putD3K_s (k : Nat) (c : C) (ky : Key) (kvs : List (Key × C)) : putD3K ρ k c st (some ky) (some (.dct kvs)) = if kvs.length < 1000000 then some (.nx ρ (st.set k (.dct (putC kvs ky c)))) else none := (rfl)
def putD2K (ρ : Env) (k : Nat) (c : C) : C × Sto → Option Res
  | (.d y, st) => putD3K ρ k c st (keyD y) st[k]?
  | _ => none
@[simp] theorem putD2K_s (k : Nat) (c : C) (y : D) : putD2K ρ k c (.d y, st) = putD3K ρ k c st (keyD y) st[k]? := (rfl)
def putD1K (i : GE) (ρ : Env) (c : C) : C × Sto → Option Res
  | (.p k, st) => (i ρ st).bind (putD2K ρ k c)
  | _ => none
@[simp] theorem putD1K_s (i : GE) (k : Nat) (c : C) : putD1K i ρ c (.p k, st) = (i ρ st).bind (putD2K ρ k c) := (rfl)
@[simp] theorem sPutD_ev (o i v : GE) : sPutD o i v ρ st = (v ρ st).bind fun p => (o ρ p.2).bind (putD1K i ρ p.1) := by
  unfold sPutD
  congr 1
  funext p
  congr 1
  funext q
  obtain ⟨c, s⟩ := q
  cases c with
  | d x => rfl
  | p k =>
    show (i ρ s).bind _ = (i ρ s).bind _
    congr 1
    funext r
    obtain ⟨c, s2⟩ := r
    cases c with
    | p _ => rfl
    | d y =>
      show (match keyD y, s2[k]? with | some ky, some (.dct kvs) => _ | _, _ => none) = putD3K ρ k p.1 s2 (keyD y) s2[k]?
      rcases keyD y with _ | ky <;> rcases s2[k]? with _ | (_ | _ | _) <;> rfl
@[simp] theorem key_str (x : Str) : keyD (.str x) = some (.inr x) := (rfl)
@[simp] theorem key_int (x : Int) : keyD (.int x) = some (.inl x) := (rfl)
def dicK : Option SO → Option (List (Key × C))
  | some (.dct kvs) => some kvs
  | _ => none
@[simp] theorem dicK_d (kvs : List (Key × C)) : dicK (some (.dct kvs)) = some kvs := (rfl)
@[simp] theorem dictOf_p (k : Nat) : dictOf st (.p k) = dicK st[k]? := by
  unfold dictOf
  dsimp only
  rcases st[k]? with _ | (_ | _ | _) <;> rfl
@[simp] theorem dictOf_d (kvs : List (Key × D)) : dictOf st (.d (.dct kvs)) = some (kvs.map fun kv => (kv.1, .d kv.2)) := (rfl)
def getDK (d : C) : C × Sto → Option (C × Sto)
  | (.d y, st) => (keyD y).bind fun ky => (dictOf st d).bind fun kvs => (lookC kvs ky).map fun c => (c, st)
  | _ => none
@[simp] theorem getDK_d (d : C) (y : D) : getDK d (.d y, st) = (keyD y).bind fun ky => (dictOf st d).bind fun kvs => (lookC kvs ky).map fun c => (c, st) := (rfl)
@[simp] theorem eGetD_ev (o i : GE) : eGetD o i ρ st = (o ρ st).bind fun p => (i ρ p.2).bind (getDK p.1) := by
  unfold eGetD
  congr 1
  funext p
  congr 1
  funext q
  obtain ⟨c, s⟩ := q
  cases c <;> rfl
def orC (o : Option C) (d : C) : C := match o with
  | some c => c
  | none => d
@[simp] theorem orC_some (c d : C) : orC (some c) d = c := (rfl)
@[simp] theorem orC_none (d : C) : orC none d = d := (rfl)
def get1K (d : C) : C × Sto → Option (C × Sto)
  | (.d y, st) => (keyD y).bind fun ky => (dictOf st d).bind fun kvs => some (orC (lookC kvs ky) (.d .non), st)
  | _ => none
@[simp] theorem get1K_d (d : C) (y : D) : get1K d (.d y, st) = (keyD y).bind fun ky => (dictOf st d).bind fun kvs => some (orC (lookC kvs ky) (.d .non), st) := (rfl)
@[simp] theorem eGet1_ev (o i : GE) : eGet1 o i ρ st = (o ρ st).bind fun p => (dictOf p.2 p.1).bind fun _ => (i ρ p.2).bind (get1K p.1) := by
  unfold eGet1
  congr 1
  funext p
  congr 1
  funext _
  congr 1
  funext q
  obtain ⟨c, s⟩ := q
  cases c <;> rfl
def get2K (d e : C) (st : Sto) : C → Option (C × Sto)
  | .d y => (keyD y).bind fun ky => (dictOf st d).bind fun kvs => some (orC (lookC kvs ky) e, st)
  | _ => none
@[simp] theorem get2K_d (d e : C) (y : D) : get2K d e st (.d y) = (keyD y).bind fun ky => (dictOf st d).bind fun kvs => some (orC (lookC kvs ky) e, st) := (rfl)
@[simp] theorem eGet2_ev (o i e : GE) : eGet2 o i e ρ st = (o ρ st).bind fun p => (dictOf p.2 p.1).bind fun _ => (i ρ p.2).bind fun q => (e ρ q.2).bind fun r => get2K p.1 r.1 r.2 q.1 := by
  unfold eGet2
  congr 1
def zpK : List C × Sto → Option (Src × Sto)
  | ([.d (.tup ds), .d (.tup es)], st) => some (.items (zipD ds es), st)
  | ([.d (.lst ds), .d (.lst es)], st) => some (.items (zipD ds es), st)
  | _ => none
@[simp] theorem zpK_l (ds es : List D) : zpK ([.d (.lst ds), .d (.lst es)], st) = some (.items (zipD ds es), st) := (rfl)
@[simp] theorem zpK_t (ds es : List D) : zpK ([.d (.tup ds), .d (.tup es)], st) = some (.items (zipD ds es), st) := (rfl)
@[simp] theorem iZp_ev (a : GA) : iZp a ρ st = (a ρ st).bind zpK := by
  unfold iZp
  congr 1
  funext p
  obtain ⟨c, s⟩ := p
  unfold zpK
  dsimp only
  split <;> simp_all
@[simp] theorem zipD_nil : zipD [] [] = [] := (rfl)
@[simp] theorem zipD_cons (x y : D) (xs ys : List D) : zipD (x :: xs) (y :: ys) = .tup [x, y] :: zipD xs ys := (rfl)
def enK : List C × Sto → Option (Src × Sto)
  | ([.d (.tup ds)], st) => some (.items (enumD ds), st)
  | ([.d (.lst ds)], st) => some (.items (enumD ds), st)
  | _ => none
@[simp] theorem enK_l (ds : List D) : enK ([.d (.lst ds)], st) = some (.items (enumD ds), st) := (rfl)
@[simp] theorem enK_t (ds : List D) : enK ([.d (.tup ds)], st) = some (.items (enumD ds), st) := (rfl)
@[simp] theorem iEn_ev (a : GA) : iEn a ρ st = (a ρ st).bind enK := by
  unfold iEn
  congr 1
  funext p
  obtain ⟨c, s⟩ := p
  unfold enK
  dsimp only
  split <;> simp_all
def sl3K (l h k : Option Int) (st : Sto) : D → Option (C × Sto)
  | .lst xs => if k ≠ some 0 then some (.d (.lst (pickD xs l h k)), st) else none
  | _ => none
@[simp] theorem sl3K_l (l h k : Option Int) (xs : List D) : sl3K l h k st (.lst xs) = if k ≠ some 0 then some (.d (.lst (pickD xs l h k)), st) else none := (rfl)
@[simp] theorem eSl3_ev (a : GE) (lo hi k : GO) : eSl3 a lo hi k ρ st = (a ρ st).bind fun p => (lo ρ p.2).bind fun l => (hi ρ l.2).bind fun h => (k ρ h.2).bind fun m => (deref m.2 p.1).bind (sl3K l.1 h.1 m.1 m.2) := by
  unfold eSl3 sl3K
  rfl
theorem lcL_nil (t : Tg) (test : GT) (elt : GE) (acc : List D) : lcL t test elt ρ [] st acc = some (acc, st) := rfl
theorem lcL_cons (t : Tg) (test : GT) (elt : GE) (x : D) (xs acc : List D) : lcL t test elt ρ (x :: xs) st acc = (bindTg t x ρ).bind fun ρ1 => (test ρ1 st).bind fun p => if p.1 = true then (elt ρ1 p.2).bind fun q => (frz 4 q.1 q.2).bind fun y => if acc.length < 1000000 then lcL t test elt ρ xs y.2 (acc ++ [y.1]) else none
      else lcL t test elt ρ xs p.2 acc := rfl
/-- a comprehension over a list that lies in the store -/
theorem lcG_sto {k : Nat} {ds : List D} {t : Tg} {test : GT} {elt : GE} (hs : st[k]? = some (.lst (ds.map .d))) (pure : ∀ x ∈ ds, ∀ ρ1, bindTg t x ρ = some ρ1 → ∃ b, test ρ1 st = some (b, st) ∧ (b = true → ∃ c y, elt ρ1 st = some (c, st) ∧ frz 4 c st = some (y, st))) :
    ∀ (m i : Nat) (acc : List D), i + m = ds.length → lcG t test elt (.sto k) ρ (m + 1) i st acc = lcL t test elt ρ (ds.drop i) st acc
  | 0, i, acc, h => by
    rw [List.drop_of_length_le (by omega)]
    have e : itemAt st (.sto k) i = some none := by
      unfold itemAt
      dsimp only
      rw [hs]
      dsimp only
      rw [List.getElem?_eq_none (by rw [List.length_map]; omega)]
    show ((itemAt st (.sto k) i).bind _) = _
    rw [e]
    rfl
  | m + 1, i, acc, h => by
    have hi : i < ds.length := by omega
    have e : itemAt st (.sto k) i = some (some ds[i]) := by
      unfold itemAt
      dsimp only
      rw [hs]
      dsimp only
      rw [List.getElem?_map, List.getElem?_eq_getElem hi]
      rfl
    rw [List.drop_eq_getElem_cons hi, lcL_cons]
    show ((itemAt st (.sto k) i).bind _) = _
    rw [e]
    show (bindTg t ds[i] ρ).bind _ = (bindTg t ds[i] ρ).bind _
    cases hb : bindTg t ds[i] ρ with
    | none => rfl
    | some ρ1 =>
      obtain ⟨b, h1, h2⟩ := pure ds[i] (List.getElem_mem hi) ρ1 hb
      simp only [Option.bind_some]
      rw [h1]
      simp only [Option.bind_some]
      cases b with
      | false =>
        rw [if_neg (by simp), if_neg (by simp)]
        exact lcG_sto hs pure m (i + 1) acc (by omega)
      | true =>
        obtain ⟨c, y, h3, h4⟩ := h2 rfl
        rw [if_pos rfl, if_pos rfl, h3]
        simp only [Option.bind_some]
        rw [h4]
        simp only [Option.bind_some]
        rw [lcG_sto hs pure m (i + 1) (acc ++ [y]) (by omega)]
/-- the same over a mapped list -/
theorem lcL_mp {α : Type} (t : Tg) (elt : GE) (g f : α → D) : ∀ (as : List α) (acc : List D), (∀ a ∈ as, ∃ ρ1 c, bindTg t (g a) ρ = some ρ1 ∧ elt ρ1 st = some (c, st) ∧ frz 4 c st = some (f a, st)) → acc.length + as.length ≤ 1000000 →
    lcL t gYes elt ρ (as.map g) st acc = some (acc ++ as.map f, st)
  | [], acc, _, _ => by simp [lcL]
  | a :: as, acc, h, hl => by
    obtain ⟨ρ1, c, h1, h2, h3⟩ := h a (by simp)
    rw [List.length_cons] at hl
    have ih := lcL_mp t elt g f as (acc ++ [f a]) (fun b hb => h b (by simp [hb])) (by simp; omega)
    show (bindTg t (g a) ρ).bind _ = _
    rw [h1]
    show (elt ρ1 st).bind _ = _
    rw [h2]
    show (frz 4 c st).bind _ = _
    rw [h3]
    show (if acc.length < 1000000 then lcL t gYes elt ρ (as.map g) st (acc ++ [f a]) else none) = _
    rw [if_pos (by omega), ih]
    simp
theorem len_app (x y : Str) : (x ++ y).length = x.length + y.length := by
  rw [TL.len_tl, TL.tl_append, List.length_append, ← TL.len_tl, ← TL.len_tl]
theorem add_s {x y : Str} (h : x.length + y.length ≤ 1000000) : addD (.str x) (.str y) = some (.str (x ++ y)) := if_pos h
/-- pure elements, no test: a map -/
theorem lcL_map (t : Tg) (elt : GE) (f : D → D) (P : D → Prop) (h : ∀ x, P x → ∃ ρ1 c, bindTg t x ρ = some ρ1 ∧ elt ρ1 st = some (c, st) ∧ frz 4 c st = some (f x, st)) :
    ∀ (xs acc : List D), (∀ x ∈ xs, P x) → acc.length + xs.length ≤ 1000000 → lcL t gYes elt ρ xs st acc = some (acc ++ xs.map f, st)
  | [], acc, _, _ => by simp [lcL]
  | x :: xs, acc, hp, hl => by
    obtain ⟨ρ1, c, h1, h2, h3⟩ := h x (hp x (by simp))
    rw [List.length_cons] at hl
    have ih := lcL_map t elt f P h xs (acc ++ [f x]) (fun y hy => hp y (by simp [hy])) (by simp; omega)
    show (bindTg t x ρ).bind _ = _
    rw [h1]
    show (elt ρ1 st).bind _ = _
    rw [h2]
    show (frz 4 c st).bind _ = _
    rw [h3]
    show (if acc.length < 1000000 then lcL t gYes elt ρ xs st (acc ++ [f x]) else none) = _
    rw [if_pos (by omega), ih]
    simp
end
end DL
namespace Lw
open PySem PySem.Spec PyProof.Rows L2 DL
/-- the box: what is drawn, and how far -/
def box (ds : List Int) (n : Nat) : SO := .lst [.d (.lst (ds.map .int)), .d (.int (n : Nat))]
def drw (ds : List Int) (n : Nat) (m : Int) : Int := if n < ds.length then (ds.getD n 0) % m else ((n : Int) * 7 + 3) % m
theorem drw_nn {ds : List Int} {n : Nat} {m : Int} (h : 0 < m) : 0 ≤ drw ds n m := by
  unfold drw
  split <;> exact Int.emod_nonneg _ (by omega)
theorem drw_lt {ds : List Int} {n : Nat} {m : Int} (h : 0 < m) : drw ds n m < m := by
  unfold drw
  split <;> exact Int.emod_lt_of_pos _ h
theorem G_draw_ok (ds : List Int) (n : Nat) (m : Int) (hm : 0 < m) : G_lw_draw [some (.p 0), some (.d (.int m)), none] [box ds n] = some (.rt (.d (.int (drw ds n m))) [box ds (n + 1)]) := by
  unfold G_lw_draw
  by_cases h : n < ds.length
  · simp [box, DL.tB, ltD, modD, drw, h, hm]
  · simp [box, DL.tB, ltD, modD, drw, h, hm]
@[simp] theorem draw_ok (ds : List Int) (n : Nat) (m : Int) (hm : 0 < m) : phi_lw_draw [.p 0, .d (.int m)] [box ds n] = some (.d (.int (drw ds n m)), [box ds (n + 1)]) := by
  unfold phi_lw_draw
  rw [fnD_ev 3 2 G_lw_draw [.p 0, .d (.int m)] rfl]
  simp [G_draw_ok ds n m hm]
  simp [box]
@[simp] theorem flat_box (ds : List Int) (n : Nat) : flatSO (box ds n) = true := rfl
@[simp] theorem ok_box (ds : List Int) (n k : Nat) : okSO k (box ds n) = true := rfl
def amt (ds : List Int) (n : Nat) : Int := ([0, 1, 2, 3, 5, 9, 99, drw ds n 20] : List Int).getD (drw ds (n + 1) 8).toNat 0
theorem cases8 {i : Int} (h : 0 ≤ i) (h8 : i < 8) : i = 0 ∨ i = 1 ∨ i = 2 ∨ i = 3 ∨ i = 4 ∨ i = 5 ∨ i = 6 ∨ i = 7 := by omega
theorem amt_in (ds : List Int) (n : Nat) : 0 ≤ amt ds n ∧ amt ds n ≤ 99 := by
  have a := drw_nn (ds := ds) (n := n) (m := 20) (by omega)
  have b := drw_lt (ds := ds) (n := n) (m := 20) (by omega)
  unfold amt
  rcases cases8 (drw_nn (ds := ds) (n := n + 1) (m := 8) (by omega)) (drw_lt (by omega)) with h | h | h | h | h | h | h | h <;> rw [h] <;> simp <;> omega
theorem G_amount_ok (ds : List Int) (n : Nat) : G_lw_amount [some (.p 0)] [box ds n] = some (.rt (.d (.int (amt ds n))) [box ds (n + 2)]) := by
  unfold G_lw_amount amt
  rcases cases8 (drw_nn (ds := ds) (n := n + 1) (m := 8) (by omega)) (drw_lt (by omega)) with h | h | h | h | h | h | h | h <;> simp [h]
@[simp] theorem amount_ok (ds : List Int) (n : Nat) : phi_lw_amount [.p 0] [box ds n] = some (.d (.int (amt ds n)), [box ds (n + 2)]) := by
  unfold phi_lw_amount
  rw [fnD_ev 1 1 G_lw_amount [.p 0] rfl]
  simp [G_amount_ok ds n]
def amts (ds : List Int) : Nat → Nat → List Int
  | _, 0 => []
  | n, k + 1 => amt ds n :: amts ds (n + 2) k
theorem amts_len (ds : List Int) : ∀ k n : Nat, (amts ds n k).length = k
  | 0, _ => rfl
  | k + 1, n => by rw [amts, List.length_cons, amts_len ds k]
theorem amts_in (ds : List Int) : ∀ k n : Nat, ∀ x ∈ amts ds n k, 0 ≤ x ∧ x ≤ 99
  | 0, _, x, h => by simp [amts] at h
  | k + 1, n, x, h => by
    rw [amts, List.mem_cons] at h
    rcases h with rfl | h
    · exact amt_in ds n
    · exact amts_in ds k (n + 2) x h
theorem lc_amt {ρ : DL.Env} {i : Nat} {ds : List Int} (h0 : ρ[0]? = some (some (C.p 0))) (hi : i ≠ 0) : ∀ (xs : List D) (st : Sto) (n : Nat) (acc : List D), st[0]? = some (box ds n) → acc.length + xs.length ≤ 1000000 →
    lcL (.n i) gYes (eCall phi_lw_amount (aC (eV 0) aN)) ρ xs st acc = some (acc ++ (amts ds n xs.length).map .int, st.set 0 (box ds (n + 2 * xs.length)))
  | [], st, n, acc, hs, _ => by
    have : st.set 0 (box ds n) = st := by
      apply List.ext_getElem?
      intro j
      by_cases e : j = 0
      · subst e
        rw [List.getElem?_set_self', hs]
        rfl
      · rw [List.getElem?_set_ne (fun e2 => e e2.symm)]
    simp [lcL, amts, this]
  | x :: xs, st, n, acc, hs, hl => by
    rw [List.length_cons] at hl
    have h1 : eCall phi_lw_amount (aC (eV 0) aN) (ρ.set i (some (.d x))) st = some (.d (.int (amt ds n)), st.set 0 (box ds (n + 2))) := by
      have : (ρ.set i (some (C.d x)))[0]? = some (some (.p 0)) := by rw [List.getElem?_set_ne hi, h0]
      simp [this, hs]
    have h2 : (st.set 0 (box ds (n + 2)))[0]? = some (box ds (n + 2)) := by
      rw [List.getElem?_set_self' , hs]
      rfl
    have ih := lc_amt h0 hi xs (st.set 0 (box ds (n + 2))) (n + 2) (acc ++ [.int (amt ds n)]) h2 (by simp; omega)
    have h3 : lcL (.n i) gYes (eCall phi_lw_amount (aC (eV 0) aN)) ρ (x :: xs) st acc = (eCall phi_lw_amount (aC (eV 0) aN) (ρ.set i (some (.d x))) st).bind fun q => (frz 4 q.1 q.2).bind fun y => if acc.length < 1000000 then lcL (.n i) gYes (eCall phi_lw_amount (aC (eV 0) aN)) ρ xs y.2 (acc ++ [y.1]) else none := rfl
    rw [h3, h1]
    show (if acc.length < 1000000 then _ else none) = _
    rw [if_pos (by omega), ih]
    simp [amts, Nat.mul_add, Nat.add_assoc, Nat.add_comm]
end Lw
namespace Lw
open PySem PySem.Spec PyProof.Rows L2 DL
structure Site where
  name : PySem.Str
  nxt : Option PySem.Str
  trav : Int
  reach : Option Int
  room : Int
  held : Int
  ins : List Int
structure Rgt where
  name : PySem.Str
  site : PySem.Str
  wants : List Int
def oS : Option PySem.Str → D
  | none => .non
  | some x => .str x
def oN' : Option Int → D
  | none => .non
  | some x => .int x
def siteD (s : Site) : D := .tup [.str s.name, oS s.nxt, .int s.trav, oN' s.reach, .int s.room, .int s.held, .tup (s.ins.map .int)]
def rgtD (r : Rgt) : D := .tup [.str r.name, .str r.site, .tup (r.wants.map .int)]
def basD (m : Nat) (ss : List Site) : D := .tup [.int (m : Nat), .tup (ss.map siteD)]
def names4 : List PySem.Str := ["up", "dale", "weir", "mouth"]
structure SiteOk (nms : List PySem.Str) (m : Nat) (s : Nat) (x : Site) : Prop where
  name : nms[s]? = some x.name
  nxt : (s + 1 = nms.length ∧ x.nxt = none) ∨ (∃ (j : Nat) (y : PySem.Str), s < j ∧ nms[j]? = some y ∧ x.nxt = some y)
  trav : 0 ≤ x.trav ∧ x.trav ≤ 2
  tr0 : x.nxt = none → x.trav = 0
  reach : ∀ r, x.reach = some r → 0 ≤ r ∧ r ≤ 99
  re0 : x.nxt = none → x.reach = none
  room : 0 ≤ x.room ∧ x.room ≤ 99
  held : 0 ≤ x.held ∧ x.held ≤ x.room
  ins : x.ins.length = m ∧ ∀ a ∈ x.ins, 0 ≤ a ∧ a ≤ 99
/-! ### the pieces of the loop's body -/
def B1 : GS := sIf (DL.tB (eOp ltD (eOp addD (eV 5) (eK (.int 1))) (eV 2))) (sSeq (sSet 6 (eOp ixD (eV 3) (eOp addD (eOp addD (eV 5) (eK (.int 1))) (eCall phi_lw_draw (aC (eV 0) (aC (eOp subD (eOp subD (eV 2) (eV 5)) (eK (.int 1))) aN))))))
    (sSeq (sSet 7 (eOp ixD (eLst (aC (eK (.int 0)) (aC (eK (.int 0)) (aC (eK (.int 1)) (aC (eK (.int 2)) aN))))) (eCall phi_lw_draw (aC (eV 0) (aC (eK (.int 4)) aN)))))
    (sSet 8 (eOp ixD (eLst (aC (eK .non) (aC (eK .non) (aC (eCall phi_lw_amount (aC (eV 0) aN)) (aC (eCall phi_lw_draw (aC (eV 0) (aC (eK (.int 6)) aN))) aN))))) (eCall phi_lw_draw (aC (eV 0) (aC (eK (.int 4)) aN))))))) sNx
def B2 : GS := sSeq (sSet 9 (eOp ixD (eLst (aC (eK (.int 0)) (aC (eCall phi_lw_amount (aC (eV 0) aN)) (aC (eCall phi_lw_draw (aC (eV 0) (aC (eK (.int 9)) aN))) aN)))) (eCall phi_lw_draw (aC (eV 0) (aC (eK (.int 3)) aN)))))
    (sSeq (sSet 10 (eOp mulD (eCall phi_lw_draw (aC (eV 0) (aC (eOp addD (eV 9) (eK (.int 1))) aN))) (eCB DL.intD (aC (eOp (eqD false) (eCall phi_lw_draw (aC (eV 0) (aC (eK (.int 3)) aN))) (eK (.int 0))) aN))))
    (sEx (eApp (eV 4) (eTup (aC (eOp ixD (eV 3) (eV 5)) (aC (eV 6) (aC (eV 7) (aC (eV 8) (aC (eV 9) (aC (eV 10) (aC (eCB tupleD (aC (eLc [11] (.n 11) (iR1 (aC (eV 1) aN)) gYes (eCall phi_lw_amount (aC (eV 0) aN))) aN)) aN)))))))))))
def B0 : GS := sSeq (sSet 6 (eK .non)) (sSeq (sSet 7 (eK (.int 0))) (sSeq (sSet 8 (eK .non)) (sSeq B1 B2)))
theorem G_basin_eq : G_lw_basin = (sSeq (sSet 1 (eOp addD (eK (.int 1)) (eCall phi_lw_draw (aC (eV 0) (aC (eK (.int 4)) aN)))))
    (sSeq (sSet 2 (eOp addD (eK (.int 1)) (eCall phi_lw_draw (aC (eV 0) (aC (eK (.int 4)) aN)))))
    (sSeq (sSet 3 (eSl (eLst (aC (eK (.str "up")) (aC (eK (.str "dale")) (aC (eK (.str "weir")) (aC (eK (.str "mouth")) aN))))) (oI (eOp subD (eK (.int 4)) (eV 2))) oN))
    (sSeq (sNew 4 (eLst aN))
    (sSeq (sFor (.n 5) (iR1 (aC (eV 2) aN)) B0)
    (sRt (eTup (aC (eV 1) (aC (eCB tupleD (aC (eV 4) aN)) aN)))))))) ) := rfl
theorem cases3 {i : Int} (h : 0 ≤ i) (h8 : i < 3) : i = 0 ∨ i = 1 ∨ i = 2 := by omega
theorem cases4 {i : Int} (h : 0 ≤ i) (h8 : i < 4) : i = 0 ∨ i = 1 ∨ i = 2 ∨ i = 3 := by omega
theorem room_ok (ds : List Int) (n : Nat) : ∃ r : Int, 0 ≤ r ∧ r ≤ 99 ∧ atI [D.int 0, D.int (amt ds n), D.int (drw ds (n + 2) 9)] (drw ds (n + 2 + 1) 3) = some (.int r) := by
  have a := amt_in ds n
  have b := drw_nn (ds := ds) (n := n + 2) (m := 9) (by omega)
  have c := drw_lt (ds := ds) (n := n + 2) (m := 9) (by omega)
  rcases cases3 (drw_nn (ds := ds) (n := n + 2 + 1) (m := 3) (by omega)) (drw_lt (by omega)) with h | h | h <;> rw [h]
  · exact ⟨0, by omega, by omega, by simp⟩
  · exact ⟨amt ds n, by omega, by omega, by simp⟩
  · exact ⟨drw ds (n + 2) 9, by omega, by omega, by simp⟩
theorem trav_ok (ds : List Int) (n : Nat) : ∃ r : Int, 0 ≤ r ∧ r ≤ 2 ∧ atI [D.int 0, D.int 0, D.int 1, D.int 2] (drw ds n 4) = some (.int r) := by
  rcases cases4 (drw_nn (ds := ds) (n := n) (m := 4) (by omega)) (drw_lt (by omega)) with h | h | h | h <;> rw [h]
  · exact ⟨0, by omega, by omega, by simp⟩
  · exact ⟨0, by omega, by omega, by simp⟩
  · exact ⟨1, by omega, by omega, by simp⟩
  · exact ⟨2, by omega, by omega, by simp⟩
theorem reach_ok (ds : List Int) (n : Nat) : ∃ r : Option Int, (∀ x, r = some x → 0 ≤ x ∧ x ≤ 99) ∧ atI [D.non, D.non, D.int (amt ds n), D.int (drw ds (n + 2) 6)] (drw ds (n + 2 + 1) 4) = some (oN' r) := by
  have a := amt_in ds n
  have b := drw_nn (ds := ds) (n := n + 2) (m := 6) (by omega)
  have c := drw_lt (ds := ds) (n := n + 2) (m := 6) (by omega)
  rcases cases4 (drw_nn (ds := ds) (n := n + 2 + 1) (m := 4) (by omega)) (drw_lt (by omega)) with h | h | h | h <;> rw [h]
  · exact ⟨none, (fun x h => nomatch h), by simp [oN']⟩
  · exact ⟨none, (fun x h => nomatch h), by simp [oN']⟩
  · exact ⟨some (amt ds n), (fun x h => by cases h; omega), by simp [oN']⟩
  · exact ⟨some (drw ds (n + 2) 6), (fun x h => by cases h; omega), by simp [oN']⟩
def stS (ds : List Int) (n : Nat) (ss : List Site) : Sto := [box ds n, .lst (ss.map fun x => .d (siteD x))]
theorem B1_last {ds : List Int} {n s many : Nat} {m : Int} {nl o9 o10 o11 : Option C} {st : Sto} (h : s + 1 = many) :
    B1 [some (.p 0), some (.d (.int m)), some (.d (.int (many : Nat))), nl, some (.p 1), some (.d (.int (s : Nat))), some (.d .non), some (.d (.int 0)), some (.d .non), o9, o10, o11] st
      = some (.nx [some (.p 0), some (.d (.int m)), some (.d (.int (many : Nat))), nl, some (.p 1), some (.d (.int (s : Nat))), some (.d .non), some (.d (.int 0)), some (.d .non), o9, o10, o11] st) := by
  have : ¬ ((s : Int) + 1 < (many : Int)) := by omega
  unfold B1
  simp [ltD, this]
theorem B1_more {ds : List Int} {n s many : Nat} {m : Int} {nms : List PySem.Str} {o9 o10 o11 : Option C} {r : SO} (h : s + 1 < many) (hl : nms.length = many) :
    ∃ (j : Nat) (y : PySem.Str) (t : Int) (re : Option Int) (n' : Nat), s < j ∧ nms[j]? = some y ∧ 0 ≤ t ∧ t ≤ 2 ∧ (∀ x, re = some x → 0 ≤ x ∧ x ≤ 99) ∧
    B1 [some (.p 0), some (.d (.int m)), some (.d (.int (many : Nat))), some (.d (.lst (nms.map .str))), some (.p 1), some (.d (.int (s : Nat))), some (.d .non), some (.d (.int 0)), some (.d .non), o9, o10, o11] [box ds n, r]
      = some (.nx [some (.p 0), some (.d (.int m)), some (.d (.int (many : Nat))), some (.d (.lst (nms.map .str))), some (.p 1), some (.d (.int (s : Nat))), some (.d (.str y)), some (.d (.int t)), some (.d (oN' re)), o9, o10, o11] [box ds n', r]) := by
  have q : ((s : Int) + 1 < (many : Int)) := by omega
  have pos : (0 : Int) < (many : Int) - s - 1 := by omega
  have a := drw_nn (ds := ds) (n := n) pos
  have b := drw_lt (ds := ds) (n := n) pos
  obtain ⟨k, hk⟩ := Int.eq_ofNat_of_zero_le a
  obtain ⟨t, t0, t1, ht⟩ := trav_ok ds (n + 1)
  obtain ⟨re, hre, hr⟩ := reach_ok ds (n + 1 + 1)
  have hj : s + 1 + k < nms.length := by omega
  refine ⟨s + 1 + k, nms[s + 1 + k], t, re, n + 1 + 1 + 2 + 1 + 1, by omega, List.getElem?_eq_getElem hj, t0, t1, hre, ?_⟩
  have e1 : atI (nms.map D.str) ((s : Int) + 1 + (k : Int)) = some (.str nms[s + 1 + k]) := by
    have : ((s : Int) + 1 + (k : Int)) = ((s + 1 + k : Nat) : Int) := by omega
    rw [this, atI_k, List.getElem?_map, List.getElem?_eq_getElem hj]
    rfl
  unfold B1
  simp [ltD, q, subD, draw_ok ds n _ pos, hk, e1, ht, hr]
end Lw
namespace Lw
open PySem PySem.Spec PyProof.Rows L2 DL
theorem B2_ok {ds : List Int} {n s many m : Nat} {nms : List PySem.Str} {nm : PySem.Str} {x6 x7 x8 : D} {o9 o10 o11 : Option C} {r : List C} (hn : nms[s]? = some nm) (hm : m ≤ 4) (hr : r.length ≤ 10) :
    ∃ (rm hd : Int) (is : List Int) (n' : Nat) (o9' o10' : Option C), 0 ≤ rm ∧ rm ≤ 99 ∧ 0 ≤ hd ∧ hd ≤ rm ∧ is.length = m ∧ (∀ a ∈ is, 0 ≤ a ∧ a ≤ 99) ∧
    B2 [some (.p 0), some (.d (.int (m : Nat))), some (.d (.int (many : Nat))), some (.d (.lst (nms.map .str))), some (.p 1), some (.d (.int (s : Nat))), some (.d x6), some (.d x7), some (.d x8), o9, o10, o11] [box ds n, .lst r]
      = some (.nx [some (.p 0), some (.d (.int (m : Nat))), some (.d (.int (many : Nat))), some (.d (.lst (nms.map .str))), some (.p 1), some (.d (.int (s : Nat))), some (.d x6), some (.d x7), some (.d x8), o9', o10', o11]
          [box ds n', .lst (r ++ [.d (.tup [.str nm, x6, x7, x8, .int rm, .int hd, .tup (is.map .int)])])]) := by
  obtain ⟨rm, r0, r1, hrm⟩ := room_ok ds n
  have pos : (0 : Int) < rm + 1 := by omega
  have a := drw_nn (ds := ds) (n := n + 2 + 1 + 1) pos
  have b := drw_lt (ds := ds) (n := n + 2 + 1 + 1) pos
  have e3 : atI (nms.map D.str) (s : Int) = some (.str nm) := by
    rw [atI_k, List.getElem?_map, hn]
    rfl
  have hl : (rngD 0 m).length = m := by simp [rngD]
  have hlt : r.length < 1000000 := by omega
  have hm4 : m < 1000000 := by omega
  have hm5 : m ≤ 1000000 := by omega
  let n' := n + 2 + 1 + 1 + 1 + 1
  have lc := lc_amt (ds := ds) (ρ := [some (.p 0), some (.d (.int (m : Nat))), some (.d (.int (many : Nat))), some (.d (.lst (nms.map .str))), some (.p 1), some (.d (.int (s : Nat))), some (.d x6), some (.d x7), some (.d x8), some (.d (.int rm)), some (.d (.int (drw ds (n + 2 + 1 + 1) (rm + 1) * if drw ds (n + 2 + 1 + 1 + 1) 3 = 0 then 1 else 0))), none]) (i := 11) rfl (by omega) (rngD 0 m) [box ds n', .lst r] n' [] rfl (by simp [hl]; omega)
  rw [hl] at lc
  refine ⟨rm, drw ds (n + 2 + 1 + 1) (rm + 1) * if drw ds (n + 2 + 1 + 1 + 1) 3 = 0 then 1 else 0, amts ds n' m, n' + 2 * m, some (.d (.int rm)), some (.d (.int (drw ds (n + 2 + 1 + 1) (rm + 1) * if drw ds (n + 2 + 1 + 1 + 1) 3 = 0 then 1 else 0))), r0, r1, ?_, ?_, amts_len ds m n', amts_in ds m n', ?_⟩
  · split <;> omega
  · split <;> omega
  · by_cases hz : drw ds (n + 2 + 1 + 1 + 1) 3 = 0
    · rw [if_pos hz] at lc ⊢
      unfold B2
      simp [draw_ok ds _ _ pos, hrm, hz, e3, lc, n', hlt, hm4, hm5, amts_len] at lc ⊢
      simp [lc, hlt, amts_len, hm5]
    · rw [if_neg hz] at lc ⊢
      unfold B2
      simp [draw_ok ds _ _ pos, hrm, hz, e3, lc, n', hlt, hm4, hm5, amts_len] at lc ⊢
      simp [lc, hlt, amts_len, hm5]
theorem B0_ok {ds : List Int} {n s m : Nat} {nms : List PySem.Str} {o6 o7 o8 o9 o10 o11 : Option C} {r : List C} (hs : s < nms.length) (hm : m ≤ 4) (hr : r.length ≤ 10) :
    ∃ (x : Site) (n' : Nat) (o6' o7' o8' o9' o10' : Option C), SiteOk nms m s x ∧
    B0 [some (.p 0), some (.d (.int (m : Nat))), some (.d (.int (nms.length : Nat))), some (.d (.lst (nms.map .str))), some (.p 1), some (.d (.int (s : Nat))), o6, o7, o8, o9, o10, o11] [box ds n, .lst r]
      = some (.nx [some (.p 0), some (.d (.int (m : Nat))), some (.d (.int (nms.length : Nat))), some (.d (.lst (nms.map .str))), some (.p 1), some (.d (.int (s : Nat))), o6', o7', o8', o9', o10', o11]
          [box ds n', .lst (r ++ [.d (siteD x)])]) := by
  by_cases h : s + 1 = nms.length
  · have e1 := B1_last (ds := ds) (n := n) (s := s) (many := nms.length) (m := (m : Int)) (nl := some (.d (.lst (nms.map .str)))) (o9 := o9) (o10 := o10) (o11 := o11) (st := [box ds n, .lst r]) h
    obtain ⟨rm, hd, is, n', o9', o10', a1, a2, a3, a4, a5, a6, e2⟩ := B2_ok (ds := ds) (n := n) (s := s) (many := nms.length) (m := m) (nms := nms) (x6 := .non) (x7 := .int 0) (x8 := .non) (o9 := o9) (o10 := o10) (o11 := o11) (r := r) (List.getElem?_eq_getElem hs) hm hr
    refine ⟨⟨nms[s], none, 0, none, rm, hd, is⟩, n', some (.d .non), some (.d (.int 0)), some (.d .non), o9', o10', ⟨List.getElem?_eq_getElem hs, .inl ⟨h, rfl⟩, by simp, (fun _ => rfl), (fun _ z => nomatch z), (fun _ => rfl), ⟨a1, a2⟩, ⟨a3, a4⟩, a5, a6⟩, ?_⟩
    unfold B0
    simp [e1, e2]
    rfl
  · obtain ⟨j, y, t, re, n1, b1, b2, b3, b4, b5, e1⟩ := B1_more (ds := ds) (n := n) (s := s) (many := nms.length) (m := (m : Int)) (nms := nms) (o9 := o9) (o10 := o10) (o11 := o11) (r := .lst r) (by omega) rfl
    obtain ⟨rm, hd, is, n', o9', o10', a1, a2, a3, a4, a5, a6, e2⟩ := B2_ok (ds := ds) (n := n1) (s := s) (many := nms.length) (m := m) (nms := nms) (x6 := .str y) (x7 := .int t) (x8 := oN' re) (o9 := o9) (o10 := o10) (o11 := o11) (r := r) (List.getElem?_eq_getElem hs) hm hr
    refine ⟨⟨nms[s], some y, t, re, rm, hd, is⟩, n', some (.d (.str y)), some (.d (.int t)), some (.d (oN' re)), o9', o10', ⟨List.getElem?_eq_getElem hs, .inr ⟨j, y, b1, b2, rfl⟩, ⟨b3, b4⟩, (fun z => nomatch z), b5, (fun z => nomatch z), ⟨a1, a2⟩, ⟨a3, a4⟩, a5, a6⟩, ?_⟩
    unfold B0
    simp [e1, e2]
    rfl
theorem rng_drop {n k : Nat} (h : k < n) : (rngD 0 n).drop k = .int (k : Nat) :: (rngD 0 n).drop (k + 1) := by
  have hl : (rngD 0 n).length = n := by simp [rngD]
  rw [List.drop_eq_getElem_cons (by rw [hl]; exact h)]
  congr 1
  simp [rngD]
structure BasOk (m : Nat) (ss : List Site) : Prop where
  mo : 1 ≤ m ∧ m ≤ 4
  nu : 1 ≤ ss.length ∧ ss.length ≤ 4
  all : ∀ i x, ss[i]? = some x → SiteOk (names4.drop (4 - ss.length)) m i x
theorem loop_ok {ds : List Int} {n m : Nat} {nms : List PySem.Str} (hm : m ≤ 4) (hn : nms.length ≤ 4) :
    ∃ (ss : List Site) (n' : Nat) (ρ' : DL.Env), ss.length = nms.length ∧ (∀ i x, ss[i]? = some x → SiteOk nms m i x) ∧ ρ'[1]? = some (some (.d (.int (m : Nat)))) ∧ ρ'[4]? = some (some (.p 1)) ∧
    forL (.n 5) B0 (rngD 0 nms.length) [some (.p 0), some (.d (.int (m : Nat))), some (.d (.int (nms.length : Nat))), some (.d (.lst (nms.map .str))), some (.p 1), none, none, none, none, none, none, none] [box ds n, .lst []]
      = some (.nx ρ' [box ds n', .lst (ss.map fun x => .d (siteD x))]) := by
  let P : List D → DL.Env → Sto → Prop := fun rem ρ st => ∃ (k : Nat) (ss : List Site) (n : Nat) (o5 o6 o7 o8 o9 o10 o11 : Option C), k ≤ nms.length ∧ rem = (rngD 0 nms.length).drop k ∧ ρ = [some (.p 0), some (.d (.int (m : Nat))), some (.d (.int (nms.length : Nat))), some (.d (.lst (nms.map .str))), some (.p 1), o5, o6, o7, o8, o9, o10, o11] ∧
    st = [box ds n, .lst (ss.map fun x => .d (siteD x))] ∧ ss.length = k ∧ ∀ i x, ss[i]? = some x → SiteOk nms m i x
  have hl : (rngD 0 nms.length).length = nms.length := by simp [rngD]
  obtain ⟨ρ', st', e, k, ss, n', o5, o6, o7, o8, o9, o10, o11, hk, hrem, rfl, rfl, hlen, hall⟩ := forL_inv (t := .n 5) (body := B0) P (fun x xs ρ st h => by
    obtain ⟨k, ss, n, o5, o6, o7, o8, o9, o10, o11, hk, hrem, rfl, rfl, hlen, hall⟩ := h
    have hk2 : k < nms.length := by
      rcases Nat.lt_or_ge k nms.length with h | h
      · exact h
      · rw [List.drop_of_length_le (by omega)] at hrem
        cases hrem
    rw [rng_drop hk2] at hrem
    cases hrem
    obtain ⟨x, n', o6', o7', o8', o9', o10', hx, e⟩ := B0_ok (ds := ds) (n := n) (s := k) (m := m) (nms := nms) (o6 := o6) (o7 := o7) (o8 := o8) (o9 := o9) (o10 := o10) (o11 := o11) (r := ss.map fun x => .d (siteD x)) hk2 hm (by rw [List.length_map]; omega)
    refine ⟨_, _, _, rfl, e, k + 1, ss ++ [x], n', _, _, _, _, _, _, _, hk2, rfl, rfl, by rw [List.map_append]; rfl, by rw [List.length_append, hlen]; rfl, fun i y hy => ?_⟩
    rcases Nat.lt_or_ge i ss.length with h | h
    · rw [List.getElem?_append_left h] at hy
      exact hall i y hy
    · rw [List.getElem?_append_right h] at hy
      rcases Nat.lt_or_ge ss.length i with h2 | h2
      · rw [List.getElem?_eq_none (by simp; omega)] at hy
        cases hy
      · have : i = ss.length := by omega
        subst this
        simp at hy
        subst hy
        rw [hlen]
        exact hx) (rngD 0 nms.length) _ [box ds n, .lst []] ⟨0, [], n, none, none, none, none, none, none, none, Nat.zero_le _, rfl, rfl, rfl, rfl, fun i x h => by simp at h⟩
  have hk3 : k = nms.length := by
    have := congrArg List.length hrem
    rw [List.length_drop, hl] at this
    simp at this
    omega
  exact ⟨ss, n', _, by omega, hall, rfl, rfl, e⟩
theorem cut_end (xs : List D) (i : Nat) (h : i ≤ xs.length) : DL.cutD xs (some (i : Int)) none = xs.drop i := by
  unfold DL.cutD
  rw [HT.sIx_nat xs.length 0 i, HT.sIx_none, Nat.min_eq_left h]
  rw [List.take_of_length_le (by rw [List.length_drop]; omega)]
theorem basin_ok (ds : List Int) (n : Nat) : ∃ (m : Nat) (ss : List Site) (n' : Nat), BasOk m ss ∧ phi_lw_basin [.p 0] [box ds n] = some (.d (basD m ss), [box ds n']) := by
  have a := drw_nn (ds := ds) (n := n) (m := 4) (by omega)
  have b := drw_lt (ds := ds) (n := n) (m := 4) (by omega)
  have a2 := drw_nn (ds := ds) (n := n + 1) (m := 4) (by omega)
  have b2 := drw_lt (ds := ds) (n := n + 1) (m := 4) (by omega)
  obtain ⟨m, hm⟩ : ∃ m : Nat, 1 + drw ds n 4 = (m : Int) := ⟨(1 + drw ds n 4).toNat, by omega⟩
  obtain ⟨q, hq⟩ : ∃ q : Nat, 1 + drw ds (n + 1) 4 = (q : Int) := ⟨(1 + drw ds (n + 1) 4).toNat, by omega⟩
  have hq4 : 1 ≤ q ∧ q ≤ 4 := by omega
  let nms := names4.drop (4 - q)
  have hnl : nms.length = q := by
    show (names4.drop (4 - q)).length = q
    rw [List.length_drop]
    show 4 - (4 - q) = q
    omega
  obtain ⟨ss, n', ρ', c1, c2, c3, c4, e⟩ := loop_ok (ds := ds) (n := n + 1 + 1) (m := m) (nms := nms) (by omega) (by omega)
  rw [hnl] at e c1
  have e0 : DL.cutD [D.str "up", D.str "dale", D.str "weir", D.str "mouth"] (some (4 - (q : Int))) none = nms.map .str := by
    have : (4 - (q : Int)) = ((4 - q : Nat) : Int) := by omega
    rw [this, cut_end _ _ (by show 4 - q ≤ 4; omega)]
    show List.drop (4 - q) (names4.map D.str) = (names4.drop (4 - q)).map .str
    rw [List.map_drop]
  refine ⟨m, ss, n', ⟨by omega, by omega, ?_⟩, ?_⟩
  · rw [c1]
    exact c2
  · have hG : G_lw_basin [some (.p 0), none, none, none, none, none, none, none, none, none, none, none] [box ds n] = some (.rt (.d (basD m ss)) [box ds n', .lst (ss.map fun x => .d (siteD x))]) := by
      have hall : allD (ss.map fun x => C.d (siteD x)) = some (ss.map siteD) := by
        have := allD_map (ss.map siteD)
        rwa [List.map_map] at this
      rw [G_basin_eq]
      have hq5 : q < 1000000 := by omega
      have hq6 : ss.length ≤ 1000000 := by omega
      simp [hm, hq, subD, e0, hq5, e, c3, c4, hall, hq6, basD]
    unfold phi_lw_basin
    rw [fnD_ev 12 1 G_lw_basin [.p 0] rfl]
    simp [hG]
end Lw
namespace Lw
open PySem PySem.Spec PyProof.Rows L2 DL
structure RgtOk (ss : List Site) (m : Nat) (r : Nat) (x : Rgt) : Prop where
  name : (["a", "mill", "farm", "town"] : List PySem.Str)[r]? = some x.name
  site : ∃ (s : Nat) (y : Site), ss[s]? = some y ∧ x.site = y.name
  wants : x.wants.length = m ∧ ∀ a ∈ x.wants, 0 ≤ a ∧ a ≤ 99
structure RgsOk (ss : List Site) (m : Nat) (rs : List Rgt) : Prop where
  nu : rs.length ≤ 4
  all : ∀ i x, rs[i]? = some x → RgtOk ss m i x
theorem pick_ok (ds : List Int) (n : Nat) {rows : List D} (h : 0 < rows.length) : ∃ x, x ∈ rows ∧ phi_lw_pick [.p 0, .d (.tup rows)] [box ds n] = some (.d x, [box ds (n + 1)]) := by
  have p : (0 : Int) < rows.length := by omega
  obtain ⟨x, hx, _, e⟩ := atI_in (xs := rows) (i := drw ds n 90 % rows.length) (Int.emod_nonneg _ (by omega)) (Int.emod_lt_of_pos _ p)
  refine ⟨x, hx, ?_⟩
  have hG : G_lw_pick [some (.p 0), some (.d (.tup rows))] [box ds n] = some (.rt (.d x) [box ds (n + 1)]) := by
    unfold G_lw_pick
    simp [modD, e, p, h]
  unfold phi_lw_pick
  rw [fnD_ev 2 2 G_lw_pick [.p 0, .d (.tup rows)] rfl]
  simp [hG]
def R0 : GS := sEx (eApp (eV 2) (eTup (aC (eV 3) (aC (eOp ixD (eCall phi_lw_pick (aC (eV 0) (aC (eOp ixD (eV 1) (eK (.int 1))) aN))) (eK (.int 0))) (aC (eCB tupleD (aC (eLc [4] (.n 4) (iR1 (aC (eOp ixD (eV 1) (eK (.int 0))) aN)) gYes (eCall phi_lw_amount (aC (eV 0) aN))) aN)) aN)))))
theorem G_rights_eq : G_lw_rights = (sSeq (sNew 2 (eLst aN))
    (sSeq (sFor (.n 3) (iV (eSl (eLst (aC (eK (.str "a")) (aC (eK (.str "mill")) (aC (eK (.str "farm")) (aC (eK (.str "town")) aN))))) oN (oI (eCall phi_lw_draw (aC (eV 0) (aC (eK (.int 5)) aN)))))) R0)
    (sRt (eCB tupleD (aC (eV 2) aN))))) := rfl
theorem R0_ok {ds : List Int} {n m : Nat} {ss : List Site} {nm : PySem.Str} {o4 : Option C} {r : List C} (hm : m ≤ 4) (hs : 0 < ss.length) (hr : r.length ≤ 10) :
    ∃ (s : Nat) (y : Site) (is : List Int) (n' : Nat), ss[s]? = some y ∧ is.length = m ∧ (∀ a ∈ is, 0 ≤ a ∧ a ≤ 99) ∧
    R0 [some (.p 0), some (.d (basD m ss)), some (.p 1), some (.d (.str nm)), o4] [box ds n, .lst r]
      = some (.nx [some (.p 0), some (.d (basD m ss)), some (.p 1), some (.d (.str nm)), o4] [box ds n', .lst (r ++ [.d (rgtD ⟨nm, y.name, is⟩)])]) := by
  obtain ⟨x, hx, e⟩ := pick_ok ds n (rows := ss.map siteD) (by simpa using hs)
  obtain ⟨y, hy, rfl⟩ := List.mem_map.mp hx
  obtain ⟨s, hs2, hs3⟩ := List.getElem_of_mem hy
  have hl : (rngD 0 m).length = m := by simp [rngD]
  have hlt : r.length < 1000000 := by omega
  have hm4 : m < 1000000 := by omega
  have hm5 : m ≤ 1000000 := by omega
  have lc := lc_amt (ds := ds) (ρ := [some (.p 0), some (.d (basD m ss)), some (.p 1), some (.d (.str nm)), none]) (i := 4) rfl (by omega) (rngD 0 m) [box ds (n + 1), .lst r] (n + 1) [] rfl (by simp [hl]; omega)
  rw [hl] at lc
  refine ⟨s, y, amts ds (n + 1) m, n + 1 + 2 * m, by rw [List.getElem?_eq_getElem hs2, hs3], amts_len ds m _, amts_in ds m _, ?_⟩
  unfold R0
  simp [basD] at lc ⊢
  simp [e, lc, hlt, hm4, hm5, amts_len, rgtD, siteD]
theorem rights_loop {ds : List Int} {n m : Nat} {ss : List Site} {nms : List PySem.Str} (hn : nms = (["a", "mill", "farm", "town"] : List PySem.Str).take nms.length) (hm : m ≤ 4) (hs : 0 < ss.length) (hn4 : nms.length ≤ 4) :
    ∃ (rs : List Rgt) (n' : Nat) (ρ' : DL.Env), RgsOk ss m rs ∧ ρ'[2]? = some (some (.p 1)) ∧
    forL (.n 3) R0 (nms.map .str) [some (.p 0), some (.d (basD m ss)), some (.p 1), none, none] [box ds n, .lst []] = some (.nx ρ' [box ds n', .lst (rs.map fun x => .d (rgtD x))]) := by
  let P : List D → DL.Env → Sto → Prop := fun rem ρ st => ∃ (k : Nat) (rs : List Rgt) (n : Nat) (o3 o4 : Option C), k ≤ nms.length ∧ rem = (nms.map D.str).drop k ∧ ρ = [some (.p 0), some (.d (basD m ss)), some (.p 1), o3, o4] ∧
    st = [box ds n, .lst (rs.map fun x => .d (rgtD x))] ∧ rs.length = k ∧ ∀ i x, rs[i]? = some x → RgtOk ss m i x
  have hl : (nms.map D.str).length = nms.length := by simp
  obtain ⟨ρ', st', e, k, rs, n', o3, o4, hk, hrem, rfl, rfl, hlen, hall⟩ := forL_inv (t := .n 3) (body := R0) P (fun x xs ρ st h => by
    obtain ⟨k, rs, n, o3, o4, hk, hrem, rfl, rfl, hlen, hall⟩ := h
    have hk2 : k < nms.length := by
      rcases Nat.lt_or_ge k nms.length with h | h
      · exact h
      · rw [List.drop_of_length_le (by omega)] at hrem
        cases hrem
    rw [List.drop_eq_getElem_cons (by omega), List.getElem_map] at hrem
    cases hrem
    obtain ⟨s, y, is, n', h1, h2, h3, e⟩ := R0_ok (ds := ds) (n := n) (m := m) (ss := ss) (nm := nms[k]) (o4 := o4) (r := rs.map fun x => .d (rgtD x)) hm hs (by rw [List.length_map]; omega)
    have hnm : (["a", "mill", "farm", "town"] : List PySem.Str)[k]? = some nms[k] := by
      have q : nms[k]? = some nms[k] := List.getElem?_eq_getElem hk2
      generalize nms[k] = z at q
      rw [hn, List.getElem?_take_of_lt hk2] at q
      exact q
    refine ⟨_, _, _, rfl, e, k + 1, rs ++ [⟨nms[k], y.name, is⟩], n', _, _, hk2, rfl, rfl, by rw [List.map_append]; rfl, by rw [List.length_append, hlen]; rfl, fun i z hz => ?_⟩
    rcases Nat.lt_or_ge i rs.length with h | h
    · rw [List.getElem?_append_left h] at hz
      exact hall i z hz
    · rw [List.getElem?_append_right h] at hz
      rcases Nat.lt_or_ge rs.length i with h4 | h4
      · rw [List.getElem?_eq_none (by simp; omega)] at hz
        cases hz
      · have : i = rs.length := by omega
        subst this
        simp at hz
        subst hz
        rw [hlen]
        exact ⟨hnm, ⟨s, y, h1, rfl⟩, h2, h3⟩) (nms.map D.str) [some (.p 0), some (.d (basD m ss)), some (.p 1), none, none] [box ds n, .lst []] ⟨0, [], n, none, none, Nat.zero_le _, rfl, rfl, rfl, rfl, fun i x h => by simp at h⟩
  exact ⟨rs, n', _, ⟨by omega, hall⟩, rfl, e⟩
theorem cut_to (xs : List D) (i : Nat) (h : i ≤ xs.length) : DL.cutD xs none (some (i : Int)) = xs.take i := by
  unfold DL.cutD
  rw [HT.sIx_nat xs.length xs.length i, HT.sIx_none, Nat.min_eq_left h]
  rfl
theorem rights_ok (ds : List Int) (n : Nat) {m : Nat} {ss : List Site} (hm : m ≤ 4) (hs : 0 < ss.length) : ∃ (rs : List Rgt) (n' : Nat), RgsOk ss m rs ∧ phi_lw_rights [.p 0, .d (basD m ss)] [box ds n] = some (.d (.tup (rs.map rgtD)), [box ds n']) := by
  have a := drw_nn (ds := ds) (n := n) (m := 5) (by omega)
  have b := drw_lt (ds := ds) (n := n) (m := 5) (by omega)
  obtain ⟨q, hq⟩ := Int.eq_ofNat_of_zero_le a
  have hq4 : q ≤ 4 := by omega
  let nms := (["a", "mill", "farm", "town"] : List PySem.Str).take q
  have hnl : nms.length = q := by
    show ((["a", "mill", "farm", "town"] : List PySem.Str).take q).length = q
    rw [List.length_take]
    show min q 4 = q
    omega
  obtain ⟨rs, n', ρ', ok, c1, e⟩ := rights_loop (ds := ds) (n := n + 1) (m := m) (ss := ss) (nms := nms) (by rw [hnl]) hm hs (by omega)
  have e0 : DL.cutD [D.str "a", D.str "mill", D.str "farm", D.str "town"] none (some (q : Int)) = nms.map .str := by
    rw [cut_to _ _ (by show q ≤ 4; omega)]
    show List.take q ((["a", "mill", "farm", "town"] : List PySem.Str).map D.str) = _
    rw [← List.map_take]
  refine ⟨rs, n', ok, ?_⟩
  have hG : G_lw_rights [some (.p 0), some (.d (basD m ss)), none, none, none] [box ds n] = some (.rt (.d (.tup (rs.map rgtD))) [box ds n', .lst (rs.map fun x => .d (rgtD x))]) := by
    have hall : allD (rs.map fun x => C.d (rgtD x)) = some (rs.map rgtD) := by
      have := allD_map (rs.map rgtD)
      rwa [List.map_map] at this
    rw [G_rights_eq]
    simp [hq, e0, e, c1, hall]
  unfold phi_lw_rights
  rw [fnD_ev 5 2 G_lw_rights [.p 0, .d (basD m ss)] rfl]
  simp [hG]
end Lw
namespace Lw
open PySem PySem.Spec PyProof.Rows L2 DL
theorem pow1018 : powD (.int 10) (.int 18) = some (.int 1000000000000000000) := rfl
theorem cell_ok (ns : List Int) (k : Nat) : phi_lw_cell [.d (.wls (ns.map .int)), .d (.int (k : Nat))] [] = some (.d (.int (ns.getD k 0)), []) := by
  have hG : G_lw_cell [some (.d (.wls (ns.map .int))), some (.d (.int (k : Nat)))] [] = some (.rt (.d (.int (ns.getD k 0))) []) := by
    unfold G_lw_cell
    by_cases h : k < ns.length
    · simp [ltD, h]
    · have h2 : ns[k]? = none := List.getElem?_eq_none (by omega)
      simp [ltD, h]
  unfold phi_lw_cell
  rw [fnD_ev 2 2 G_lw_cell [.d (.wls (ns.map .int)), .d (.int (k : Nat))] rfl]
  simp [hG]
def dg (ds : List Int) : SO := .lst (ds.map fun i => .d (.int i))
def Q60 : GS := sIf (DL.tB (eOp gtD (eV 5) (eK (.int 0)))) (sSeq (sEx (eApp (eV 3) (eOp modD (eCB DL.intD (aC (eV 5) aN)) (eK (.int 1000)))))
    (sSet 5 (eOp divD (eV 5) (eK (.int 1000))))) sNx
def Q12 : GS := sSeq (sSet 7 (eOp modD (eCB DL.intD (aC (eOp addD (eOp addD (eOp mulD (eV 7) (eK (.int 16807))) (eOp mulD (eK (.int 7)) (eV 6))) (eK (.int 1))) aN)) (eK (.int 2147483647))))
    (sEx (eApp (eV 3) (eOp modD (eCB DL.intD (aC (eOp divD (eV 7) (eK (.int 997))) aN)) (eK (.int 1000)))))
def Q50 : GS := sSeq (sSet 5 (eCall phi_lw_cell (aC (eV 0) (aC (eV 4) aN))))
    (sSeq (sIf (DL.tB (eOp ltD (eV 5) (eK (.int 0)))) (sSet 5 (eOp subD (eK (.int 1)) (eOp mulD (eK (.int 2)) (eV 5)))) sNx)
    (sIf (DL.tB (eOp geD (eV 5) (eOp powD (eK (.int 10)) (eK (.int 18))))) (sFor (.n 6) (iR1 (aC (eK (.int 60)) aN)) Q60) (sSeq (sSet 7 (eOp modD (eCB DL.intD (aC (eOp addD (eOp addD (eOp mulD (eV 5) (eK (.int 48271))) (eOp mulD (eV 4) (eK (.int 69621)))) (eK (.int 11))) aN)) (eK (.int 2147483647))))
    (sFor (.n 6) (iR1 (aC (eK (.int 12)) aN)) Q12))))
theorem G_digits_eq : G_lw_digits = (sSeq (sNew 3 (eLst aN)) (sSeq (sFor (.n 4) (iR2 (aC (eV 1) (aC (eV 2) aN))) Q50) (sRt (eV 3)))) := rfl
theorem rng_int {n : Nat} : ∀ y ∈ rngD 0 n, ∃ k : Nat, y = .int (k : Nat) := fun y h => by
  simp only [rngD, List.mem_map, List.mem_range] at h
  obtain ⟨i, _, rfl⟩ := h
  exact ⟨i, by simp⟩
theorem loop60 {o0 o1 o2 o4 : Option C} (xs : List D) (c : Int) (o6 o7 : Option C) (ds : List Int) (h : ds.length + xs.length < 1000000) :
    ∃ (c' : Int) (o6' o7' : Option C) (ds' : List Int), ds'.length ≤ ds.length + xs.length ∧ forL (.n 6) Q60 xs [o0, o1, o2, some (.p 0), o4, some (.d (.int c)), o6, o7] [dg ds] = some (.nx [o0, o1, o2, some (.p 0), o4, some (.d (.int c')), o6', o7'] [dg ds']) := by
  obtain ⟨ρ', st', e, c', o6', o7', ds', rfl, rfl, hl⟩ := forL_inv (t := .n 6) (body := Q60) (fun rem ρ st => ∃ (c : Int) (o6 o7 : Option C) (ds' : List Int), ρ = [o0, o1, o2, some (.p 0), o4, some (.d (.int c)), o6, o7] ∧ st = [dg ds'] ∧ ds'.length + rem.length ≤ ds.length + xs.length) (fun x rem ρ st q => by
    obtain ⟨c, o6, o7, ds', rfl, rfl, hl⟩ := q
    rw [List.length_cons] at hl
    have hlt : ds'.length < 1000000 := by omega
    by_cases hc : 0 < c
    · refine ⟨_, _, _, rfl, ?_, c / 1000, some (.d x), o7, ds' ++ [c % 1000], rfl, rfl, by rw [List.length_append]; show ds'.length + 1 + _ ≤ _; omega⟩
      unfold Q60
      simp [gtD, modD, divD, hc, dg, hlt]
    · refine ⟨_, _, _, rfl, ?_, c, some (.d x), o7, ds', rfl, rfl, by omega⟩
      unfold Q60
      simp [gtD, hc]) xs _ [dg ds] ⟨c, o6, o7, ds, rfl, rfl, Nat.le_refl _⟩
  exact ⟨c', o6', o7', ds', by simpa using hl, e⟩
theorem loop12 {o0 o1 o2 o4 o5 : Option C} (xs : List D) (hi : ∀ y ∈ xs, ∃ k : Nat, y = .int (k : Nat)) (c : Int) (o6 : Option C) (ds : List Int) (h : ds.length + xs.length < 1000000) :
    ∃ (o6' o7' : Option C) (ds' : List Int), ds'.length ≤ ds.length + xs.length ∧ forL (.n 6) Q12 xs [o0, o1, o2, some (.p 0), o4, o5, o6, some (.d (.int c))] [dg ds] = some (.nx [o0, o1, o2, some (.p 0), o4, o5, o6', o7'] [dg ds']) := by
  obtain ⟨ρ', st', e, c', o6', ds', rfl, rfl, hl, _⟩ := forL_inv (t := .n 6) (body := Q12) (fun rem ρ st => ∃ (c : Int) (o6 : Option C) (ds' : List Int), ρ = [o0, o1, o2, some (.p 0), o4, o5, o6, some (.d (.int c))] ∧ st = [dg ds'] ∧ ds'.length + rem.length ≤ ds.length + xs.length ∧ ∀ y ∈ rem, ∃ k : Nat, y = .int (k : Nat)) (fun x rem ρ st q => by
    obtain ⟨c, o6, ds', rfl, rfl, hl, hy⟩ := q
    rw [List.length_cons] at hl
    obtain ⟨k, rfl⟩ := hy x (by simp)
    have hlt : ds'.length < 1000000 := by omega
    refine ⟨_, _, _, rfl, ?_, (c * 16807 + 7 * (k : Int) + 1) % 2147483647, some (.d (.int k)), ds' ++ [(c * 16807 + 7 * (k : Int) + 1) % 2147483647 / 997 % 1000], rfl, rfl, by rw [List.length_append]; show ds'.length + 1 + _ ≤ _; omega, fun y h => hy y (by simp [h])⟩
    unfold Q12
    simp [modD, divD, dg, hlt]) xs _ [dg ds] ⟨c, o6, ds, rfl, rfl, Nat.le_refl _, hi⟩
  exact ⟨o6', _, ds', by simpa using hl, e⟩
theorem Q50_ok {ns : List Int} {o1 o2 : Option C} (k : Nat) (o5 o6 o7 : Option C) (ds : List Int) (h : ds.length + 60 < 1000000) :
    ∃ (o5' o6' o7' : Option C) (ds' : List Int), ds'.length ≤ ds.length + 60 ∧ Q50 [some (.d (.wls (ns.map .int))), o1, o2, some (.p 0), some (.d (.int (k : Nat))), o5, o6, o7] [dg ds] = some (.nx [some (.d (.wls (ns.map .int))), o1, o2, some (.p 0), some (.d (.int (k : Nat))), o5', o6', o7'] [dg ds']) := by
  have hc := cell_ok ns k
  have l60 : (rngD 0 60).length = 60 := rfl
  have l12 : (rngD 0 12).length = 12 := rfl
  generalize ns.getD k 0 = c at hc
  obtain ⟨d, hd⟩ : ∃ d : Int, d = if c < 0 then 1 - 2 * c else c := ⟨_, rfl⟩
  have e0 : (sIf (DL.tB (eOp ltD (eV 5) (eK (.int 0)))) (sSet 5 (eOp subD (eK (.int 1)) (eOp mulD (eK (.int 2)) (eV 5)))) sNx) [some (.d (.wls (ns.map .int))), o1, o2, some (.p 0), some (.d (.int (k : Nat))), some (.d (.int c)), o6, o7] [dg ds] = some (.nx [some (.d (.wls (ns.map .int))), o1, o2, some (.p 0), some (.d (.int (k : Nat))), some (.d (.int d)), o6, o7] [dg ds]) := by
    by_cases h0 : c < 0
    · rw [if_pos h0] at hd
      simp [ltD, h0, subD, hd]
    · rw [if_neg h0] at hd
      simp [ltD, h0, hd]
  have ec : (sSet 5 (eCall phi_lw_cell (aC (eV 0) (aC (eV 4) aN)))) [some (.d (.wls (ns.map .int))), o1, o2, some (.p 0), some (.d (.int (k : Nat))), o5, o6, o7] [dg ds] = some (.nx [some (.d (.wls (ns.map .int))), o1, o2, some (.p 0), some (.d (.int (k : Nat))), some (.d (.int c)), o6, o7] [dg ds]) := by
    simp [hc]
  by_cases hb : 1000000000000000000 ≤ d
  · obtain ⟨c', o6', o7', ds', hl, e⟩ := loop60 (o0 := some (.d (.wls (ns.map .int)))) (o1 := o1) (o2 := o2) (o4 := some (.d (.int (k : Nat)))) (rngD 0 60) d o6 o7 ds (by omega)
    refine ⟨some (.d (.int c')), o6', o7', ds', by omega, ?_⟩
    unfold Q50
    rw [sSeq_ev, ec, Option.bind_some, seqK_nx, sSeq_ev, e0, Option.bind_some, seqK_nx]
    simp [geD, pow1018, hb, e]
  · obtain ⟨o6', o7', ds', hl, e⟩ := loop12 (o0 := some (.d (.wls (ns.map .int)))) (o1 := o1) (o2 := o2) (o4 := some (.d (.int (k : Nat)))) (o5 := some (.d (.int d))) (rngD 0 12) rng_int ((d * 48271 + (k : Int) * 69621 + 11) % 2147483647) o6 ds (by omega)
    refine ⟨some (.d (.int d)), o6', o7', ds', by omega, ?_⟩
    unfold Q50
    rw [sSeq_ev, ec, Option.bind_some, seqK_nx, sSeq_ev, e0, Option.bind_some, seqK_nx]
    simp [geD, pow1018, hb, modD, e]
theorem digits_ok (ns : List Int) : ∃ ds : List Int, phi_lw_digits [.d (.wls (ns.map .int)), .d (.int 0), .d (.int 50)] [] = some (.d (.lst (ds.map .int)), []) := by
  have l50 : (rngD 0 50).length = 50 := rfl
  obtain ⟨ρ', st', e, o4, o5, o6, o7, ds', rfl, rfl, hl, _⟩ := forL_inv (t := .n 4) (body := Q50) (fun rem ρ st => ∃ (o4 o5 o6 o7 : Option C) (ds' : List Int), ρ = [some (.d (.wls (ns.map .int))), some (.d (.int 0)), some (.d (.int 50)), some (.p 0), o4, o5, o6, o7] ∧ st = [dg ds'] ∧ ds'.length + 60 * rem.length ≤ 3000 ∧ ∀ y ∈ rem, ∃ k : Nat, y = .int (k : Nat)) (fun x rem ρ st q => by
    obtain ⟨o4, o5, o6, o7, ds', rfl, rfl, hl, hy⟩ := q
    rw [List.length_cons] at hl
    obtain ⟨k, rfl⟩ := hy x (by simp)
    obtain ⟨o5', o6', o7', ds2, hl2, e⟩ := Q50_ok (ns := ns) (o1 := some (.d (.int 0))) (o2 := some (.d (.int 50))) k o5 o6 o7 ds' (by omega)
    exact ⟨_, _, _, rfl, e, _, _, _, _, ds2, rfl, rfl, by omega, fun y h => hy y (by simp [h])⟩) (rngD 0 50) [some (.d (.wls (ns.map .int))), some (.d (.int 0)), some (.d (.int 50)), some (.p 0), none, none, none, none] [dg []] ⟨none, none, none, none, [], rfl, rfl, by rw [l50]; decide, rng_int⟩
  refine ⟨ds', ?_⟩
  have hG : G_lw_digits [some (.d (.wls (ns.map .int))), some (.d (.int 0)), some (.d (.int 50)), none, none, none, none, none] [] = some (.rt (.p 0) [dg ds']) := by
    rw [G_digits_eq]
    have e1 : (SO.lst []) = dg [] := rfl
    simp [e1, e]
  have hf : frz 4 (.p 0) [dg ds'] = some (.lst (ds'.map .int), [.fro (.lst (ds'.map .int))]) := by
    rw [frz_lst (ds := ds'.map .int) (by simp [dg])]
    rfl
  unfold phi_lw_digits
  rw [fnD_ev 8 3 G_lw_digits [.d (.wls (ns.map .int)), .d (.int 0), .d (.int 50)] rfl]
  simp [hG, fin_p, hf]
end Lw
namespace Lw
open PySem PySem.Spec PyProof.Rows L2 DL
def sn (i : Int) : PySem.Str := toString i
theorem str_ok {i : Int} (h : 0 ≤ i) (h2 : i ≤ 99) : strD [.int i] = some (.str (sn i)) := by
  obtain ⟨k, rfl⟩ := Int.eq_ofNat_of_zero_le h
  have hk : k < 100 := by omega
  have : k.log2 < 1920 := by
    have : ∀ j < 100, Nat.log2 j < 1920 := by decide +kernel
    exact this k hk
  rw [str_int, Int.natAbs_natCast, if_pos this]
  rfl
theorem sn_len {i : Int} (h : 0 ≤ i) (h2 : i ≤ 99) : (sn i).length ≤ 2 := by
  obtain ⟨k, rfl⟩ := Int.eq_ofNat_of_zero_le h
  have : ∀ j < 100, (sn ((j : Nat) : Int)).length ≤ 2 := by decide +kernel
  exact this k (by omega)
theorem lc_str {ρ : DL.Env} {k : Nat} (hk : k < ρ.length) {st : Sto} {is : List Int} (h : ∀ a ∈ is, 0 ≤ a ∧ a ≤ 99) (hl : is.length ≤ 1000) :
    lcL (.n k) gYes (eCB strD (aC (eV k) aN)) ρ (is.map .int) st [] = some ((is.map sn).map .str, st) := by
  have := lcL_map (ρ := ρ) (st := st) (.n k) (eCB strD (aC (eV k) aN)) (fun d => match d with | .int i => .str (sn i) | _ => .non) (fun d => ∃ i, d = .int i ∧ 0 ≤ i ∧ i ≤ 99) (fun x hx => by
    obtain ⟨i, rfl, h1, h2⟩ := hx
    refine ⟨_, .d (.str (sn i)), rfl, ?_, rfl⟩
    simp [str_ok h1 h2, hk]) (is.map .int) [] (fun x hx => by
      obtain ⟨i, hi, rfl⟩ := List.mem_map.mp hx
      exact ⟨i, rfl, h i hi⟩) (by simp; omega)
  rw [this]
  simp
def psTo (x : Site) : List PySem.Str := match x.nxt with
  | none => []
  | some y => ((["to", y] : List PySem.Str) ++ (if 0 < x.trav then (["in", sn x.trav] : List PySem.Str) else [])) ++ (match x.reach with | none => [] | some r => (["reach", sn r] : List PySem.Str))
/-- what stands ahead of the flow -/
def psHead (x : Site) : List PySem.Str := (["site", x.name] : List PySem.Str) ++ psTo x ++ (if 0 < x.room then (["room", sn x.room] : List PySem.Str) else []) ++ (if 0 < x.held then (["held", sn x.held] : List PySem.Str) else [])
def ps (x : Site) : List PySem.Str := psHead x ++ (["flow"] : List PySem.Str) ++ x.ins.map sn
def psR (x : Rgt) : List PySem.Str := (["right", x.name, "at", x.site, "wants"] : List PySem.Str) ++ x.wants.map sn
def lineS (x : Site) : PySem.Str := Txt.join " " (ps x)
def lineR (x : Rgt) : PySem.Str := Txt.join " " (psR x)
/-- what is known of a site by itself -/
structure Own (x : Site) : Prop where
  name : x.name ∈ names4
  nxt : ∀ y, x.nxt = some y → y ∈ names4
  trav : 0 ≤ x.trav ∧ x.trav ≤ 2
  tr0 : x.nxt = none → x.trav = 0
  reach : ∀ r, x.reach = some r → 0 ≤ r ∧ r ≤ 99
  re0 : x.nxt = none → x.reach = none
  room : 0 ≤ x.room ∧ x.room ≤ 99
  held : 0 ≤ x.held ∧ x.held ≤ 99
  ins : (1 ≤ x.ins.length ∧ x.ins.length ≤ 4) ∧ ∀ a ∈ x.ins, 0 ≤ a ∧ a ≤ 99
structure OwnR (x : Rgt) : Prop where
  name : x.name ∈ (["a", "mill", "farm", "town"] : List PySem.Str)
  site : x.site ∈ names4
  wants : (1 ≤ x.wants.length ∧ x.wants.length ≤ 4) ∧ ∀ a ∈ x.wants, 0 ≤ a ∧ a ≤ 99
theorem nm_len {y : PySem.Str} (h : y ∈ names4) : y.length ≤ 100 := by
  have : ∀ y ∈ names4, y.length ≤ 100 := by decide +kernel
  exact this y h
theorem sn_len' {i : Int} (h : 0 ≤ i ∧ i ≤ 99) : (sn i).length ≤ 100 := Nat.le_trans (sn_len h.1 h.2) (by decide)
theorem ps_len {x : Site} (o : Own x) : (∀ y ∈ ps x, y.length ≤ 100) ∧ (ps x).length ≤ 1000 := by
  have w : ∀ y ∈ (["site", "to", "in", "reach", "room", "held", "flow"] : List PySem.Str), y.length ≤ 100 := by decide +kernel
  have hi := o.ins
  obtain ⟨nm, nx, tr, re, rm, hd, is⟩ := x
  constructor
  · intro y hy
    simp only [ps, psHead, psTo, List.mem_append, List.mem_map] at hy
    rcases hy with ((((hy | hy) | hy) | hy) | hy) | ⟨a, ha, rfl⟩
    · simp at hy
      rcases hy with rfl | rfl
      · exact w _ (by simp)
      · exact nm_len o.name
    · cases nx with
      | none => simp at hy
      | some z =>
        simp only [List.mem_append] at hy
        rcases hy with (hy | hy) | hy
        · simp at hy
          rcases hy with rfl | rfl
          · exact w _ (by simp)
          · exact nm_len (o.nxt _ rfl)
        · split at hy
          · simp at hy
            rcases hy with rfl | rfl
            · exact w _ (by simp)
            · exact sn_len' ⟨o.trav.1, Int.le_trans o.trav.2 (by decide)⟩
          · simp at hy
        · cases re with
          | none => simp at hy
          | some r =>
            simp at hy
            rcases hy with rfl | rfl
            · exact w _ (by simp)
            · exact sn_len' (o.reach _ rfl)
    · split at hy
      · simp at hy
        rcases hy with rfl | rfl
        · exact w _ (by simp)
        · exact sn_len' o.room
      · simp at hy
    · split at hy
      · simp at hy
        rcases hy with rfl | rfl
        · exact w _ (by simp)
        · exact sn_len' o.held
      · simp at hy
    · simp at hy
      rw [hy]
      exact w _ (by simp)
    · exact sn_len' (hi.2 a ha)
  · have h4 : is.length ≤ 4 := hi.1.2
    have e1 : (psTo ⟨nm, nx, tr, re, rm, hd, is⟩).length ≤ 6 := by
      unfold psTo
      cases nx with
      | none => simp
      | some z => cases re <;> simp <;> split <;> simp
    simp only [ps, psHead, List.length_append, List.length_map]
    have e2 : (if 0 < rm then (["room", sn rm] : List PySem.Str) else []).length ≤ 2 := by split <;> simp
    have e3 : (if 0 < hd then (["held", sn hd] : List PySem.Str) else []).length ≤ 2 := by split <;> simp
    simp only [List.length_cons, List.length_nil]
    omega
theorem psR_len {x : Rgt} (o : OwnR x) : (∀ y ∈ psR x, y.length ≤ 100) ∧ (psR x).length ≤ 1000 := by
  have w : ∀ y ∈ (["right", "at", "wants", "a", "mill", "farm", "town"] : List PySem.Str), y.length ≤ 100 := by decide +kernel
  have hi := o.wants
  constructor
  · intro y hy
    simp only [psR, List.mem_append, List.mem_map] at hy
    rcases hy with hy | ⟨a, ha, rfl⟩
    · simp at hy
      rcases hy with rfl | rfl | rfl | rfl | rfl
      · exact w _ (by simp)
      · have := o.name
        simp at this
        exact w _ (by simp [this])
      · exact w _ (by simp)
      · exact nm_len o.site
      · exact w _ (by simp)
    · exact sn_len' (hi.2 a ha)
  · simp [psR]
    omega
theorem allD_sn (is : List Int) : allD (is.map (C.d ∘ D.str ∘ sn)) = some (is.map (D.str ∘ sn)) := by
  have := allD_map (is.map (D.str ∘ sn))
  rwa [List.map_map] at this
theorem site_line_ok {x : Site} (o : Own x) : phi_site_line [.d (siteD x)] [] = some (.d (.str (lineS x)), []) := by
  have hl := ps_len o
  have hj := join_ok (a := (" " : PySem.Str)) (ys := ps x) (by decide) hl.1 hl.2
  have hG : ∃ st, G_site_line [some (.d (siteD x)), none, none, none, none, none, none, none, none, none] [] = some (.rt (.d (.str (lineS x))) st) := by
    obtain ⟨nm, nx, tr, re, rm, hd, is⟩ := x
    have hi : is.length ≤ 1000 := Nat.le_trans o.ins.1.2 (by decide)
    have hi6 : ∀ c, c ≤ 20 → c + is.length < 1000000 := fun c hc => by omega
    have lc : ∀ (ρ : DL.Env) (st : Sto), 9 < ρ.length → lcL (.n 9) gYes (eCB strD (aC (eV 9) aN)) ρ (is.map .int) st [] = some ((is.map sn).map .str, st) := fun ρ st hk => lc_str hk o.ins.2 hi
    have hr := str_ok o.room.1 o.room.2
    have hh := str_ok o.held.1 o.held.2
    have ht := str_ok o.trav.1 (Int.le_trans o.trav.2 (by decide))
    cases nx with
    | none =>
      have := o.tr0 rfl
      have := o.re0 rfl
      simp only at *
      subst tr re
      by_cases h1 : 0 < rm <;> by_cases h2 : 0 < hd <;>
        simp [G_site_line, siteD, oS, oN', gtD, h1, h2, hr, hh, lc, hi6, allD_sn, allD_append, ps, psHead, psTo, lineS] at hj ⊢ <;> simp [hj]
    | some z =>
      cases re with
      | none =>
        by_cases h0 : 0 < tr <;> by_cases h1 : 0 < rm <;> by_cases h2 : 0 < hd <;>
          simp [G_site_line, siteD, oS, oN', gtD, h0, h1, h2, hr, hh, ht, lc, hi6, allD_sn, allD_append, ps, psHead, psTo, lineS] at hj ⊢ <;> simp [hj]
      | some r =>
        have hrr := str_ok (o.reach r rfl).1 (o.reach r rfl).2
        by_cases h0 : 0 < tr <;> by_cases h1 : 0 < rm <;> by_cases h2 : 0 < hd <;>
          simp [G_site_line, siteD, oS, oN', gtD, h0, h1, h2, hr, hh, ht, hrr, lc, hi6, allD_sn, allD_append, ps, psHead, psTo, lineS] at hj ⊢ <;> simp [hj]
  obtain ⟨st, hG⟩ := hG
  unfold phi_site_line
  rw [fnD_ev 10 1 G_site_line [.d (siteD x)] rfl]
  simp [hG]
end Lw
namespace Lw
open PySem PySem.Spec PyProof.Rows L2 DL
theorem right_line_ok {x : Rgt} (o : OwnR x) : phi_right_line [.d (rgtD x)] [] = some (.d (.str (lineR x)), []) := by
  have hl := psR_len o
  have hj := join_ok (a := (" " : PySem.Str)) (ys := psR x) (by decide) hl.1 hl.2
  have hG : ∃ st, G_right_line [some (.d (rgtD x)), none, none, none, none, none] [] = some (.rt (.d (.str (lineR x))) st) := by
    obtain ⟨nm, pl, is⟩ := x
    have hi : is.length ≤ 1000 := Nat.le_trans o.wants.1.2 (by decide)
    have hi6 : ∀ c, c ≤ 20 → c + is.length < 1000000 := fun c hc => by omega
    have lc : ∀ (ρ : DL.Env) (st : Sto), 5 < ρ.length → lcL (.n 5) gYes (eCB strD (aC (eV 5) aN)) ρ (is.map .int) st [] = some ((is.map sn).map .str, st) := fun ρ st hk => lc_str hk o.wants.2 hi
    simp [G_right_line, rgtD, lc, hi6, allD_sn, allD_append, psR, lineR] at hj ⊢
    simp [hj]
  obtain ⟨st, hG⟩ := hG
  unfold phi_right_line
  rw [fnD_ev 6 1 G_right_line [.d (rgtD x)] rfl]
  simp [hG]
def lines (ss : List Site) (rs : List Rgt) : List PySem.Str := ss.map lineS ++ rs.map lineR
def text (ss : List Site) (rs : List Rgt) : PySem.Str := Txt.join "\n" (lines ss rs)
theorem allD_strs (ys : List PySem.Str) : allD (ys.map fun y => C.d (D.str y)) = some (ys.map .str) := by
  have := allD_map (ys.map D.str)
  rwa [List.map_map] at this
theorem joined_len : ∀ (ys : List PySem.Str), (∀ y ∈ ys, y.length ≤ 100) → (Txt.join (" " : PySem.Str) ys).length ≤ 101 * ys.length := fun ys h => by
  rw [TL.join_eq, TL.len_tl, TL.tl_join]
  have e : TL.tl (" " : PySem.Str) = [32] := by decide +kernel
  rw [e]
  induction ys with
  | nil => simp [TL.joinL]
  | cons y ys ih =>
    have h1 := h y (by simp)
    rw [TL.len_tl] at h1
    have ih := ih fun z hz => h z (by simp [hz])
    cases ys with
    | nil => simp only [List.map_cons, List.map_nil, TL.joinL, List.length_cons, List.length_nil]; omega
    | cons z ys =>
      simp only [List.map_cons, TL.joinL, List.length_append, List.length_cons, List.length_nil] at ih ⊢
      omega
theorem lineS_len {x : Site} (o : Own x) : (lineS x).length ≤ 101000 := by
  have h := ps_len o
  have := joined_len (ps x) h.1
  unfold lineS
  have h2 := h.2
  omega
theorem lineR_len {x : Rgt} (o : OwnR x) : (lineR x).length ≤ 101000 := by
  have h := psR_len o
  have := joined_len (psR x) h.1
  unfold lineR
  have h2 := h.2
  omega
theorem sum_len2 (b : Nat) : ∀ (ys : List PySem.Str), (∀ y ∈ ys, y.length ≤ b) → (ys.map (·.length)).sum ≤ b * ys.length
  | [], _ => by simp
  | y :: ys, h => by
    have := sum_len2 b ys fun z hz => h z (by simp [hz])
    have h2 := h y (by simp)
    simp only [List.map_cons, List.sum_cons, List.length_cons, Nat.mul_add]
    omega
theorem join_lines {ys : List PySem.Str} (h : ∀ y ∈ ys, y.length ≤ 101000) (hl : ys.length ≤ 8) : joinD [.str "\n", .lst (ys.map .str)] = some (.str (Txt.join "\n" ys)) := by
  show (strsOf (ys.map .str)).bind _ = _
  rw [strsOf_map]
  have := sum_len2 101000 ys h
  have h3 : ys.length * (Str.ofString "\n").length = ys.length * 1 := rfl
  exact if_pos (by omega)
theorem basin_text_ok {m : Nat} {ss : List Site} {rs : List Rgt} (hs : ∀ x ∈ ss, Own x) (hr : ∀ x ∈ rs, OwnR x) (ls : ss.length ≤ 4) (lr : rs.length ≤ 4) :
    phi_basin_text [.d (basD m ss), .d (.tup (rs.map rgtD))] [] = some (.d (.str (text ss rs)), []) := by
  have hj := join_lines (ys := lines ss rs) (fun y hy => by
    rcases List.mem_append.mp hy with h | h <;> obtain ⟨x, hx, rfl⟩ := List.mem_map.mp h
    · exact lineS_len (hs x hx)
    · exact lineR_len (hr x hx)) (by unfold lines; rw [List.length_append, List.length_map, List.length_map]; omega)
  have l1 : ∀ (ρ : DL.Env) (st : Sto), 3 < ρ.length → lcL (.n 3) gYes (eCall phi_site_line (aC (eV 3) aN)) ρ (ss.map siteD) st [] = some (ss.map fun x => .str (lineS x), st) := fun ρ st hk => by
    have := lcL_mp (ρ := ρ) (st := st) (.n 3) (eCall phi_site_line (aC (eV 3) aN)) siteD (fun x => .str (lineS x)) ss [] (fun x hx => ⟨_, .d (.str (lineS x)), rfl, by simp [hk, site_line_ok (hs x hx)], rfl⟩) (by simp; omega)
    simpa using this
  have l2 : ∀ (ρ : DL.Env) (st : Sto), 4 < ρ.length → lcL (.n 4) gYes (eCall phi_right_line (aC (eV 4) aN)) ρ (rs.map rgtD) st [] = some (rs.map fun x => .str (lineR x), st) := fun ρ st hk => by
    have := lcL_mp (ρ := ρ) (st := st) (.n 4) (eCall phi_right_line (aC (eV 4) aN)) rgtD (fun x => .str (lineR x)) rs [] (fun x hx => ⟨_, .d (.str (lineR x)), rfl, by simp [hk, right_line_ok (hr x hx)], rfl⟩) (by simp; omega)
    simpa using this
  have a1 : allD (ss.map (C.d ∘ fun x => D.str (lineS x))) = some (ss.map fun x => D.str (lineS x)) := by
    have := allD_map (ss.map fun x => D.str (lineS x))
    rwa [List.map_map] at this
  have a2 : allD (rs.map (C.d ∘ fun x => D.str (lineR x))) = some (rs.map fun x => D.str (lineR x)) := by
    have := allD_map (rs.map fun x => D.str (lineR x))
    rwa [List.map_map] at this
  have ll : ss.length + rs.length < 1000000 := by omega
  have hj2 : joinD [.str "\n", .lst ((ss.map fun x => D.str (lineS x)) ++ (rs.map fun x => D.str (lineR x)))] = some (.str (text ss rs)) := by
    have e : (lines ss rs).map D.str = (ss.map fun x => D.str (lineS x)) ++ (rs.map fun x => D.str (lineR x)) := by
      unfold lines
      rw [List.map_append, List.map_map, List.map_map]
      rfl
    rw [← e]
    exact hj
  have hG : ∃ st, G_basin_text [some (.d (basD m ss)), some (.d (.tup (rs.map rgtD))), none, none, none] [] = some (.rt (.d (.str (text ss rs))) st) := by
    simp [G_basin_text, basD, l1, l2, a1, a2, ll, allD_append, hj2]
  obtain ⟨st, hG⟩ := hG
  unfold phi_basin_text
  rw [fnD_ev 5 2 G_basin_text [.d (basD m ss), .d (.tup (rs.map rgtD))] rfl]
  simp [hG]
/-! ### the law's own text -/
def T1 : GS := sSeq (sSet 10 (eOp addD (eK (.str "site ")) (eV 3)))
    (sSeq (sIf (DL.tB (eOp (isND true) (eV 4) (eK .non))) (sSeq (sSet 10 (eOp addD (eOp addD (eV 10) (eK (.str " to "))) (eV 4)))
    (sSeq (sIf (DL.tB (eOp gtD (eV 5) (eK (.int 0)))) (sSet 10 (eOp addD (eOp addD (eV 10) (eK (.str " in "))) (eCB strD (aC (eV 5) aN)))) sNx)
    (sIf (DL.tB (eOp (isND true) (eV 6) (eK .non))) (sSet 10 (eOp addD (eOp addD (eV 10) (eK (.str " reach "))) (eCB strD (aC (eV 6) aN)))) sNx))) sNx)
    (sSeq (sIf (DL.tB (eOp gtD (eV 7) (eK (.int 0)))) (sSet 10 (eOp addD (eOp addD (eV 10) (eK (.str " room "))) (eCB strD (aC (eV 7) aN)))) sNx)
    (sSeq (sIf (DL.tB (eOp gtD (eV 8) (eK (.int 0)))) (sSet 10 (eOp addD (eOp addD (eV 10) (eK (.str " held "))) (eCB strD (aC (eV 8) aN)))) sNx)
    (sEx (eApp (eV 2) (eOp addD (eOp addD (eV 10) (eK (.str " flow "))) (eM1 joinD (eK (.str " ")) (eLc [11] (.n 11) (iV (eV 9)) gYes (eCB strD (aC (eV 11) aN))))))))))
def T2 : GS := sEx (eApp (eV 2) (eOp addD (eOp addD (eOp addD (eOp addD (eOp addD (eK (.str "right ")) (eV 3)) (eK (.str " at "))) (eV 12)) (eK (.str " wants "))) (eM1 joinD (eK (.str " ")) (eLc [11] (.n 11) (iV (eV 13)) gYes (eCB strD (aC (eV 11) aN))))))
theorem G_text_eq : G_lw_text = (sSeq (sNew 2 (eLst aN)) (sSeq (sFor (.t [3, 4, 5, 6, 7, 8, 9]) (iV (eOp ixD (eV 0) (eK (.int 1)))) T1) (sSeq (sFor (.t [3, 12, 13]) (iV (eV 1)) T2) (sRt (eM1 joinD (eK (.str "\n")) (eV 2)))))) := rfl
def J (is : List Int) : PySem.Str := Txt.join " " (is.map sn)
theorem tl_J {i : Int} {is : List Int} : TL.tl (J (i :: is)) = TL.joinL [32] (TL.tl (sn i) :: (is.map sn).map TL.tl) := by
  unfold J
  rw [TL.join_eq, TL.tl_join]
  rfl
theorem J_len {is : List Int} (h : ∀ a ∈ is, 0 ≤ a ∧ a ≤ 99) (hl : is.length ≤ 4) : (J is).length ≤ 404 := by
  have := joined_len (is.map sn) (fun y hy => by
    obtain ⟨i, hi, rfl⟩ := List.mem_map.mp hy
    exact sn_len' (h i hi))
  unfold J
  rw [List.length_map] at this
  omega
end Lw
namespace Lw
open PySem PySem.Spec PyProof.Rows L2 DL
theorem w1 : TL.tl (Str.ofString "site ") = TL.tl (Str.ofString "site") ++ [32] := by decide +kernel
theorem w2 : TL.tl (Str.ofString " to ") = [32] ++ (TL.tl (Str.ofString "to") ++ [32]) := by decide +kernel
theorem w3 : TL.tl (Str.ofString " in ") = [32] ++ (TL.tl (Str.ofString "in") ++ [32]) := by decide +kernel
theorem w4 : TL.tl (Str.ofString " reach ") = [32] ++ (TL.tl (Str.ofString "reach") ++ [32]) := by decide +kernel
theorem w5 : TL.tl (Str.ofString " room ") = [32] ++ (TL.tl (Str.ofString "room") ++ [32]) := by decide +kernel
theorem w6 : TL.tl (Str.ofString " held ") = [32] ++ (TL.tl (Str.ofString "held") ++ [32]) := by decide +kernel
theorem w7 : TL.tl (Str.ofString " flow ") = [32] ++ (TL.tl (Str.ofString "flow") ++ [32]) := by decide +kernel
theorem w8 : TL.tl (Str.ofString "right ") = TL.tl (Str.ofString "right") ++ [32] := by decide +kernel
theorem w9 : TL.tl (Str.ofString " at ") = [32] ++ (TL.tl (Str.ofString "at") ++ [32]) := by decide +kernel
theorem w10 : TL.tl (Str.ofString " wants ") = [32] ++ (TL.tl (Str.ofString "wants") ++ [32]) := by decide +kernel
theorem w0 : TL.tl (Str.ofString " ") = [32] := by decide +kernel
theorem tl_line {ys : List PySem.Str} : TL.tl (Txt.join (Str.ofString " ") ys) = TL.joinL [32] (ys.map TL.tl) := by
  rw [TL.join_eq, TL.tl_join, w0]
theorem joinL2 (S p q : List Nat) (r : List (List Nat)) : TL.joinL S (p :: q :: r) = p ++ (S ++ TL.joinL S (q :: r)) := rfl
theorem lw : (Str.ofString "site ").length = 5 ∧ (Str.ofString " to ").length = 4 ∧ (Str.ofString " in ").length = 4 ∧ (Str.ofString " reach ").length = 7 ∧ (Str.ofString " room ").length = 6 ∧ (Str.ofString " held ").length = 6 ∧ (Str.ofString " flow ").length = 6 ∧ (Str.ofString "right ").length = 6 ∧ (Str.ofString " at ").length = 4 ∧ (Str.ofString " wants ").length = 7 := by decide +kernel
def pre0 (x : Site) : PySem.Str := Str.ofString "site " ++ x.name
def preIn (x : Site) (a : PySem.Str) : PySem.Str := if 0 < x.trav then a ++ Str.ofString " in " ++ sn x.trav else a
def preRe (x : Site) (a : PySem.Str) : PySem.Str := match x.reach with
  | none => a
  | some r => a ++ Str.ofString " reach " ++ sn r
def preTo (x : Site) : PySem.Str := match x.nxt with
  | none => pre0 x
  | some y => preRe x (preIn x (pre0 x ++ Str.ofString " to " ++ y))
def preRoom (x : Site) (a : PySem.Str) : PySem.Str := if 0 < x.room then a ++ Str.ofString " room " ++ sn x.room else a
def preHeld (x : Site) (a : PySem.Str) : PySem.Str := if 0 < x.held then a ++ Str.ofString " held " ++ sn x.held else a
def pre (x : Site) : PySem.Str := preHeld x (preRoom x (preTo x))
theorem pre_line {x : Site} (h : 1 ≤ x.ins.length) : pre x ++ Str.ofString " flow " ++ J x.ins = lineS x := by
  obtain ⟨nm, nx, tr, re, rm, hd, is⟩ := x
  obtain ⟨i, is, rfl⟩ : ∃ i is', is = i :: is' := by
    cases is with
    | nil => exact absurd h (by simp)
    | cons i is' => exact ⟨i, is', rfl⟩
  refine TL.ext_tl ?_
  show TL.tl (pre ⟨nm, nx, tr, re, rm, hd, i :: is⟩ ++ Str.ofString " flow " ++ J (i :: is)) = TL.tl (Txt.join (Str.ofString " ") (ps ⟨nm, nx, tr, re, rm, hd, i :: is⟩))
  have hJ := tl_J (i := i) (is := is)
  rw [tl_line, TL.tl_append, TL.tl_append, hJ]
  cases nx with
  | none =>
    by_cases h1 : 0 < rm <;> by_cases h2 : 0 < hd <;>
      simp [pre, preHeld, preRoom, preTo, pre0, ps, psHead, psTo, h1, h2, joinL2, TL.tl_append, w1, w5, w6, w7, -Array.toList_append]
  | some z =>
    cases re with
    | none =>
      by_cases h0 : 0 < tr <;> by_cases h1 : 0 < rm <;> by_cases h2 : 0 < hd <;>
        simp [pre, preHeld, preRoom, preTo, preIn, preRe, pre0, ps, psHead, psTo, h0, h1, h2, joinL2, TL.tl_append, w1, w2, w3, w4, w5, w6, w7]
    | some r =>
      by_cases h0 : 0 < tr <;> by_cases h1 : 0 < rm <;> by_cases h2 : 0 < hd <;>
        simp [pre, preHeld, preRoom, preTo, preIn, preRe, pre0, ps, psHead, psTo, h0, h1, h2, joinL2, TL.tl_append, w1, w2, w3, w4, w5, w6, w7]
set_option maxHeartbeats 4000000 in
theorem T1_ok {x : Site} (o : Own x) {b r o10 o11 o12 o13 : Option C} {cs : List C} (hc : cs.length < 1000000) :
    T1 [b, r, some (.p 0), some (.d (.str x.name)), some (.d (oS x.nxt)), some (.d (.int x.trav)), some (.d (oN' x.reach)), some (.d (.int x.room)), some (.d (.int x.held)), some (.d (.tup (x.ins.map .int))), o10, o11, o12, o13] [.lst cs]
      = some (.nx [b, r, some (.p 0), some (.d (.str x.name)), some (.d (oS x.nxt)), some (.d (.int x.trav)), some (.d (oN' x.reach)), some (.d (.int x.room)), some (.d (.int x.held)), some (.d (.tup (x.ins.map .int))), some (.d (.str (pre x))), o11, o12, o13] [.lst (cs ++ [.d (.str (lineS x))])]) := by
  obtain ⟨nm, nx, tr, re, rm, hd, is⟩ := x
  have hi : is.length ≤ 1000 := Nat.le_trans o.ins.1.2 (by decide)
  have hJl := J_len o.ins.2 o.ins.1.2
  have hj : joinD [.str " ", .lst ((is.map sn).map .str)] = some (.str (J is)) := join_ok (by decide) (fun y hy => by
    obtain ⟨i, hi, rfl⟩ := List.mem_map.mp hy
    exact sn_len' (o.ins.2 i hi)) (by simpa using hi)
  have hj2 : joinD [.str " ", .lst (is.map (D.str ∘ sn))] = some (.str (J is)) := by
    rw [List.map_map] at hj
    exact hj
  have lc : ∀ (ρ : DL.Env) (st : Sto), 11 < ρ.length → lcL (.n 11) gYes (eCB strD (aC (eV 11) aN)) ρ (is.map .int) st [] = some ((is.map sn).map .str, st) := fun ρ st hk => lc_str hk o.ins.2 hi
  have hr := str_ok o.room.1 o.room.2
  have hh := str_ok o.held.1 o.held.2
  have ht := str_ok o.trav.1 (Int.le_trans o.trav.2 (by decide))
  have n1 := nm_len o.name
  have n2 := sn_len' o.room
  have n3 := sn_len' o.held
  have n4 := sn_len' (i := tr) ⟨o.trav.1, Int.le_trans o.trav.2 (by decide)⟩
  obtain ⟨q1, q2, q3, q4, q5, q6, q7, _, _, _⟩ := lw
  have hline := pre_line (x := ⟨nm, nx, tr, re, rm, hd, is⟩) o.ins.1.1
  rw [← hline]
  simp only at n1 n2 n3 n4 hr hh ht
  generalize J is = jj at *
  cases nx with
  | none =>
    have := o.tr0 rfl
    have := o.re0 rfl
    simp only at *
    subst tr re
    by_cases h1 : 0 < rm <;> by_cases h2 : 0 < hd <;> unfold T1 <;>
      simp (disch := first | ((try simp only [len_app]); omega) | simp) [-add_ss, add_s, oS, oN', gtD, h1, h2, hr, hh, lc, hj2, hc, pre, preHeld, preRoom, preTo, pre0]
  | some z =>
    have n5 := nm_len (o.nxt z rfl)
    cases re with
    | none =>
      by_cases h0 : 0 < tr <;> by_cases h1 : 0 < rm <;> by_cases h2 : 0 < hd <;> unfold T1 <;>
        simp (disch := first | ((try simp only [len_app]); omega) | simp) [-add_ss, add_s, oS, oN', gtD, h0, h1, h2, hr, hh, ht, lc, hj2, hc, pre, preHeld, preRoom, preTo, preIn, preRe, pre0]
    | some r =>
      have n6 := sn_len' (o.reach r rfl)
      have hrr := str_ok (o.reach r rfl).1 (o.reach r rfl).2
      by_cases h0 : 0 < tr <;> by_cases h1 : 0 < rm <;> by_cases h2 : 0 < hd <;> unfold T1 <;>
        simp (disch := first | ((try simp only [len_app]); omega) | simp) [-add_ss, add_s, oS, oN', gtD, h0, h1, h2, hr, hh, ht, hrr, lc, hj2, hc, pre, preHeld, preRoom, preTo, preIn, preRe, pre0]
theorem right_line_eq {x : Rgt} (h : 1 ≤ x.wants.length) : Str.ofString "right " ++ x.name ++ Str.ofString " at " ++ x.site ++ Str.ofString " wants " ++ J x.wants = lineR x := by
  obtain ⟨nm, pl, is⟩ := x
  obtain ⟨i, is, rfl⟩ : ∃ i is', is = i :: is' := by
    cases is with
    | nil => exact absurd h (by simp)
    | cons i is' => exact ⟨i, is', rfl⟩
  refine TL.ext_tl ?_
  show TL.tl (Str.ofString "right " ++ nm ++ Str.ofString " at " ++ pl ++ Str.ofString " wants " ++ J (i :: is)) = TL.tl (Txt.join (Str.ofString " ") (psR ⟨nm, pl, i :: is⟩))
  have hJ := tl_J (i := i) (is := is)
  rw [tl_line, TL.tl_append, hJ]
  simp [psR, joinL2, TL.tl_append, w8, w9, w10]
theorem rn_len {x : Rgt} (o : OwnR x) : x.name.length ≤ 100 := by
  have : ∀ y ∈ (["a", "mill", "farm", "town"] : List PySem.Str), y.length ≤ 100 := by decide +kernel
  exact this _ o.name
theorem T2_ok {x : Rgt} (o : OwnR x) {b r o4 o5 o6 o7 o8 o9 o10 o11 : Option C} {cs : List C} (hc : cs.length < 1000000) :
    T2 [b, r, some (.p 0), some (.d (.str x.name)), o4, o5, o6, o7, o8, o9, o10, o11, some (.d (.str x.site)), some (.d (.tup (x.wants.map .int)))] [.lst cs]
      = some (.nx [b, r, some (.p 0), some (.d (.str x.name)), o4, o5, o6, o7, o8, o9, o10, o11, some (.d (.str x.site)), some (.d (.tup (x.wants.map .int)))] [.lst (cs ++ [.d (.str (lineR x))])]) := by
  obtain ⟨nm, pl, is⟩ := x
  have hi : is.length ≤ 1000 := Nat.le_trans o.wants.1.2 (by decide)
  have hJl := J_len o.wants.2 o.wants.1.2
  have hj : joinD [.str " ", .lst ((is.map sn).map .str)] = some (.str (J is)) := join_ok (by decide) (fun y hy => by
    obtain ⟨i, hi, rfl⟩ := List.mem_map.mp hy
    exact sn_len' (o.wants.2 i hi)) (by simpa using hi)
  have hj2 : joinD [.str " ", .lst (is.map (D.str ∘ sn))] = some (.str (J is)) := by
    rw [List.map_map] at hj
    exact hj
  have lc : ∀ (ρ : DL.Env) (st : Sto), 11 < ρ.length → lcL (.n 11) gYes (eCB strD (aC (eV 11) aN)) ρ (is.map .int) st [] = some ((is.map sn).map .str, st) := fun ρ st hk => lc_str hk o.wants.2 hi
  have n1 := rn_len o
  have n2 := nm_len o.site
  obtain ⟨_, _, _, _, _, _, _, q1, q2, q3⟩ := lw
  have hline := right_line_eq (x := ⟨nm, pl, is⟩) o.wants.1.1
  rw [← hline]
  simp only at n1 n2
  generalize J is = jj at *
  unfold T2
  simp (disch := first | ((try simp only [len_app]); omega) | simp) [-add_ss, add_s, lc, hj2, hc]
theorem lw_text_ok {m : Nat} {ss : List Site} {rs : List Rgt} (hs : ∀ x ∈ ss, Own x) (hr : ∀ x ∈ rs, OwnR x) (ls : ss.length ≤ 4) (lr : rs.length ≤ 4) :
    phi_lw_text [.d (basD m ss), .d (.tup (rs.map rgtD))] [] = some (.d (.str (text ss rs)), []) := by
  let b : Option C := some (.d (basD m ss))
  let r : Option C := some (.d (.tup (rs.map rgtD)))
  obtain ⟨ρ1, st1, e1, dn, rest, o3, o4, o5, o6, o7, o8, o9, o10, o11, o12, o13, h1, h2, rfl, rfl⟩ := forL_inv (t := .t [3, 4, 5, 6, 7, 8, 9]) (body := T1) (fun rem ρ st => ∃ (dn rest : List Site) (o3 o4 o5 o6 o7 o8 o9 o10 o11 o12 o13 : Option C), rem = rest.map siteD ∧ ss = dn ++ rest ∧ ρ = [b, r, some (.p 0), o3, o4, o5, o6, o7, o8, o9, o10, o11, o12, o13] ∧ st = [.lst (dn.map fun x => .d (.str (lineS x)))]) (fun x rem ρ st q => by
    obtain ⟨dn, rest, o3, o4, o5, o6, o7, o8, o9, o10, o11, o12, o13, h1, h2, rfl, rfl⟩ := q
    cases rest with
    | nil => cases h1
    | cons y rest =>
      cases h1
      have hl : dn.length ≤ 4 := by
        have := congrArg List.length h2
        rw [List.length_append] at this
        omega
      refine ⟨_, _, _, rfl, T1_ok (hs y (by rw [h2]; simp)) (by rw [List.length_map]; omega), dn ++ [y], rest, _, _, _, _, _, _, _, _, _, _, _, rfl, by rw [h2]; simp, rfl, by simp⟩) (ss.map siteD) [b, r, some (.p 0), none, none, none, none, none, none, none, none, none, none, none] [.lst []] ⟨[], ss, _, _, _, _, _, _, _, _, _, _, _, rfl, rfl, rfl, rfl⟩
  have hd : dn = ss := by
    cases rest with
    | nil => rw [h2, List.append_nil]
    | cons => cases h1
  subst hd
  obtain ⟨ρ2, st2, e2, dn2, rest2, p3, p4, p5, p6, p7, p8, p9, p10, p11, p12, p13, h3, h4, rfl, rfl⟩ := forL_inv (t := .t [3, 12, 13]) (body := T2) (fun rem ρ st => ∃ (dn2 rest : List Rgt) (o3 o4 o5 o6 o7 o8 o9 o10 o11 o12 o13 : Option C), rem = rest.map rgtD ∧ rs = dn2 ++ rest ∧ ρ = [b, r, some (.p 0), o3, o4, o5, o6, o7, o8, o9, o10, o11, o12, o13] ∧ st = [.lst ((dn.map fun x => .d (.str (lineS x))) ++ (dn2.map fun x => .d (.str (lineR x))))]) (fun x rem ρ st q => by
    obtain ⟨dn2, rest, o3, o4, o5, o6, o7, o8, o9, o10, o11, o12, o13, h1, h2, rfl, rfl⟩ := q
    cases rest with
    | nil => cases h1
    | cons y rest =>
      cases h1
      have hl : dn2.length ≤ 4 := by
        have := congrArg List.length h2
        rw [List.length_append] at this
        omega
      refine ⟨_, _, _, rfl, T2_ok (hr y (by rw [h2]; simp)) (by rw [List.length_append, List.length_map, List.length_map]; omega), dn2 ++ [y], rest, _, _, _, _, _, _, _, _, _, _, _, rfl, by rw [h2]; simp, rfl, by simp⟩) (rs.map rgtD) [b, r, some (.p 0), o3, o4, o5, o6, o7, o8, o9, o10, o11, o12, o13] [.lst (dn.map fun x => .d (.str (lineS x)))] ⟨[], rs, _, _, _, _, _, _, _, _, _, _, _, rfl, rfl, rfl, by simp⟩
  have hd2 : dn2 = rs := by
    cases rest2 with
    | nil => rw [h4, List.append_nil]
    | cons => cases h3
  subst hd2
  have hj := join_lines (ys := lines dn dn2) (fun y hy => by
    rcases List.mem_append.mp hy with h | h <;> obtain ⟨x, hx, rfl⟩ := List.mem_map.mp h
    · exact lineS_len (hs x hx)
    · exact lineR_len (hr x hx)) (by unfold lines; rw [List.length_append, List.length_map, List.length_map]; omega)
  have ha : allD ((dn.map fun x => C.d (.str (lineS x))) ++ (dn2.map fun x => C.d (.str (lineR x)))) = some ((lines dn dn2).map .str) := by
    have := allD_map ((lines dn dn2).map D.str)
    rw [← this]
    congr 1
    unfold lines
    simp
    rfl
  have hG : ∃ st, G_lw_text [b, r, none, none, none, none, none, none, none, none, none, none, none, none] [] = some (.rt (.d (.str (text dn dn2))) st) := by
    refine ⟨[.lst ((dn.map fun x => C.d (.str (lineS x))) ++ (dn2.map fun x => C.d (.str (lineR x))))], ?_⟩
    rw [G_text_eq]
    have eb : atI [D.int (m : Nat), D.tup (dn.map siteD)] 1 = some (.tup (dn.map siteD)) := rfl
    simp only [b, r] at e1 e2
    simp [b, r, basD] at e1 e2 ⊢
    simp [e1, e2, ha, hj, text]
  obtain ⟨st, hG⟩ := hG
  unfold phi_lw_text
  rw [fnD_ev 14 2 G_lw_text [.d (basD m dn), .d (.tup (dn2.map rgtD))] rfl]
  simp [b, r] at hG
  simp [hG]
end Lw
namespace Lw
open PySem PySem.Spec PyProof.Rows L2 DL
def numOk (x : PySem.Str) : Bool := Txt.isascii x && Txt.isdigit x && decide (x.length ≤ 9) && (match x.cps.toList[0]? with | some c => !((⟨#[c]⟩ : PySem.Str) == Str.ofString "0") || (x == Str.ofString "0") | none => false)
theorem num_all : ∀ j < 100, numOk (sn ((j : Nat) : Int)) = true := by decide +kernel
def nameOk (x : PySem.Str) : Bool := Txt.isascii x && Txt.isalpha x && Txt.islower x && decide (x.length ≤ 6)
theorem name_all : ∀ y ∈ (["up", "dale", "weir", "mouth", "a", "mill", "farm", "town"] : List PySem.Str), nameOk y = true := by decide +kernel
theorem num_int (j : Nat) (h : j < 100) : intText? (sn (j : Int)) = some (j : Int) := TL.int_num (Nat.le_trans (TL.numL_len (k := 2) (by decide) (by omega)) (by decide))
theorem number_ok {i : Int} (h : 0 ≤ i ∧ i ≤ 99) : phi_number [.d (.str (sn i))] [] = some (.d (.int i), []) := by
  obtain ⟨j, rfl⟩ := Int.eq_ofNat_of_zero_le h.1
  have hj : j < 100 := by omega
  have a := num_all j hj
  have b := num_int j hj
  generalize sn ((j : Nat) : Int) = x at a b
  simp only [numOk, Bool.and_eq_true, decide_eq_true_eq] at a
  obtain ⟨⟨⟨a1, a2⟩, a3⟩, a4⟩ := a
  have l1 : x.length ≤ 1000000 := by omega
  have l2 : x.length ≤ 640 := by omega
  have l3 : ¬ (9 : Int) < x.length := by omega
  have hx : ∃ c, ixD (.str x) (.int 0) = some (.str ⟨#[c]⟩) ∧ (!((⟨#[c]⟩ : PySem.Str) == Str.ofString "0") || (x == Str.ofString "0")) = true := by
    show ∃ c, (if x.length ≤ 1000000 then (atI x.cps.toList 0).map fun c => D.str ⟨#[c]⟩ else none) = some (.str ⟨#[c]⟩) ∧ _
    rw [if_pos l1, atI_0]
    split at a4
    · rename_i c hc
      exact ⟨c, by rw [hc]; rfl, a4⟩
    · cases a4
  obtain ⟨c, hc, hc2⟩ := hx
  have hi : DL.intD [.str x] = some (.int j) := by
    show (if x.length ≤ 640 then (intText? x).map D.int else none) = _
    rw [if_pos l2, b]
    rfl
  have hG : G_number [some (.d (.str x))] [] = some (.rt (.d (.int j)) []) := by
    unfold G_number
    cases e1 : ((⟨#[c]⟩ : PySem.Str) == Str.ofString "0") <;> cases e2 : (x == Str.ofString "0") <;> rw [e1, e2] at hc2 <;>
      first | (exact absurd hc2 (by decide)) | simp [a1, a2, hc, e1, e2, l1, gtD, l3, hi]
  unfold phi_number
  rw [fnD_ev 1 1 G_number [.d (.str x)] rfl]
  simp [hG]
theorem within_ok {i lo hi : Int} (h : 0 ≤ i ∧ i ≤ 99) (h1 : lo ≤ i) (h2 : i ≤ hi) : phi_number_within [.d (.str (sn i)), .d (.int lo), .d (.int hi)] [] = some (.d (.int i), []) := by
  have hG : G_number_within [some (.d (.str (sn i))), some (.d (.int lo)), some (.d (.int hi)), none] [] = some (.rt (.d (.int i)) []) := by
    unfold G_number_within
    simp [number_ok h, ltD, gtD, Int.not_lt.mpr h1, Int.not_lt.mpr h2]
  unfold phi_number_within
  rw [fnD_ev 4 3 G_number_within [.d (.str (sn i)), .d (.int lo), .d (.int hi)] rfl]
  simp [hG]
theorem is_name_ok {y : PySem.Str} (h : nameOk y = true) : phi_is_name [.d (.str y)] [] = some (.d (.bl true), []) := by
  simp only [nameOk, Bool.and_eq_true, decide_eq_true_eq] at h
  obtain ⟨⟨⟨a1, a2⟩, a3⟩, a4⟩ := h
  have l1 : y.length ≤ 1000000 := by omega
  have l3 : (y.length : Int) ≤ 6 := by omega
  have hG : G_is_name [some (.d (.str y))] [] = some (.rt (.d (.bl true)) []) := by
    unfold G_is_name
    simp [a1, a2, a3, leD, l1, l3]
  unfold phi_is_name
  rw [fnD_ev 1 1 G_is_name [.d (.str y)] rfl]
  simp [hG]
theorem nm4 {y : PySem.Str} (h : y ∈ names4) : nameOk y = true := by
  have : ∀ y ∈ names4, nameOk y = true := by decide +kernel
  exact this y h
theorem nmR {y : PySem.Str} (h : y ∈ (["a", "mill", "farm", "town"] : List PySem.Str)) : nameOk y = true := by
  have : ∀ y ∈ (["a", "mill", "farm", "town"] : List PySem.Str), nameOk y = true := by decide +kernel
  exact this y h
/-! ### pieces hold no blank and no line's end -/
def freeB (x : PySem.Str) : Bool := !((TL.tl x).contains 32) && !((TL.tl x).contains 10)
theorem free_all : ∀ j < 100, freeB (sn ((j : Nat) : Int)) = true := by decide +kernel
theorem free_words : ∀ y ∈ (["up", "dale", "weir", "mouth", "a", "mill", "farm", "town", "site", "to", "in", "reach", "room", "held", "flow", "right", "at", "wants"] : List PySem.Str), freeB y = true := by decide +kernel
theorem free_sn {i : Int} (h : 0 ≤ i ∧ i ≤ 99) : freeB (sn i) = true := by
  obtain ⟨j, rfl⟩ := Int.eq_ofNat_of_zero_le h.1
  exact free_all j (by omega)
theorem free_nm {y : PySem.Str} (h : y ∈ names4) : freeB y = true := by
  have : ∀ y ∈ names4, freeB y = true := by decide +kernel
  exact this y h
theorem free32 {x : PySem.Str} (h : freeB x = true) : 32 ∉ TL.tl x := by
  simp [freeB] at h
  simpa using h.1
theorem free10 {x : PySem.Str} (h : freeB x = true) : 10 ∉ TL.tl x := by
  simp [freeB] at h
  simpa using h.2
theorem ps_free {x : Site} (o : Own x) : ∀ y ∈ ps x, freeB y = true := by
  have w : ∀ y ∈ (["site", "to", "in", "reach", "room", "held", "flow"] : List PySem.Str), freeB y = true := by decide +kernel
  have hi := o.ins
  obtain ⟨nm, nx, tr, re, rm, hd, is⟩ := x
  intro y hy
  simp only [ps, psHead, psTo, List.mem_append, List.mem_map] at hy
  rcases hy with ((((hy | hy) | hy) | hy) | hy) | ⟨a, ha, rfl⟩
  · simp at hy
    rcases hy with rfl | rfl
    · exact w _ (by simp)
    · exact free_nm o.name
  · cases nx with
    | none => simp at hy
    | some z =>
      simp only [List.mem_append] at hy
      rcases hy with (hy | hy) | hy
      · simp at hy
        rcases hy with rfl | rfl
        · exact w _ (by simp)
        · exact free_nm (o.nxt _ rfl)
      · split at hy
        · simp at hy
          rcases hy with rfl | rfl
          · exact w _ (by simp)
          · exact free_sn ⟨o.trav.1, Int.le_trans o.trav.2 (by decide)⟩
        · simp at hy
      · cases re with
        | none => simp at hy
        | some r =>
          simp at hy
          rcases hy with rfl | rfl
          · exact w _ (by simp)
          · exact free_sn (o.reach _ rfl)
  · split at hy
    · simp at hy
      rcases hy with rfl | rfl
      · exact w _ (by simp)
      · exact free_sn o.room
    · simp at hy
  · split at hy
    · simp at hy
      rcases hy with rfl | rfl
      · exact w _ (by simp)
      · exact free_sn o.held
    · simp at hy
  · simp at hy
    rw [hy]
    exact w _ (by simp)
  · exact free_sn (hi.2 a ha)
theorem psR_free {x : Rgt} (o : OwnR x) : ∀ y ∈ psR x, freeB y = true := by
  have w : ∀ y ∈ (["right", "at", "wants", "a", "mill", "farm", "town"] : List PySem.Str), freeB y = true := by decide +kernel
  intro y hy
  simp only [psR, List.mem_append, List.mem_map] at hy
  rcases hy with hy | ⟨a, ha, rfl⟩
  · simp at hy
    rcases hy with rfl | rfl | rfl | rfl | rfl
    · exact w _ (by simp)
    · have := o.name
      simp at this
      exact w _ (by simp [this])
    · exact w _ (by simp)
    · exact free_nm o.site
    · exact w _ (by simp)
  · exact free_sn (o.wants.2 a ha)
theorem mem_joinL {S : List Nat} {c : Nat} : ∀ {ps : List (List Nat)}, c ∈ TL.joinL S ps → c ∈ S ∨ ∃ p ∈ ps, c ∈ p
  | [], h => by simp [TL.joinL] at h
  | [p], h => .inr ⟨p, by simp, h⟩
  | p :: q :: r, h => by
    rw [joinL2, List.mem_append, List.mem_append] at h
    rcases h with h | h | h
    · exact .inr ⟨p, by simp, h⟩
    · exact .inl h
    · rcases mem_joinL h with h | ⟨z, hz, h⟩
      · exact .inl h
      · exact .inr ⟨z, by simp [hz], h⟩
theorem line_free {ys : List PySem.Str} (h : ∀ y ∈ ys, freeB y = true) : 10 ∉ TL.tl (Txt.join (Str.ofString " ") ys) := fun hm => by
  rw [tl_line] at hm
  rcases mem_joinL hm with h2 | ⟨p, hp, h2⟩
  · simp at h2
  · obtain ⟨y, hy, rfl⟩ := List.mem_map.mp hp
    exact free10 (h y hy) h2
theorem split_line {ys : List PySem.Str} (hn : ys ≠ []) (h : ∀ y ∈ ys, freeB y = true) : Txt.split (Txt.join (Str.ofString " ") ys) (Str.ofString " ") = ys := by
  exact TL.split_join (S := []) w0 (by decide +kernel) hn fun p hp => free32 (h p hp)
theorem split_text {ss : List Site} {rs : List Rgt} (hs : ∀ x ∈ ss, Own x) (hr : ∀ x ∈ rs, OwnR x) (hn : ss ≠ []) : Txt.split (text ss rs) (Str.ofString "\n") = lines ss rs := by
  unfold text
  refine TL.split_join (y := Str.ofString "\n") (parts := lines ss rs) (S := []) (s := 10) (by decide +kernel) (by decide +kernel) (by unfold lines; simp [hn]) fun p hp => ?_
  rcases List.mem_append.mp hp with h | h <;> obtain ⟨x, hx, rfl⟩ := List.mem_map.mp h
  · exact line_free (ps_free (hs x hx))
  · exact line_free (psR_free (hr x hx))
end Lw
namespace Lw
open PySem PySem.Spec PyProof.Rows L2 DL
theorem in_strs (neg : Bool) (y : PySem.Str) (ys : List PySem.Str) : inD neg (.str y) (.lst (ys.map .str)) = some (.bl (if neg then !(ys.any fun z => z == y) else ys.any fun z => z == y)) := by
  have hf : (ys.map D.str).all flatD = true := by simp [flatD]
  have he : inV (toV (.str y)) ((ys.map D.str).map toV) = ys.any fun z => z == y := by
    unfold inV
    rw [List.map_map, List.any_map]
    rfl
  show (if flatD (.str y) = true ∧ (ys.map D.str).all flatD = true then _ else none) = _
  rw [if_pos ⟨rfl, hf⟩, he]
theorem in_non_ints (ys : List Int) : inD false .non (.lst (ys.map .int)) = some (.bl false) := by
  have hf : (ys.map D.int).all flatD = true := by simp [flatD]
  have he : inV (toV .non) ((ys.map D.int).map toV) = false := by
    unfold inV
    rw [List.map_map, List.any_map]
    exact List.any_eq_false.mpr fun x _ => by simp [toV, eqV]
  show (if flatD .non = true ∧ (ys.map D.int).all flatD = true then _ else none) = _
  rw [if_pos ⟨rfl, hf⟩, he]
  rfl
theorem splitD_ok {a b : PySem.Str} (hb : (b.length == 0) = false) (ha : a.length ≤ 1000000) : splitD [.str a, .str b] = some (.lst ((Txt.split a b).map .str)) := if_pos ⟨hb, ha⟩
theorem sp_len : ((Str.ofString " ").length == 0) = false := by decide +kernel
theorem J_split {is : List Int} (h : ∀ a ∈ is, 0 ≤ a ∧ a ≤ 99) (hn : 1 ≤ is.length) : Txt.split (J is) (Str.ofString " ") = is.map sn :=
  split_line (by intro e; rw [List.map_eq_nil_iff] at e; subst e; simp at hn) fun y hy => by
    obtain ⟨i, hi, rfl⟩ := List.mem_map.mp hy
    exact free_sn (h i hi)
theorem amounts_ok {is : List Int} {mo : D} (h : ∀ a ∈ is, 0 ≤ a ∧ a ≤ 99) (hn : 1 ≤ is.length ∧ is.length ≤ 4) (hm : mo = .non ∨ mo = .int (is.length : Nat)) :
    phi_read_amounts [.d (.str (J is)), mo |> C.d] [] = some (.d (.tup (is.map .int)), []) := by
  have hs : splitD [.str (J is), .str (Str.ofString " ")] = some (.lst (is.map fun i => .str (sn i))) := by
    have hl := J_len h hn.2
    rw [splitD_ok sp_len (by omega), J_split h hn.1, List.map_map]
    rfl
  have lc : ∀ (ρ : DL.Env) (st : Sto), 3 < ρ.length → lcL (.n 3) gYes (eCall phi_number_within (aC (eV 3) (aC (eK (.int 0)) (aC (eK (.int 99)) aN)))) ρ (is.map fun i => .str (sn i)) st [] = some (is.map .int, st) := fun ρ st hk => by
    have := lcL_mp (ρ := ρ) (st := st) (.n 3) (eCall phi_number_within (aC (eV 3) (aC (eK (.int 0)) (aC (eK (.int 99)) aN)))) (fun i => .str (sn i)) .int is [] (fun i hi => ⟨_, .d (.int i), rfl, by simp [hk, within_ok (h i hi) (h i hi).1 (h i hi).2], rfl⟩) (by simp; omega)
    simpa using this
  have h4 : ¬ (4 : Int) < (is.length : Int) := by omega
  have hG : G_read_amounts [some (.d (.str (J is))), some (.d mo), none, none] [] = some (.rt (.d (.tup (is.map .int))) []) := by
    unfold G_read_amounts
    rcases hm with rfl | rfl
    · simp [hs, lc, in_non_ints, gtD, h4]
    · simp [hs, lc, in_non_ints, gtD, h4]
  unfold phi_read_amounts
  rw [fnD_ev 4 2 G_read_amounts [.d (.str (J is)), .d mo] rfl]
  simp [hG]
/-! ### rpartition -/
theorem strSub_0 (x : PySem.Str) (i : Nat) : TL.tl (Builtin.Str.strSub x 0 i) = (TL.tl x).take i := by
  rw [TL.tl_strSub, List.drop_zero, Nat.sub_zero]
theorem rpart_app {h y t : PySem.Str} (hy : TL.tl y ≠ []) (no : ∀ k, h.length < k → TL.pre (TL.tl y) ((TL.tl (h ++ y ++ t)).drop k) = false) : Txt.rpartition (h ++ y ++ t) y = (h, y, t) := by
  have e0 : TL.tl (h ++ y ++ t) = TL.tl h ++ (TL.tl y ++ TL.tl t) := by rw [TL.tl_append, TL.tl_append, List.append_assoc]
  have at0 : StrLaws.At (h ++ y ++ t) y (h ++ y ++ t).length h.length := (TL.at_iff hy _).mpr (by
    rw [e0, TL.len_tl, List.drop_left]
    exact TL.pre_self _ _)
  unfold Txt.rpartition
  rcases StrLaws.last_spec (h ++ y ++ t) y with ⟨_, hn⟩ | ⟨i, e, hi, hn⟩
  · exact absurd at0 (hn _)
  · rw [e]
    have h1 : h.length ≤ i := Nat.le_of_not_lt fun z => hn _ z at0
    have h2 : ¬ h.length < i := fun z => by
      have q := (TL.at_iff hy i).mp hi
      rw [no i z] at q
      cases q
    have ei : i = h.length := by omega
    subst ei
    have a1 : Builtin.Str.strSub (h ++ y ++ t) 0 h.length = h := TL.ext_tl (by
      rw [strSub_0, e0, TL.len_tl, List.take_left])
    have a2 : Builtin.Str.strSub (h ++ y ++ t) (h.length + y.length) (h ++ y ++ t).length = t := TL.ext_tl (by
      rw [TL.tl_strSub_end, e0, ← List.append_assoc, TL.len_tl h, TL.len_tl y, ← List.length_append, List.drop_left])
    show (Builtin.Str.strSub (h ++ y ++ t) 0 h.length, y, Builtin.Str.strSub (h ++ y ++ t) (h.length + y.length) (h ++ y ++ t).length) = _
    rw [a1, a2]
theorem rpart_none {x y : PySem.Str} (hy : TL.tl y ≠ []) (no : ∀ k, TL.pre (TL.tl y) ((TL.tl x).drop k) = false) : Txt.rpartition x y = (Str.empty, Str.empty, x) := by
  unfold Txt.rpartition
  rcases StrLaws.last_spec x y with ⟨e, _⟩ | ⟨i, _, hi, _⟩
  · rw [e]
  · have q := (TL.at_iff hy i).mp hi
    rw [no i] at q
    cases q
/-- the second sign of the separator does not stand behind -/
theorem no_behind {s0 s1 : Nat} {S p q : List Nat} (h : s1 ∉ q) : ∀ k, p.length < k → TL.pre (s0 :: s1 :: S) ((p ++ (s0 :: s1 :: q)).drop k) = false := fun k hk => by
  obtain ⟨j, rfl⟩ : ∃ j, k = p.length + (j + 1) := ⟨k - p.length - 1, by omega⟩
  rw [← TL.drop_two, List.drop_left, List.drop_succ_cons]
  cases e : TL.pre (s0 :: s1 :: S) ((s1 :: q).drop j) with
  | false => rfl
  | true =>
    have e2 : ((s1 :: q).drop j).take (s0 :: s1 :: S).length = s0 :: s1 :: S := eq_of_beq e
    have e3 : ((s1 :: q).drop j)[1]? = some s1 := by
      have := congrArg (fun l => l[1]?) e2
      simpa [List.getElem?_take] using this
    rw [List.getElem?_drop, List.getElem?_cons_succ] at e3
    have e4 : s1 ∈ q := by
      have := List.mem_of_getElem? e3
      exact this
    exact absurd e4 h
def adj (a b : Nat) : List Nat → Bool
  | x :: y :: r => (x == a && y == b) || adj a b (y :: r)
  | _ => false
theorem adj_tail {a b : Nat} : ∀ {l : List Nat}, b ∉ l.tail → adj a b l = false
  | [], _ => rfl
  | [x], _ => rfl
  | x :: y :: r, h => by
    have h1 : y ≠ b := fun e => h (by simp [e])
    have ih := adj_tail (a := a) (b := b) (l := y :: r) fun z => h (List.mem_cons_of_mem _ z)
    show ((x == a && y == b) || adj a b (y :: r)) = false
    rw [ih]
    simp [h1]
theorem adj_app {a b : Nat} : ∀ {p q : List Nat}, adj a b p = false → b ∉ q → adj a b (p ++ q) = false
  | [], q, _, h => adj_tail fun z => h (List.mem_of_mem_tail z)
  | [x], q, _, h => adj_tail h
  | x :: y :: p, q, h, hq => by
    have h : ((x == a && y == b) || adj a b (y :: p)) = false := h
    rw [Bool.or_eq_false_iff] at h
    show ((x == a && y == b) || adj a b (y :: p ++ q)) = false
    rw [h.1, adj_app h.2 hq]
    rfl
theorem adj_drop {a b : Nat} : ∀ {l : List Nat} {i : Nat}, l[i]? = some a → l[i + 1]? = some b → adj a b l = true
  | [], _, h, _ => by simp at h
  | [x], 0, _, h => by simp at h
  | [x], i + 1, h, _ => by simp at h
  | x :: y :: r, 0, h, h2 => by
    simp at h h2
    simp [adj, h, h2]
  | x :: y :: r, i + 1, h, h2 => by
    have := adj_drop (l := y :: r) (i := i) (by simpa using h) (by simpa using h2)
    show ((x == a && y == b) || adj a b (y :: r)) = true
    rw [this, Bool.or_true]
theorem no_adj {s0 s1 s2 : Nat} {S l : List Nat} (h : adj s1 s2 l = false) : ∀ k, TL.pre (s0 :: s1 :: s2 :: S) (l.drop k) = false := fun k => by
  cases e : TL.pre (s0 :: s1 :: s2 :: S) (l.drop k) with
  | false => rfl
  | true =>
    have e2 : (l.drop k).take (s0 :: s1 :: s2 :: S).length = s0 :: s1 :: s2 :: S := eq_of_beq e
    have e3 : (l.drop k)[1]? = some s1 := by
      have := congrArg (fun l => l[1]?) e2
      simpa [List.getElem?_take] using this
    have e4 : (l.drop k)[2]? = some s2 := by
      have := congrArg (fun l => l[2]?) e2
      simpa [List.getElem?_take] using this
    rw [List.getElem?_drop] at e3 e4
    rw [adj_drop (i := k + 1) e3 e4] at h
    cases h
end Lw
namespace Lw
open PySem PySem.Spec PyProof.Rows L2 DL
@[simp] theorem bq_to_in : (Str.ofString "to" == Str.ofString "in") = false := by decide +kernel
@[simp] theorem bq_to_reach : (Str.ofString "to" == Str.ofString "reach") = false := by decide +kernel
@[simp] theorem bq_to_room : (Str.ofString "to" == Str.ofString "room") = false := by decide +kernel
@[simp] theorem bq_to_held : (Str.ofString "to" == Str.ofString "held") = false := by decide +kernel
@[simp] theorem bq_to_site : (Str.ofString "to" == Str.ofString "site") = false := by decide +kernel
@[simp] theorem bq_to_right : (Str.ofString "to" == Str.ofString "right") = false := by decide +kernel
@[simp] theorem bq_to_at : (Str.ofString "to" == Str.ofString "at") = false := by decide +kernel
@[simp] theorem bq_in_to : (Str.ofString "in" == Str.ofString "to") = false := by decide +kernel
@[simp] theorem bq_in_reach : (Str.ofString "in" == Str.ofString "reach") = false := by decide +kernel
@[simp] theorem bq_in_room : (Str.ofString "in" == Str.ofString "room") = false := by decide +kernel
@[simp] theorem bq_in_held : (Str.ofString "in" == Str.ofString "held") = false := by decide +kernel
@[simp] theorem bq_in_site : (Str.ofString "in" == Str.ofString "site") = false := by decide +kernel
@[simp] theorem bq_in_right : (Str.ofString "in" == Str.ofString "right") = false := by decide +kernel
@[simp] theorem bq_in_at : (Str.ofString "in" == Str.ofString "at") = false := by decide +kernel
@[simp] theorem bq_reach_to : (Str.ofString "reach" == Str.ofString "to") = false := by decide +kernel
@[simp] theorem bq_reach_in : (Str.ofString "reach" == Str.ofString "in") = false := by decide +kernel
@[simp] theorem bq_reach_room : (Str.ofString "reach" == Str.ofString "room") = false := by decide +kernel
@[simp] theorem bq_reach_held : (Str.ofString "reach" == Str.ofString "held") = false := by decide +kernel
@[simp] theorem bq_reach_site : (Str.ofString "reach" == Str.ofString "site") = false := by decide +kernel
@[simp] theorem bq_reach_right : (Str.ofString "reach" == Str.ofString "right") = false := by decide +kernel
@[simp] theorem bq_reach_at : (Str.ofString "reach" == Str.ofString "at") = false := by decide +kernel
@[simp] theorem bq_room_to : (Str.ofString "room" == Str.ofString "to") = false := by decide +kernel
@[simp] theorem bq_room_in : (Str.ofString "room" == Str.ofString "in") = false := by decide +kernel
@[simp] theorem bq_room_reach : (Str.ofString "room" == Str.ofString "reach") = false := by decide +kernel
@[simp] theorem bq_room_held : (Str.ofString "room" == Str.ofString "held") = false := by decide +kernel
@[simp] theorem bq_room_site : (Str.ofString "room" == Str.ofString "site") = false := by decide +kernel
@[simp] theorem bq_room_right : (Str.ofString "room" == Str.ofString "right") = false := by decide +kernel
@[simp] theorem bq_room_at : (Str.ofString "room" == Str.ofString "at") = false := by decide +kernel
@[simp] theorem bq_held_to : (Str.ofString "held" == Str.ofString "to") = false := by decide +kernel
@[simp] theorem bq_held_in : (Str.ofString "held" == Str.ofString "in") = false := by decide +kernel
@[simp] theorem bq_held_reach : (Str.ofString "held" == Str.ofString "reach") = false := by decide +kernel
@[simp] theorem bq_held_room : (Str.ofString "held" == Str.ofString "room") = false := by decide +kernel
@[simp] theorem bq_held_site : (Str.ofString "held" == Str.ofString "site") = false := by decide +kernel
@[simp] theorem bq_held_right : (Str.ofString "held" == Str.ofString "right") = false := by decide +kernel
@[simp] theorem bq_held_at : (Str.ofString "held" == Str.ofString "at") = false := by decide +kernel
@[simp] theorem bq_site_to : (Str.ofString "site" == Str.ofString "to") = false := by decide +kernel
@[simp] theorem bq_site_in : (Str.ofString "site" == Str.ofString "in") = false := by decide +kernel
@[simp] theorem bq_site_reach : (Str.ofString "site" == Str.ofString "reach") = false := by decide +kernel
@[simp] theorem bq_site_room : (Str.ofString "site" == Str.ofString "room") = false := by decide +kernel
@[simp] theorem bq_site_held : (Str.ofString "site" == Str.ofString "held") = false := by decide +kernel
@[simp] theorem bq_site_right : (Str.ofString "site" == Str.ofString "right") = false := by decide +kernel
@[simp] theorem bq_site_at : (Str.ofString "site" == Str.ofString "at") = false := by decide +kernel
@[simp] theorem bq_right_to : (Str.ofString "right" == Str.ofString "to") = false := by decide +kernel
@[simp] theorem bq_right_in : (Str.ofString "right" == Str.ofString "in") = false := by decide +kernel
@[simp] theorem bq_right_reach : (Str.ofString "right" == Str.ofString "reach") = false := by decide +kernel
@[simp] theorem bq_right_room : (Str.ofString "right" == Str.ofString "room") = false := by decide +kernel
@[simp] theorem bq_right_held : (Str.ofString "right" == Str.ofString "held") = false := by decide +kernel
@[simp] theorem bq_right_site : (Str.ofString "right" == Str.ofString "site") = false := by decide +kernel
@[simp] theorem bq_right_at : (Str.ofString "right" == Str.ofString "at") = false := by decide +kernel
@[simp] theorem bq_at_to : (Str.ofString "at" == Str.ofString "to") = false := by decide +kernel
@[simp] theorem bq_at_in : (Str.ofString "at" == Str.ofString "in") = false := by decide +kernel
@[simp] theorem bq_at_reach : (Str.ofString "at" == Str.ofString "reach") = false := by decide +kernel
@[simp] theorem bq_at_room : (Str.ofString "at" == Str.ofString "room") = false := by decide +kernel
@[simp] theorem bq_at_held : (Str.ofString "at" == Str.ofString "held") = false := by decide +kernel
@[simp] theorem bq_at_site : (Str.ofString "at" == Str.ofString "site") = false := by decide +kernel
@[simp] theorem bq_at_right : (Str.ofString "at" == Str.ofString "right") = false := by decide +kernel
@[simp] theorem nq_to_in : (Str.ofString "to" = Str.ofString "in") = False := eq_false (beq_eq_false_iff_ne.mp bq_to_in)
@[simp] theorem nq_to_reach : (Str.ofString "to" = Str.ofString "reach") = False := eq_false (beq_eq_false_iff_ne.mp bq_to_reach)
@[simp] theorem nq_to_room : (Str.ofString "to" = Str.ofString "room") = False := eq_false (beq_eq_false_iff_ne.mp bq_to_room)
@[simp] theorem nq_to_held : (Str.ofString "to" = Str.ofString "held") = False := eq_false (beq_eq_false_iff_ne.mp bq_to_held)
@[simp] theorem nq_to_site : (Str.ofString "to" = Str.ofString "site") = False := eq_false (beq_eq_false_iff_ne.mp bq_to_site)
@[simp] theorem nq_to_right : (Str.ofString "to" = Str.ofString "right") = False := eq_false (beq_eq_false_iff_ne.mp bq_to_right)
@[simp] theorem nq_to_at : (Str.ofString "to" = Str.ofString "at") = False := eq_false (beq_eq_false_iff_ne.mp bq_to_at)
@[simp] theorem nq_in_to : (Str.ofString "in" = Str.ofString "to") = False := eq_false (beq_eq_false_iff_ne.mp bq_in_to)
@[simp] theorem nq_in_reach : (Str.ofString "in" = Str.ofString "reach") = False := eq_false (beq_eq_false_iff_ne.mp bq_in_reach)
@[simp] theorem nq_in_room : (Str.ofString "in" = Str.ofString "room") = False := eq_false (beq_eq_false_iff_ne.mp bq_in_room)
@[simp] theorem nq_in_held : (Str.ofString "in" = Str.ofString "held") = False := eq_false (beq_eq_false_iff_ne.mp bq_in_held)
@[simp] theorem nq_in_site : (Str.ofString "in" = Str.ofString "site") = False := eq_false (beq_eq_false_iff_ne.mp bq_in_site)
@[simp] theorem nq_in_right : (Str.ofString "in" = Str.ofString "right") = False := eq_false (beq_eq_false_iff_ne.mp bq_in_right)
@[simp] theorem nq_in_at : (Str.ofString "in" = Str.ofString "at") = False := eq_false (beq_eq_false_iff_ne.mp bq_in_at)
@[simp] theorem nq_reach_to : (Str.ofString "reach" = Str.ofString "to") = False := eq_false (beq_eq_false_iff_ne.mp bq_reach_to)
@[simp] theorem nq_reach_in : (Str.ofString "reach" = Str.ofString "in") = False := eq_false (beq_eq_false_iff_ne.mp bq_reach_in)
@[simp] theorem nq_reach_room : (Str.ofString "reach" = Str.ofString "room") = False := eq_false (beq_eq_false_iff_ne.mp bq_reach_room)
@[simp] theorem nq_reach_held : (Str.ofString "reach" = Str.ofString "held") = False := eq_false (beq_eq_false_iff_ne.mp bq_reach_held)
@[simp] theorem nq_reach_site : (Str.ofString "reach" = Str.ofString "site") = False := eq_false (beq_eq_false_iff_ne.mp bq_reach_site)
@[simp] theorem nq_reach_right : (Str.ofString "reach" = Str.ofString "right") = False := eq_false (beq_eq_false_iff_ne.mp bq_reach_right)
@[simp] theorem nq_reach_at : (Str.ofString "reach" = Str.ofString "at") = False := eq_false (beq_eq_false_iff_ne.mp bq_reach_at)
@[simp] theorem nq_room_to : (Str.ofString "room" = Str.ofString "to") = False := eq_false (beq_eq_false_iff_ne.mp bq_room_to)
@[simp] theorem nq_room_in : (Str.ofString "room" = Str.ofString "in") = False := eq_false (beq_eq_false_iff_ne.mp bq_room_in)
@[simp] theorem nq_room_reach : (Str.ofString "room" = Str.ofString "reach") = False := eq_false (beq_eq_false_iff_ne.mp bq_room_reach)
@[simp] theorem nq_room_held : (Str.ofString "room" = Str.ofString "held") = False := eq_false (beq_eq_false_iff_ne.mp bq_room_held)
@[simp] theorem nq_room_site : (Str.ofString "room" = Str.ofString "site") = False := eq_false (beq_eq_false_iff_ne.mp bq_room_site)
@[simp] theorem nq_room_right : (Str.ofString "room" = Str.ofString "right") = False := eq_false (beq_eq_false_iff_ne.mp bq_room_right)
@[simp] theorem nq_room_at : (Str.ofString "room" = Str.ofString "at") = False := eq_false (beq_eq_false_iff_ne.mp bq_room_at)
@[simp] theorem nq_held_to : (Str.ofString "held" = Str.ofString "to") = False := eq_false (beq_eq_false_iff_ne.mp bq_held_to)
@[simp] theorem nq_held_in : (Str.ofString "held" = Str.ofString "in") = False := eq_false (beq_eq_false_iff_ne.mp bq_held_in)
@[simp] theorem nq_held_reach : (Str.ofString "held" = Str.ofString "reach") = False := eq_false (beq_eq_false_iff_ne.mp bq_held_reach)
@[simp] theorem nq_held_room : (Str.ofString "held" = Str.ofString "room") = False := eq_false (beq_eq_false_iff_ne.mp bq_held_room)
@[simp] theorem nq_held_site : (Str.ofString "held" = Str.ofString "site") = False := eq_false (beq_eq_false_iff_ne.mp bq_held_site)
@[simp] theorem nq_held_right : (Str.ofString "held" = Str.ofString "right") = False := eq_false (beq_eq_false_iff_ne.mp bq_held_right)
@[simp] theorem nq_held_at : (Str.ofString "held" = Str.ofString "at") = False := eq_false (beq_eq_false_iff_ne.mp bq_held_at)
@[simp] theorem nq_site_to : (Str.ofString "site" = Str.ofString "to") = False := eq_false (beq_eq_false_iff_ne.mp bq_site_to)
@[simp] theorem nq_site_in : (Str.ofString "site" = Str.ofString "in") = False := eq_false (beq_eq_false_iff_ne.mp bq_site_in)
@[simp] theorem nq_site_reach : (Str.ofString "site" = Str.ofString "reach") = False := eq_false (beq_eq_false_iff_ne.mp bq_site_reach)
@[simp] theorem nq_site_room : (Str.ofString "site" = Str.ofString "room") = False := eq_false (beq_eq_false_iff_ne.mp bq_site_room)
@[simp] theorem nq_site_held : (Str.ofString "site" = Str.ofString "held") = False := eq_false (beq_eq_false_iff_ne.mp bq_site_held)
@[simp] theorem nq_site_right : (Str.ofString "site" = Str.ofString "right") = False := eq_false (beq_eq_false_iff_ne.mp bq_site_right)
@[simp] theorem nq_site_at : (Str.ofString "site" = Str.ofString "at") = False := eq_false (beq_eq_false_iff_ne.mp bq_site_at)
@[simp] theorem nq_right_to : (Str.ofString "right" = Str.ofString "to") = False := eq_false (beq_eq_false_iff_ne.mp bq_right_to)
@[simp] theorem nq_right_in : (Str.ofString "right" = Str.ofString "in") = False := eq_false (beq_eq_false_iff_ne.mp bq_right_in)
@[simp] theorem nq_right_reach : (Str.ofString "right" = Str.ofString "reach") = False := eq_false (beq_eq_false_iff_ne.mp bq_right_reach)
@[simp] theorem nq_right_room : (Str.ofString "right" = Str.ofString "room") = False := eq_false (beq_eq_false_iff_ne.mp bq_right_room)
@[simp] theorem nq_right_held : (Str.ofString "right" = Str.ofString "held") = False := eq_false (beq_eq_false_iff_ne.mp bq_right_held)
@[simp] theorem nq_right_site : (Str.ofString "right" = Str.ofString "site") = False := eq_false (beq_eq_false_iff_ne.mp bq_right_site)
@[simp] theorem nq_right_at : (Str.ofString "right" = Str.ofString "at") = False := eq_false (beq_eq_false_iff_ne.mp bq_right_at)
@[simp] theorem nq_at_to : (Str.ofString "at" = Str.ofString "to") = False := eq_false (beq_eq_false_iff_ne.mp bq_at_to)
@[simp] theorem nq_at_in : (Str.ofString "at" = Str.ofString "in") = False := eq_false (beq_eq_false_iff_ne.mp bq_at_in)
@[simp] theorem nq_at_reach : (Str.ofString "at" = Str.ofString "reach") = False := eq_false (beq_eq_false_iff_ne.mp bq_at_reach)
@[simp] theorem nq_at_room : (Str.ofString "at" = Str.ofString "room") = False := eq_false (beq_eq_false_iff_ne.mp bq_at_room)
@[simp] theorem nq_at_held : (Str.ofString "at" = Str.ofString "held") = False := eq_false (beq_eq_false_iff_ne.mp bq_at_held)
@[simp] theorem nq_at_site : (Str.ofString "at" = Str.ofString "site") = False := eq_false (beq_eq_false_iff_ne.mp bq_at_site)
@[simp] theorem nq_at_right : (Str.ofString "at" = Str.ofString "right") = False := eq_false (beq_eq_false_iff_ne.mp bq_at_right)
theorem piece_to {y : PySem.Str} (h : nameOk y = true) : phi_read_piece [.d (.str (Str.ofString "to")), .d (.str y)] [] = some (.d (.str y), []) := by
  have hG : G_read_piece [some (.d (.str (Str.ofString "to"))), some (.d (.str y))] [] = some (.rt (.d (.str y)) []) := by
    unfold G_read_piece
    simp [is_name_ok h]
  unfold phi_read_piece
  rw [fnD_ev 2 2 G_read_piece [.d (.str (Str.ofString "to")), .d (.str y)] rfl]
  simp [hG]
theorem piece_in {i : Int} (h1 : 1 ≤ i) (h2 : i ≤ 2) : phi_read_piece [.d (.str (Str.ofString "in")), .d (.str (sn i))] [] = some (.d (.int i), []) := by
  have hG : G_read_piece [some (.d (.str (Str.ofString "in"))), some (.d (.str (sn i)))] [] = some (.rt (.d (.int i)) []) := by
    unfold G_read_piece
    simp [within_ok (i := i) (lo := 1) (hi := 2) (by omega) h1 h2]
  unfold phi_read_piece
  rw [fnD_ev 2 2 G_read_piece [.d (.str (Str.ofString "in")), .d (.str (sn i))] rfl]
  simp [hG]
theorem piece_reach {i : Int} (h1 : 0 ≤ i) (h2 : i ≤ 99) : phi_read_piece [.d (.str (Str.ofString "reach")), .d (.str (sn i))] [] = some (.d (.int i), []) := by
  have hG : G_read_piece [some (.d (.str (Str.ofString "reach"))), some (.d (.str (sn i)))] [] = some (.rt (.d (.int i)) []) := by
    unfold G_read_piece
    simp [within_ok (i := i) (lo := 0) (hi := 99) (by omega) h1 h2]
  unfold phi_read_piece
  rw [fnD_ev 2 2 G_read_piece [.d (.str (Str.ofString "reach")), .d (.str (sn i))] rfl]
  simp [hG]
theorem piece_room {i : Int} (h1 : 1 ≤ i) (h2 : i ≤ 99) : phi_read_piece [.d (.str (Str.ofString "room")), .d (.str (sn i))] [] = some (.d (.int i), []) := by
  have hG : G_read_piece [some (.d (.str (Str.ofString "room"))), some (.d (.str (sn i)))] [] = some (.rt (.d (.int i)) []) := by
    unfold G_read_piece
    simp [within_ok (i := i) (lo := 1) (hi := 99) (by omega) h1 h2]
  unfold phi_read_piece
  rw [fnD_ev 2 2 G_read_piece [.d (.str (Str.ofString "room")), .d (.str (sn i))] rfl]
  simp [hG]
theorem piece_held {i : Int} (h1 : 1 ≤ i) (h2 : i ≤ 99) : phi_read_piece [.d (.str (Str.ofString "held")), .d (.str (sn i))] [] = some (.d (.int i), []) := by
  have hG : G_read_piece [some (.d (.str (Str.ofString "held"))), some (.d (.str (sn i)))] [] = some (.rt (.d (.int i)) []) := by
    unfold G_read_piece
    simp [within_ok (i := i) (lo := 1) (hi := 1000000000) (by omega) h1 (by omega)]
  unfold phi_read_piece
  rw [fnD_ev 2 2 G_read_piece [.d (.str (Str.ofString "held")), .d (.str (sn i))] rfl]
  simp [hG]
/-! ### what is told: the words, the pieces, the dict -/
def tw (x : Site) : List PySem.Str := (match x.nxt with | none => [] | some _ => (([Str.ofString "to"] : List PySem.Str) ++ (if 0 < x.trav then [Str.ofString "in"] else [])) ++ (match x.reach with | none => [] | some _ => [Str.ofString "reach"])) ++ (if 0 < x.room then [Str.ofString "room"] else []) ++ (if 0 < x.held then [Str.ofString "held"] else [])
def tp (x : Site) : List PySem.Str := (match x.nxt with | none => [] | some y => (([y] : List PySem.Str) ++ (if 0 < x.trav then [sn x.trav] else [])) ++ (match x.reach with | none => [] | some r => [sn r])) ++ (if 0 < x.room then [sn x.room] else []) ++ (if 0 < x.held then [sn x.held] else [])
def td (x : Site) : List (Key × D) := (match x.nxt with | none => [] | some y => (([(.inr (Str.ofString "to"), .str y)] : List (Key × D)) ++ (if 0 < x.trav then [(.inr (Str.ofString "in"), .int x.trav)] else [])) ++ (match x.reach with | none => [] | some r => [(.inr (Str.ofString "reach"), .int r)])) ++ (if 0 < x.room then [(.inr (Str.ofString "room"), .int x.room)] else []) ++ (if 0 < x.held then [(.inr (Str.ofString "held"), .int x.held)] else [])
theorem eqv_strs : ∀ ys : List PySem.Str, PyData.eqvAll (ys.map PyData.str) (ys.map PyData.str) = true
  | [] => rfl
  | y :: ys => by
    show (PyData.eqv (.str y) (.str y) && PyData.eqvAll (ys.map PyData.str) (ys.map PyData.str)) = true
    rw [eqv_strs ys]
    simp [PyData.eqv]
theorem toPys_strs : ∀ ys : List PySem.Str, toPys (ys.map D.str) = some (ys.map PyData.str)
  | [] => rfl
  | y :: ys => by
    show (toPy (.str y)).bind (fun p => (toPys (ys.map D.str)).bind fun ps => some (p :: ps)) = _
    rw [toPys_strs ys]
    rfl
end Lw
namespace Lw
open PySem PySem.Spec PyProof.Rows L2 DL
def wOk (y : PySem.Str) : Bool := (PyData.canLay0 (.str y))
theorem canLay_strs : ∀ ys : List PySem.Str, (∀ y ∈ ys, wOk y = true) → PyData.canLayAll0 (ys.map PyData.str) = true
  | [], _ => rfl
  | y :: ys, h => by
    show (PyData.canLay0 (.str y) && PyData.canLayAll0 (ys.map PyData.str)) = true
    rw [canLay_strs ys fun z hz => h z (by simp [hz]), show PyData.canLay0 (.str y) = true from h y (by simp)]
    rfl
theorem depth_strs : ∀ ys : List PySem.Str, PyData.depthAll (ys.map PyData.str) = 0
  | [] => rfl
  | y :: ys => by
    show max 0 (PyData.depthAll (ys.map PyData.str)) = 0
    rw [depth_strs ys]
    rfl
theorem ne_same {ys : List PySem.Str} (h : ∀ y ∈ ys, wOk y = true) : eqD true (.lst (ys.map .str)) (.lst (ys.map .str)) = some (.bl false) := by
  have e : toPy (.lst (ys.map .str)) = some (.list (ys.map PyData.str)) := by
    show (toPys (ys.map D.str)).map PyData.list = _
    rw [toPys_strs]
    rfl
  have sh : SeqAt.shaped (.list (ys.map PyData.str)) = true := by
    show (PyData.canLayAll0 (ys.map PyData.str) && decide (PyData.depthAll (ys.map PyData.str) + 1 ≤ 64)) = true
    rw [canLay_strs ys h, depth_strs]
    rfl
  have q : PyData.eqv (.list (ys.map PyData.str)) (.list (ys.map PyData.str)) = true := eqv_strs ys
  have s : eqS (.lst (ys.map .str)) (.lst (ys.map .str)) = some true := by
    show (toPy (.lst (ys.map .str))).bind (fun p => (toPy (.lst (ys.map .str))).bind fun q => if SeqAt.shaped p = true ∧ SeqAt.shaped q = true then some (PyData.eqv p q) else none) = _
    rw [e]
    show (if SeqAt.shaped (.list (ys.map PyData.str)) = true ∧ SeqAt.shaped (.list (ys.map PyData.str)) = true then some (PyData.eqv (.list (ys.map PyData.str)) (.list (ys.map PyData.str))) else none) = _
    rw [if_pos ⟨sh, sh⟩, q]
  show (eqS _ _).map _ = _
  rw [s]
  rfl
theorem wOk5 : ∀ y ∈ ([Str.ofString "to", Str.ofString "in", Str.ofString "reach", Str.ofString "room", Str.ofString "held"] : List PySem.Str), wOk y = true := by decide +kernel
def wD : D → Bool
  | .str y => ([Str.ofString "to", Str.ofString "in", Str.ofString "reach", Str.ofString "room", Str.ofString "held"] : List PySem.Str).contains y
  | _ => false
@[simp] theorem wD_to : wD (.str (Str.ofString "to")) = true := by decide +kernel
@[simp] theorem wD_in : wD (.str (Str.ofString "in")) = true := by decide +kernel
@[simp] theorem wD_reach : wD (.str (Str.ofString "reach")) = true := by decide +kernel
@[simp] theorem wD_room : wD (.str (Str.ofString "room")) = true := by decide +kernel
@[simp] theorem wD_held : wD (.str (Str.ofString "held")) = true := by decide +kernel
theorem wD_strs : ∀ xs : List D, xs.all wD = true → ∃ ys : List PySem.Str, xs = ys.map .str ∧ ∀ y ∈ ys, wOk y = true
  | [], _ => ⟨[], rfl, fun y h => by simp at h⟩
  | x :: xs, h => by
    rw [List.all_cons, Bool.and_eq_true] at h
    obtain ⟨ys, rfl, h2⟩ := wD_strs xs h.2
    cases x with
    | str y =>
      refine ⟨y :: ys, rfl, fun z hz => ?_⟩
      rcases List.mem_cons.mp hz with rfl | hz
      · exact wOk5 z (by simpa [wD] using h.1)
      · exact h2 z hz
    | _ => exact absurd h.1 (by simp [wD])
theorem ne_sameW {xs : List D} (h : xs.all wD = true) : eqD true (.lst xs) (.lst xs) = some (.bl false) := by
  obtain ⟨ys, rfl, h2⟩ := wD_strs xs h
  exact ne_same h2
@[simp] theorem ne_nil : eqD true (.lst []) (.lst []) = some (.bl false) := ne_sameW (xs := []) (by simp)
@[simp] theorem frz3_d {st : Sto} (x : D) : frz 3 (.d x) st = some (x, st) := rfl
theorem zip_self {α β : Type} : ∀ kvs : List (α × β), (kvs.map (·.1)).zip (kvs.map (·.2)) = kvs
  | [] => rfl
  | a :: r => congrArg (a :: ·) (zip_self r)
theorem frz_dct {st : Sto} {k : Nat} {kvs : List (Key × D)} (h : st[k]? = some (.dct (kvs.map fun kv => (kv.1, .d kv.2)))) : frz 4 (.p k) st = some (.dct kvs, st.set k (.fro (.dct kvs))) := by
  unfold frz
  rw [h]
  show (frzL (frz 3) ((kvs.map fun kv => (kv.1, C.d kv.2)).map (·.2)) st).bind _ = _
  have e : ((kvs.map fun kv => (kv.1, C.d kv.2)).map (·.2)) = (kvs.map (·.2)).map .d := by
    rw [List.map_map, List.map_map]
    rfl
  have e2 : ((kvs.map fun kv => (kv.1, C.d kv.2)).map (·.1)).zip (kvs.map (·.2)) = kvs := by
    rw [List.map_map]
    show (kvs.map (·.1)).zip (kvs.map (·.2)) = kvs
    exact zip_self kvs
  rw [e, frzL_d 3]
  show some (D.dct (((kvs.map fun kv => (kv.1, C.d kv.2)).map (·.1)).zip (kvs.map (·.2))), st.set k (.fro (.dct (((kvs.map fun kv => (kv.1, C.d kv.2)).map (·.1)).zip (kvs.map (·.2)))))) = _
  rw [e2]
/-! ### the same equations by named functions: simp evaluates from the front -/
section
variable {ρ : DL.Env} {st : Sto}
def lc4K (t : Tg) (test : GT) (elt : GE) (ρ : DL.Env) (xs acc : List D) : D × Sto → Option (List D × Sto)
  | (y, st) => if acc.length < 1000000 then lcL t test elt ρ xs st (acc ++ [y]) else none
theorem lc4K_e (t : Tg) (test : GT) (elt : GE) (xs acc : List D) (y : D) : lc4K t test elt ρ xs acc (y, st) = if acc.length < 1000000 then lcL t test elt ρ xs st (acc ++ [y]) else none := (rfl)
def lc3K (t : Tg) (test : GT) (elt : GE) (ρ : DL.Env) (xs acc : List D) : C × Sto → Option (List D × Sto)
  | (c, st) => (frz 4 c st).bind (lc4K t test elt ρ xs acc)
theorem lc3K_e (t : Tg) (test : GT) (elt : GE) (xs acc : List D) (c : C) : lc3K t test elt ρ xs acc (c, st) = (frz 4 c st).bind (lc4K t test elt ρ xs acc) := (rfl)
def lc2K (t : Tg) (test : GT) (elt : GE) (ρ ρ1 : DL.Env) (xs acc : List D) : Bool × Sto → Option (List D × Sto)
  | (true, st) => (elt ρ1 st).bind (lc3K t test elt ρ xs acc)
  | (false, st) => lcL t test elt ρ xs st acc
theorem lc2K_t (t : Tg) (test : GT) (elt : GE) (ρ1 : DL.Env) (xs acc : List D) : lc2K t test elt ρ ρ1 xs acc (true, st) = (elt ρ1 st).bind (lc3K t test elt ρ xs acc) := (rfl)
theorem lc2K_f (t : Tg) (test : GT) (elt : GE) (ρ1 : DL.Env) (xs acc : List D) : lc2K t test elt ρ ρ1 xs acc (false, st) = lcL t test elt ρ xs st acc := (rfl)
def lc1K (t : Tg) (test : GT) (elt : GE) (ρ : DL.Env) (xs : List D) (st : Sto) (acc : List D) (ρ1 : DL.Env) : Option (List D × Sto) := (test ρ1 st).bind (lc2K t test elt ρ ρ1 xs acc)
theorem lc1K_e (t : Tg) (test : GT) (elt : GE) (xs acc : List D) (ρ1 : DL.Env) : lc1K t test elt ρ xs st acc ρ1 = (test ρ1 st).bind (lc2K t test elt ρ ρ1 xs acc) := (rfl)
theorem lcC (t : Tg) (test : GT) (elt : GE) (x : D) (xs acc : List D) : lcL t test elt ρ (x :: xs) st acc = (bindTg t x ρ).bind (lc1K t test elt ρ xs st acc) := by
  rw [lcL_cons]
  congr 1
  funext ρ1
  unfold lc1K
  congr 1
  funext p
  obtain ⟨b, s⟩ := p
  cases b <;> rfl
def ifK (a b : GS) (ρ : DL.Env) : Bool × Sto → Option Res
  | (true, st) => a ρ st
  | (false, st) => b ρ st
theorem ifK_t (a b : GS) : ifK a b ρ (true, st) = a ρ st := (rfl)
theorem ifK_f (a b : GS) : ifK a b ρ (false, st) = b ρ st := (rfl)
theorem sIf_K (t : GT) (a b : GS) : sIf t a b ρ st = (t ρ st).bind (ifK a b ρ) := by
  unfold sIf
  congr 1
  funext p
  obtain ⟨c, s⟩ := p
  cases c <;> rfl
def forB (t : Tg) (body : GS) (xs : List D) (st : Sto) (ρ1 : DL.Env) : Option Res := (body ρ1 st).bind (DL.stepK t body xs)
theorem forB_e (t : Tg) (body : GS) (xs : List D) (ρ1 : DL.Env) : forB t body xs st ρ1 = (body ρ1 st).bind (DL.stepK t body xs) := (rfl)
theorem forC (t : Tg) (body : GS) (x : D) (xs : List D) : forL t body (x :: xs) ρ st = (bindTg t x ρ).bind (forB t body xs st) := by
  rw [forL_cons]
  rfl
def opK2 (g : D → D → Option D) (c : C) : C × Sto → Option (C × Sto)
  | (d, st) => (deref st c).bind fun x => (deref st d).bind fun y => (g x y).bind fun z => some (.d z, st)
theorem opK2_e (g : D → D → Option D) (c d : C) : opK2 g c (d, st) = (deref st c).bind fun x => (deref st d).bind fun y => (g x y).bind fun z => some (.d z, st) := (rfl)
def opK1 (g : D → D → Option D) (b : GE) (ρ : DL.Env) : C × Sto → Option (C × Sto)
  | (c, st) => (b ρ st).bind (opK2 g c)
theorem opK1_e (g : D → D → Option D) (b : GE) (c : C) : opK1 g b ρ (c, st) = (b ρ st).bind (opK2 g c) := (rfl)
theorem eOp_K (g : D → D → Option D) (a b : GE) : eOp g a b ρ st = (a ρ st).bind (opK1 g b ρ) := (rfl)
end
set_option maxHeartbeats 8000000 in
theorem told_run {x : Site} (o : Own x) : ∃ ρ', G_read_told [some (.d (.lst ((tw x).map .str))), some (.d (.lst ((tp x).map .str))), none, none, none] [] = some (.rt (.p 0) [.dct ((td x).map fun kv => (kv.1, .d kv.2))]) ∧ ρ' = () := by
  refine ⟨(), ?_, rfl⟩
  obtain ⟨nm, nx, tr, re, rm, hd, is⟩ := x
  have p4 : 0 < rm → phi_read_piece [.d (.str (Str.ofString "room")), .d (.str (sn rm))] [] = some (.d (.int rm), []) := fun h => piece_room (by omega) o.room.2
  have p5 : 0 < hd → phi_read_piece [.d (.str (Str.ofString "held")), .d (.str (sn hd))] [] = some (.d (.int hd), []) := fun h => piece_held (by omega) o.held.2
  have p2 : 0 < tr → phi_read_piece [.d (.str (Str.ofString "in")), .d (.str (sn tr))] [] = some (.d (.int tr), []) := fun h => piece_in (by omega) o.trav.2
  cases nx with
  | none =>
    have := o.tr0 rfl
    have := o.re0 rfl
    simp only at *
    subst tr re
    by_cases h1 : 0 < rm <;> by_cases h2 : 0 < hd <;> simp only [h1, h2, forall_const] at p4 p5 <;>
      simp [-sIf_ev, sIf_K, ifK_t, ifK_f, -eOp_ev, eOp_K, opK1_e, opK2_e, lcC, lc1K_e, lc2K_t, lc2K_f, lc3K_e, lc4K_e, forC, forB_e, G_read_told, tw, tp, td, h1, h2, lcL_nil, inD, flatD, inV, toV, eqV, ne_sameW, forL_nil, p4, p5, putC, lookC]
  | some z =>
    have p1 := piece_to (nm4 (o.nxt z rfl))
    cases re with
    | none =>
      by_cases h0 : 0 < tr <;> by_cases h1 : 0 < rm <;> by_cases h2 : 0 < hd <;> simp only [h0, h1, h2, forall_const] at p2 p4 p5 <;>
        simp [-sIf_ev, sIf_K, ifK_t, ifK_f, -eOp_ev, eOp_K, opK1_e, opK2_e, lcC, lc1K_e, lc2K_t, lc2K_f, lc3K_e, lc4K_e, forC, forB_e, G_read_told, tw, tp, td, h0, h1, h2, lcL_nil, inD, flatD, inV, toV, eqV, ne_sameW, forL_nil, p1, p2, p4, p5, putC, lookC]
    | some r =>
      have p3 := piece_reach (o.reach r rfl).1 (o.reach r rfl).2
      by_cases h0 : 0 < tr <;> by_cases h1 : 0 < rm <;> by_cases h2 : 0 < hd <;> simp only [h0, h1, h2, forall_const] at p2 p4 p5 <;>
        simp [-sIf_ev, sIf_K, ifK_t, ifK_f, -eOp_ev, eOp_K, opK1_e, opK2_e, lcC, lc1K_e, lc2K_t, lc2K_f, lc3K_e, lc4K_e, forC, forB_e, G_read_told, tw, tp, td, h0, h1, h2, lcL_nil, inD, flatD, inV, toV, eqV, ne_sameW, forL_nil, p1, p2, p3, p4, p5, putC, lookC]
end Lw
namespace Lw
open PySem PySem.Spec PyProof.Rows L2 DL
theorem told_ok {x : Site} (o : Own x) : phi_read_told [.d (.lst ((tw x).map .str)), .d (.lst ((tp x).map .str))] [] = some (.d (.dct (td x)), []) := by
  obtain ⟨_, hG, _⟩ := told_run o
  have hf : frz 4 (.p 0) [.dct ((td x).map fun kv => (kv.1, .d kv.2))] = some (.dct (td x), [.fro (.dct (td x))]) := frz_dct rfl
  unfold phi_read_told
  rw [fnD_ev 5 2 G_read_told [.d (.lst ((tw x).map .str)), .d (.lst ((tp x).map .str))] rfl]
  show (G_read_told [some (.d (.lst ((tw x).map .str))), some (.d (.lst ((tp x).map .str))), none, none, none] []).bind (retK 0) = _
  rw [hG, Option.bind_some, retK_rt, fin_p (Nat.le_refl 0), hf]
  simp
theorem pick_at {xs : List D} {lo hi st : Option Int} {n : Nat} {is : List Nat} (hn : xs.length = n) (e : sliceRange (sliceBounds lo hi st n).1 (sliceBounds lo hi st n).2.1 (sliceBounds lo hi st n).2.2 = is) : pickD xs lo hi st = is.filterMap fun i => xs[i]? := by
  unfold pickD
  rw [hn, e]
theorem p1 (a b : D) : pickD [a, b] (some 2) none (some 2) = [] ∧ pickD [a, b] (some 3) none (some 2) = [] := ⟨pick_at (n := 2) (is := []) rfl (by decide +kernel), pick_at (n := 2) (is := []) rfl (by decide +kernel)⟩
theorem p2 (a b c d : D) : pickD [a, b, c, d] (some 2) none (some 2) = [c] ∧ pickD [a, b, c, d] (some 3) none (some 2) = [d] := ⟨pick_at (n := 4) (is := [2]) rfl (by decide +kernel), pick_at (n := 4) (is := [3]) rfl (by decide +kernel)⟩
theorem p3 (a b c d e f : D) : pickD [a, b, c, d, e, f] (some 2) none (some 2) = [c, e] ∧ pickD [a, b, c, d, e, f] (some 3) none (some 2) = [d, f] := ⟨pick_at (n := 6) (is := [2, 4]) rfl (by decide +kernel), pick_at (n := 6) (is := [3, 5]) rfl (by decide +kernel)⟩
theorem p4 (a b c d e f g h : D) : pickD [a, b, c, d, e, f, g, h] (some 2) none (some 2) = [c, e, g] ∧ pickD [a, b, c, d, e, f, g, h] (some 3) none (some 2) = [d, f, h] := ⟨pick_at (n := 8) (is := [2, 4, 6]) rfl (by decide +kernel), pick_at (n := 8) (is := [3, 5, 7]) rfl (by decide +kernel)⟩
theorem p5 (a b c d e f g h i j : D) : pickD [a, b, c, d, e, f, g, h, i, j] (some 2) none (some 2) = [c, e, g, i] ∧ pickD [a, b, c, d, e, f, g, h, i, j] (some 3) none (some 2) = [d, f, h, j] := ⟨pick_at (n := 10) (is := [2, 4, 6, 8]) rfl (by decide +kernel), pick_at (n := 10) (is := [3, 5, 7, 9]) rfl (by decide +kernel)⟩
theorem p6 (a b c d e f g h i j k l : D) : pickD [a, b, c, d, e, f, g, h, i, j, k, l] (some 2) none (some 2) = [c, e, g, i, k] ∧ pickD [a, b, c, d, e, f, g, h, i, j, k, l] (some 3) none (some 2) = [d, f, h, j, l] := ⟨pick_at (n := 12) (is := [2, 4, 6, 8, 10]) rfl (by decide +kernel), pick_at (n := 12) (is := [3, 5, 7, 9, 11]) rfl (by decide +kernel)⟩
theorem head_split {x : Site} : pickD ((psHead x).map D.str) (some 2) none (some 2) = (tw x).map .str ∧ pickD ((psHead x).map D.str) (some 3) none (some 2) = (tp x).map .str ∧ ∃ n : Nat, (psHead x).length = 2 * n ∧ n ≤ 6 := by
  obtain ⟨nm, nx, tr, re, rm, hd, is⟩ := x
  cases nx with
  | none =>
    by_cases h1 : 0 < rm <;> by_cases h2 : 0 < hd <;> simp [psHead, psTo, tw, tp, h1, h2, p1, p2, p3]
    · exact ⟨3, rfl, by decide⟩
    · exact ⟨2, rfl, by decide⟩
    · exact ⟨2, rfl, by decide⟩
    · exact ⟨1, rfl, by decide⟩
  | some z =>
    cases re with
    | none =>
      by_cases h0 : 0 < tr <;> by_cases h1 : 0 < rm <;> by_cases h2 : 0 < hd <;> simp [psHead, psTo, tw, tp, h0, h1, h2, p2, p3, p4, p5]
      · exact ⟨5, rfl, by decide⟩
      · exact ⟨4, rfl, by decide⟩
      · exact ⟨4, rfl, by decide⟩
      · exact ⟨3, rfl, by decide⟩
      · exact ⟨4, rfl, by decide⟩
      · exact ⟨3, rfl, by decide⟩
      · exact ⟨3, rfl, by decide⟩
      · exact ⟨2, rfl, by decide⟩
    | some r =>
      by_cases h0 : 0 < tr <;> by_cases h1 : 0 < rm <;> by_cases h2 : 0 < hd <;> simp [psHead, psTo, tw, tp, h0, h1, h2, p3, p4, p5, p6]
      · exact ⟨6, rfl, by decide⟩
      · exact ⟨5, rfl, by decide⟩
      · exact ⟨5, rfl, by decide⟩
      · exact ⟨4, rfl, by decide⟩
      · exact ⟨5, rfl, by decide⟩
      · exact ⟨4, rfl, by decide⟩
      · exact ⟨4, rfl, by decide⟩
      · exact ⟨3, rfl, by decide⟩
theorem pre_head {x : Site} : pre x = Txt.join (Str.ofString " ") (psHead x) := by
  obtain ⟨nm, nx, tr, re, rm, hd, is⟩ := x
  refine TL.ext_tl ?_
  rw [tl_line]
  cases nx with
  | none =>
    by_cases h1 : 0 < rm <;> by_cases h2 : 0 < hd <;>
      simp [pre, preHeld, preRoom, preTo, pre0, psHead, psTo, h1, h2, joinL2, TL.tl_append, w1, w5, w6, TL.joinL]
  | some z =>
    cases re with
    | none =>
      by_cases h0 : 0 < tr <;> by_cases h1 : 0 < rm <;> by_cases h2 : 0 < hd <;>
        simp [pre, preHeld, preRoom, preTo, preIn, preRe, pre0, psHead, psTo, h0, h1, h2, joinL2, TL.tl_append, w1, w2, w3, w4, w5, w6, TL.joinL]
    | some r =>
      by_cases h0 : 0 < tr <;> by_cases h1 : 0 < rm <;> by_cases h2 : 0 < hd <;>
        simp [pre, preHeld, preRoom, preTo, preIn, preRe, pre0, psHead, psTo, h0, h1, h2, joinL2, TL.tl_append, w1, w2, w3, w4, w5, w6, TL.joinL]
theorem gets {x : Site} (o : Own x) : let kvs := (td x).map fun kv => (kv.1, C.d kv.2)
    orC (lookC kvs (.inr (Str.ofString "to"))) (.d .non) = .d (oS x.nxt) ∧ orC (lookC kvs (.inr (Str.ofString "in"))) (.d (.int 0)) = .d (.int x.trav) ∧ orC (lookC kvs (.inr (Str.ofString "reach"))) (.d .non) = .d (oN' x.reach) ∧
    orC (lookC kvs (.inr (Str.ofString "room"))) (.d (.int 0)) = .d (.int x.room) ∧ orC (lookC kvs (.inr (Str.ofString "held"))) (.d (.int 0)) = .d (.int x.held) := by
  obtain ⟨nm, nx, tr, re, rm, hd, is⟩ := x
  have z0 : ¬ 0 < tr → tr = 0 := fun h => by have := o.trav.1; simp only at this; omega
  have z1 : ¬ 0 < rm → rm = 0 := fun h => by have := o.room.1; simp only at this; omega
  have z2 : ¬ 0 < hd → hd = 0 := fun h => by have := o.held.1; simp only at this; omega
  cases nx with
  | none =>
    have := o.tr0 rfl
    have := o.re0 rfl
    simp only at *
    subst tr re
    by_cases h1 : 0 < rm <;> by_cases h2 : 0 < hd <;> simp [td, lookC, oS, oN', h1, h2, z1, z2]
  | some z =>
    cases re with
    | none =>
      by_cases h0 : 0 < tr <;> by_cases h1 : 0 < rm <;> by_cases h2 : 0 < hd <;> simp [td, lookC, oS, oN', h0, h1, h2, z0, z1, z2]
    | some r =>
      by_cases h0 : 0 < tr <;> by_cases h1 : 0 < rm <;> by_cases h2 : 0 < hd <;> simp [td, lookC, oS, oN', h0, h1, h2, z0, z1, z2]
end Lw
namespace Lw
open PySem PySem.Spec PyProof.Rows L2 DL
theorem J_free {is : List Int} (h : ∀ a ∈ is, 0 ≤ a ∧ a ≤ 99) {c : Nat} (hc : c ≠ 32) (hd : c < 48 ∨ 57 < c) : c ∉ TL.tl (J is) := fun hm => by
  unfold J at hm
  rw [show Txt.join (" " : PySem.Str) (is.map sn) = Txt.join (Str.ofString " ") (is.map sn) from rfl, tl_line] at hm
  rcases mem_joinL hm with h2 | ⟨p, hp, h2⟩
  · simp at h2
    exact hc h2
  · simp only [List.mem_map] at hp
    obtain ⟨y, ⟨i, hi, rfl⟩, rfl⟩ := hp
    obtain ⟨n, rfl⟩ := Int.eq_ofNat_of_zero_le (h i hi).1
    rw [show TL.tl (sn ((n : Nat) : Int)) = TL.numL n from TL.tl_num n] at h2
    exact TL.numL_free hd h2
theorem tl_flow : TL.tl (Str.ofString " flow ") = 32 :: 102 :: [108, 111, 119, 32] := by decide +kernel
theorem tl_wants : TL.tl (Str.ofString " wants ") = 32 :: 119 :: [97, 110, 116, 115, 32] := by decide +kernel
theorem rp_site {x : Site} (o : Own x) : Txt.rpartition (lineS x) (Str.ofString " flow ") = (pre x, Str.ofString " flow ", J x.ins) := by
  rw [← pre_line o.ins.1.1]
  refine rpart_app (by rw [tl_flow]; exact List.cons_ne_nil _ _) fun k hk => ?_
  rw [TL.tl_append, TL.tl_append, tl_flow, List.append_assoc]
  refine no_behind (q := [108, 111, 119, 32] ++ TL.tl (J x.ins)) (fun hm => ?_) k (by rw [← TL.len_tl]; exact hk)
  rcases List.mem_append.mp hm with h | h
  · simp at h
  · exact J_free o.ins.2 (by decide) (.inr (by decide)) h
theorem fl_len : ((Str.ofString " flow ").length == 0) = false ∧ ((Str.ofString " wants ").length == 0) = false := by decide +kernel
theorem rpartD_ok {a b p q r : PySem.Str} (hb : (b.length == 0) = false) (ha : a.length ≤ 1000000) (e : Txt.rpartition a b = (p, q, r)) : rpartD [.str a, .str b] = some (.tup [.str p, .str q, .str r]) := by
  show (if (b.length == 0) = false ∧ a.length ≤ 1000000 then some (D.tup [.str (Txt.rpartition a b).1, .str (Txt.rpartition a b).2.1, .str (Txt.rpartition a b).2.2]) else none) = _
  rw [if_pos ⟨hb, ha⟩, e]
theorem head_free {x : Site} (o : Own x) : ∀ y ∈ psHead x, freeB y = true := fun y hy => ps_free o y (by unfold ps; simp [hy])
theorem head_len {x : Site} (o : Own x) : ∀ y ∈ psHead x, y.length ≤ 100 := fun y hy => (ps_len o).1 y (by unfold ps; simp [hy])
theorem pre_len {x : Site} (o : Own x) : (pre x).length ≤ 1000000 := by
  rw [pre_head]
  have := joined_len (psHead x) (head_len o)
  obtain ⟨_, _, n, h1, h2⟩ := head_split (x := x)
  rw [show Txt.join (Str.ofString " ") (psHead x) = Txt.join (" " : PySem.Str) (psHead x) from rfl]
  omega
theorem head_cons (x : Site) : ∃ r, psHead x = Str.ofString "site" :: x.name :: r := ⟨_, rfl⟩
theorem site_eq : (Str.ofString "site" == Str.ofString "site") = true := by decide +kernel
theorem read_site_ok {x : Site} (o : Own x) {mo : D} (hm : mo = .non ∨ mo = .int (x.ins.length : Nat)) : phi_read_site [.d (.str (lineS x)), .d mo] [] = some (.d (siteD x), []) := by
  have hr := rpartD_ok fl_len.1 (Nat.le_trans (lineS_len o) (by decide)) (rp_site o)
  have hsp : splitD [.str (pre x), .str (Str.ofString " ")] = some (.lst ((psHead x).map .str)) := by
    rw [splitD_ok sp_len (pre_len o), pre_head, split_line (by obtain ⟨r, e⟩ := head_cons x; rw [e]; exact List.cons_ne_nil _ _) (head_free o)]
  have hn := is_name_ok (nm4 o.name)
  have ht := told_ok o
  have ha := amounts_ok (is := x.ins) (mo := mo) o.ins.2 o.ins.1 hm
  obtain ⟨h1, h2, n, h3, h4⟩ := head_split (x := x)
  obtain ⟨g1, g2, g3, g4, g5⟩ := gets o
  obtain ⟨r, hh⟩ := head_cons x
  have x0 : ((psHead x).map D.str)[0]? = some (.str (Str.ofString "site")) := by rw [hh]; rfl
  have x1 : ((psHead x).map D.str)[1]? = some (.str x.name) := by rw [hh]; rfl
  have hlen : ((psHead x).map D.str).length = 2 * n := by rw [List.length_map, h3]
  have hmod : ((2 * n : Nat) : Int) % 2 = 0 := by omega
  generalize 2 * n = L at *
  generalize (psHead x).map D.str = hd at *
  generalize (tw x).map D.str = tws at *
  generalize (tp x).map D.str = tps at *
  have hG : ∃ st, G_read_site [some (.d (.str (lineS x))), some (.d mo), none, none, none, none, none, none] [] = some (.rt (.d (siteD x)) st) := by
    refine ⟨[], ?_⟩
    unfold G_read_site
    have hmo : modD (.int (L : Int)) (.int 2) = some (.int 0) := by
      show (if decide ((0 : Int) < 2) = true then some (D.int ((L : Int) % 2)) else none) = _
      rw [hmod]
      rfl
    have hdc : ∀ k, isND false (.dct k) .non = some (.bl false) := fun _ => rfl
    simp [hr, hsp, x0, x1, hlen, hn, hmo, h1, h2, ht, ha, hdc, g1, g2, g3, g4, g5, siteD]
  obtain ⟨st, hG⟩ := hG
  unfold phi_read_site
  rw [fnD_ev 8 2 G_read_site [.d (.str (lineS x)), .d mo] rfl]
  simp [hG]
end Lw
namespace Lw
open PySem PySem.Spec PyProof.Rows L2 DL
def preR (x : Rgt) : PySem.Str := Str.ofString "right " ++ x.name ++ Str.ofString " at " ++ x.site
theorem adj_all : ∀ a ∈ (["a", "mill", "farm", "town"] : List PySem.Str), ∀ b ∈ names4, adj 102 108 (TL.tl (Str.ofString "right " ++ a ++ Str.ofString " at " ++ b ++ Str.ofString " wants ")) = false := by decide +kernel
theorem rp_no {x : Rgt} (o : OwnR x) : Txt.rpartition (lineR x) (Str.ofString " flow ") = (Str.empty, Str.empty, lineR x) := by
  refine rpart_none (by rw [tl_flow]; exact List.cons_ne_nil _ _) ?_
  rw [tl_flow]
  refine no_adj ?_
  rw [← right_line_eq o.wants.1.1, TL.tl_append]
  exact adj_app (adj_all _ o.name _ o.site) (J_free o.wants.2 (by decide) (.inr (by decide)))
theorem rp_right {x : Rgt} (o : OwnR x) : Txt.rpartition (lineR x) (Str.ofString " wants ") = (preR x, Str.ofString " wants ", J x.wants) := by
  rw [← right_line_eq o.wants.1.1]
  show Txt.rpartition (preR x ++ Str.ofString " wants " ++ J x.wants) _ = _
  refine rpart_app (by rw [tl_wants]; exact List.cons_ne_nil _ _) fun k hk => ?_
  rw [TL.tl_append, TL.tl_append, tl_wants, List.append_assoc]
  refine no_behind (q := [97, 110, 116, 115, 32] ++ TL.tl (J x.wants)) (fun hm => ?_) k (by rw [← TL.len_tl]; exact hk)
  rcases List.mem_append.mp hm with h | h
  · simp at h
  · exact J_free o.wants.2 (by decide) (.inr (by decide)) h
theorem preR_head {x : Rgt} : preR x = Txt.join (Str.ofString " ") ([Str.ofString "right", x.name, Str.ofString "at", x.site] : List PySem.Str) := by
  refine TL.ext_tl ?_
  rw [tl_line]
  simp [preR, joinL2, TL.tl_append, w8, w9, TL.joinL]
theorem split_R {x : Rgt} (o : OwnR x) : Txt.split (preR x) (Str.ofString " ") = [Str.ofString "right", x.name, Str.ofString "at", x.site] := by
  rw [preR_head]
  refine split_line (List.cons_ne_nil _ _) fun y hy => psR_free o y ?_
  unfold psR
  rw [List.mem_append]
  left
  simp only [List.mem_cons, List.not_mem_nil, or_false] at hy ⊢
  rcases hy with h | h | h | h
  · exact .inl h
  · exact .inr (.inl h)
  · exact .inr (.inr (.inl h))
  · exact .inr (.inr (.inr (.inl h)))
theorem preR_len {x : Rgt} (o : OwnR x) : (preR x).length ≤ 1000000 := by
  have n1 := rn_len o
  have n2 := nm_len o.site
  obtain ⟨_, _, _, _, _, _, _, q1, q2, q3⟩ := lw
  unfold preR
  rw [len_app, len_app, len_app]
  omega
theorem split_empty : Txt.split Str.empty (Str.ofString " ") = [Str.empty] := by decide +kernel
theorem em_site : (Str.empty == Str.ofString "site") = false := by decide +kernel
theorem read_site_no {x : Rgt} (o : OwnR x) (mo : D) : phi_read_site [.d (.str (lineR x)), .d mo] [] = some (.d .non, []) := by
  have hr := rpartD_ok fl_len.1 (Nat.le_trans (lineR_len o) (by decide)) (rp_no o)
  have hsp : splitD [.str Str.empty, .str (Str.ofString " ")] = some (.lst [.str Str.empty]) := by
    rw [splitD_ok sp_len (by decide), split_empty]
    rfl
  have hq : eqD true (.str Str.empty) (.str (Str.ofString "site")) = some (.bl true) := by
    rw [ne_ss, em_site]
    rfl
  have hG : G_read_site [some (.d (.str (lineR x))), some (.d mo), none, none, none, none, none, none] [] = some (.rt (.d .non) []) := by
    unfold G_read_site
    simp [-ne_ss, hr, hsp, hq]
  unfold phi_read_site
  rw [fnD_ev 8 2 G_read_site [.d (.str (lineR x)), .d mo] rfl]
  simp [hG]
theorem read_right_ok {x : Rgt} (o : OwnR x) {mo : D} (hm : mo = .non ∨ mo = .int (x.wants.length : Nat)) : phi_read_right [.d (.str (lineR x)), .d mo] [] = some (.d (rgtD x), []) := by
  have hr := rpartD_ok fl_len.2 (Nat.le_trans (lineR_len o) (by decide)) (rp_right o)
  have hsp : splitD [.str (preR x), .str (Str.ofString " ")] = some (.lst [.str (Str.ofString "right"), .str x.name, .str (Str.ofString "at"), .str x.site]) := by
    rw [splitD_ok sp_len (preR_len o), split_R o]
    rfl
  have hn := is_name_ok (nmR o.name)
  have hn2 := is_name_ok (nm4 o.site)
  have ha := amounts_ok (is := x.wants) (mo := mo) o.wants.2 o.wants.1 hm
  have hG : G_read_right [some (.d (.str (lineR x))), some (.d mo), none, none, none, none, none] [] = some (.rt (.d (rgtD x)) []) := by
    unfold G_read_right
    simp [hr, hsp, hn, hn2, ha, rgtD]
  unfold phi_read_right
  rw [fnD_ev 7 2 G_read_right [.d (.str (lineR x)), .d mo] rfl]
  simp [hG]
/-! ### the lists of sites and rights -/
def sS (ss : List Site) : SO := .lst (ss.map fun x => .d (siteD x))
def sR (rs : List Rgt) : SO := .lst (rs.map fun x => .d (rgtD x))
@[simp] theorem flat_sS (ss : List Site) : flatSO (sS ss) = true := by simp [sS, flatSO, okC]
@[simp] theorem flat_sR (rs : List Rgt) : flatSO (sR rs) = true := by simp [sR, flatSO, okC]
@[simp] theorem ok_sS (n : Nat) (ss : List Site) : okSO n (sS ss) = true := by simp [sS, okSO, okC]
@[simp] theorem ok_sR (n : Nat) (rs : List Rgt) : okSO n (sR rs) = true := by simp [sR, okSO, okC]
theorem all_sS (ss : List Site) : derK (some (sS ss)) = some (.lst (ss.map siteD)) := by
  have := allD_map (ss.map siteD)
  rw [List.map_map] at this
  show (allD (ss.map fun x => C.d (siteD x))).map D.lst = _
  rw [show (ss.map fun x => C.d (siteD x)) = ss.map (C.d ∘ siteD) from rfl, this]
  rfl
theorem all_sR (rs : List Rgt) : derK (some (sR rs)) = some (.lst (rs.map rgtD)) := by
  have := allD_map (rs.map rgtD)
  rw [List.map_map] at this
  show (allD (rs.map fun x => C.d (rgtD x))).map D.lst = _
  rw [show (rs.map fun x => C.d (rgtD x)) = rs.map (C.d ∘ rgtD) from rfl, this]
  rfl
/-- the names of what lies in the store -/
theorem lc_names {α : Type} {f : α → D} {nm : α → PySem.Str} {as : List α} {ρ : DL.Env} {st : Sto} {i k : Nat} (hf : ∀ a, ∃ r, f a = .tup (.str (nm a) :: r)) (hs : st[k]? = some (.lst (as.map fun a => .d (f a)))) (hi : i < ρ.length) (hl : as.length ≤ 1000) :
    lcK (.n i) gYes (eOp ixD (eV i) (eK (.int 0))) ρ (.sto k, st) = some (as.map fun a => .str (nm a), st) := by
  have hs2 : st[k]? = some (.lst ((as.map f).map .d)) := by
    rw [hs, List.map_map]
    rfl
  have el : ∀ a : α, eOp ixD (eV i) (eK (.int 0)) (ρ.set i (some (.d (f a)))) st = some (.d (.str (nm a)), st) := fun a => by
    obtain ⟨r, e⟩ := hf a
    simp [hi, e]
  show lcG (.n i) gYes _ (.sto k) ρ (srcLen st (.sto k) + 1) 0 st [] = _
  have hL : srcLen st (.sto k) = (as.map f).length := by
    unfold srcLen
    dsimp only
    rw [hs2]
    simp
  rw [hL, lcG_sto hs2 (fun x hx ρ1 hb => by
    obtain ⟨a, ha, rfl⟩ := List.mem_map.mp hx
    cases hb
    exact ⟨true, rfl, fun _ => ⟨_, _, el a, rfl⟩⟩) (as.map f).length 0 [] (by omega), List.drop_zero]
  have := lcL_mp (ρ := ρ) (st := st) (.n i) (eOp ixD (eV i) (eK (.int 0))) f (fun a => .str (nm a)) as [] (fun a ha => ⟨_, _, rfl, el a, rfl⟩) (by simp; omega)
  simpa using this
end Lw
namespace Lw
open PySem PySem.Spec PyProof.Rows L2 DL
theorem iv_S0 (ss : List Site) (r : List SO) : ivK (.p 0, sS ss :: r) = some (.sto 0, sS ss :: r) := rfl
theorem iv_R1 (a : SO) (rs : List Rgt) (r : List SO) : ivK (.p 1, a :: sR rs :: r) = some (.sto 1, a :: sR rs :: r) := rfl
theorem in_names {α : Type} (nm : α → PySem.Str) (neg : Bool) (y : PySem.Str) (as : List α) : inD neg (.str y) (.lst (as.map fun a => .str (nm a))) = some (.bl (if neg then !(as.any fun a => nm a == y) else as.any fun a => nm a == y)) := by
  have := in_strs neg y (as.map nm)
  rw [List.map_map, List.any_map] at this
  exact this
theorem site_shape (a : Site) : ∃ r, siteD a = .tup (.str a.name :: r) := ⟨_, rfl⟩
theorem rgt_shape (a : Rgt) : ∃ r, rgtD a = .tup (.str a.name :: r) := ⟨_, rfl⟩
theorem site_fault_ok {ss : List Site} {x : Site} (hl : ss.length < 4) (hn : ∀ a ∈ ss, a.name ≠ x.name) (hh : x.held ≤ x.room) : phi_site_fault [.p 0, .p 1, .d (siteD x)] [sS ss, sR []] = some (.d .non, [sS ss, sR []]) := by
  have e0 : derK (some (sS ss)) = some (.lst (ss.map siteD)) := all_sS ss
  have e1 : derK (some (sR [])) = some (.lst []) := all_sR []
  have lc : lcK (.n 3) gYes (eOp ixD (eV 3) (eK (.int 0))) [some (.p 0), some (.p 1), some (.d (siteD x)), none] (.sto 0, [sS ss, sR []]) = some (ss.map fun a => .str a.name, [sS ss, sR []]) := lc_names site_shape rfl (by simp) (by omega)
  have hq : ((ss.length : Int) == 4) = false := by
    rw [beq_eq_false_iff_ne]
    omega
  have ha : (ss.any fun a => a.name == x.name) = false := List.any_eq_false.mpr fun a h => by simpa using hn a h
  have hx : ixD (siteD x) (.int 0) = some (.str x.name) ∧ ixD (siteD x) (.int 5) = some (.int x.held) ∧ ixD (siteD x) (.int 4) = some (.int x.room) := ⟨rfl, rfl, rfl⟩
  have hgt : ¬ x.room < x.held := by omega
  have hG : G_site_fault [some (.p 0), some (.p 1), some (.d (siteD x)), none] [sS ss, sR []] = some (.rt (.d .non) [sS ss, sR []]) := by
    unfold G_site_fault
    simp [e0, e1, hq, hx, iv_S0, lc, in_names, ha, gtD, hgt]
  unfold phi_site_fault
  rw [fnD_ev 4 3 G_site_fault [.p 0, .p 1, .d (siteD x)] rfl]
  simp [hG]
theorem right_fault_ok {ss : List Site} {rs : List Rgt} {x : Rgt} (hs : ∃ a ∈ ss, a.name = x.site) (hls : ss.length ≤ 4) (hl : rs.length < 4) (hn : ∀ a ∈ rs, a.name ≠ x.name) : phi_right_fault [.p 0, .p 1, .d (rgtD x)] [sS ss, sR rs] = some (.d .non, [sS ss, sR rs]) := by
  have e0 : derK (some (sS ss)) = some (.lst (ss.map siteD)) := all_sS ss
  have e1 : derK (some (sR rs)) = some (.lst (rs.map rgtD)) := all_sR rs
  have lc : lcK (.n 3) gYes (eOp ixD (eV 3) (eK (.int 0))) [some (.p 0), some (.p 1), some (.d (rgtD x)), none, none] (.sto 0, [sS ss, sR rs]) = some (ss.map fun a => .str a.name, [sS ss, sR rs]) := lc_names site_shape rfl (by simp) (by omega)
  have lc2 : lcK (.n 4) gYes (eOp ixD (eV 4) (eK (.int 0))) [some (.p 0), some (.p 1), some (.d (rgtD x)), none, none] (.sto 1, [sS ss, sR rs]) = some (rs.map fun a => .str a.name, [sS ss, sR rs]) := lc_names rgt_shape rfl (by simp) (by omega)
  have hq : ((rs.length : Int) == 4) = false := by
    rw [beq_eq_false_iff_ne]
    omega
  have ha : (rs.any fun a => a.name == x.name) = false := List.any_eq_false.mpr fun a h => by simpa using hn a h
  have hb : (ss.any fun a => a.name == x.site) = true := by
    obtain ⟨a, h1, h2⟩ := hs
    exact List.any_eq_true.mpr ⟨a, h1, by simpa using h2⟩
  have hx : ixD (rgtD x) (.int 0) = some (.str x.name) ∧ ixD (rgtD x) (.int 1) = some (.str x.site) := ⟨rfl, rfl⟩
  have hG : G_right_fault [some (.p 0), some (.p 1), some (.d (rgtD x)), none, none] [sS ss, sR rs] = some (.rt (.d .non) [sS ss, sR rs]) := by
    unfold G_right_fault
    simp [e0, e1, hq, hx, iv_S0, iv_R1, lc, lc2, in_names, ha, hb]
  unfold phi_right_fault
  rw [fnD_ev 5 3 G_right_fault [.p 0, .p 1, .d (rgtD x)] rfl]
  simp [hG]
def moD (ss : List Site) : D := match ss with
  | [] => .non
  | a :: _ => .int (a.ins.length : Nat)
theorem mo_step (ss : List Site) (c d e f : Option C) (r : SO) : (sSet 3 (eIf (tTr (eV 0)) (eCB lenD (aC (eOp ixD (eOp ixD (eV 0) (eK (.int 0))) (eK (.int 6))) aN)) (eK .non))) [some (.p 0), some (.p 1), c, none, d, e, f] [sS ss, r] = some (.nx [some (.p 0), some (.p 1), c, some (.d (moD ss)), d, e, f] [sS ss, r]) := by
  have e0 : derK (some (sS ss)) = some (.lst (ss.map siteD)) := all_sS ss
  cases ss with
  | nil => simp [e0, moD]
  | cons a as =>
    have hx : ixD (siteD a) (.int 6) = some (.tup (a.ins.map .int)) := rfl
    simp [e0, moD, hx]
theorem add_site_ok {ss : List Site} {x : Site} (o : Own x) (hl : ss.length < 4) (hn : ∀ a ∈ ss, a.name ≠ x.name) (hh : x.held ≤ x.room) (hm : ∀ a ∈ ss, a.ins.length = x.ins.length) :
    phi_add_line [.p 0, .p 1, .d (.str (lineS x))] [sS ss, sR []] = some (.d .non, [sS (ss ++ [x]), sR []]) := by
  have m0 := mo_step ss (some (.d (.str (lineS x)))) none none none (sR [])
  have rs := read_site_ok o (mo := moD ss) (by
    cases ss with
    | nil => exact .inl rfl
    | cons a as => exact .inr (by rw [← hm a (by simp)]; rfl))
  have sf := site_fault_ok hl hn hh
  have ap : (SO.lst ((ss.map fun x => C.d (siteD x)) ++ [.d (siteD x)])) = sS (ss ++ [x]) := by
    unfold sS
    rw [List.map_append]
    rfl
  have hnn : isND true (siteD x) .non = some (.bl true) := rfl
  have hlt : (ss.map fun x => C.d (siteD x)).length < 1000000 := by rw [List.length_map]; omega
  have a2 : app2K 0 (.d (siteD x)) [sS ss, sR []] (some (sS ss)) = some (.d .non, [sS (ss ++ [x]), sR []]) := by
    show (if (ss.map fun x => C.d (siteD x)).length < 1000000 then _ else none) = _
    rw [if_pos hlt, ap]
    rfl
  have il : isLK (some (sS ss)) = true := rfl
  have hG : G_add_line [some (.p 0), some (.p 1), some (.d (.str (lineS x))), none, none, none, none] [sS ss, sR []] = some (.rt (.d .non) [sS (ss ++ [x]), sR []]) := by
    unfold G_add_line
    rw [sSeq_ev, m0, Option.bind_some, seqK_nx]
    simp [rs, sf, hnn, a2, il]
  unfold phi_add_line
  rw [fnD_ev 7 3 G_add_line [.p 0, .p 1, .d (.str (lineS x))] rfl]
  simp [hG]
theorem add_right_ok {ss : List Site} {rs : List Rgt} {x : Rgt} (o : OwnR x) (h1 : ss ≠ []) (hls : ss.length ≤ 4) (hs : ∃ a ∈ ss, a.name = x.site) (hl : rs.length < 4) (hn : ∀ a ∈ rs, a.name ≠ x.name) (hm : ∀ a ∈ ss, a.ins.length = x.wants.length) :
    phi_add_line [.p 0, .p 1, .d (.str (lineR x))] [sS ss, sR rs] = some (.d .non, [sS ss, sR (rs ++ [x])]) := by
  have m0 := mo_step ss (some (.d (.str (lineR x)))) none none none (sR rs)
  have rn := read_site_no o (moD ss)
  have rr := read_right_ok o (mo := moD ss) (by
    cases ss with
    | nil => exact absurd rfl h1
    | cons a as => exact .inr (by rw [← hm a (by simp)]; rfl))
  have rf := right_fault_ok (rs := rs) hs hls hl hn
  have e0 : derK (some (sS ss)) = some (.lst (ss.map siteD)) := all_sS ss
  have hne : (ss.map siteD).isEmpty = false := by
    cases ss with
    | nil => exact absurd rfl h1
    | cons a as => rfl
  have ap : (SO.lst ((rs.map fun x => C.d (rgtD x)) ++ [.d (rgtD x)])) = sR (rs ++ [x]) := by
    unfold sR
    rw [List.map_append]
    rfl
  have hnn : isND false (rgtD x) .non = some (.bl false) := rfl
  have hlt : (rs.map fun x => C.d (rgtD x)).length < 1000000 := by rw [List.length_map]; omega
  have a2 : app2K 1 (.d (rgtD x)) [sS ss, sR rs] (some (sR rs)) = some (.d .non, [sS ss, sR (rs ++ [x])]) := by
    show (if (rs.map fun x => C.d (rgtD x)).length < 1000000 then _ else none) = _
    rw [if_pos hlt, ap]
    rfl
  have il : isLK (some (sR rs)) = true := rfl
  have st6 : (sSet 6 (eIf (tTr (eV 0)) (eCall phi_read_right (aC (eV 2) (aC (eV 3) aN))) (eK .non))) [some (.p 0), some (.p 1), some (.d (.str (lineR x))), some (.d (moD ss)), some (.d .non), none, none] [sS ss, sR rs] = some (.nx [some (.p 0), some (.p 1), some (.d (.str (lineR x))), some (.d (moD ss)), some (.d .non), none, some (.d (rgtD x))] [sS ss, sR rs]) := by
    simp only [sSet_ev, eIf_ev, tTr_ev, eV_ev]
    show Option.map _ (((vK (some (some (C.p 0))) [sS ss, sR rs]).bind _).bind _) = _
    rw [vK_some, Option.bind_some]
    show Option.map _ (((derK (some (sS ss))).bind _).bind _) = _
    rw [e0, Option.bind_some, truD_lst, hne]
    simp [rr]
  have hG : G_add_line [some (.p 0), some (.p 1), some (.d (.str (lineR x))), none, none, none, none] [sS ss, sR rs] = some (.rt (.d .non) [sS ss, sR (rs ++ [x])]) := by
    unfold G_add_line
    rw [sSeq_ev, m0, Option.bind_some, seqK_nx]
    have s4 : (sSet 4 (eCall phi_read_site (aC (eV 2) (aC (eV 3) aN)))) [some (.p 0), some (.p 1), some (.d (.str (lineR x))), some (.d (moD ss)), none, none, none] [sS ss, sR rs] = some (.nx [some (.p 0), some (.p 1), some (.d (.str (lineR x))), some (.d (moD ss)), some (.d .non), none, none] [sS ss, sR rs]) := by simp [rn]
    rw [sSeq_ev, s4, Option.bind_some, seqK_nx, sSeq_ev]
    have s5 : (sIf (DL.tB (eOp (isND true) (eV 4) (eK .non))) (sSeq (sSet 5 (eCall phi_site_fault (aC (eV 0) (aC (eV 1) (aC (eV 4) aN))))) (sSeq (sEx (eApp (eV 0) (eV 4))) (sRt (eV 5)))) sNx) [some (.p 0), some (.p 1), some (.d (.str (lineR x))), some (.d (moD ss)), some (.d .non), none, none] [sS ss, sR rs] = some (.nx [some (.p 0), some (.p 1), some (.d (.str (lineR x))), some (.d (moD ss)), some (.d .non), none, none] [sS ss, sR rs]) := by simp
    rw [s5, Option.bind_some, seqK_nx, sSeq_ev, st6, Option.bind_some, seqK_nx]
    simp [rf, hnn, a2, il]
  unfold phi_add_line
  rw [fnD_ev 7 3 G_add_line [.p 0, .p 1, .d (.str (lineR x))] rfl]
  simp [hG]
end Lw
namespace Lw
open PySem PySem.Spec PyProof.Rows L2 DL
structure Good (m : Nat) (ss : List Site) (rs : List Rgt) : Prop where
  m4 : 1 ≤ m ∧ m ≤ 4
  n1 : 1 ≤ ss.length ∧ ss.length ≤ 4
  r4 : rs.length ≤ 4
  own : ∀ x ∈ ss, Own x
  ownR : ∀ x ∈ rs, OwnR x
  dis : ∀ (i j : Nat) (x y : Site), ss[i]? = some x → ss[j]? = some y → x.name = y.name → i = j
  disR : ∀ (i j : Nat) (x y : Rgt), rs[i]? = some x → rs[j]? = some y → x.name = y.name → i = j
  held : ∀ x ∈ ss, x.held ≤ x.room
  ins : ∀ x ∈ ss, x.ins.length = m
  wants : ∀ x ∈ rs, x.wants.length = m
  site : ∀ x ∈ rs, ∃ a ∈ ss, a.name = x.site
  nxt : ∀ (i : Nat) (x : Site), ss[i]? = some x → (i + 1 = ss.length ∧ x.nxt = none) ∨ (∃ (j : Nat) (y : Site), i < j ∧ ss[j]? = some y ∧ x.nxt = some y.name)
theorem enum_drop {L : List D} {k : Nat} (h : k < L.length) : (enumD L).drop k = .tup [.int (k : Nat), L[k]] :: (enumD L).drop (k + 1) := by
  have hl : (enumD L).length = L.length := by simp [enumD]
  rw [List.drop_eq_getElem_cons (by rw [hl]; exact h)]
  congr 1
  simp [enumD]
theorem take_next {α : Type} {xs : List α} {k : Nat} (h : k < xs.length) : xs.take (k + 1) = xs.take k ++ [xs[k]] := by
  rw [List.take_add_one, List.getElem?_eq_getElem h]
  rfl
theorem mem_take_get {α : Type} {xs : List α} {k : Nat} {a : α} (h : a ∈ xs.take k) : ∃ i : Nat, i < k ∧ xs[i]? = some a := by
  obtain ⟨i, hi, e⟩ := List.getElem_of_mem h
  rw [List.length_take] at hi
  refine ⟨i, by omega, ?_⟩
  rw [List.getElem?_eq_getElem (by omega)]
  rw [List.getElem_take] at e
  rw [e]
theorem text_len {m : Nat} {ss : List Site} {rs : List Rgt} (g : Good m ss rs) : (text ss rs).length ≤ 1000000 := by
  have h : ∀ y ∈ lines ss rs, y.length ≤ 101000 := fun y hy => by
    rcases List.mem_append.mp hy with h | h <;> obtain ⟨x, hx, rfl⟩ := List.mem_map.mp h
    · exact lineS_len (g.own x hx)
    · exact lineR_len (g.ownR x hx)
  have hl : (lines ss rs).length ≤ 8 := by
    unfold lines
    rw [List.length_append, List.length_map, List.length_map]
    have := g.n1.2
    have := g.r4
    omega
  have key : ∀ (ys : List PySem.Str), (∀ y ∈ ys, y.length ≤ 101000) → (Txt.join (Str.ofString "\n") ys).length ≤ 101001 * ys.length := fun ys h => by
    rw [TL.join_eq, TL.len_tl, TL.tl_join]
    have e : TL.tl (Str.ofString "\n") = [10] := by decide +kernel
    rw [e]
    induction ys with
    | nil => simp [TL.joinL]
    | cons y ys ih =>
      have h1 := h y (by simp)
      rw [TL.len_tl] at h1
      have ih := ih fun z hz => h z (by simp [hz])
      cases ys with
      | nil => simp only [List.map_cons, List.map_nil, TL.joinL, List.length_cons, List.length_nil]; omega
      | cons z ys =>
        simp only [List.map_cons, TL.joinL, List.length_append, List.length_cons, List.length_nil] at ih ⊢
        omega
  have := key _ h
  show (Txt.join (Str.ofString "\n") (lines ss rs)).length ≤ 1000000
  omega
theorem next_ok {m : Nat} {ss : List Site} {rs : List Rgt} (g : Good m ss rs) {s : Nat} (hs : s < ss.length) : phi_next_fault [.p 0, .d (.int (s : Nat))] [sS ss] = some (.d .non, [sS ss]) := by
  have e0 : derK (some (sS ss)) = some (.lst (ss.map siteD)) := all_sS ss
  have gs : ss[s]? = some ss[s] := List.getElem?_eq_getElem hs
  have l4 := g.n1.2
  have hx : ∀ x : Site, ixD (siteD x) (.int 1) = some (oS x.nxt) := fun _ => rfl
  have hat : atI (ss.map siteD) (s : Int) = some (siteD ss[s]) := by
    rw [atI_k, List.getElem?_map, gs]
    rfl
  have hG : G_next_fault [some (.p 0), some (.d (.int (s : Nat))), none] [sS ss] = some (.rt (.d .non) [sS ss]) := by
    unfold G_next_fault
    rcases g.nxt s _ gs with ⟨h1, h2⟩ | ⟨j, y, h1, h2, h3⟩
    · have hq : ((s : Int) == (ss.length : Int) - 1) = true := by
        rw [beq_iff_eq]
        omega
      simp [e0, subD, hq, hat, hx, h2, oS]
    · have hj : j < ss.length := by
        rcases Nat.lt_or_ge j ss.length with h | h
        · exact h
        · rw [List.getElem?_eq_none h] at h2
          cases h2
      have hq : ((s : Int) == (ss.length : Int) - 1) = false := by
        rw [beq_eq_false_iff_ne]
        omega
      have hc : DL.cutD (ss.map siteD) (some ((s : Int) + 1)) none = (ss.drop (s + 1)).map siteD := by
        have : ((s : Int) + 1) = ((s + 1 : Nat) : Int) := by omega
        rw [this, cut_end _ _ (by rw [List.length_map]; omega), List.map_drop]
      have lc : ∀ (ρ : DL.Env) (st : Sto), 2 < ρ.length → lcL (.n 2) gYes (eOp ixD (eV 2) (eK (.int 0))) ρ ((ss.drop (s + 1)).map siteD) st [] = some ((ss.drop (s + 1)).map fun a => .str a.name, st) := fun ρ st hk => by
        have := lcL_mp (ρ := ρ) (st := st) (.n 2) (eOp ixD (eV 2) (eK (.int 0))) siteD (fun a => .str a.name) (ss.drop (s + 1)) [] (fun a ha => ⟨_, .d (.str a.name), rfl, by
          have hx0 : ixD (siteD a) (.int 0) = some (.str a.name) := rfl
          simp [hk, hx0], rfl⟩) (by simp; omega)
        simpa using this
      have hin : ((ss.drop (s + 1)).any fun a => a.name == y.name) = true := by
        refine List.any_eq_true.mpr ⟨y, ?_, by simp⟩
        refine List.mem_of_getElem? (i := j - (s + 1)) ?_
        rw [List.getElem?_drop, show s + 1 + (j - (s + 1)) = j by omega]
        exact h2
      simp [e0, subD, hq, hat, hx, h3, oS, -List.map_drop, hc, lc, in_names, hin]
  unfold phi_next_fault
  rw [fnD_ev 3 2 G_next_fault [.p 0, .d (.int (s : Nat))] rfl]
  simp [hG]
def N1 : GS := sSeq (sSet 5 (eCall phi_add_line (aC (eV 1) (aC (eV 2) (aC (eV 4) aN))))) (sIf (DL.tB (eOp (isND true) (eV 5) (eK .non))) sNo sNx)
def N2 : GS := sSeq (sSet 5 (eCall phi_next_fault (aC (eV 1) (aC (eV 6) aN)))) (sIf (DL.tB (eOp (isND true) (eV 5) (eK .non))) sNo sNx)
theorem G_parse_eq : G_parse_basin = (sSeq (sNew 1 (eLst aN)) (sSeq (sNew 2 (eLst aN)) (sSeq (sFor (.t [3, 4]) (iEn (aC (eM1 splitD (eV 0) (eK (.str "\n"))) aN)) N1)
    (sSeq (sFor (.n 6) (iR1 (aC (eCB lenD (aC (eV 1) aN)) aN)) N2)
    (sRt (eTup (aC (eTup (aC (eCB lenD (aC (eOp ixD (eOp ixD (eV 1) (eK (.int 0))) (eK (.int 6))) aN)) (aC (eCB tupleD (aC (eV 1) aN)) aN))) (aC (eCB tupleD (aC (eV 2) aN)) aN)))))))) := rfl
theorem parse_lines {m : Nat} {ss : List Site} {rs : List Rgt} (g : Good m ss rs) (o0 : Option C) :
    ∃ ρ' : DL.Env, forL (.t [3, 4]) N1 (enumD ((lines ss rs).map .str)) [o0, some (.p 0), some (.p 1), none, none, none, none] [sS [], sR []] = some (.nx ρ' [sS ss, sR rs]) ∧ ∃ o3 o4 o5, ρ' = [o0, some (.p 0), some (.p 1), o3, o4, o5, none] := by
  have hl : ((lines ss rs).map D.str).length = ss.length + rs.length := by simp [lines]
  have hle : (enumD ((lines ss rs).map D.str)).length = ss.length + rs.length := by simp [enumD, lines]
  obtain ⟨ρ', st', e, k, o3, o4, o5, hk, hrem, rfl, rfl⟩ := forL_inv (t := .t [3, 4]) (body := N1) (fun rem ρ st => ∃ (k : Nat) (o3 o4 o5 : Option C), k ≤ ss.length + rs.length ∧ rem = (enumD ((lines ss rs).map .str)).drop k ∧ ρ = [o0, some (.p 0), some (.p 1), o3, o4, o5, none] ∧ st = [sS (ss.take k), sR (rs.take (k - ss.length))]) (fun x rem ρ st q => by
    obtain ⟨k, o3, o4, o5, hk, hrem, rfl, rfl⟩ := q
    have hk2 : k < ss.length + rs.length := by
      rcases Nat.lt_or_ge k (ss.length + rs.length) with h | h
      · exact h
      · rw [List.drop_of_length_le (by omega)] at hrem
        cases hrem
    rw [enum_drop (by omega)] at hrem
    cases hrem
    rcases Nat.lt_or_ge k ss.length with h | h
    · have eL : ((lines ss rs).map D.str)[k] = .str (lineS ss[k]) := by simp [lines, h]
      have z1 : k - ss.length = 0 := by omega
      have z2 : k + 1 - ss.length = 0 := by omega
      have ad := add_site_ok (ss := ss.take k) (x := ss[k]) (g.own _ (List.getElem_mem h)) (by rw [List.length_take]; have := g.n1.2; omega) (fun a ha => by
        obtain ⟨i, hi, e⟩ := mem_take_get ha
        intro en
        have := g.dis i k a ss[k] e (List.getElem?_eq_getElem h) en
        omega) (g.held _ (List.getElem_mem h)) (fun a ha => by rw [g.ins a (List.mem_of_mem_take ha), g.ins _ (List.getElem_mem h)])
      refine ⟨_, _, _, rfl, ?_, k + 1, some (.d (.int (k : Nat))), some (.d (.str (lineS ss[k]))), some (.d .non), by omega, rfl, rfl, rfl⟩
      rw [eL, take_next h, z1, z2, List.take_zero]
      unfold N1
      simp [ad]
    · have hr : k - ss.length < rs.length := by omega
      have eL : ((lines ss rs).map D.str)[k] = .str (lineR rs[k - ss.length]) := by simp [lines, h]
      have ad := add_right_ok (ss := ss) (rs := rs.take (k - ss.length)) (x := rs[k - ss.length]) (g.ownR _ (List.getElem_mem hr)) (by intro e; have := g.n1.1; rw [e] at this; simp at this) g.n1.2 (g.site _ (List.getElem_mem hr)) (by rw [List.length_take]; have := g.r4; omega) (fun a ha => by
        obtain ⟨i, hi, e⟩ := mem_take_get ha
        intro en
        have := g.disR i (k - ss.length) a _ e (List.getElem?_eq_getElem hr) en
        omega) (fun a ha => by rw [g.ins a ha, g.wants _ (List.getElem_mem hr)])
      have z1 : ss.take k = ss := List.take_of_length_le h
      have z2 : ss.take (k + 1) = ss := List.take_of_length_le (by omega)
      have z3 : k + 1 - ss.length = (k - ss.length) + 1 := by omega
      refine ⟨_, _, _, rfl, ?_, k + 1, some (.d (.int (k : Nat))), some (.d (.str (lineR rs[k - ss.length]))), some (.d .non), by omega, rfl, rfl, rfl⟩
      rw [eL, z1, z2, z3, take_next hr]
      unfold N1
      simp [ad]) (enumD ((lines ss rs).map .str)) [o0, some (.p 0), some (.p 1), none, none, none, none] [sS [], sR []] ⟨0, none, none, none, Nat.zero_le _, rfl, rfl, by simp⟩
  have hk3 : k = ss.length + rs.length := by
    have := congrArg List.length hrem
    rw [List.length_drop, hle] at this
    simp at this
    omega
  subst hk3
  rw [List.take_of_length_le (Nat.le_add_right _ _), List.take_of_length_le (by omega)] at e
  exact ⟨_, e, o3, o4, o5, rfl⟩
end Lw
namespace Lw
open PySem PySem.Spec PyProof.Rows L2 DL
theorem parse_next {m : Nat} {ss : List Site} {rs : List Rgt} (g : Good m ss rs) (o0 o3 o4 o5 : Option C) :
    ∃ o5' o6', forL (.n 6) N2 (rngD 0 ss.length) [o0, some (.p 0), some (.p 1), o3, o4, o5, none] [sS ss, sR rs] = some (.nx [o0, some (.p 0), some (.p 1), o3, o4, o5', o6'] [sS ss, sR rs]) := by
  have hl : (rngD 0 ss.length).length = ss.length := by simp [rngD]
  obtain ⟨ρ', st', e, k, q5, q6, hk, hrem, rfl, rfl⟩ := forL_inv (t := .n 6) (body := N2) (fun rem ρ st => ∃ (k : Nat) (q5 q6 : Option C), k ≤ ss.length ∧ rem = (rngD 0 ss.length).drop k ∧ ρ = [o0, some (.p 0), some (.p 1), o3, o4, q5, q6] ∧ st = [sS ss, sR rs]) (fun x rem ρ st q => by
    obtain ⟨k, q5, q6, hk, hrem, rfl, rfl⟩ := q
    have hk2 : k < ss.length := by
      rcases Nat.lt_or_ge k ss.length with h | h
      · exact h
      · rw [List.drop_of_length_le (by omega)] at hrem
        cases hrem
    rw [rng_drop hk2] at hrem
    cases hrem
    have nx := next_ok g hk2
    refine ⟨_, _, _, rfl, ?_, k + 1, some (.d .non), some (.d (.int (k : Nat))), hk2, rfl, rfl, rfl⟩
    unfold N2
    simp [nx]) (rngD 0 ss.length) [o0, some (.p 0), some (.p 1), o3, o4, o5, none] [sS ss, sR rs] ⟨0, o5, none, Nat.zero_le _, rfl, rfl, rfl⟩
  exact ⟨_, _, e⟩
theorem parse_ok {m : Nat} {ss : List Site} {rs : List Rgt} (g : Good m ss rs) : phi_parse_basin [.d (.str (text ss rs))] [] = some (.d (.tup [basD m ss, .tup (rs.map rgtD)]), []) := by
  have hne : ss ≠ [] := by intro e; have := g.n1.1; rw [e] at this; simp at this
  have hs : splitD [.str (text ss rs), .str (Str.ofString "\n")] = some (.lst ((lines ss rs).map .str)) := by
    rw [splitD_ok (by decide +kernel) (text_len g), split_text g.own g.ownR hne]
  obtain ⟨ρ', e1, o3, o4, o5, rfl⟩ := parse_lines g (some (.d (.str (text ss rs))))
  obtain ⟨o5', o6', e2⟩ := parse_next g (some (.d (.str (text ss rs)))) o3 o4 o5
  have d0 : derK (some (sS ss)) = some (.lst (ss.map siteD)) := all_sS ss
  have d1 : derK (some (sR rs)) = some (.lst (rs.map rgtD)) := all_sR rs
  have l4 : ss.length < 1000000 := by have := g.n1.2; omega
  have s0 : ([SO.lst [], SO.lst []] : Sto) = [sS [], sR []] := rfl
  obtain ⟨a, as, ea⟩ : ∃ a as, ss = a :: as := by
    cases ss with
    | nil => exact absurd rfl hne
    | cons a as => exact ⟨a, as, rfl⟩
  have h0 : (ss.map siteD)[0]? = some (siteD a) := by rw [ea]; rfl
  have h6 : ixD (siteD a) (.int 6) = some (.tup (a.ins.map .int)) := rfl
  have hm : a.ins.length = m := g.ins a (by rw [ea]; simp)
  have hG : G_parse_basin [some (.d (.str (text ss rs))), none, none, none, none, none, none] [] = some (.rt (.d (.tup [basD m ss, .tup (rs.map rgtD)])) [sS ss, sR rs]) := by
    rw [G_parse_eq]
    simp [hs, s0, e1, e2, d0, d1, l4, h0, h6, hm, basD]
  unfold phi_parse_basin
  rw [fnD_ev 7 1 G_parse_basin [.d (.str (text ss rs))] rfl]
  simp [hG]
theorem names_nodup : names4.Nodup := by decide +kernel
theorem rnames_nodup : (["a", "mill", "farm", "town"] : List PySem.Str).Nodup := by decide +kernel
theorem nodup_get {xs : List PySem.Str} (h : xs.Nodup) {i j : Nat} {x : PySem.Str} (h1 : xs[i]? = some x) (h2 : xs[j]? = some x) : i = j := by
  have hi : i < xs.length := by
    rcases Nat.lt_or_ge i xs.length with h | h
    · exact h
    · rw [List.getElem?_eq_none h] at h1
      cases h1
  have e : xs[i]? = xs[j]? := h1.trans h2.symm
  exact (List.getElem?_inj hi h).mp e
theorem good_of {m : Nat} {ss : List Site} {rs : List Rgt} (b : BasOk m ss) (r : RgsOk ss m rs) : Good m ss rs := by
  have nm : ∀ (i : Nat) (x : Site), ss[i]? = some x → names4[4 - ss.length + i]? = some x.name := fun i x h => by
    have := (b.all i x h).name
    rwa [List.getElem?_drop] at this
  have get : ∀ x ∈ ss, ∃ i : Nat, ss[i]? = some x := fun x h => by
    obtain ⟨i, hi, e⟩ := List.getElem_of_mem h
    exact ⟨i, by rw [List.getElem?_eq_getElem hi, e]⟩
  have getR : ∀ x ∈ rs, ∃ i : Nat, rs[i]? = some x := fun x h => by
    obtain ⟨i, hi, e⟩ := List.getElem_of_mem h
    exact ⟨i, by rw [List.getElem?_eq_getElem hi, e]⟩
  have n4 : names4.length = 4 := rfl
  have own : ∀ x ∈ ss, Own x := fun x h => by
    obtain ⟨i, e⟩ := get x h
    have s := b.all i x e
    refine ⟨List.mem_of_getElem? (nm i x e), fun y hy => ?_, s.trav, s.tr0, s.reach, s.re0, s.room, ⟨s.held.1, Int.le_trans s.held.2 s.room.2⟩, ⟨by rw [s.ins.1]; exact b.mo, s.ins.2⟩⟩
    rcases s.nxt with ⟨_, h2⟩ | ⟨j, z, _, h3, h4⟩
    · rw [h2] at hy
      cases hy
    · rw [h4] at hy
      cases hy
      rw [List.getElem?_drop] at h3
      exact List.mem_of_getElem? h3
  refine ⟨b.mo, b.nu, r.nu, own, fun x h => ?_, fun i j x y h1 h2 e => ?_, fun i j x y h1 h2 e => ?_, fun x h => ?_, fun x h => ?_, fun x h => ?_, fun x h => ?_, fun i x h => ?_⟩
  · obtain ⟨i, e⟩ := getR x h
    have s := r.all i x e
    obtain ⟨k, y, h1, h2⟩ := s.site
    exact ⟨List.mem_of_getElem? s.name, by rw [h2]; exact (own y (List.mem_of_getElem? h1)).name, by rw [s.wants.1]; exact b.mo, s.wants.2⟩
  · have a1 := nm i x h1
    have a2 := nm j y h2
    rw [← e] at a2
    have := nodup_get names_nodup a1 a2
    omega
  · have a1 := (r.all i x h1).name
    have a2 := (r.all j y h2).name
    rw [← e] at a2
    exact nodup_get rnames_nodup a1 a2
  · obtain ⟨i, e⟩ := get x h
    exact (b.all i x e).held.2
  · obtain ⟨i, e⟩ := get x h
    exact (b.all i x e).ins.1
  · obtain ⟨i, e⟩ := getR x h
    exact (r.all i x e).wants.1
  · obtain ⟨i, e⟩ := getR x h
    obtain ⟨k, y, h1, h2⟩ := (r.all i x e).site
    exact ⟨y, List.mem_of_getElem? h1, h2.symm⟩
  · have s := b.all i x h
    have hd : (names4.drop (4 - ss.length)).length = ss.length := by
      rw [List.length_drop, n4]
      have := b.nu.2
      omega
    rcases s.nxt with ⟨h1, h2⟩ | ⟨j, z, h1, h2, h3⟩
    · exact .inl ⟨by rw [hd] at h1; exact h1, h2⟩
    · have hj : j < ss.length := by
        rcases Nat.lt_or_ge j ss.length with q | q
        · exact q
        · rw [List.getElem?_eq_none (by rw [hd]; exact q)] at h2
          cases h2
      refine .inr ⟨j, ss[j], h1, List.getElem?_eq_getElem hj, ?_⟩
      have := nm j _ (List.getElem?_eq_getElem hj)
      rw [List.getElem?_drop, this] at h2
      rw [h3]
      exact h2.symm
end Lw
namespace Lw
open PySem PySem.Spec PyProof.Rows L2 DL
def Shw (d b : Nat) (x : D) : Prop := ∃ p, toPy x = some p ∧ p.showable = true ∧ p.hasDict = false ∧ p.shown.length ≤ b ∧ p.depth ≤ d
theorem Shw.mono {d b d' b' : Nat} {x : D} (h : Shw d b x) (hd : d ≤ d') (hb : b ≤ b') : Shw d' b' x := by
  obtain ⟨p, h1, h2, h3, h4, h5⟩ := h
  exact ⟨p, h1, h2, h3, by omega, by omega⟩
theorem shw_non : Shw 0 100 .non := ⟨.none, rfl, by simp [PyData.showable], by simp [PyData.hasDict], by simp [PyData.shown]; decide +kernel, by simp [PyData.depth]⟩
theorem shw_int {i : Int} (h : 0 ≤ i ∧ i ≤ 99) : Shw 0 100 (.int i) := by
  refine ⟨.int i, rfl, ?_, by simp [PyData.hasDict], ?_, by simp [PyData.depth]⟩
  · have := str_ok h.1 h.2
    rw [str_int] at this
    simp only [PyData.showable, decide_eq_true_eq]
    by_cases c : i.natAbs.log2 < 1920
    · exact c
    · rw [if_neg c] at this
      cases this
  · simp only [PyData.shown]
    exact sn_len' h
def strs10 : List PySem.Str := [Str.ofString "up", Str.ofString "dale", Str.ofString "weir", Str.ofString "mouth", Str.ofString "a", Str.ofString "mill", Str.ofString "farm", Str.ofString "town", Str.ofString "right", Str.ofString "room"]
theorem shown_all : ∀ y ∈ strs10, (PyData.shown (.str y)).length ≤ 100 := by decide +kernel
theorem shw_str {y : PySem.Str} (h : y ∈ strs10) : Shw 0 100 (.str y) := ⟨.str y, rfl, by simp [PyData.showable], by simp [PyData.hasDict], shown_all y h, by simp [PyData.depth]⟩
theorem shw_list {d b : Nat} : ∀ {xs : List D}, (∀ x ∈ xs, Shw d b x) → ∃ ps, toPys xs = some ps ∧ PyData.showableAll ps = true ∧ PyData.hasDictAll ps = false ∧ (∀ s ∈ PyData.shownAll ps, s.length ≤ b) ∧ PyData.depthAll ps ≤ d ∧ (PyData.shownAll ps).length = xs.length
  | [], _ => ⟨[], rfl, by simp [PyData.showableAll], by simp [PyData.hasDictAll], by simp [PyData.shownAll], by simp [PyData.depthAll], by simp [PyData.shownAll]⟩
  | x :: xs, h => by
    obtain ⟨p, h1, h2, h3, h4, h5⟩ := h x (by simp)
    obtain ⟨ps, g1, g2, g3, g4, g5, g6⟩ := shw_list (xs := xs) fun y hy => h y (by simp [hy])
    refine ⟨p :: ps, ?_, by simp [PyData.showableAll, h2, g2], by simp [PyData.hasDictAll, h3, g3], ?_, ?_, by simp [PyData.shownAll, g6]⟩
    · show (toPy x).bind (fun p => (toPys xs).bind fun ps => some (p :: ps)) = _
      rw [h1, g1]
      rfl
    · intro s hs
      rw [PyData.shownAll, List.mem_cons] at hs
      rcases hs with rfl | hs
      · exact h4
      · exact g4 s hs
    · rw [PyData.depthAll]
      exact Nat.max_le.mpr ⟨h5, g5⟩
theorem join_len_le {b : Nat} {sep : PySem.Str} : ∀ {ys : List PySem.Str}, (∀ y ∈ ys, y.length ≤ b) → (Str.join sep ys).length ≤ ys.length * (b + sep.length)
  | [], _ => by
    show Str.empty.length ≤ _
    exact Nat.zero_le _
  | [x], h => by
    have := h x (by simp)
    show x.length ≤ 1 * (b + sep.length)
    omega
  | x :: y :: r, h => by
    have ih := join_len_le (sep := sep) (ys := y :: r) fun z hz => h z (by simp [hz])
    have h1 := h x (by simp)
    show (x ++ sep ++ Str.join sep (y :: r)).length ≤ (r.length + 1 + 1) * (b + sep.length)
    rw [len_app, len_app]
    rw [List.length_cons] at ih
    have : (r.length + 1 + 1) * (b + sep.length) = (r.length + 1) * (b + sep.length) + (b + sep.length) := by rw [Nat.add_mul (r.length + 1) 1, Nat.one_mul]
    omega
theorem shw_tup {d b n : Nat} {xs : List D} (h : ∀ x ∈ xs, Shw d b x) (hn : xs.length ≤ n) : Shw (d + 1) (n * (b + 2) + 3) (.tup xs) := by
  obtain ⟨ps, g1, g2, g3, g4, g5, g6⟩ := shw_list h
  refine ⟨.tuple ps, ?_, by simpa [PyData.showable] using g2, by simpa [PyData.hasDict] using g3, ?_, by rw [PyData.depth]; omega⟩
  · show (toPys xs).map PyData.tuple = _
    rw [g1]
    rfl
  · rw [PyData.shown]
    unfold tupleText
    rw [len_app, len_app]
    have j := join_len_le (sep := ((", " : String) : PySem.Str)) g4
    have e2 : (((", " : String) : PySem.Str)).length = 2 := rfl
    have e1 : (("(" : PySem.Str)).length = 1 := rfl
    have e3 : (((if ((PyData.shownAll ps).length == 1) = true then ",)" else ")" : String) : PySem.Str)).length ≤ 2 := by split <;> decide
    rw [e2, g6] at j
    have : xs.length * (b + 2) ≤ n * (b + 2) := Nat.mul_le_mul_right _ hn
    omega
theorem repr_ok {d b : Nat} {x : D} (h : Shw d b x) (hd : d ≤ 40) (hb : b ≤ 1000000) : ∃ s, reprD [x] = some (.str s) := by
  obtain ⟨p, h1, h2, h3, h4, h5⟩ := h
  refine ⟨p.shown, ?_⟩
  show (toPy x).bind _ = _
  rw [h1]
  exact if_pos ⟨h2, h3, by omega, by omega⟩
theorem same_ok {d b : Nat} {x : D} (h : Shw d b x) (hd : d ≤ 40) (hb : b ≤ 1000000) : phi_lw_same [.d x, .d x] [] = some (.d (.bl true), []) := by
  obtain ⟨s, e⟩ := repr_ok h hd hb
  have hG : G_lw_same [some (.d x), some (.d x)] [] = some (.rt (.d (.bl true)) []) := by
    unfold G_lw_same
    simp [e]
  unfold phi_lw_same
  rw [fnD_ev 2 2 G_lw_same [.d x, .d x] rfl]
  simp [hG]
theorem nm_10 {y : PySem.Str} (h : y ∈ names4) : y ∈ strs10 := by
  have : ∀ y ∈ names4, y ∈ strs10 := by decide +kernel
  exact this y h
theorem rn_10 {y : PySem.Str} (h : y ∈ (["a", "mill", "farm", "town"] : List PySem.Str)) : y ∈ strs10 := by
  have : ∀ y ∈ (["a", "mill", "farm", "town"] : List PySem.Str), y ∈ strs10 := by decide +kernel
  exact this y h
theorem shw_site {x : Site} (o : Own x) : Shw 2 4000 (siteD x) := by
  refine (shw_tup (n := 7) (b := 411) (d := 1) (fun y hy => ?_) (by simp)).mono (by decide) (by decide)
  simp only [List.mem_cons, List.not_mem_nil, or_false] at hy
  rcases hy with rfl | rfl | rfl | rfl | rfl | rfl | rfl
  · exact (shw_str (nm_10 o.name)).mono (by decide) (by decide)
  · cases h : x.nxt with
    | none => exact shw_non.mono (by decide) (by decide)
    | some z => exact (shw_str (nm_10 (o.nxt z h))).mono (by decide) (by decide)
  · exact (shw_int ⟨o.trav.1, Int.le_trans o.trav.2 (by decide)⟩).mono (by decide) (by decide)
  · cases h : x.reach with
    | none => exact shw_non.mono (by decide) (by decide)
    | some z => exact (shw_int (o.reach z h)).mono (by decide) (by decide)
  · exact (shw_int o.room).mono (by decide) (by decide)
  · exact (shw_int o.held).mono (by decide) (by decide)
  · refine (shw_tup (n := 4) (b := 100) (d := 0) (fun z hz => ?_) (by rw [List.length_map]; exact o.ins.1.2)).mono (by decide) (by decide)
    obtain ⟨i, hi, rfl⟩ := List.mem_map.mp hz
    exact shw_int (o.ins.2 i hi)
theorem shw_rgt {x : Rgt} (o : OwnR x) : Shw 2 4000 (rgtD x) := by
  refine (shw_tup (n := 7) (b := 411) (d := 1) (fun y hy => ?_) (by show 3 ≤ 7; decide)).mono (by decide) (by decide)
  simp only [List.mem_cons, List.not_mem_nil, or_false] at hy
  rcases hy with rfl | rfl | rfl
  · exact (shw_str (rn_10 o.name)).mono (by decide) (by decide)
  · exact (shw_str (nm_10 o.site)).mono (by decide) (by decide)
  · refine (shw_tup (n := 4) (b := 100) (d := 0) (fun z hz => ?_) (by rw [List.length_map]; exact o.wants.1.2)).mono (by decide) (by decide)
    obtain ⟨i, hi, rfl⟩ := List.mem_map.mp hz
    exact shw_int (o.wants.2 i hi)
theorem shw_basin {m : Nat} {ss : List Site} {rs : List Rgt} (g : Good m ss rs) : Shw 5 100000 (.tup [basD m ss, .tup (rs.map rgtD)]) := by
  have a : Shw 3 17000 (.tup (ss.map siteD)) := (shw_tup (n := 4) (b := 4000) (d := 2) (fun y hy => by
    obtain ⟨x, hx, rfl⟩ := List.mem_map.mp hy
    exact shw_site (g.own x hx)) (by rw [List.length_map]; exact g.n1.2)).mono (by decide) (by decide)
  have b : Shw 3 17000 (.tup (rs.map rgtD)) := (shw_tup (n := 4) (b := 4000) (d := 2) (fun y hy => by
    obtain ⟨x, hx, rfl⟩ := List.mem_map.mp hy
    exact shw_rgt (g.ownR x hx)) (by rw [List.length_map]; exact g.r4)).mono (by decide) (by decide)
  have c : Shw 4 35000 (basD m ss) := (shw_tup (n := 2) (b := 17000) (d := 3) (fun y hy => by
    simp only [List.mem_cons, List.not_mem_nil, or_false] at hy
    rcases hy with rfl | rfl
    · exact (shw_int (by have := g.m4; omega)).mono (by decide) (by decide)
    · exact a) (by simp)).mono (by decide) (by decide)
  refine (shw_tup (n := 2) (b := 35000) (d := 4) (fun y hy => ?_) (by simp)).mono (by decide) (by decide)
  simp only [List.mem_cons, List.not_mem_nil, or_false] at hy
  rcases hy with rfl | rfl
  · exact c
  · exact b.mono (by decide) (by decide)
end Lw
namespace Lw
open PySem PySem.Spec PyProof.Rows L2 DL
def S1 : GS := sIf (DL.tB (eOp (eqD false) (eOp ixD (eV 3) (eK (.int 0))) (eV 1))) (sRt (eV 2)) sNx
theorem G_number_eq : G_site_number = (sSeq (sFor (.t [2, 3]) (iEn (aC (eOp ixD (eV 0) (eK (.int 1))) aN)) S1) (sRt (eK .non))) := rfl
theorem ix_name (a : Site) : ixD (siteD a) (.int 0) = some (.str a.name) := rfl
theorem num_hit {ss : List Site} {b o2 o3 : Option C} {y : PySem.Str} {i : Nat} (hi : i < ss.length) (hx : ss[i].name = y) (hb : ∀ (k : Nat) (h : k < ss.length), k < i → ss[k].name ≠ y) :
    ∀ (d k : Nat) (o2 o3 : Option C), k + d = i → forL (.t [2, 3]) S1 ((enumD (ss.map siteD)).drop k) [b, some (.d (.str y)), o2, o3] [] = some (.rt (.d (.int (i : Nat))) [])
  | 0, k, o2, o3, h => by
    have e : k = i := by omega
    subst e
    rw [enum_drop (by rw [List.length_map]; exact hi), forL_cons, List.getElem_map]
    unfold S1
    simp [ix_name, hx]
  | d + 1, k, o2, o3, h => by
    have hk : k < ss.length := by omega
    have ne := hb k hk (by omega)
    have hq : (ss[k].name == y) = false := by
      rw [beq_eq_false_iff_ne]
      exact ne
    rw [enum_drop (by rw [List.length_map]; exact hk), forL_cons, List.getElem_map]
    have ih := num_hit (b := b) (o2 := o2) (o3 := o3) hi hx hb d (k + 1) (some (.d (.int (k : Nat)))) (some (.d (siteD ss[k]))) (by omega)
    have e1 : S1 [b, some (.d (.str y)), some (.d (.int (k : Nat))), some (.d (siteD ss[k]))] [] = some (.nx [b, some (.d (.str y)), some (.d (.int (k : Nat))), some (.d (siteD ss[k]))] []) := by
      unfold S1
      simp [ix_name, ne]
    show (some [b, some (.d (.str y)), some (.d (.int (k : Nat))), some (.d (siteD ss[k]))]).bind _ = _
    rw [Option.bind_some, e1, Option.bind_some, stepK_nx, ih]
theorem site_number_ok {m : Nat} {ss : List Site} {rs : List Rgt} (g : Good m ss rs) {i : Nat} {x : Site} (h : ss[i]? = some x) : phi_site_number [.d (basD m ss), .d (.str x.name)] [] = some (.d (.int (i : Nat)), []) := by
  have hi : i < ss.length := by
    rcases Nat.lt_or_ge i ss.length with q | q
    · exact q
    · rw [List.getElem?_eq_none q] at h
      cases h
  have hx : ss[i] = x := by
    rw [List.getElem?_eq_getElem hi] at h
    exact Option.some.inj h
  have e := num_hit (ss := ss) (b := some (.d (basD m ss))) (o2 := none) (o3 := none) (y := x.name) hi (by rw [hx]) (fun k hk hlt en => by
    have := g.dis k i ss[k] x (List.getElem?_eq_getElem hk) h en
    omega) i 0 none none (by omega)
  rw [List.drop_zero] at e
  have hG : G_site_number [some (.d (basD m ss)), some (.d (.str x.name)), none, none] [] = some (.rt (.d (.int (i : Nat))) []) := by
    rw [G_number_eq]
    simp [basD] at e ⊢
    simp [e]
  unfold phi_site_number
  rw [fnD_ev 4 2 G_site_number [.d (basD m ss), .d (.str x.name)] rfl]
  simp [hG]
theorem site_number_no {m : Nat} {ss : List Site} {y : D} (h : ∀ a ∈ ss, eqD false (.str a.name) y = some (.bl false)) : phi_site_number [.d (basD m ss), .d y] [] = some (.d .non, []) := by
  obtain ⟨ρ', st', e, _, o2, o3, rfl, rfl⟩ := forL_inv (t := .t [2, 3]) (body := S1) (fun rem ρ st => (∀ z ∈ rem, ∃ (k : Int) (a : Site), a ∈ ss ∧ z = .tup [.int k, siteD a]) ∧ ∃ o2 o3, ρ = [some (.d (basD m ss)), some (.d y), o2, o3] ∧ st = []) (fun z rem ρ st q => by
    obtain ⟨hz, o2, o3, rfl, rfl⟩ := q
    obtain ⟨k, a, ha, rfl⟩ := hz z (by simp)
    refine ⟨_, _, _, rfl, ?_, fun w hw => hz w (by simp [hw]), some (.d (.int k)), some (.d (siteD a)), rfl, rfl⟩
    unfold S1
    simp [ix_name, h a ha]) (enumD (ss.map siteD)) [some (.d (basD m ss)), some (.d y), none, none] [] ⟨fun z hz => by
      obtain ⟨i, hi, e⟩ := List.getElem_of_mem hz
      simp only [enumD, List.length_mapIdx, List.length_map] at hi
      refine ⟨(i : Nat), ss[i], List.getElem_mem hi, ?_⟩
      rw [← e]
      simp [enumD], none, none, rfl, rfl⟩
  have hG : G_site_number [some (.d (basD m ss)), some (.d y), none, none] [] = some (.rt (.d .non) []) := by
    rw [G_number_eq]
    simp [basD] at e ⊢
    simp [e]
  unfold phi_site_number
  rw [fnD_ev 4 2 G_site_number [.d (basD m ss), .d y] rfl]
  simp [hG]
/-! ### paths -/
inductive Path (ss : List Site) : Nat → List Site → Prop
  | last {i : Nat} {x : Site} : ss[i]? = some x → x.nxt = none → Path ss i [x]
  | step {i j : Nat} {x y : Site} {p : List Site} : ss[i]? = some x → ss[j]? = some y → x.nxt = some y.name → i < j → Path ss j p → Path ss i (x :: p)
theorem path_ex {m : Nat} {ss : List Site} {rs : List Rgt} (g : Good m ss rs) : ∀ (d i : Nat), i + d = ss.length → 0 < d → ∃ p, Path ss i p ∧ p.length ≤ d := fun d => by
  induction d using Nat.strongRecOn with
  | _ d ih =>
    intro i h hd
    have hi : i < ss.length := by omega
    have gi : ss[i]? = some ss[i] := List.getElem?_eq_getElem hi
    rcases g.nxt i _ gi with ⟨_, h2⟩ | ⟨j, y, h1, h2, h3⟩
    · exact ⟨_, .last gi h2, by show 1 ≤ d; omega⟩
    · have hj : j < ss.length := by
        rcases Nat.lt_or_ge j ss.length with q | q
        · exact q
        · rw [List.getElem?_eq_none q] at h2
          cases h2
      obtain ⟨p, hp, hl⟩ := ih (ss.length - j) (by omega) j (by omega) (by omega)
      exact ⟨_, .step gi h2 h3 h1 hp, by rw [List.length_cons]; omega⟩
def pairs : Int → List Site → List D
  | _, [] => []
  | t, x :: p => .tup [.str x.name, .int t] :: pairs (t + x.trav) p
def W1 : GS := sSeq (sSet 5 (eOp ixD (eOp ixD (eV 0) (eK (.int 1))) (eV 4)))
    (sSeq (sEx (eApp (eV 2) (eTup (aC (eOp ixD (eV 5) (eK (.int 0))) (aC (eV 3) aN)))))
    (sSeq (sAug 3 (iiD fun i j => .int (i + j)) (eOp ixD (eV 5) (eK (.int 2))))
    (sSet 4 (eCall phi_site_number (aC (eV 0) (aC (eOp ixD (eV 5) (eK (.int 1))) aN))))))
theorem G_route_eq : G_route = (sSeq (sNew 2 (eLst aN)) (sSeq (sSet 3 (eK (.int 0))) (sSeq (sSet 4 (eCall phi_site_number (aC (eV 0) (aC (eV 1) aN)))) (sSeq (sWh 12 (DL.tB (eOp (isND true) (eV 4) (eK .non))) W1) (sRt (eCB tupleD (aC (eV 2) aN))))))) := rfl
theorem W1_ok {m : Nat} {ss : List Site} {rs : List Rgt} (g : Good m ss rs) {i : Nat} {x : Site} (h : ss[i]? = some x) {nm o5 : Option C} {t : Int} {acc : List D} (ha : acc.length ≤ 100) {z : D} (hz : phi_site_number [.d (basD m ss), .d (oS x.nxt)] [] = some (.d z, [])) :
    W1 [some (.d (basD m ss)), nm, some (.p 0), some (.d (.int t)), some (.d (.int (i : Nat))), o5] [.lst (acc.map .d)] = some (.nx [some (.d (basD m ss)), nm, some (.p 0), some (.d (.int (t + x.trav))), some (.d z), some (.d (siteD x))] [.lst ((acc ++ [D.tup [.str x.name, .int t]]).map .d)]) := by
  have hat : (ss.map siteD)[i]? = some (siteD x) := by
    rw [List.getElem?_map, h]
    rfl
  have h1 : ixD (siteD x) (.int 1) = some (oS x.nxt) := rfl
  have h2 : ixD (siteD x) (.int 2) = some (.int x.trav) := rfl
  have hl : acc.length < 1000000 := by omega
  have hb : ixD (basD m ss) (.int 1) = some (.tup (ss.map siteD)) := rfl
  unfold W1
  simp [hb, hat, ix_name, h1, h2, hl, hz, -List.getElem?_map]
theorem wh_route {m : Nat} {ss : List Site} {rs : List Rgt} (g : Good m ss rs) {nm : Option C} : ∀ {i : Nat} {p : List Site}, Path ss i p → ∀ (n : Nat) (t : Int) (o5 : Option C) (acc : List D), p.length < n → acc.length + p.length ≤ 50 →
    ∃ (t' : Int) (o5' : Option C), whG (DL.tB (eOp (isND true) (eV 4) (eK .non))) W1 n [some (.d (basD m ss)), nm, some (.p 0), some (.d (.int t)), some (.d (.int (i : Nat))), o5] [.lst (acc.map .d)] = some (.nx [some (.d (basD m ss)), nm, some (.p 0), some (.d (.int t')), some (.d .non), o5'] [.lst ((acc ++ pairs t p).map .d)]) := fun {i p} hp => by
  have testT : ∀ (t : Int) (i : Int) (o5 : Option C) (st : Sto), (DL.tB (eOp (isND true) (eV 4) (eK .non))) [some (.d (basD m ss)), nm, some (.p 0), some (.d (.int t)), some (.d (.int i)), o5] st = some (true, st) := fun t i o5 st => by simp
  have testF : ∀ (t : Int) (o5 : Option C) (st : Sto), (DL.tB (eOp (isND true) (eV 4) (eK .non))) [some (.d (basD m ss)), nm, some (.p 0), some (.d (.int t)), some (.d .non), o5] st = some (false, st) := fun t o5 st => by simp
  induction hp with
  | @last i x h hn =>
    intro n t o5 acc hl ha
    obtain ⟨n, rfl⟩ : ∃ k, n = k + 2 := ⟨n - 2, by simp at hl; omega⟩
    have hz : phi_site_number [.d (basD m ss), .d (oS x.nxt)] [] = some (.d .non, []) := by
      rw [hn]
      exact site_number_no fun a _ => rfl
    have w := W1_ok g h (nm := nm) (o5 := o5) (t := t) (acc := acc) (by simp at ha; omega) hz
    refine ⟨t + x.trav, some (.d (siteD x)), ?_⟩
    unfold whG
    rw [testT, Option.bind_some]
    show (if true = true then _ else _) = _
    rw [if_pos rfl, w, Option.bind_some]
    show whG _ W1 (n + 1) _ _ = _
    unfold whG
    rw [testF, Option.bind_some]
    rfl
  | @step i j x y p h hy hn hij hp ih =>
    intro n t o5 acc hl ha
    obtain ⟨n, rfl⟩ : ∃ k, n = k + 1 := ⟨n - 1, by simp at hl; omega⟩
    have hz : phi_site_number [.d (basD m ss), .d (oS x.nxt)] [] = some (.d (.int (j : Nat)), []) := by
      rw [hn]
      exact site_number_ok g hy
    rw [List.length_cons] at hl ha
    have w := W1_ok g h (nm := nm) (o5 := o5) (t := t) (acc := acc) (by omega) hz
    obtain ⟨t', o5', e⟩ := ih n (t + x.trav) (some (.d (siteD x))) (acc ++ [D.tup [.str x.name, .int t]]) (by omega) (by rw [List.length_append]; show acc.length + 1 + _ ≤ _; omega)
    refine ⟨t', o5', ?_⟩
    unfold whG
    rw [testT, Option.bind_some]
    show (if true = true then _ else _) = _
    rw [if_pos rfl, w, Option.bind_some]
    show whG _ W1 n _ _ = _
    rw [e]
    simp [pairs]
theorem route_ok {m : Nat} {ss : List Site} {rs : List Rgt} (g : Good m ss rs) {i : Nat} {x : Site} (h : ss[i]? = some x) {p : List Site} (hp : Path ss i p) (hl : p.length ≤ 4) : phi_route [.d (basD m ss), .d (.str x.name)] [] = some (.d (.tup (pairs 0 p)), []) := by
  obtain ⟨t', o5', e⟩ := wh_route g (nm := some (.d (.str x.name))) hp 12 0 none [] (by omega) (by simp; omega)
  have sn := site_number_ok g h
  have hG : ∃ st, G_route [some (.d (basD m ss)), some (.d (.str x.name)), none, none, none, none] [] = some (.rt (.d (.tup (pairs 0 p))) st) := by
    refine ⟨[.lst ((pairs 0 p).map .d)], ?_⟩
    rw [G_route_eq]
    simp only [List.map_nil, List.nil_append] at e
    simp [sn, sWh, e]
  obtain ⟨st, hG⟩ := hG
  unfold phi_route
  rw [fnD_ev 6 2 G_route [.d (basD m ss), .d (.str x.name)] rfl]
  simp [hG]
end Lw
namespace Lw
open PySem PySem.Spec PyProof.Rows L2 DL
theorem idx_names {ss : List Site} {i : Nat} {x : Site} (h : ss[i]? = some x) (hb : ∀ (k : Nat) (a : Site), ss[k]? = some a → k < i → a.name ≠ x.name) : idxD (ss.map fun a => D.str a.name) (.str x.name) = some (.int (i : Nat)) := by
  have hi : i < ss.length := by
    rcases Nat.lt_or_ge i ss.length with q | q
    · exact q
    · rw [List.getElem?_eq_none q] at h
      cases h
  have hx : ss[i] = x := by
    rw [List.getElem?_eq_getElem hi] at h
    exact Option.some.inj h
  have hf : (ss.map fun a => D.str a.name).all flatD = true := by simp [flatD]
  have e : (ss.map fun a => D.str a.name).findIdx? (fun z => eqV (toV z) (toV (.str x.name))) = some i := by
    rw [List.findIdx?_eq_some_iff_getElem]
    refine ⟨by rw [List.length_map]; exact hi, by simp [toV, eqV, hx], fun j hj => ?_⟩
    have hjl : j < ss.length := by omega
    have := hb j ss[j] (List.getElem?_eq_getElem hjl) hj
    simp [toV, eqV, this]
  show (if flatD (.str x.name) = true ∧ (ss.map fun a => D.str a.name).all flatD = true then ((ss.map fun a => D.str a.name).findIdx? (fun z => eqV (toV z) (toV (.str x.name)))).map (fun j => D.int (j : Nat)) else none) = _
  rw [if_pos ⟨rfl, hf⟩, e]
  rfl
theorem lw_number_ok {m : Nat} {ss : List Site} {rs : List Rgt} (g : Good m ss rs) {i : Nat} {x : Site} (h : ss[i]? = some x) : phi_lw_number [.d (basD m ss), .d (.str x.name)] [] = some (.d (.int (i : Nat)), []) := by
  have lc : ∀ (ρ : DL.Env) (st : Sto), 2 < ρ.length → lcL (.n 2) gYes (eOp ixD (eV 2) (eK (.int 0))) ρ (ss.map siteD) st [] = some (ss.map fun a => .str a.name, st) := fun ρ st hk => by
    have := lcL_mp (ρ := ρ) (st := st) (.n 2) (eOp ixD (eV 2) (eK (.int 0))) siteD (fun a => .str a.name) ss [] (fun a ha => ⟨_, .d (.str a.name), rfl, by simp [hk, ix_name], rfl⟩) (by have := g.n1.2; simp; omega)
    simpa using this
  have ix := idx_names h (fun k a h1 h2 en => by
    have := g.dis k i a x h1 h en
    omega)
  have hb : ixD (basD m ss) (.int 1) = some (.tup (ss.map siteD)) := rfl
  have el : (eLc [2] (.n 2) (iV (eOp ixD (eV 0) (eK (.int 1)))) gYes (eOp ixD (eV 2) (eK (.int 0)))) [some (.d (basD m ss)), some (.d (.str x.name)), none] [] = some (.d (.lst (ss.map fun a => D.str a.name)), []) := by
    simp [hb, lc]
  have hG : G_lw_number [some (.d (basD m ss)), some (.d (.str x.name)), none] [] = some (.rt (.d (.int (i : Nat))) []) := by
    unfold G_lw_number
    rw [sRt_ev]
    unfold eIdx
    rw [el, Option.bind_some]
    simp [ix]
  unfold phi_lw_number
  rw [fnD_ev 3 2 G_lw_number [.d (basD m ss), .d (.str x.name)] rfl]
  simp [hG]
def L1 : GS := sSeq (sSet 4 (eOp ixD (eOp ixD (eV 0) (eK (.int 1))) (eCall phi_lw_number (aC (eV 0) (aC (eOp ixD (eOp ixD (eV 2) (eNeg (eK (.int 1)))) (eK (.int 0))) aN)))))
    (sIf (DL.tB (eOp (isND true) (eOp ixD (eV 4) (eK (.int 1))) (eK .non))) (sEx (eApp (eV 2) (eTup (aC (eOp ixD (eV 4) (eK (.int 1))) (aC (eOp addD (eOp ixD (eOp ixD (eV 2) (eNeg (eK (.int 1)))) (eK (.int 1))) (eOp ixD (eV 4) (eK (.int 2)))) aN))))) sNx)
theorem G_lroute_eq : G_lw_route = (sSeq (sNew 2 (eLst (aC (eTup (aC (eV 1) (aC (eK (.int 0)) aN))) aN))) (sSeq (sFor (.n 3) (iR1 (aC (eK (.int 4)) aN)) L1) (sRt (eCB tupleD (aC (eV 2) aN))))) := rfl
theorem atI_last {α : Type} (acc : List α) (z : α) : atI (acc ++ [z]) (-1) = some z := by
  have h : ixN (acc ++ [z]).length (-1) = some acc.length := by
    unfold ixN
    rw [if_neg (by decide), List.length_append]
    show (if -((acc.length + 1 : Nat) : Int) ≤ -1 then some ((-1 : Int) + ((acc.length + 1 : Nat) : Int)).toNat else none) = _
    rw [if_pos (by omega)]
    congr 1
    omega
  unfold atI
  rw [h]
  show (acc ++ [z])[acc.length]? = some z
  rw [List.getElem?_append_right (Nat.le_refl _), Nat.sub_self]
  rfl
theorem L1_ok {m : Nat} {ss : List Site} {rs : List Rgt} (g : Good m ss rs) {i : Nat} {x : Site} (h : ss[i]? = some x) {nm o3 o4 : Option C} {t : Int} {acc : List D} (ha : acc.length ≤ 100) :
    L1 [some (.d (basD m ss)), nm, some (.p 0), o3, o4] [.lst ((acc ++ [D.tup [.str x.name, .int t]]).map .d)] = some (.nx [some (.d (basD m ss)), nm, some (.p 0), o3, some (.d (siteD x))]
      [.lst ((match x.nxt with | none => acc ++ [D.tup [.str x.name, .int t]] | some y => acc ++ [D.tup [.str x.name, .int t]] ++ [D.tup [.str y, .int (t + x.trav)]]).map .d)]) := by
  have hat : (ss.map siteD)[i]? = some (siteD x) := by
    rw [List.getElem?_map, h]
    rfl
  have h1 : ixD (siteD x) (.int 1) = some (oS x.nxt) := rfl
  have h2 : ixD (siteD x) (.int 2) = some (.int x.trav) := rfl
  have hl : acc.length + 1 < 1000000 := by omega
  have hb : ixD (basD m ss) (.int 1) = some (.tup (ss.map siteD)) := rfl
  have hall : allD ((acc ++ [D.tup [.str x.name, .int t]]).map .d) = some (acc ++ [D.tup [.str x.name, .int t]]) := allD_map _
  have hnum := lw_number_ok g h
  have hm : isND true (oS none) .non = some (.bl false) := rfl
  have hm2 : ∀ y, isND true (oS (some y)) .non = some (.bl true) := fun _ => rfl
  generalize hA : acc ++ [D.tup [.str x.name, .int t]] = A at *
  have hlast : atI A (-1) = some (.tup [.str x.name, .int t]) := by rw [← hA]; exact atI_last _ _
  have hAl : A.length < 1000000 := by rw [← hA, List.length_append]; exact hl
  cases hx : x.nxt with
  | none =>
    rw [hx] at h1
    unfold L1
    simp [hb, hat, h1, hall, hlast, hnum, hm, -List.getElem?_map]
  | some y =>
    rw [hx] at h1
    unfold L1
    simp [hb, hat, h1, h2, hall, hlast, hnum, hm2, hAl, -List.getElem?_map]
    rfl
theorem loop_route {m : Nat} {ss : List Site} {rs : List Rgt} (g : Good m ss rs) {nm : Option C} : ∀ (xs : List D) {i : Nat} {x : Site} {p : List Site}, Path ss i (x :: p) → p.length ≤ xs.length → ∀ (t : Int) (o3 o4 : Option C) (acc : List D), acc.length + xs.length ≤ 50 →
    ∃ o3' o4', forL (.n 3) L1 xs [some (.d (basD m ss)), nm, some (.p 0), o3, o4] [.lst ((acc ++ [D.tup [.str x.name, .int t]]).map .d)] = some (.nx [some (.d (basD m ss)), nm, some (.p 0), o3', o4'] [.lst ((acc ++ pairs t (x :: p)).map .d)])
  | [], i, x, p, hp, hl, t, o3, o4, acc, ha => by
    cases p with
    | nil => exact ⟨o3, o4, rfl⟩
    | cons _ _ => simp at hl
  | z :: xs, i, x, p, hp, hl, t, o3, o4, acc, ha => by
    rw [List.length_cons] at ha hl
    cases hp with
    | last h hn =>
      have e := L1_ok g h (nm := nm) (o3 := some (.d z)) (o4 := o4) (t := t) (acc := acc) (by omega)
      rw [hn] at e
      obtain ⟨o3', o4', e2⟩ := loop_route g (nm := nm) xs (.last h hn) (Nat.zero_le _) t (some (.d z)) (some (.d (siteD x))) acc (by omega)
      refine ⟨o3', o4', ?_⟩
      rw [forL_cons]
      show (L1 [some (.d (basD m ss)), nm, some (.p 0), some (.d z), o4] _).bind _ = _
      rw [e, Option.bind_some, stepK_nx]
      exact e2
    | @step _ j _ y q h hy hn hij hp =>
      have e := L1_ok g h (nm := nm) (o3 := some (.d z)) (o4 := o4) (t := t) (acc := acc) (by omega)
      rw [hn] at e
      obtain ⟨w, q, rfl⟩ : ∃ w q', p = w :: q' := by
        cases hp with
        | last => exact ⟨_, _, rfl⟩
        | step => exact ⟨_, _, rfl⟩
      have hw : w = y := by
        cases hp with
        | last h5 _ => exact Option.some.inj (h5.symm.trans hy)
        | step h5 _ _ _ _ => exact Option.some.inj (h5.symm.trans hy)
      subst hw
      obtain ⟨o3', o4', e2⟩ := loop_route g (nm := nm) xs hp (by simp at hl; omega) (t + x.trav) (some (.d z)) (some (.d (siteD x))) (acc ++ [D.tup [.str x.name, .int t]]) (by rw [List.length_append]; show acc.length + 1 + _ ≤ _; omega)
      refine ⟨o3', o4', ?_⟩
      rw [forL_cons]
      show (L1 [some (.d (basD m ss)), nm, some (.p 0), some (.d z), o4] _).bind _ = _
      rw [e, Option.bind_some, stepK_nx]
      show forL (.n 3) L1 xs _ [.lst ((acc ++ [D.tup [.str x.name, .int t]] ++ [D.tup [.str w.name, .int (t + x.trav)]]).map .d)] = _
      rw [e2]
      simp [pairs]
theorem lw_route_ok {m : Nat} {ss : List Site} {rs : List Rgt} (g : Good m ss rs) {i : Nat} {x : Site} (h : ss[i]? = some x) {p : List Site} (hp : Path ss i p) (hl : p.length ≤ 4) : phi_lw_route [.d (basD m ss), .d (.str x.name)] [] = some (.d (.tup (pairs 0 p)), []) := by
  obtain ⟨w, q, rfl⟩ : ∃ w q', p = w :: q' := by
    cases hp with
    | last => exact ⟨_, _, rfl⟩
    | step => exact ⟨_, _, rfl⟩
  have hw : w = x := by
    cases hp with
    | last h5 _ => exact Option.some.inj (h5.symm.trans h)
    | step h5 _ _ _ _ => exact Option.some.inj (h5.symm.trans h)
  subst hw
  obtain ⟨o3', o4', e⟩ := loop_route g (nm := some (.d (.str w.name))) (rngD 0 4) hp (by simp at hl; show q.length ≤ 4; omega) 0 none none [] (by decide)
  have hall : allD ((pairs 0 (w :: q)).map .d) = some (pairs 0 (w :: q)) := allD_map _
  have hG : ∃ st, G_lw_route [some (.d (basD m ss)), some (.d (.str w.name)), none, none, none] [] = some (.rt (.d (.tup (pairs 0 (w :: q)))) st) := by
    refine ⟨[.lst ((pairs 0 (w :: q)).map .d)], ?_⟩
    rw [G_lroute_eq]
    generalize pairs 0 (w :: q) = P at *
    simp at e
    simp [e, hall]
  obtain ⟨st, hG⟩ := hG
  unfold phi_lw_route
  rw [fnD_ev 5 2 G_lw_route [.d (basD m ss), .d (.str w.name)] rfl]
  simp [hG]
end Lw
namespace Lw
open PySem PySem.Spec PyProof.Rows L2 DL
def nameAt (ss : List Site) (k : Nat) : D := match ss[k]? with
  | some x => .str x.name
  | none => .non
def sel (P : Nat → List Site) (y : PySem.Str) (k : Nat) : Bool := (P k).any fun a => a.name == y
def upF (ss : List Site) (P : Nat → List Site) (y : PySem.Str) : Nat → Nat → List D
  | 0, _ => []
  | d + 1, k => (if sel P y k = true then [nameAt ss k] else []) ++ upF ss P y d (k + 1)
def Paths (ss : List Site) (P : Nat → List Site) : Prop := ∀ i, i < ss.length → Path ss i (P i) ∧ (P i).length ≤ 4
theorem paths_ex {m : Nat} {ss : List Site} {rs : List Rgt} (g : Good m ss rs) : ∃ P, Paths ss P := by
  have h : ∀ i : Nat, ∃ p, i < ss.length → Path ss i p ∧ p.length ≤ 4 := fun i => by
    rcases Nat.lt_or_ge i ss.length with q | q
    · obtain ⟨p, h1, h2⟩ := path_ex g (ss.length - i) i (by omega) (by omega)
      have := g.n1.2
      exact ⟨p, fun _ => ⟨h1, by omega⟩⟩
    · exact ⟨[], fun z => absurd z (by omega)⟩
  exact ⟨fun i => Classical.choose (h i), fun i hi => Classical.choose_spec (h i) hi⟩
def fstD : D → D
  | .tup (x :: _) => x
  | _ => .non
theorem pairs_fst : ∀ (p : List Site) (t : Int), (pairs t p).map fstD = p.map fun a => .str a.name
  | [], _ => rfl
  | x :: p, t => congrArg (D.str x.name :: ·) (pairs_fst p (t + x.trav))
theorem pairs_len : ∀ (p : List Site) (t : Int), (pairs t p).length = p.length
  | [], _ => rfl
  | x :: p, t => congrArg (· + 1) (pairs_len p (t + x.trav))
theorem pairs_mem : ∀ (p : List Site) (t : Int) (d : D), d ∈ pairs t p → ∃ (n : PySem.Str) (i : Int), d = .tup [.str n, .int i]
  | [], _, d, h => by simp [pairs] at h
  | x :: p, t, d, h => by
    rw [pairs, List.mem_cons] at h
    rcases h with rfl | h
    · exact ⟨_, _, rfl⟩
    · exact pairs_mem p _ d h
theorem pick_sel (P : Nat → List Site) (y : PySem.Str) (k : Nat) (ds : List D) (h : ds = (P k).map fun a => D.str a.name) : inD false (.str y) (.lst ds) = some (.bl (sel P y k)) := by
  rw [h, in_names]
  rfl
def U1 : GS := sIf (DL.tB (eOp (inD false) (eV 1) (eLc [4, 5] (.t [4, 5]) (iV (eCall phi_route (aC (eV 0) (aC (eOp ixD (eV 3) (eK (.int 0))) aN)))) gYes (eV 4)))) (sEx (eApp (eV 2) (eOp ixD (eV 3) (eK (.int 0))))) sNx
theorem G_up_eq : G_upstream = (sSeq (sNew 2 (eLst aN)) (sSeq (sFor (.n 3) (iV (eOp ixD (eV 0) (eK (.int 1)))) U1) (sRt (eCB tupleD (aC (eV 2) aN))))) := rfl
theorem up_loop {m : Nat} {ss : List Site} {rs : List Rgt} (g : Good m ss rs) {P : Nat → List Site} (hP : Paths ss P) (y : PySem.Str) : ∀ (d k : Nat) (o3 : Option C) (acc : List D), k + d = ss.length → acc.length ≤ k →
    ∃ o3', forL (.n 3) U1 ((ss.map siteD).drop k) [some (.d (basD m ss)), some (.d (.str y)), some (.p 0), o3, none, none] [.lst (acc.map .d)] = some (.nx [some (.d (basD m ss)), some (.d (.str y)), some (.p 0), o3', none, none] [.lst ((acc ++ upF ss P y d k).map .d)])
  | 0, k, o3, acc, h, _ => by
    rw [List.drop_of_length_le (by rw [List.length_map]; omega)]
    exact ⟨o3, by simp [forL_nil, upF]⟩
  | d + 1, k, o3, acc, h, ha => by
    have hk : k < ss.length := by omega
    have gk : ss[k]? = some ss[k] := List.getElem?_eq_getElem hk
    have l4 := g.n1.2
    have rt := route_ok g gk (hP k hk).1 (hP k hk).2
    have lc : ∀ (ρ : DL.Env) (st : Sto), ρ.length = 6 → lcL (.t [4, 5]) gYes (eV 4) ρ (pairs 0 (P k)) st [] = some ((P k).map fun a => .str a.name, st) := fun ρ st hk2 => by
      have := lcL_map (ρ := ρ) (st := st) (.t [4, 5]) (eV 4) fstD (fun d => ∃ (n : PySem.Str) (i : Int), d = .tup [.str n, .int i]) (fun x hx => by
        obtain ⟨n, i, rfl⟩ := hx
        refine ⟨_, .d (.str n), rfl, ?_, rfl⟩
        simp [hk2]) (pairs 0 (P k)) [] (pairs_mem _ _) (by have := (hP k hk).2; rw [pairs_len]; simp; omega)
      rw [this, pairs_fst]
      rfl
    have ps := pick_sel P y k _ rfl
    rw [List.drop_eq_getElem_cons (by rw [List.length_map]; exact hk), List.getElem_map]
    have hl : acc.length < 1000000 := by omega
    have e : U1 [some (.d (basD m ss)), some (.d (.str y)), some (.p 0), some (.d (siteD ss[k])), none, none] [.lst (acc.map .d)] = some (.nx [some (.d (basD m ss)), some (.d (.str y)), some (.p 0), some (.d (siteD ss[k])), none, none] [.lst ((acc ++ (if sel P y k = true then [nameAt ss k] else [])).map .d)]) := by
      have na : nameAt ss k = .str ss[k].name := by
        unfold nameAt
        rw [gk]
      cases hsel : sel P y k with
      | true =>
        rw [hsel] at ps
        unfold U1
        simp [ix_name, rt, lc, ps, hl, na]
      | false =>
        rw [hsel] at ps
        unfold U1
        simp [ix_name, rt, lc, ps]
    obtain ⟨o3', e2⟩ := up_loop g hP y d (k + 1) (some (.d (siteD ss[k]))) (acc ++ (if sel P y k = true then [nameAt ss k] else [])) (by omega) (by rw [List.length_append]; split <;> simp <;> omega)
    refine ⟨o3', ?_⟩
    rw [forL_cons]
    show (U1 [some (.d (basD m ss)), some (.d (.str y)), some (.p 0), some (.d (siteD ss[k])), none, none] _).bind _ = _
    rw [e, Option.bind_some, stepK_nx, e2, List.append_assoc]
    rfl
theorem upstream_ok {m : Nat} {ss : List Site} {rs : List Rgt} (g : Good m ss rs) {P : Nat → List Site} (hP : Paths ss P) (y : PySem.Str) : phi_upstream [.d (basD m ss), .d (.str y)] [] = some (.d (.tup (upF ss P y ss.length 0)), []) := by
  obtain ⟨o3', e⟩ := up_loop g hP y ss.length 0 none [] (by omega) (Nat.le_refl 0)
  have hall : allD ((upF ss P y ss.length 0).map .d) = some (upF ss P y ss.length 0) := allD_map _
  have hb : ixD (basD m ss) (.int 1) = some (.tup (ss.map siteD)) := rfl
  have hG : ∃ st, G_upstream [some (.d (basD m ss)), some (.d (.str y)), none, none, none, none] [] = some (.rt (.d (.tup (upF ss P y ss.length 0))) st) := by
    refine ⟨[.lst ((upF ss P y ss.length 0).map .d)], ?_⟩
    rw [G_up_eq]
    generalize upF ss P y ss.length 0 = U at *
    simp only [List.drop_zero, List.map_nil, List.nil_append] at e
    simp [hb, e, hall]
  obtain ⟨st, hG⟩ := hG
  unfold phi_upstream
  rw [fnD_ev 6 2 G_upstream [.d (basD m ss), .d (.str y)] rfl]
  simp [hG]
/-! ### the dict of routes -/
def rt (ss : List Site) (P : Nat → List Site) : Nat → List (Key × C)
  | 0 => []
  | k + 1 => rt ss P k ++ (match ss[k]? with | some x => [(.inr x.name, .d (.tup (pairs 0 (P k))))] | none => [])
theorem rt_get {m : Nat} {ss : List Site} {rs : List Rgt} (g : Good m ss rs) {P : Nat → List Site} {i : Nat} {x : Site} (h : ss[i]? = some x) : ∀ k, lookC (rt ss P k) (.inr x.name) = if i < k then some (.d (.tup (pairs 0 (P i)))) else none
  | 0 => rfl
  | k + 1 => by
    have ih := rt_get g (P := P) h k
    unfold lookC at ih ⊢
    rw [rt, List.find?_append]
    rcases hk : ss[k]? with _ | y
    · have : ss.length ≤ k := List.getElem?_eq_none_iff.mp hk
      have hi : i < ss.length := by
        rcases Nat.lt_or_ge i ss.length with q | q
        · exact q
        · rw [List.getElem?_eq_none q] at h
          cases h
      rw [if_pos (by omega)] at ih
      rw [if_pos (by omega)]
      simpa using ih
    · by_cases c : i < k
      · rw [if_pos c] at ih
        rw [if_pos (by omega)]
        rcases hf : (rt ss P k).find? (fun kv => decide (kv.1 = .inr x.name)) with _ | z
        · rw [hf] at ih
          cases ih
        · rw [hf] at ih ⊢
          simpa using ih
      · rw [if_neg c] at ih
        have hf : (rt ss P k).find? (fun kv => decide (kv.1 = .inr x.name)) = none := by
          rcases hf : (rt ss P k).find? (fun kv => decide (kv.1 = .inr x.name)) with _ | z
          · exact hf
          · rw [hf] at ih
            cases ih
        rw [hf]
        by_cases c2 : i = k
        · subst c2
          have : y = x := Option.some.inj (hk.symm.trans h)
          subst this
          rw [if_pos (by omega)]
          simp
        · have ne : y.name ≠ x.name := fun e => c2 (g.dis k i y x hk h e).symm
          rw [if_neg (by omega)]
          simp [ne]
theorem rt_put {m : Nat} {ss : List Site} {rs : List Rgt} (g : Good m ss rs) {P : Nat → List Site} {k : Nat} {x : Site} (h : ss[k]? = some x) : putC (rt ss P k) (.inr x.name) (.d (.tup (pairs 0 (P k)))) = rt ss P (k + 1) := by
  have e := rt_get g (P := P) h k
  rw [if_neg (Nat.lt_irrefl k)] at e
  have hn : ((rt ss P k).any fun kv => decide (kv.1 = .inr x.name)) = false := by
    rcases hf : (rt ss P k).find? (fun kv => decide (kv.1 = .inr x.name)) with _ | z
    · rw [List.find?_eq_none] at hf
      exact List.any_eq_false.mpr fun z hz => hf z hz
    · unfold lookC at e
      rw [hf] at e
      cases e
  unfold putC
  rw [if_neg (by rw [hn]; exact Bool.false_ne_true), rt, h]
theorem rt_len (ss : List Site) (P : Nat → List Site) : ∀ k, (rt ss P k).length ≤ k
  | 0 => Nat.le_refl _
  | k + 1 => by
    rw [rt, List.length_append]
    have := rt_len ss P k
    split <;> simp <;> omega
end Lw
namespace Lw
open PySem PySem.Spec PyProof.Rows L2 DL
abbrev Cl := Sum (Nat × Nat) Nat
def clR (m : Nat) (r : Nat) : List Cl := (List.range m).map fun j => .inl (r, j)
def cl (R m S : Nat) : List Cl := (List.range R).flatMap (clR m) ++ (List.range S).map .inr
def toldD : Cl → D
  | .inl (r, j) => .tup [.str (Str.ofString "right"), .int (r : Nat), .int (j : Nat)]
  | .inr s => .tup [.str (Str.ofString "room"), .int (s : Nat)]
theorem rng_map (n : Nat) : rngD 0 n = (List.range n).map fun i => D.int (i : Nat) := by simp [rngD]
theorem lcG2_items {t t1 : Tg} {gi1 : GI} {vs1 : List Nat} {test1 : GT} {elt : GE} {ρw : DL.Env} {st : Sto} {xs : List D} {f : D → List D}
    (h : ∀ x ∈ xs, ∃ ρ1 ys, bindTg t x ρw = some ρ1 ∧ gi1 ρ1 st = some (.items ys, st) ∧ ∀ acc : List D, acc.length ≤ 1000 → lcL t1 test1 elt (wipeE ρ1 vs1) ys st acc = some (acc ++ f x, st)) (hf : ∀ x ∈ xs, (f x).length ≤ 10) :
    ∀ (m i : Nat) (acc : List D), i + m = xs.length → acc.length + 10 * m ≤ 1000 → lcG2 t gi1 vs1 t1 test1 elt (.items xs) ρw (m + 1) i st acc = some (acc ++ (xs.drop i).flatMap f, st)
  | 0, i, acc, e, _ => by
    rw [List.drop_of_length_le (by omega)]
    show ((some xs[i]?).bind _) = _
    rw [List.getElem?_eq_none (by omega)]
    simp
  | m + 1, i, acc, e, hl => by
    have hi : i < xs.length := by omega
    rw [List.drop_eq_getElem_cons hi]
    obtain ⟨ρ1, ys, h1, h2, h3⟩ := h xs[i] (List.getElem_mem hi)
    have hfl := hf xs[i] (List.getElem_mem hi)
    show ((some xs[i]?).bind _) = _
    rw [List.getElem?_eq_getElem hi]
    show (bindTg t xs[i] ρw).bind _ = _
    rw [h1, Option.bind_some, h2, Option.bind_some]
    show (lcG t1 test1 elt (.items ys) (wipeE ρ1 vs1) (ys.length + 1) 0 st acc).bind _ = _
    rw [lcG_items t1 test1 elt _ ys ys.length 0 st acc (by omega), List.drop_zero, h3 acc (by omega), Option.bind_some]
    show lcG2 t gi1 vs1 t1 test1 elt (.items xs) ρw (m + 1) (i + 1) st (acc ++ f xs[i]) = _
    rw [lcG2_items h hf m (i + 1) _ (by omega) (by rw [List.length_append]; omega)]
    simp only [List.flatMap_cons, List.append_assoc]
theorem sum_const (m : Nat) : ∀ xs : List Nat, (xs.map fun _ => m).sum = xs.length * m
  | [] => by simp
  | x :: xs => by
    rw [List.map_cons, List.sum_cons, sum_const m xs, List.length_cons, Nat.add_mul, Nat.one_mul, Nat.add_comm]
theorem claims_ok {m : Nat} {ss : List Site} {rs : List Rgt} (g : Good m ss rs) : phi_claims [.d (basD m ss), .d (.tup (rs.map rgtD))] [] = some (.d (.tup ((cl rs.length m ss.length).map toldD)), []) := by
  have m4 := g.m4
  have n4 := g.n1
  have r4 := g.r4
  have l1 : m < 1000000 := by omega
  have l2 : rs.length < 1000000 := by omega
  have l3 : ss.length < 1000000 := by omega
  let f : D → List D := fun d => match d with
    | .int i => (List.range m).map fun j => D.tup [.str (Str.ofString "right"), .int i, .int (j : Nat)]
    | _ => []
  let ρ : DL.Env := [some (.d (basD m ss)), some (.d (.tup (rs.map rgtD))), some (.d (.int (m : Nat))), some (.d (.tup (ss.map siteD))), none, none, none, none, none]
  have e2 : lcG2 (.n 5) (iR1 (aC (eV 2) aN)) [6] (.n 6) gYes (eTup (aC (eK (.str (Str.ofString "right"))) (aC (eV 5) (aC (eV 6) aN)))) (.items (rngD 0 rs.length)) ρ ((rngD 0 rs.length).length + 1) 0 [] [] = some ((rngD 0 rs.length).flatMap f, []) := by
    have := lcG2_items (t := .n 5) (t1 := .n 6) (gi1 := iR1 (aC (eV 2) aN)) (vs1 := [6]) (test1 := gYes) (elt := eTup (aC (eK (.str (Str.ofString "right"))) (aC (eV 5) (aC (eV 6) aN)))) (ρw := ρ) (st := []) (xs := rngD 0 rs.length) (f := f) (fun x hx => by
      obtain ⟨k, rfl⟩ := rng_int x hx
      refine ⟨_, rngD 0 m, rfl, by simp [ρ, l1], fun acc ha => ?_⟩
      rw [rng_map]
      exact lcL_mp (.n 6) _ (fun j : Nat => D.int (j : Nat)) (fun j : Nat => D.tup [.str (Str.ofString "right"), .int (k : Nat), .int (j : Nat)]) (List.range m) acc (fun j hj => ⟨_, .d (.tup [.str (Str.ofString "right"), .int (k : Nat), .int (j : Nat)]), rfl, by simp [ρ], rfl⟩) (by simp; omega)) (fun x hx => by
      obtain ⟨k, rfl⟩ := rng_int x hx
      simp [f]
      omega) (rngD 0 rs.length).length 0 [] (by omega) (by simp [rngD]; omega)
    simpa using this
  have ef : (rngD 0 rs.length).flatMap f = ((List.range rs.length).flatMap (clR m)).map toldD := by
    rw [rng_map, List.flatMap_map, List.map_flatMap]
    congr 1
    funext r
    simp [f, clR, toldD]
  have lc3 : ∀ (ρ : DL.Env) (st : Sto), 8 < ρ.length → lcL (.n 8) gYes (eTup (aC (eK (.str (Str.ofString "room"))) (aC (eV 8) aN))) ρ (rngD 0 ss.length) st [] = some ((List.range ss.length).map fun s => toldD (.inr s), st) := fun ρ st hk => by
    rw [rng_map]
    have := lcL_mp (ρ := ρ) (st := st) (.n 8) (eTup (aC (eK (.str (Str.ofString "room"))) (aC (eV 8) aN))) (fun j : Nat => D.int (j : Nat)) (fun s : Nat => toldD (.inr s)) (List.range ss.length) [] (fun j hj => ⟨_, .d (toldD (.inr j)), rfl, by simp [hk, toldD], rfl⟩) (by simp; omega)
    simpa using this
  have e4 : (eLc2 [5, 6] [6] (.n 5) (.n 6) (iR1 (aC (eCB lenD (aC (eV 1) aN)) aN)) (iR1 (aC (eV 2) aN)) gYes (eTup (aC (eK (.str (Str.ofString "right"))) (aC (eV 5) (aC (eV 6) aN))))) ρ [] = some (.d (.lst (((List.range rs.length).flatMap (clR m)).map toldD)), []) := by
    unfold eLc2
    have : iR1 (aC (eCB lenD (aC (eV 1) aN)) aN) ρ [] = some (.items (rngD 0 rs.length), []) := by simp [ρ, l2]
    rw [this, Option.bind_some]
    show Option.map _ (lcG2 _ _ _ _ _ _ (.items (rngD 0 rs.length)) ρ ((rngD 0 rs.length).length + 1) 0 [] []) = _
    rw [e2, ef]
    rfl
  have ll : (((List.range rs.length).flatMap (clR m)).map toldD).length + ss.length ≤ 1000000 := by
    have : ((List.range rs.length).flatMap (clR m)).length = rs.length * m := by simp [clR, List.length_flatMap, sum_const]
    rw [List.length_map, this]
    have : rs.length * m ≤ 4 * 4 := Nat.mul_le_mul r4 m4.2
    omega
  have hG : G_claims [some (.d (basD m ss)), some (.d (.tup (rs.map rgtD))), none, none, none, none, none, none, none] [] = some (.rt (.d (.tup ((cl rs.length m ss.length).map toldD))) []) := by
    unfold G_claims
    have s1 : (sUn (.t [2, 3]) (eV 0)) [some (.d (basD m ss)), some (.d (.tup (rs.map rgtD))), none, none, none, none, none, none, none] [] = some (.nx ρ []) := by simp [basD, ρ]
    have s2 : (sSet 4 (eLc2 [5, 6] [6] (.n 5) (.n 6) (iR1 (aC (eCB lenD (aC (eV 1) aN)) aN)) (iR1 (aC (eV 2) aN)) gYes (eTup (aC (eK (.str (Str.ofString "right"))) (aC (eV 5) (aC (eV 6) aN)))))) ρ [] = some (.nx (ρ.set 4 (some (.d (.lst (((List.range rs.length).flatMap (clR m)).map toldD))))) []) := by
      rw [sSet_ev, e4]
      rfl
    rw [sSeq_ev, s1, Option.bind_some, seqK_nx, sSeq_ev, s2, Option.bind_some, seqK_nx]
    unfold cl
    rw [List.map_append, List.map_map]
    generalize ((List.range rs.length).flatMap (clR m)).map toldD = A at *
    have lc4 : ∀ (ρ : DL.Env) (st : Sto), 8 < ρ.length → lcL (.n 8) gYes (eTup (aC (eK (.str (Str.ofString "room"))) (aC (eV 8) aN))) ρ (rngD 0 ss.length) st [] = some ((List.range ss.length).map (toldD ∘ .inr), st) := lc3
    simp [ρ, l3, lc4, ll]
  unfold phi_claims
  rw [fnD_ev 9 2 G_claims [.d (basD m ss), .d (.tup (rs.map rgtD))] rfl]
  simp [hG]
end Lw
namespace Lw
open PySem PySem.Spec PyProof.Rows L2 DL
def Sites (ss : List Site) (rs : List Rgt) (N : Nat → Nat) : Prop := ∀ (r : Nat) (x : Rgt), rs[r]? = some x → ∃ y : Site, ss[N r]? = some y ∧ y.name = x.site
theorem sites_ex {m : Nat} {ss : List Site} {rs : List Rgt} (g : Good m ss rs) : ∃ N, Sites ss rs N := by
  have h : ∀ r : Nat, ∃ n : Nat, ∀ x, rs[r]? = some x → ∃ y : Site, ss[n]? = some y ∧ y.name = x.site := fun r => by
    cases e : rs[r]? with
    | none => exact ⟨0, fun x h => nomatch h⟩
    | some x =>
      obtain ⟨a, ha, e2⟩ := g.site x (List.mem_of_getElem? e)
      obtain ⟨n, hn, e3⟩ := List.getElem_of_mem ha
      refine ⟨n, fun z hz => ?_⟩
      cases hz
      exact ⟨a, by rw [List.getElem?_eq_getElem hn, e3], e2⟩
  exact ⟨fun r => Classical.choose (h r), fun r => Classical.choose_spec (h r)⟩
def wantAt (rs : List Rgt) (r j : Nat) : Int := match rs[r]? with
  | some x => x.wants.getD j 0
  | none => 0
def roomAt (ss : List Site) (s : Nat) : Int := match ss[s]? with
  | some x => x.room
  | none => 0
def cellD (m : Nat) (N : Nat → Nat) : Cl → D
  | .inl (r, j) => .tup [.int (N r : Nat), .int (j : Nat)]
  | .inr s => .tup [.int (s : Nat), .int ((m : Int) - 1)]
def sizeI (ss : List Site) (rs : List Rgt) : Cl → Int
  | .inl (r, j) => wantAt rs r j
  | .inr s => roomAt ss s
def rowD (m : Nat) (ss : List Site) (rs : List Rgt) (N : Nat → Nat) (c : Cl) : D := .lst [cellD m N c, .int (sizeI ss rs c)]
def Val (m : Nat) (ss : List Site) (rs : List Rgt) : Cl → Prop
  | .inl (r, j) => r < rs.length ∧ j < m
  | .inr s => s < ss.length
theorem hb0 (m : Nat) (ss : List Site) : ixD (basD m ss) (.int 0) = some (.int (m : Nat)) := rfl
theorem hb1 (m : Nat) (ss : List Site) : ixD (basD m ss) (.int 1) = some (.tup (ss.map siteD)) := rfl
theorem hr1 (x : Rgt) : ixD (rgtD x) (.int 1) = some (.str x.site) := rfl
theorem hr2 (x : Rgt) : ixD (rgtD x) (.int 2) = some (.tup (x.wants.map .int)) := rfl
theorem hs4 (x : Site) : ixD (siteD x) (.int 4) = some (.int x.room) := rfl
theorem cell_claim {m : Nat} {ss : List Site} {rs : List Rgt} (g : Good m ss rs) {N : Nat → Nat} (hN : Sites ss rs N) {c : Cl} (v : Val m ss rs c) : phi_claim_cell [.d (basD m ss), .d (.tup (rs.map rgtD)), .d (toldD c)] [] = some (.d (cellD m N c), []) := by
  have hG : G_claim_cell [some (.d (basD m ss)), some (.d (.tup (rs.map rgtD))), some (.d (toldD c))] [] = some (.rt (.d (cellD m N c)) []) := by
    rcases c with ⟨r, j⟩ | s
    · have hr : r < rs.length := v.1
      have gr : rs[r]? = some rs[r] := List.getElem?_eq_getElem hr
      obtain ⟨y, h1, h2⟩ := hN r _ gr
      have sn := site_number_ok g h1
      rw [h2] at sn
      have hat : (rs.map rgtD)[r]? = some (rgtD rs[r]) := by
        rw [List.getElem?_map, gr]
        rfl
      unfold G_claim_cell
      simp [toldD, cellD, hat, hr1, sn, -List.getElem?_map]
    · unfold G_claim_cell
      simp [toldD, cellD, hb0, subD]
  unfold phi_claim_cell
  rw [fnD_ev 3 3 G_claim_cell [.d (basD m ss), .d (.tup (rs.map rgtD)), .d (toldD c)] rfl]
  simp [hG]
theorem size_claim {m : Nat} {ss : List Site} {rs : List Rgt} (g : Good m ss rs) {c : Cl} (v : Val m ss rs c) : phi_claim_size [.d (basD m ss), .d (.tup (rs.map rgtD)), .d (toldD c)] [] = some (.d (.int (sizeI ss rs c)), []) := by
  have hG : G_claim_size [some (.d (basD m ss)), some (.d (.tup (rs.map rgtD))), some (.d (toldD c))] [] = some (.rt (.d (.int (sizeI ss rs c))) []) := by
    rcases c with ⟨r, j⟩ | s
    · have hr : r < rs.length := v.1
      have gr : rs[r]? = some rs[r] := List.getElem?_eq_getElem hr
      have hj : j < rs[r].wants.length := by rw [g.wants _ (List.getElem_mem hr)]; exact v.2
      have hat : (rs.map rgtD)[r]? = some (rgtD rs[r]) := by
        rw [List.getElem?_map, gr]
        rfl
      have hat2 : (rs[r].wants.map D.int)[j]? = some (.int (rs[r].wants.getD j 0)) := by
        rw [List.getElem?_map, List.getD_eq_getElem?_getD, List.getElem?_eq_getElem hj]
        rfl
      have e : sizeI ss rs (.inl (r, j)) = rs[r].wants.getD j 0 := by
        show wantAt rs r j = _
        unfold wantAt
        rw [gr]
      rw [e]
      generalize rs[r].wants.getD j 0 = w at *
      unfold G_claim_size
      simp [toldD, hat, hat2, hr2, -List.getElem?_map]
    · have hs : s < ss.length := v
      have gs : ss[s]? = some ss[s] := List.getElem?_eq_getElem hs
      have hat : (ss.map siteD)[s]? = some (siteD ss[s]) := by
        rw [List.getElem?_map, gs]
        rfl
      have e : sizeI ss rs (.inr s) = ss[s].room := by
        show roomAt ss s = _
        unfold roomAt
        rw [gs]
      rw [e]
      unfold G_claim_size
      simp [toldD, hb1, hat, hs4, -List.getElem?_map]
  unfold phi_claim_size
  rw [fnD_ev 3 3 G_claim_size [.d (basD m ss), .d (.tup (rs.map rgtD)), .d (toldD c)] rfl]
  simp [hG]
def M1 : GS := sEx (eApp (eV 2) (eLst (aC (eTup (aC (eCall phi_lw_number (aC (eV 0) (aC (eV 4) aN))) (aC (eCB DL.intD (aC (eV 6) aN)) aN))) (aC (eOp ixD (eV 5) (eV 6)) aN))))
def M2 : GS := sFor (.n 6) (iR1 (aC (eOp ixD (eV 0) (eK (.int 0))) aN)) M1
def M3 : GS := sEx (eApp (eV 2) (eLst (aC (eTup (aC (eCB DL.intD (aC (eV 7) aN)) (aC (eOp subD (eOp ixD (eV 0) (eK (.int 0))) (eK (.int 1))) aN))) (aC (eOp ixD (eOp ixD (eOp ixD (eV 0) (eK (.int 1))) (eV 7)) (eK (.int 4))) aN))))
theorem G_lclaims_eq : G_lw_claims = (sSeq (sNew 2 (eLst aN)) (sSeq (sFor (.t [3, 4, 5]) (iV (eV 1)) M2) (sSeq (sFor (.n 7) (iR1 (aC (eCB lenD (aC (eOp ixD (eV 0) (eK (.int 1))) aN)) aN)) M3) (sRt (eV 2))))) := rfl
theorem M1_loop {m : Nat} {ss : List Site} {rs : List Rgt} (g : Good m ss rs) {N : Nat → Nat} (hN : Sites ss rs N) {r : Nat} (hr : r < rs.length) {b1 o3 o7 : Option C} : ∀ (d k : Nat) (o6 : Option C) (acc : List D), k + d = m → acc.length + d ≤ 100 →
    ∃ o6', forL (.n 6) M1 ((rngD 0 m).drop k) [some (.d (basD m ss)), b1, some (.p 0), o3, some (.d (.str rs[r].site)), some (.d (.tup (rs[r].wants.map .int))), o6, o7] [.lst (acc.map .d)] = some (.nx [some (.d (basD m ss)), b1, some (.p 0), o3, some (.d (.str rs[r].site)), some (.d (.tup (rs[r].wants.map .int))), o6', o7] [.lst ((acc ++ ((List.range m).drop k).map fun j => rowD m ss rs N (.inl (r, j))).map .d)])
  | 0, k, o6, acc, h, _ => by
    rw [List.drop_of_length_le (by simp [rngD]; omega), List.drop_of_length_le (by simp; omega)]
    exact ⟨o6, by simp [forL_nil]⟩
  | d + 1, k, o6, acc, h, ha => by
    have hk : k < m := by omega
    have gr : rs[r]? = some rs[r] := List.getElem?_eq_getElem hr
    obtain ⟨y, h1, h2⟩ := hN r _ gr
    have ln := lw_number_ok g h1
    rw [h2] at ln
    have hj : k < rs[r].wants.length := by rw [g.wants _ (List.getElem_mem hr)]; exact hk
    have hat2 : (rs[r].wants.map D.int)[k]? = some (.int (rs[r].wants.getD k 0)) := by
      rw [List.getElem?_map, List.getD_eq_getElem?_getD, List.getElem?_eq_getElem hj]
      rfl
    have er : rowD m ss rs N (.inl (r, k)) = .lst [.tup [.int (N r : Nat), .int (k : Nat)], .int (rs[r].wants.getD k 0)] := by
      show D.lst [_, .int (wantAt rs r k)] = _
      unfold wantAt
      rw [gr]
      rfl
    have hl : acc.length < 1000000 := by omega
    have e : M1 [some (.d (basD m ss)), b1, some (.p 0), o3, some (.d (.str rs[r].site)), some (.d (.tup (rs[r].wants.map .int))), some (.d (.int (k : Nat))), o7] [.lst (acc.map .d)] = some (.nx [some (.d (basD m ss)), b1, some (.p 0), o3, some (.d (.str rs[r].site)), some (.d (.tup (rs[r].wants.map .int))), some (.d (.int (k : Nat))), o7] [.lst ((acc ++ [rowD m ss rs N (.inl (r, k))]).map .d)]) := by
      rw [er]
      generalize rs[r].wants.getD k 0 = w at *
      unfold M1
      simp [ln, hat2, hl, -List.getElem?_map]
    obtain ⟨o6', e2⟩ := M1_loop g hN hr (b1 := b1) (o3 := o3) (o7 := o7) d (k + 1) (some (.d (.int (k : Nat)))) (acc ++ [rowD m ss rs N (.inl (r, k))]) (by omega) (by rw [List.length_append]; show acc.length + 1 + d ≤ 100; omega)
    refine ⟨o6', ?_⟩
    rw [rng_drop hk, forL_cons]
    show (M1 [some (.d (basD m ss)), b1, some (.p 0), o3, some (.d (.str rs[r].site)), some (.d (.tup (rs[r].wants.map .int))), some (.d (.int (k : Nat))), o7] _).bind _ = _
    rw [e, Option.bind_some, stepK_nx, e2]
    have : (List.range m).drop k = k :: (List.range m).drop (k + 1) := by
      rw [List.drop_eq_getElem_cons (by simpa using hk), List.getElem_range]
    rw [this, List.map_cons, List.append_assoc]
    rfl
end Lw
namespace Lw
open PySem PySem.Spec PyProof.Rows L2 DL
theorem range_drop {n k : Nat} (h : k < n) : (List.range n).drop k = k :: (List.range n).drop (k + 1) := by
  rw [List.drop_eq_getElem_cons (by simpa using h), List.getElem_range]
theorem M2_loop {m : Nat} {ss : List Site} {rs : List Rgt} (g : Good m ss rs) {N : Nat → Nat} (hN : Sites ss rs N) {b1 o7 : Option C} : ∀ (d k : Nat) (o3 o4 o5 o6 : Option C) (acc : List D), k + d = rs.length → acc.length + 4 * d ≤ 90 →
    ∃ o3' o4' o5' o6', forL (.t [3, 4, 5]) M2 ((rs.map rgtD).drop k) [some (.d (basD m ss)), b1, some (.p 0), o3, o4, o5, o6, o7] [.lst (acc.map .d)] = some (.nx [some (.d (basD m ss)), b1, some (.p 0), o3', o4', o5', o6', o7] [.lst ((acc ++ ((List.range rs.length).drop k).flatMap fun r => (List.range m).map fun j => rowD m ss rs N (.inl (r, j))).map .d)])
  | 0, k, o3, o4, o5, o6, acc, h, _ => by
    rw [List.drop_of_length_le (by rw [List.length_map]; omega), List.drop_of_length_le (by simp; omega)]
    exact ⟨o3, o4, o5, o6, by simp [forL_nil]⟩
  | d + 1, k, o3, o4, o5, o6, acc, h, ha => by
    have hk : k < rs.length := by omega
    have m4 := g.m4
    have l1 : m < 1000000 := by omega
    obtain ⟨o6', e⟩ := M1_loop g hN hk (b1 := b1) (o3 := some (.d (.str rs[k].name))) (o7 := o7) m 0 o6 acc (by omega) (by omega)
    rw [List.drop_zero, List.drop_zero] at e
    have e2 : M2 [some (.d (basD m ss)), b1, some (.p 0), some (.d (.str rs[k].name)), some (.d (.str rs[k].site)), some (.d (.tup (rs[k].wants.map .int))), o6, o7] [.lst (acc.map .d)] = some (.nx [some (.d (basD m ss)), b1, some (.p 0), some (.d (.str rs[k].name)), some (.d (.str rs[k].site)), some (.d (.tup (rs[k].wants.map .int))), o6', o7] [.lst ((acc ++ (List.range m).map fun j => rowD m ss rs N (.inl (k, j))).map .d)]) := by
      rw [← e]
      unfold M2
      simp [hb0, l1]
    obtain ⟨p3, p4, p5, p6, e3⟩ := M2_loop g hN (b1 := b1) (o7 := o7) d (k + 1) (some (.d (.str rs[k].name))) (some (.d (.str rs[k].site))) (some (.d (.tup (rs[k].wants.map .int)))) o6' (acc ++ (List.range m).map fun j => rowD m ss rs N (.inl (k, j))) (by omega) (by rw [List.length_append, List.length_map, List.length_range]; omega)
    refine ⟨p3, p4, p5, p6, ?_⟩
    rw [List.drop_eq_getElem_cons (by rw [List.length_map]; exact hk), List.getElem_map, forL_cons]
    show (M2 [some (.d (basD m ss)), b1, some (.p 0), some (.d (.str rs[k].name)), some (.d (.str rs[k].site)), some (.d (.tup (rs[k].wants.map .int))), o6, o7] _).bind _ = _
    rw [e2, Option.bind_some, stepK_nx, e3, range_drop hk, List.flatMap_cons, List.append_assoc]
theorem M3_loop {m : Nat} {ss : List Site} {rs : List Rgt} (g : Good m ss rs) {N : Nat → Nat} {b1 o3 o4 o5 o6 : Option C} : ∀ (d k : Nat) (o7 : Option C) (acc : List D), k + d = ss.length → acc.length + d ≤ 100 →
    ∃ o7', forL (.n 7) M3 ((rngD 0 ss.length).drop k) [some (.d (basD m ss)), b1, some (.p 0), o3, o4, o5, o6, o7] [.lst (acc.map .d)] = some (.nx [some (.d (basD m ss)), b1, some (.p 0), o3, o4, o5, o6, o7'] [.lst ((acc ++ ((List.range ss.length).drop k).map fun s => rowD m ss rs N (.inr s)).map .d)])
  | 0, k, o7, acc, h, _ => by
    rw [List.drop_of_length_le (by simp [rngD]; omega), List.drop_of_length_le (by simp; omega)]
    exact ⟨o7, by simp [forL_nil]⟩
  | d + 1, k, o7, acc, h, ha => by
    have hk : k < ss.length := by omega
    have gs : ss[k]? = some ss[k] := List.getElem?_eq_getElem hk
    have hat : (ss.map siteD)[k]? = some (siteD ss[k]) := by
      rw [List.getElem?_map, gs]
      rfl
    have er : rowD m ss rs N (.inr k) = .lst [.tup [.int (k : Nat), .int ((m : Int) - 1)], .int ss[k].room] := by
      show D.lst [_, .int (roomAt ss k)] = _
      unfold roomAt
      rw [gs]
      rfl
    have hl : acc.length < 1000000 := by omega
    have e : M3 [some (.d (basD m ss)), b1, some (.p 0), o3, o4, o5, o6, some (.d (.int (k : Nat)))] [.lst (acc.map .d)] = some (.nx [some (.d (basD m ss)), b1, some (.p 0), o3, o4, o5, o6, some (.d (.int (k : Nat)))] [.lst ((acc ++ [rowD m ss rs N (.inr k)]).map .d)]) := by
      rw [er]
      unfold M3
      simp [hb0, hb1, hat, hs4, subD, hl, -List.getElem?_map]
    obtain ⟨o7', e2⟩ := M3_loop g (N := N) (b1 := b1) (o3 := o3) (o4 := o4) (o5 := o5) (o6 := o6) d (k + 1) (some (.d (.int (k : Nat)))) (acc ++ [rowD m ss rs N (.inr k)]) (by omega) (by rw [List.length_append]; show acc.length + 1 + d ≤ 100; omega)
    refine ⟨o7', ?_⟩
    rw [rng_drop hk, forL_cons]
    show (M3 [some (.d (basD m ss)), b1, some (.p 0), o3, o4, o5, o6, some (.d (.int (k : Nat)))] _).bind _ = _
    rw [e, Option.bind_some, stepK_nx, e2, range_drop hk, List.map_cons, List.append_assoc]
    rfl
theorem lw_claims_ok {m : Nat} {ss : List Site} {rs : List Rgt} (g : Good m ss rs) {N : Nat → Nat} (hN : Sites ss rs N) : phi_lw_claims [.d (basD m ss), .d (.tup (rs.map rgtD))] [] = some (.d (.lst ((cl rs.length m ss.length).map (rowD m ss rs N))), []) := by
  have m4 := g.m4
  have n4 := g.n1
  have r4 := g.r4
  have l3 : ss.length < 1000000 := by omega
  obtain ⟨o3, o4, o5, o6, e1⟩ := M2_loop g hN (b1 := some (.d (.tup (rs.map rgtD)))) (o7 := none) rs.length 0 none none none none [] (by omega) (by simp; omega)
  let A : List D := (List.range rs.length).flatMap fun r => (List.range m).map fun j => rowD m ss rs N (.inl (r, j))
  have hA : A.length = rs.length * m := by simp [A, List.length_flatMap, sum_const]
  have hA2 : A.length ≤ 16 := by
    rw [hA]
    exact Nat.mul_le_mul r4 m4.2
  obtain ⟨o7, e2⟩ := M3_loop g (rs := rs) (N := N) (b1 := some (.d (.tup (rs.map rgtD)))) (o3 := o3) (o4 := o4) (o5 := o5) (o6 := o6) ss.length 0 none A (by omega) (by omega)
  have hcl : (cl rs.length m ss.length).map (rowD m ss rs N) = A ++ (List.range ss.length).map fun s => rowD m ss rs N (.inr s) := by
    unfold cl
    rw [List.map_append, List.map_flatMap, List.map_map]
    congr 1
    show _ = (List.range rs.length).flatMap _
    congr 1
    funext r
    simp [clR]
  have hG : G_lw_claims [some (.d (basD m ss)), some (.d (.tup (rs.map rgtD))), none, none, none, none, none, none] [] = some (.rt (.p 0) [.lst (((cl rs.length m ss.length).map (rowD m ss rs N)).map .d)]) := by
    rw [G_lclaims_eq, hcl]
    simp only [List.drop_zero, List.map_nil, List.nil_append] at e1 e2
    have e1' : forL (.t [3, 4, 5]) M2 (rs.map rgtD) [some (.d (basD m ss)), some (.d (.tup (rs.map rgtD))), some (.p 0), none, none, none, none, none] [.lst []] = some (.nx [some (.d (basD m ss)), some (.d (.tup (rs.map rgtD))), some (.p 0), o3, o4, o5, o6, none] [.lst (A.map .d)]) := e1
    generalize A = B at *
    simp [e1', hb1, l3, e2]
  have hf : frz 4 (.p 0) [.lst (((cl rs.length m ss.length).map (rowD m ss rs N)).map .d)] = some (.lst ((cl rs.length m ss.length).map (rowD m ss rs N)), [.fro (.lst ((cl rs.length m ss.length).map (rowD m ss rs N)))]) := frz_lst rfl
  unfold phi_lw_claims
  rw [fnD_ev 8 2 G_lw_claims [.d (basD m ss), .d (.tup (rs.map rgtD))] rfl]
  show (G_lw_claims [some (.d (basD m ss)), some (.d (.tup (rs.map rgtD))), none, none, none, none, none, none] []).bind (retK 0) = _
  rw [hG, Option.bind_some, retK_rt, fin_p (Nat.le_refl 0), hf]
  simp
end Lw
namespace Lw
open PySem PySem.Spec PyProof.Rows L2 DL
theorem path_mem {ss : List Site} {i : Nat} {p : List Site} (h : Path ss i p) : ∀ x ∈ p, x ∈ ss := by
  induction h with
  | last h _ =>
    intro x hx
    simp at hx
    subst hx
    exact List.mem_of_getElem? h
  | step h _ _ _ _ ih =>
    intro x hx
    rcases List.mem_cons.mp hx with rfl | hx
    · exact List.mem_of_getElem? h
    · exact ih x hx
theorem shw_pairs : ∀ (p : List Site) (t : Int), (∀ x ∈ p, Own x) → 0 ≤ t → t + 2 * (p.length : Int) ≤ 99 → ∀ d ∈ pairs t p, Shw 1 300 d
  | [], _, _, _, _, d, h => by simp [pairs] at h
  | x :: p, t, o, h0, h9, d, h => by
    have ox := o x (by simp)
    rw [List.length_cons] at h9
    have h2 := ox.trav
    rw [pairs, List.mem_cons] at h
    rcases h with rfl | h
    · refine (shw_tup (n := 2) (b := 100) (d := 0) (fun y hy => ?_) (by simp)).mono (by decide) (by decide)
      simp only [List.mem_cons, List.not_mem_nil, or_false] at hy
      rcases hy with rfl | rfl
      · exact shw_str (nm_10 ox.name)
      · exact shw_int (by omega)
    · exact shw_pairs p _ (fun y hy => o y (by simp [hy])) (by omega) (by omega) d h
theorem shw_route {m : Nat} {ss : List Site} {rs : List Rgt} (g : Good m ss rs) {i : Nat} {p : List Site} (hp : Path ss i p) (hl : p.length ≤ 4) : Shw 2 2000 (.tup (pairs 0 p)) :=
  (shw_tup (n := 4) (b := 300) (d := 1) (shw_pairs p 0 (fun x hx => g.own x (path_mem hp x hx)) (by decide) (by omega)) (by rw [pairs_len]; exact hl)).mono (by decide) (by decide)
theorem upF_in {m : Nat} {ss : List Site} {rs : List Rgt} (g : Good m ss rs) (P : Nat → List Site) (y : PySem.Str) : ∀ (d k : Nat), (∀ z ∈ upF ss P y d k, Shw 0 100 z) ∧ (upF ss P y d k).length ≤ d
  | 0, k => ⟨fun z h => by simp [upF] at h, Nat.le_refl 0⟩
  | d + 1, k => by
    obtain ⟨h1, h2⟩ := upF_in g P y d (k + 1)
    refine ⟨fun z h => ?_, ?_⟩
    · rw [upF, List.mem_append] at h
      rcases h with h | h
      · split at h
        · simp at h
          subst h
          unfold nameAt
          cases e : ss[k]? with
          | none => exact shw_non
          | some x => exact shw_str (nm_10 (g.own x (List.mem_of_getElem? e)).name)
        · simp at h
      · exact h1 z h
    · rw [upF, List.length_append]
      split <;> simp <;> omega
theorem shw_up {m : Nat} {ss : List Site} {rs : List Rgt} (g : Good m ss rs) (P : Nat → List Site) (y : PySem.Str) : Shw 2 2000 (.tup (upF ss P y ss.length 0)) :=
  (shw_tup (n := 4) (b := 100) (d := 0) (upF_in g P y ss.length 0).1 (Nat.le_trans (upF_in g P y ss.length 0).2 g.n1.2)).mono (by decide) (by decide)
theorem shw_cell {m : Nat} {ss : List Site} {rs : List Rgt} (g : Good m ss rs) {N : Nat → Nat} (hN : Sites ss rs N) {c : Cl} (v : Val m ss rs c) : Shw 2 2000 (cellD m N c) := by
  have m4 := g.m4
  have n4 := g.n1
  rcases c with ⟨r, j⟩ | s
  · obtain ⟨y, h1, _⟩ := hN r _ (List.getElem?_eq_getElem v.1)
    have hn : N r < ss.length := by
      rcases Nat.lt_or_ge (N r) ss.length with q | q
      · exact q
      · rw [List.getElem?_eq_none q] at h1
        cases h1
    have hj := v.2
    refine (shw_tup (n := 2) (b := 100) (d := 0) (fun y hy => ?_) (by simp)).mono (by decide) (by decide)
    simp only [List.mem_cons, List.not_mem_nil, or_false] at hy
    rcases hy with rfl | rfl
    · exact shw_int (by omega)
    · exact shw_int (by omega)
  · have hs : s < ss.length := v
    refine (shw_tup (n := 2) (b := 100) (d := 0) (fun y hy => ?_) (by simp)).mono (by decide) (by decide)
    simp only [List.mem_cons, List.not_mem_nil, or_false] at hy
    rcases hy with rfl | rfl
    · exact shw_int (by omega)
    · exact shw_int (by omega)
theorem shw_told {m : Nat} {ss : List Site} {rs : List Rgt} (g : Good m ss rs) {c : Cl} (v : Val m ss rs c) : Shw 1 400 (toldD c) := by
  have m4 := g.m4
  have n4 := g.n1
  have r4 := g.r4
  have w1 : Str.ofString "right" ∈ strs10 := by decide +kernel
  have w2 : Str.ofString "room" ∈ strs10 := by decide +kernel
  rcases c with ⟨r, j⟩ | s
  · have hr := v.1
    have hj := v.2
    refine (shw_tup (n := 3) (b := 100) (d := 0) (fun y hy => ?_) (by simp)).mono (by decide) (by decide)
    simp only [List.mem_cons, List.not_mem_nil, or_false] at hy
    rcases hy with rfl | rfl | rfl
    · exact shw_str w1
    · exact shw_int (by omega)
    · exact shw_int (by omega)
  · have hs : s < ss.length := v
    refine (shw_tup (n := 3) (b := 100) (d := 0) (fun y hy => ?_) (by simp)).mono (by decide) (by decide)
    simp only [List.mem_cons, List.not_mem_nil, or_false] at hy
    rcases hy with rfl | rfl
    · exact shw_str w2
    · exact shw_int (by omega)
theorem cl_val {m : Nat} {ss : List Site} {rs : List Rgt} : ∀ c ∈ cl rs.length m ss.length, Val m ss rs c := fun c h => by
  unfold cl at h
  rcases List.mem_append.mp h with h | h
  · rw [List.mem_flatMap] at h
    obtain ⟨r, hr, h⟩ := h
    unfold clR at h
    rw [List.mem_map] at h
    obtain ⟨j, hj, rfl⟩ := h
    exact ⟨by simpa using hr, by simpa using hj⟩
  · rw [List.mem_map] at h
    obtain ⟨s, hs, rfl⟩ := h
    exact (by simpa using hs : s < ss.length)
theorem cl_len {m : Nat} {ss : List Site} {rs : List Rgt} (g : Good m ss rs) : (cl rs.length m ss.length).length ≤ 20 := by
  unfold cl
  rw [List.length_append, List.length_map, List.length_range]
  have : ((List.range rs.length).flatMap (clR m)).length = rs.length * m := by simp [clR, List.length_flatMap, sum_const]
  rw [this]
  have := g.n1.2
  have : rs.length * m ≤ 4 * 4 := Nat.mul_le_mul g.r4 g.m4.2
  omega
theorem shw_claims {m : Nat} {ss : List Site} {rs : List Rgt} (g : Good m ss rs) : Shw 2 20000 (.tup ((cl rs.length m ss.length).map toldD)) :=
  (shw_tup (n := 20) (b := 400) (d := 1) (fun y hy => by
    obtain ⟨c, hc, rfl⟩ := List.mem_map.mp hy
    exact shw_told g (cl_val c hc)) (by rw [List.length_map]; exact cl_len g)).mono (by decide) (by decide)
/-! ### the law's loops -/
def V1 : GS := sSeq (sPutD (eV 5) (eOp ixD (eV 6) (eK (.int 0))) (eCall phi_lw_route (aC (eV 2) (aC (eOp ixD (eV 6) (eK (.int 0))) aN))))
    (sIf (gOr (gNot (DL.tB (eCall phi_lw_same (aC (eCall phi_route (aC (eV 2) (aC (eOp ixD (eV 6) (eK (.int 0))) aN))) (aC (eGetD (eV 5) (eOp ixD (eV 6) (eK (.int 0)))) aN))))) (DL.tB (eOp (eqD true) (eCall phi_site_number (aC (eV 2) (aC (eOp ixD (eV 6) (eK (.int 0))) aN))) (eCall phi_lw_number (aC (eV 2) (aC (eOp ixD (eV 6) (eK (.int 0))) aN)))))) (sRt (eK (.bl false))) sNx)
theorem V1_loop {m : Nat} {ss : List Site} {rs : List Rgt} (g : Good m ss rs) {P : Nat → List Site} (hP : Paths ss P) {c0 c1 c3 c4 : Option C} {bx : SO} : ∀ (d k : Nat) (o6 : Option C), k + d = ss.length →
    ∃ o6', forL (.n 6) V1 ((ss.map siteD).drop k) [c0, c1, some (.d (basD m ss)), c3, c4, some (.p 1), o6, none, none, none, none, none, none, none, none, none] [bx, .dct (rt ss P k)] = some (.nx [c0, c1, some (.d (basD m ss)), c3, c4, some (.p 1), o6', none, none, none, none, none, none, none, none, none] [bx, .dct (rt ss P ss.length)])
  | 0, k, o6, h => by
    rw [List.drop_of_length_le (by rw [List.length_map]; omega), show k = ss.length by omega]
    exact ⟨o6, forL_nil _ _⟩
  | d + 1, k, o6, h => by
    have hk : k < ss.length := by omega
    have gk : ss[k]? = some ss[k] := List.getElem?_eq_getElem hk
    have r1 := route_ok g gk (hP k hk).1 (hP k hk).2
    have r2 := lw_route_ok g gk (hP k hk).1 (hP k hk).2
    have n1 := site_number_ok g gk
    have n2 := lw_number_ok g gk
    have sm := same_ok (shw_route g (hP k hk).1 (hP k hk).2) (by decide) (by decide)
    have pt := rt_put g (P := P) gk
    have gt := rt_get g (P := P) gk (k + 1)
    rw [if_pos (Nat.lt_succ_self k)] at gt
    have hl : (rt ss P k).length < 1000000 := by have := rt_len ss P k; have := g.n1.2; omega
    have e : V1 [c0, c1, some (.d (basD m ss)), c3, c4, some (.p 1), some (.d (siteD ss[k])), none, none, none, none, none, none, none, none, none] [bx, .dct (rt ss P k)] = some (.nx [c0, c1, some (.d (basD m ss)), c3, c4, some (.p 1), some (.d (siteD ss[k])), none, none, none, none, none, none, none, none, none] [bx, .dct (rt ss P (k + 1))]) := by
      unfold V1
      simp [ix_name, r1, r2, n1, n2, sm, pt, gt, hl]
    obtain ⟨o6', e2⟩ := V1_loop g hP (c0 := c0) (c1 := c1) (c3 := c3) (c4 := c4) (bx := bx) d (k + 1) (some (.d (siteD ss[k]))) (by omega)
    refine ⟨o6', ?_⟩
    rw [List.drop_eq_getElem_cons (by rw [List.length_map]; exact hk), List.getElem_map, forL_cons]
    show (V1 [c0, c1, some (.d (basD m ss)), c3, c4, some (.p 1), some (.d (siteD ss[k])), none, none, none, none, none, none, none, none, none] _).bind _ = _
    rw [e, Option.bind_some, stepK_nx, e2]
end Lw
namespace Lw
open PySem PySem.Spec PyProof.Rows L2 DL
def V2t : GT := DL.tB (eOp (inD false) (eOp ixD (eV 6) (eK (.int 0))) (eLc [9] (.n 9) (iV (eGetD (eV 5) (eOp ixD (eV 8) (eK (.int 0))))) gYes (eOp ixD (eV 9) (eK (.int 0)))))
def V2 : GS := sSeq (sSet 7 (eCB tupleD (aC (eLc [8] (.n 8) (iV (eOp ixD (eV 2) (eK (.int 1)))) V2t (eOp ixD (eV 8) (eK (.int 0)))) aN)))
    (sIf (gNot (DL.tB (eCall phi_lw_same (aC (eCall phi_upstream (aC (eV 2) (aC (eOp ixD (eV 6) (eK (.int 0))) aN))) (aC (eV 7) aN))))) (sRt (eK (.bl false))) sNx)
theorem V2_lc {m : Nat} {ss : List Site} {rs : List Rgt} (g : Good m ss rs) {P : Nat → List Site} (hP : Paths ss P) {c0 c1 c3 c4 o7 : Option C} {bx : SO} (x : Site) : ∀ (d k : Nat) (acc : List D), k + d = ss.length → acc.length ≤ k →
    lcL (.n 8) V2t (eOp ixD (eV 8) (eK (.int 0))) [c0, c1, some (.d (basD m ss)), c3, c4, some (.p 1), some (.d (siteD x)), o7, none, none, none, none, none, none, none, none] ((ss.map siteD).drop k) [bx, .dct (rt ss P ss.length)] acc = some (acc ++ upF ss P x.name d k, [bx, .dct (rt ss P ss.length)])
  | 0, k, acc, h, _ => by
    rw [List.drop_of_length_le (by rw [List.length_map]; omega), lcL_nil, upF, List.append_nil]
  | d + 1, k, acc, h, ha => by
    have hk : k < ss.length := by omega
    have gk : ss[k]? = some ss[k] := List.getElem?_eq_getElem hk
    have gt := rt_get g (P := P) gk ss.length
    rw [if_pos hk] at gt
    have l4 := g.n1.2
    have lc : ∀ (ρ : DL.Env) (st : Sto), ρ.length = 16 → lcL (.n 9) gYes (eOp ixD (eV 9) (eK (.int 0))) ρ (pairs 0 (P k)) st [] = some ((P k).map fun a => .str a.name, st) := fun ρ st hk2 => by
      have := lcL_map (ρ := ρ) (st := st) (.n 9) (eOp ixD (eV 9) (eK (.int 0))) fstD (fun d => ∃ (n : PySem.Str) (i : Int), d = .tup [.str n, .int i]) (fun x hx => by
        obtain ⟨n, i, rfl⟩ := hx
        refine ⟨_, .d (.str n), rfl, ?_, rfl⟩
        simp [hk2]) (pairs 0 (P k)) [] (pairs_mem _ _) (by have := (hP k hk).2; rw [pairs_len]; simp; omega)
      rw [this, pairs_fst]
      rfl
    have ps := pick_sel P x.name k _ rfl
    have na : nameAt ss k = .str ss[k].name := by
      unfold nameAt
      rw [gk]
    have hl : acc.length < 1000000 := by omega
    have ih := V2_lc g hP (c0 := c0) (c1 := c1) (c3 := c3) (c4 := c4) (o7 := o7) (bx := bx) x d (k + 1) (acc ++ (if sel P x.name k = true then [nameAt ss k] else [])) (by omega) (by rw [List.length_append]; split <;> simp <;> omega)
    have e : V2t [c0, c1, some (.d (basD m ss)), c3, c4, some (.p 1), some (.d (siteD x)), o7, some (.d (siteD ss[k])), none, none, none, none, none, none, none] [bx, .dct (rt ss P ss.length)] = some (sel P x.name k, [bx, .dct (rt ss P ss.length)]) := by
      unfold V2t
      simp [ix_name, gt, lc, ps]
    rw [List.drop_eq_getElem_cons (by rw [List.length_map]; exact hk), List.getElem_map, lcL_cons, bind_n, Option.bind_some]
    show (V2t [c0, c1, some (.d (basD m ss)), c3, c4, some (.p 1), some (.d (siteD x)), o7, some (.d (siteD ss[k])), none, none, none, none, none, none, none] _).bind _ = _
    rw [e, Option.bind_some, upF]
    cases hs : sel P x.name k with
    | true =>
      rw [hs, if_pos rfl] at ih
      rw [if_pos rfl, if_pos rfl, ← List.append_assoc, ← ih, na]
      simp [ix_name, hl]
    | false =>
      rw [hs, if_neg Bool.false_ne_true, List.append_nil] at ih
      rw [if_neg Bool.false_ne_true, if_neg Bool.false_ne_true, List.nil_append]
      exact ih
theorem V2_loop {m : Nat} {ss : List Site} {rs : List Rgt} (g : Good m ss rs) {P : Nat → List Site} (hP : Paths ss P) {c0 c1 c3 c4 : Option C} {bx : SO} : ∀ (d k : Nat) (o6 o7 : Option C), k + d = ss.length →
    ∃ o6' o7', forL (.n 6) V2 ((ss.map siteD).drop k) [c0, c1, some (.d (basD m ss)), c3, c4, some (.p 1), o6, o7, none, none, none, none, none, none, none, none] [bx, .dct (rt ss P ss.length)] = some (.nx [c0, c1, some (.d (basD m ss)), c3, c4, some (.p 1), o6', o7', none, none, none, none, none, none, none, none] [bx, .dct (rt ss P ss.length)])
  | 0, k, o6, o7, h => by
    rw [List.drop_of_length_le (by rw [List.length_map]; omega)]
    exact ⟨o6, o7, forL_nil _ _⟩
  | d + 1, k, o6, o7, h => by
    have hk : k < ss.length := by omega
    have lc := V2_lc g hP (c0 := c0) (c1 := c1) (c3 := c3) (c4 := c4) (o7 := o7) (bx := bx) ss[k] ss.length 0 [] (by omega) (Nat.le_refl 0)
    rw [List.drop_zero, List.nil_append] at lc
    have up := upstream_ok g hP ss[k].name
    have sm := same_ok (shw_up g P ss[k].name) (by decide) (by decide)
    generalize upF ss P ss[k].name ss.length 0 = U at *
    have e : V2 [c0, c1, some (.d (basD m ss)), c3, c4, some (.p 1), some (.d (siteD ss[k])), o7, none, none, none, none, none, none, none, none] [bx, .dct (rt ss P ss.length)] = some (.nx [c0, c1, some (.d (basD m ss)), c3, c4, some (.p 1), some (.d (siteD ss[k])), some (.d (.tup U)), none, none, none, none, none, none, none, none] [bx, .dct (rt ss P ss.length)]) := by
      unfold V2
      simp [hb1, lc, ix_name, up, sm]
    obtain ⟨o6', o7', e2⟩ := V2_loop g hP (c0 := c0) (c1 := c1) (c3 := c3) (c4 := c4) (bx := bx) d (k + 1) (some (.d (siteD ss[k]))) (some (.d (.tup U))) (by omega)
    refine ⟨o6', o7', ?_⟩
    rw [List.drop_eq_getElem_cons (by rw [List.length_map]; exact hk), List.getElem_map, forL_cons]
    show (V2 [c0, c1, some (.d (basD m ss)), c3, c4, some (.p 1), some (.d (siteD ss[k])), o7, none, none, none, none, none, none, none, none] _).bind _ = _
    rw [e, Option.bind_some, stepK_nx, e2]
def V3 : GS := sSet 7 (eOp addD (eV 7) (eLc [12] (.n 12) (iR1 (aC (eOp ixD (eV 2) (eK (.int 0))) aN)) gYes (eTup (aC (eK (.str "right")) (aC (eCB DL.intD (aC (eV 11) aN)) (aC (eCB DL.intD (aC (eV 12) aN)) aN))))))
theorem V3_loop {m : Nat} {ss : List Site} {rs : List Rgt} (g : Good m ss rs) {c0 c1 c3 c4 c6 c10 : Option C} {st : Sto} : ∀ (d k : Nat) (o11 : Option C) (acc : List D), k + d = rs.length → acc.length ≤ 4 * k →
    ∃ o11', forL (.n 11) V3 ((rngD 0 rs.length).drop k) [c0, c1, some (.d (basD m ss)), c3, c4, some (.p 1), c6, some (.d (.lst acc)), none, none, c10, o11, none, none, none, none] st = some (.nx [c0, c1, some (.d (basD m ss)), c3, c4, some (.p 1), c6, some (.d (.lst (acc ++ (((List.range rs.length).drop k).flatMap (clR m)).map toldD))), none, none, c10, o11', none, none, none, none] st)
  | 0, k, o11, acc, h, _ => by
    rw [List.drop_of_length_le (by simp [rngD]; omega), List.drop_of_length_le (by simp; omega)]
    exact ⟨o11, by simp [forL_nil]⟩
  | d + 1, k, o11, acc, h, ha => by
    have hk : k < rs.length := by omega
    have m4 := g.m4
    have r4 := g.r4
    have l1 : m < 1000000 := by omega
    have lc : lcL (.n 12) gYes (eTup (aC (eK (.str "right")) (aC (eCB DL.intD (aC (eV 11) aN)) (aC (eCB DL.intD (aC (eV 12) aN)) aN)))) [c0, c1, some (.d (basD m ss)), c3, c4, some (.p 1), c6, some (.d (.lst acc)), none, none, c10, some (.d (.int (k : Nat))), none, none, none, none] (rngD 0 m) st [] = some ((clR m k).map toldD, st) := by
      rw [rng_map]
      have := lcL_mp (ρ := [c0, c1, some (.d (basD m ss)), c3, c4, some (.p 1), c6, some (.d (.lst acc)), none, none, c10, some (.d (.int (k : Nat))), none, none, none, none]) (st := st) (.n 12) (eTup (aC (eK (.str "right")) (aC (eCB DL.intD (aC (eV 11) aN)) (aC (eCB DL.intD (aC (eV 12) aN)) aN)))) (fun j : Nat => D.int (j : Nat)) (fun j : Nat => toldD (.inl (k, j))) (List.range m) [] (fun j hj => ⟨_, .d (toldD (.inl (k, j))), rfl, by simp [toldD], rfl⟩) (by simp; omega)
      rw [this]
      simp [clR]
    have hl2 : acc.length + ((clR m k).map toldD).length ≤ 1000000 := by simp [clR]; omega
    have e : V3 [c0, c1, some (.d (basD m ss)), c3, c4, some (.p 1), c6, some (.d (.lst acc)), none, none, c10, some (.d (.int (k : Nat))), none, none, none, none] st = some (.nx [c0, c1, some (.d (basD m ss)), c3, c4, some (.p 1), c6, some (.d (.lst (acc ++ (clR m k).map toldD))), none, none, c10, some (.d (.int (k : Nat))), none, none, none, none] st) := by
      generalize hA : (clR m k).map toldD = A at *
      unfold V3
      simp [hb0, l1, lc, hl2]
    obtain ⟨o11', e2⟩ := V3_loop g (c0 := c0) (c1 := c1) (c3 := c3) (c4 := c4) (c6 := c6) (c10 := c10) (st := st) d (k + 1) (some (.d (.int (k : Nat)))) (acc ++ (clR m k).map toldD) (by omega) (by rw [List.length_append]; simp [clR]; omega)
    refine ⟨o11', ?_⟩
    rw [rng_drop hk, forL_cons]
    show (V3 [c0, c1, some (.d (basD m ss)), c3, c4, some (.p 1), c6, some (.d (.lst acc)), none, none, c10, some (.d (.int (k : Nat))), none, none, none, none] st).bind _ = _
    rw [e, Option.bind_some, stepK_nx, e2, range_drop hk, List.flatMap_cons, List.map_append, List.append_assoc]
def V4 : GS := sIf (gOr (gNot (DL.tB (eCall phi_lw_same (aC (eCall phi_claim_cell (aC (eV 2) (aC (eV 3) (aC (eOp ixD (eV 10) (eV 15)) aN)))) (aC (eOp ixD (eOp ixD (eV 14) (eV 15)) (eK (.int 0))) aN))))) (DL.tB (eOp (eqD true) (eCall phi_claim_size (aC (eV 2) (aC (eV 3) (aC (eOp ixD (eV 10) (eV 15)) aN)))) (eOp ixD (eOp ixD (eV 14) (eV 15)) (eK (.int 1)))))) (sRt (eK (.bl false))) sNx
theorem V4_loop {m : Nat} {ss : List Site} {rs : List Rgt} (g : Good m ss rs) {N : Nat → Nat} (hN : Sites ss rs N) {c0 c1 c4 c6 c7 c11 : Option C} {st : Sto} : ∀ (d k : Nat) (o15 : Option C), k + d = (cl rs.length m ss.length).length →
    ∃ o15', forL (.n 15) V4 ((rngD 0 (cl rs.length m ss.length).length).drop k) [c0, c1, some (.d (basD m ss)), some (.d (.tup (rs.map rgtD))), c4, some (.p 1), c6, c7, none, none, some (.d (.tup ((cl rs.length m ss.length).map toldD))), c11, none, none, some (.d (.lst ((cl rs.length m ss.length).map (rowD m ss rs N)))), o15] st
      = some (.nx [c0, c1, some (.d (basD m ss)), some (.d (.tup (rs.map rgtD))), c4, some (.p 1), c6, c7, none, none, some (.d (.tup ((cl rs.length m ss.length).map toldD))), c11, none, none, some (.d (.lst ((cl rs.length m ss.length).map (rowD m ss rs N)))), o15'] st)
  | 0, k, o15, h => by
    rw [List.drop_of_length_le (by simp [rngD]; omega)]
    exact ⟨o15, forL_nil _ _⟩
  | d + 1, k, o15, h => by
    have hk : k < (cl rs.length m ss.length).length := by omega
    have v := cl_val (m := m) (ss := ss) (rs := rs) _ (List.getElem_mem hk)
    have cc := cell_claim g hN v
    have cs := size_claim g v
    have sm := same_ok (shw_cell g hN v) (by decide) (by decide)
    have h1 : ((cl rs.length m ss.length).map toldD)[k]? = some (toldD (cl rs.length m ss.length)[k]) := by
      rw [List.getElem?_map, List.getElem?_eq_getElem hk]
      rfl
    have h2 : ((cl rs.length m ss.length).map (rowD m ss rs N))[k]? = some (.lst [cellD m N (cl rs.length m ss.length)[k], .int (sizeI ss rs (cl rs.length m ss.length)[k])]) := by
      rw [List.getElem?_map, List.getElem?_eq_getElem hk]
      rfl
    obtain ⟨o15', e2⟩ := V4_loop g hN (c0 := c0) (c1 := c1) (c4 := c4) (c6 := c6) (c7 := c7) (c11 := c11) (st := st) d (k + 1) (some (.d (.int (k : Nat)))) (by omega)
    refine ⟨o15', ?_⟩
    rw [rng_drop hk, forL_cons, ← e2]
    generalize (cl rs.length m ss.length)[k] = c at *
    generalize (cl rs.length m ss.length).map toldD = T at *
    generalize (cl rs.length m ss.length).map (rowD m ss rs N) = R at *
    have e : V4 [c0, c1, some (.d (basD m ss)), some (.d (.tup (rs.map rgtD))), c4, some (.p 1), c6, c7, none, none, some (.d (.tup T)), c11, none, none, some (.d (.lst R)), some (.d (.int (k : Nat)))] st = some (.nx [c0, c1, some (.d (basD m ss)), some (.d (.tup (rs.map rgtD))), c4, some (.p 1), c6, c7, none, none, some (.d (.tup T)), c11, none, none, some (.d (.lst R)), some (.d (.int (k : Nat)))] st) := by
      unfold V4
      simp [h1, h2, cc, cs, sm]
    show (V4 [c0, c1, some (.d (basD m ss)), some (.d (.tup (rs.map rgtD))), c4, some (.p 1), c6, c7, none, none, some (.d (.tup T)), c11, none, none, some (.d (.lst R)), some (.d (.int (k : Nat)))] st).bind _ = _
    rw [e, Option.bind_some, stepK_nx]
end Lw
namespace Lw
open PySem PySem.Spec PyProof.Rows L2 DL
def Y1 : GS := sNew 1 (eLst (aC (eCall phi_lw_digits (aC (eV 0) (aC (eK (.int 0)) (aC (eK (.int 50)) aN)))) (aC (eK (.int 0)) aN)))
def Y2 : GS := sSet 2 (eCall phi_lw_basin (aC (eV 1) aN))
def Y3 : GS := sSet 3 (eCall phi_lw_rights (aC (eV 1) (aC (eV 2) aN)))
def Y4 : GS := sSet 4 (eCall phi_lw_text (aC (eV 2) (aC (eV 3) aN)))
def Y5 : GS := sIf (gOr (DL.tB (eOp (eqD true) (eCall phi_basin_text (aC (eV 2) (aC (eV 3) aN))) (eV 4))) (gNot (DL.tB (eCall phi_lw_same (aC (eCall phi_parse_basin (aC (eV 4) aN)) (aC (eTup (aC (eV 2) (aC (eV 3) aN))) aN)))))) (sRt (eK (.bl false))) sNx
def Y7 : GS := sSet 10 (eCall phi_claims (aC (eV 2) (aC (eV 3) aN)))
def Y8 : GS := sSet 7 (eOp addD (eV 7) (eLc [13] (.n 13) (iR1 (aC (eCB lenD (aC (eOp ixD (eV 2) (eK (.int 1))) aN)) aN)) gYes (eTup (aC (eK (.str "room")) (aC (eCB DL.intD (aC (eV 13) aN)) aN)))))
def Y9 : GS := sIf (gOr (gNot (DL.tB (eCall phi_lw_same (aC (eV 10) (aC (eCB tupleD (aC (eV 7) aN)) aN))))) (DL.tB (eOp (isND true) (eCall phi_site_number (aC (eV 2) (aC (eK (.str "nix")) aN))) (eK .non)))) (sRt (eK (.bl false))) sNx
def Y10 : GS := sSet 14 (eCall phi_lw_claims (aC (eV 2) (aC (eV 3) aN)))
theorem G_law_eq : G_law = (sSeq Y1 (sSeq Y2 (sSeq Y3 (sSeq Y4 (sSeq Y5 (sSeq (sNewD 5) (sSeq (sFor (.n 6) (iV (eOp ixD (eV 2) (eK (.int 1)))) V1) (sSeq (sFor (.n 6) (iV (eOp ixD (eV 2) (eK (.int 1)))) V2) (sSeq Y7 (sSeq (sSet 7 (eLst aN)) (sSeq (sFor (.n 11) (iR1 (aC (eCB lenD (aC (eV 3) aN)) aN)) V3) (sSeq Y8 (sSeq Y9 (sSeq Y10 (sSeq (sFor (.n 15) (iR1 (aC (eCB lenD (aC (eV 10) aN)) aN)) V4) (sRt (eK (.bl true)))))))))))))))))) := rfl
theorem law_true (ns : List Int) : phi_law [.d (.wls (ns.map .int))] [] = some (.d (.bl true), []) := by
  obtain ⟨ds, hd⟩ := digits_ok ns
  obtain ⟨m, ss, n1, bOk, hb⟩ := basin_ok ds 0
  obtain ⟨rs, n2, rOk, hr⟩ := rights_ok ds n1 bOk.mo.2 (ss := ss) (by have := bOk.nu.1; omega)
  have g := good_of bOk rOk
  obtain ⟨P, hP⟩ := paths_ex g
  obtain ⟨N, hN⟩ := sites_ex g
  have n4 := g.n1
  have r4 := g.r4
  have tx := lw_text_ok (m := m) g.own g.ownR n4.2 r4
  have bt := basin_text_ok (m := m) g.own g.ownR n4.2 r4
  have pk := parse_ok g
  have smB := same_ok (shw_basin g) (by decide) (by decide)
  have ck := claims_ok g
  have smC := same_ok (shw_claims g) (by decide) (by decide)
  have lk := lw_claims_ok g hN
  have nix : phi_site_number [.d (basD m ss), .d (.str (Str.ofString "nix"))] [] = some (.d .non, []) := site_number_no fun a ha => by
    have h : ∀ y ∈ names4, (y == Str.ofString "nix") = false := by decide +kernel
    rw [eq_ss, h _ (g.own a ha).name]
  have hbox : ∀ n, SO.lst [.d (.lst (ds.map .int)), .d (.int ((n : Nat) : Int))] = box ds n := fun _ => rfl
  let sc : Option C := some (.d (.wls (ns.map .int)))
  let bs : Option C := some (.d (basD m ss))
  let rg : Option C := some (.d (.tup (rs.map rgtD)))
  let tt : Option C := some (.d (.str (text ss rs)))
  have s1 : Y1 [sc, none, none, none, none, none, none, none, none, none, none, none, none, none, none, none] [] = some (.nx [sc, some (.p 0), none, none, none, none, none, none, none, none, none, none, none, none, none, none] [box ds 0]) := by
    rw [← hbox 0]
    unfold Y1
    simp [sc, hd]
  have s2 : Y2 [sc, some (.p 0), none, none, none, none, none, none, none, none, none, none, none, none, none, none] [box ds 0] = some (.nx [sc, some (.p 0), bs, none, none, none, none, none, none, none, none, none, none, none, none, none] [box ds n1]) := by
    unfold Y2
    simp [bs, hb]
  have s3 : Y3 [sc, some (.p 0), bs, none, none, none, none, none, none, none, none, none, none, none, none, none] [box ds n1] = some (.nx [sc, some (.p 0), bs, rg, none, none, none, none, none, none, none, none, none, none, none, none] [box ds n2]) := by
    unfold Y3
    simp [bs, rg, hr]
  have s4 : Y4 [sc, some (.p 0), bs, rg, none, none, none, none, none, none, none, none, none, none, none, none] [box ds n2] = some (.nx [sc, some (.p 0), bs, rg, tt, none, none, none, none, none, none, none, none, none, none, none] [box ds n2]) := by
    unfold Y4
    simp [bs, rg, tt, tx]
  have s5 : Y5 [sc, some (.p 0), bs, rg, tt, none, none, none, none, none, none, none, none, none, none, none] [box ds n2] = some (.nx [sc, some (.p 0), bs, rg, tt, none, none, none, none, none, none, none, none, none, none, none] [box ds n2]) := by
    unfold Y5
    simp [bs, rg, tt, bt, pk, smB]
  obtain ⟨o6, v1⟩ := V1_loop g hP (c0 := sc) (c1 := some (.p 0)) (c3 := rg) (c4 := tt) (bx := box ds n2) ss.length 0 none (by omega)
  rw [List.drop_zero] at v1
  obtain ⟨p6, p7, v2⟩ := V2_loop g hP (c0 := sc) (c1 := some (.p 0)) (c3 := rg) (c4 := tt) (bx := box ds n2) ss.length 0 o6 none (by omega)
  rw [List.drop_zero] at v2
  let told : Option C := some (.d (.tup ((cl rs.length m ss.length).map toldD)))
  let rows : Option C := some (.d (.lst ((cl rs.length m ss.length).map (rowD m ss rs N))))
  let st : Sto := [box ds n2, .dct (rt ss P ss.length)]
  have s7 : Y7 [sc, some (.p 0), bs, rg, tt, some (.p 1), p6, p7, none, none, none, none, none, none, none, none] st = some (.nx [sc, some (.p 0), bs, rg, tt, some (.p 1), p6, p7, none, none, told, none, none, none, none, none] st) := by
    unfold Y7
    simp [bs, rg, told, ck]
  obtain ⟨q11, v3⟩ := V3_loop g (c0 := sc) (c1 := some (.p 0)) (c3 := rg) (c4 := tt) (c6 := p6) (c10 := told) (st := st) rs.length 0 none [] (by omega) (by simp)
  rw [List.drop_zero, List.drop_zero, List.nil_append] at v3
  have lc3 : ∀ (ρ : DL.Env), 13 < ρ.length → lcL (.n 13) gYes (eTup (aC (eK (.str "room")) (aC (eCB DL.intD (aC (eV 13) aN)) aN))) ρ (rngD 0 ss.length) st [] = some ((List.range ss.length).map (toldD ∘ .inr), st) := fun ρ hk => by
    rw [rng_map]
    have := lcL_mp (ρ := ρ) (st := st) (.n 13) (eTup (aC (eK (.str "room")) (aC (eCB DL.intD (aC (eV 13) aN)) aN))) (fun j : Nat => D.int (j : Nat)) (toldD ∘ .inr) (List.range ss.length) [] (fun j hj => ⟨_, .d (toldD (.inr j)), rfl, by simp [hk, toldD], rfl⟩) (by simp; omega)
    simpa using this
  have hcl : ((List.range rs.length).flatMap (clR m)).map toldD ++ (List.range ss.length).map (toldD ∘ .inr) = (cl rs.length m ss.length).map toldD := by
    unfold cl
    rw [List.map_append, List.map_map]
  have hlen : (((List.range rs.length).flatMap (clR m)).map toldD).length + ((List.range ss.length).map (toldD ∘ .inr)).length ≤ 1000000 := by
    have := congrArg List.length hcl
    rw [List.length_append] at this
    rw [this, List.length_map]
    have := cl_len g
    omega
  have l1 : ss.length < 1000000 := by omega
  have l2 : rs.length < 1000000 := by omega
  have l3 : (cl rs.length m ss.length).length < 1000000 := by have := cl_len g; omega
  have s8 : Y8 [sc, some (.p 0), bs, rg, tt, some (.p 1), p6, some (.d (.lst (((List.range rs.length).flatMap (clR m)).map toldD))), none, none, told, q11, none, none, none, none] st = some (.nx [sc, some (.p 0), bs, rg, tt, some (.p 1), p6, some (.d (.lst ((cl rs.length m ss.length).map toldD))), none, none, told, q11, none, none, none, none] st) := by
    rw [← hcl]
    generalize ((List.range rs.length).flatMap (clR m)).map toldD = A at *
    generalize (List.range ss.length).map (toldD ∘ .inr) = B at *
    unfold Y8
    simp [bs, hb1, l1, lc3, hlen]
  have s9 : Y9 [sc, some (.p 0), bs, rg, tt, some (.p 1), p6, some (.d (.lst ((cl rs.length m ss.length).map toldD))), none, none, told, q11, none, none, none, none] st = some (.nx [sc, some (.p 0), bs, rg, tt, some (.p 1), p6, some (.d (.lst ((cl rs.length m ss.length).map toldD))), none, none, told, q11, none, none, none, none] st) := by
    simp only [told]
    generalize (cl rs.length m ss.length).map toldD = A at *
    unfold Y9
    simp [bs, smC, nix]
  have s10 : Y10 [sc, some (.p 0), bs, rg, tt, some (.p 1), p6, some (.d (.lst ((cl rs.length m ss.length).map toldD))), none, none, told, q11, none, none, none, none] st = some (.nx [sc, some (.p 0), bs, rg, tt, some (.p 1), p6, some (.d (.lst ((cl rs.length m ss.length).map toldD))), none, none, told, q11, none, none, rows, none] st) := by
    unfold Y10
    simp [bs, rg, rows, lk]
  obtain ⟨q15, v4⟩ := V4_loop g hN (c0 := sc) (c1 := some (.p 0)) (c4 := tt) (c6 := p6) (c7 := some (.d (.lst ((cl rs.length m ss.length).map toldD)))) (c11 := q11) (st := st) (cl rs.length m ss.length).length 0 none (by omega)
  rw [List.drop_zero] at v4
  have f1 : ∀ (o6 o7 : Option C) (st2 : Sto), (sFor (.n 6) (iV (eOp ixD (eV 2) (eK (.int 1)))) V1) [sc, some (.p 0), bs, rg, tt, some (.p 1), o6, o7, none, none, none, none, none, none, none, none] st2 = forL (.n 6) V1 (ss.map siteD) [sc, some (.p 0), bs, rg, tt, some (.p 1), o6, o7, none, none, none, none, none, none, none, none] st2 := fun _ _ _ => by
    simp [bs, hb1]
  have f2 : ∀ (o6 o7 : Option C) (st2 : Sto), (sFor (.n 6) (iV (eOp ixD (eV 2) (eK (.int 1)))) V2) [sc, some (.p 0), bs, rg, tt, some (.p 1), o6, o7, none, none, none, none, none, none, none, none] st2 = forL (.n 6) V2 (ss.map siteD) [sc, some (.p 0), bs, rg, tt, some (.p 1), o6, o7, none, none, none, none, none, none, none, none] st2 := fun _ _ _ => by
    simp [bs, hb1]
  have f3 : (sFor (.n 11) (iR1 (aC (eCB lenD (aC (eV 3) aN)) aN)) V3) [sc, some (.p 0), bs, rg, tt, some (.p 1), p6, some (.d (.lst [])), none, none, told, none, none, none, none, none] st = forL (.n 11) V3 (rngD 0 rs.length) [sc, some (.p 0), bs, rg, tt, some (.p 1), p6, some (.d (.lst [])), none, none, told, none, none, none, none, none] st := by
    simp [rg, l2]
  have f4 : (sFor (.n 15) (iR1 (aC (eCB lenD (aC (eV 10) aN)) aN)) V4) [sc, some (.p 0), bs, rg, tt, some (.p 1), p6, some (.d (.lst ((cl rs.length m ss.length).map toldD))), none, none, told, q11, none, none, rows, none] st = forL (.n 15) V4 (rngD 0 (cl rs.length m ss.length).length) [sc, some (.p 0), bs, rg, tt, some (.p 1), p6, some (.d (.lst ((cl rs.length m ss.length).map toldD))), none, none, told, q11, none, none, rows, none] st := by
    simp [told, l3]
  have d5 : (sNewD 5) [sc, some (.p 0), bs, rg, tt, none, none, none, none, none, none, none, none, none, none, none] [box ds n2] = some (.nx [sc, some (.p 0), bs, rg, tt, some (.p 1), none, none, none, none, none, none, none, none, none, none] [box ds n2, .dct (rt ss P 0)]) := rfl
  have d7 : (sSet 7 (eLst aN)) [sc, some (.p 0), bs, rg, tt, some (.p 1), p6, p7, none, none, told, none, none, none, none, none] st = some (.nx [sc, some (.p 0), bs, rg, tt, some (.p 1), p6, some (.d (.lst [])), none, none, told, none, none, none, none, none] st) := by simp
  have hG : G_law [sc, none, none, none, none, none, none, none, none, none, none, none, none, none, none, none] [] = some (.rt (.d (.bl true)) st) := by
    rw [G_law_eq]
    rw [sSeq_ev, s1, Option.bind_some, seqK_nx, sSeq_ev, s2, Option.bind_some, seqK_nx, sSeq_ev, s3, Option.bind_some, seqK_nx, sSeq_ev, s4, Option.bind_some, seqK_nx, sSeq_ev, s5, Option.bind_some, seqK_nx, sSeq_ev, d5, Option.bind_some, seqK_nx]
    rw [sSeq_ev, f1, v1, Option.bind_some, seqK_nx, sSeq_ev, f2, v2, Option.bind_some, seqK_nx]
    rw [sSeq_ev, s7, Option.bind_some, seqK_nx, sSeq_ev, d7, Option.bind_some, seqK_nx, sSeq_ev, f3, v3, Option.bind_some, seqK_nx]
    rw [sSeq_ev, s8, Option.bind_some, seqK_nx, sSeq_ev, s9, Option.bind_some, seqK_nx, sSeq_ev, s10, Option.bind_some, seqK_nx, sSeq_ev, f4, v4, Option.bind_some, seqK_nx]
    rfl
  unfold phi_law
  rw [fnD_ev 16 1 G_law [.d (.wls (ns.map .int))] rfl]
  show (G_law [sc, none, none, none, none, none, none, none, none, none, none, none, none, none, none, none] []).bind (retK 0) = _
  rw [hG]
  rfl
end Lw
namespace Lw
open PySem PySem.Spec PyProof.Rows L2 DL
set_option maxHeartbeats 0 in
theorem all_mk {l : PySem.W.OpenLaw} {w : World} {K : PySem.W.Frag} {h : Heap} {mg : PySem.Str → Option Value} {fa f_lw_draw f_lw_amount f_lw_basin f_lw_pick f_lw_rights f_lw_text f_claims f_lw_number f_lw_claims f_lw_cell f_lw_digits f_lw_route f_site_line f_right_line f_basin_text f_lw_same f_site_number f_number f_number_within f_is_name f_read_piece f_read_told f_read_amounts f_read_site f_right_fault f_site_fault f_read_right f_add_line f_next_fault f_parse_basin f_route f_upstream f_claim_size f_claim_cell f_law : Addr} (X : K.In h) (G : h.Ns mainGlobals mg) (hfa : mg "law" = some (.ref fa))
    {od_lw_draw an_lw_draw : Option Addr} {sl_lw_draw : Array (Option Value)} {oc_lw_draw kV_lw_draw dc_lw_draw pm_lw_draw cd_lw_draw ct_lw_draw : Value}
    {od_lw_amount an_lw_amount : Option Addr} {sl_lw_amount : Array (Option Value)} {oc_lw_amount kV_lw_amount dc_lw_amount pm_lw_amount cd_lw_amount ct_lw_amount : Value}
    {od_lw_basin an_lw_basin : Option Addr} {sl_lw_basin : Array (Option Value)} {oc_lw_basin kV_lw_basin dc_lw_basin pm_lw_basin cd_lw_basin ct_lw_basin : Value}
    {od_lw_pick an_lw_pick : Option Addr} {sl_lw_pick : Array (Option Value)} {oc_lw_pick kV_lw_pick dc_lw_pick pm_lw_pick cd_lw_pick ct_lw_pick : Value}
    {od_lw_rights an_lw_rights : Option Addr} {sl_lw_rights : Array (Option Value)} {oc_lw_rights kV_lw_rights dc_lw_rights pm_lw_rights cd_lw_rights ct_lw_rights : Value}
    {od_lw_text an_lw_text : Option Addr} {sl_lw_text : Array (Option Value)} {oc_lw_text kV_lw_text dc_lw_text pm_lw_text cd_lw_text ct_lw_text : Value}
    {od_claims an_claims : Option Addr} {sl_claims : Array (Option Value)} {oc_claims kV_claims dc_claims pm_claims cd_claims ct_claims : Value}
    {od_lw_number an_lw_number : Option Addr} {sl_lw_number : Array (Option Value)} {oc_lw_number kV_lw_number dc_lw_number pm_lw_number cd_lw_number ct_lw_number : Value}
    {od_lw_claims an_lw_claims : Option Addr} {sl_lw_claims : Array (Option Value)} {oc_lw_claims kV_lw_claims dc_lw_claims pm_lw_claims cd_lw_claims ct_lw_claims : Value}
    {od_lw_cell an_lw_cell : Option Addr} {sl_lw_cell : Array (Option Value)} {oc_lw_cell kV_lw_cell dc_lw_cell pm_lw_cell cd_lw_cell ct_lw_cell : Value}
    {od_lw_digits an_lw_digits : Option Addr} {sl_lw_digits : Array (Option Value)} {oc_lw_digits kV_lw_digits dc_lw_digits pm_lw_digits cd_lw_digits ct_lw_digits : Value}
    {od_lw_route an_lw_route : Option Addr} {sl_lw_route : Array (Option Value)} {oc_lw_route kV_lw_route dc_lw_route pm_lw_route cd_lw_route ct_lw_route : Value}
    {od_site_line an_site_line : Option Addr} {sl_site_line : Array (Option Value)} {oc_site_line kV_site_line dc_site_line pm_site_line cd_site_line ct_site_line : Value}
    {od_right_line an_right_line : Option Addr} {sl_right_line : Array (Option Value)} {oc_right_line kV_right_line dc_right_line pm_right_line cd_right_line ct_right_line : Value}
    {od_basin_text an_basin_text : Option Addr} {sl_basin_text : Array (Option Value)} {oc_basin_text kV_basin_text dc_basin_text pm_basin_text cd_basin_text ct_basin_text : Value}
    {od_lw_same an_lw_same : Option Addr} {sl_lw_same : Array (Option Value)} {oc_lw_same kV_lw_same dc_lw_same pm_lw_same cd_lw_same ct_lw_same : Value}
    {od_site_number an_site_number : Option Addr} {sl_site_number : Array (Option Value)} {oc_site_number kV_site_number dc_site_number pm_site_number cd_site_number ct_site_number : Value}
    {od_number an_number : Option Addr} {sl_number : Array (Option Value)} {oc_number kV_number dc_number pm_number cd_number ct_number : Value}
    {od_number_within an_number_within : Option Addr} {sl_number_within : Array (Option Value)} {oc_number_within kV_number_within dc_number_within pm_number_within cd_number_within ct_number_within : Value}
    {od_is_name an_is_name : Option Addr} {sl_is_name : Array (Option Value)} {oc_is_name kV_is_name dc_is_name pm_is_name cd_is_name ct_is_name : Value}
    {od_read_piece an_read_piece : Option Addr} {sl_read_piece : Array (Option Value)} {oc_read_piece kV_read_piece dc_read_piece pm_read_piece cd_read_piece ct_read_piece : Value}
    {od_read_told an_read_told : Option Addr} {sl_read_told : Array (Option Value)} {oc_read_told kV_read_told dc_read_told pm_read_told cd_read_told ct_read_told : Value}
    {od_read_amounts an_read_amounts : Option Addr} {sl_read_amounts : Array (Option Value)} {oc_read_amounts kV_read_amounts dc_read_amounts pm_read_amounts cd_read_amounts ct_read_amounts : Value}
    {od_read_site an_read_site : Option Addr} {sl_read_site : Array (Option Value)} {oc_read_site kV_read_site dc_read_site pm_read_site cd_read_site ct_read_site : Value}
    {od_right_fault an_right_fault : Option Addr} {sl_right_fault : Array (Option Value)} {oc_right_fault kV_right_fault dc_right_fault pm_right_fault cd_right_fault ct_right_fault : Value}
    {od_site_fault an_site_fault : Option Addr} {sl_site_fault : Array (Option Value)} {oc_site_fault kV_site_fault dc_site_fault pm_site_fault cd_site_fault ct_site_fault : Value}
    {od_read_right an_read_right : Option Addr} {sl_read_right : Array (Option Value)} {oc_read_right kV_read_right dc_read_right pm_read_right cd_read_right ct_read_right : Value}
    {od_add_line an_add_line : Option Addr} {sl_add_line : Array (Option Value)} {oc_add_line kV_add_line dc_add_line pm_add_line cd_add_line ct_add_line : Value}
    {od_next_fault an_next_fault : Option Addr} {sl_next_fault : Array (Option Value)} {oc_next_fault kV_next_fault dc_next_fault pm_next_fault cd_next_fault ct_next_fault : Value}
    {od_parse_basin an_parse_basin : Option Addr} {sl_parse_basin : Array (Option Value)} {oc_parse_basin kV_parse_basin dc_parse_basin pm_parse_basin cd_parse_basin ct_parse_basin : Value}
    {od_route an_route : Option Addr} {sl_route : Array (Option Value)} {oc_route kV_route dc_route pm_route cd_route ct_route : Value}
    {od_upstream an_upstream : Option Addr} {sl_upstream : Array (Option Value)} {oc_upstream kV_upstream dc_upstream pm_upstream cd_upstream ct_upstream : Value}
    {od_claim_size an_claim_size : Option Addr} {sl_claim_size : Array (Option Value)} {oc_claim_size kV_claim_size dc_claim_size pm_claim_size cd_claim_size ct_claim_size : Value}
    {od_claim_cell an_claim_cell : Option Addr} {sl_claim_cell : Array (Option Value)} {oc_claim_cell kV_claim_cell dc_claim_cell pm_claim_cell cd_claim_cell ct_claim_cell : Value}
    {od_law an_law : Option Addr} {sl_law : Array (Option Value)} {oc_law kV_law dc_law pm_law cd_law ct_law : Value}
    {tc_NAME tc_MOST_DIGITS tc_ABOVE_ALL tc_MOST_LETTERS tc_MOST_TRAVEL tc_MOST_WATER tc_MOST_MONTHS tc_RIGHT_SITE tc_MOST_RIGHTS tc_MOST_SITES tc_HELD tc_ROOM tc_INFLOWS tc_NEXT tc_TRAVEL tc_DEMANDS : Tok}
    {ac_SITE_WORDS : Addr} {odc_SITE_WORDS : Option Addr} {slc_SITE_WORDS : Array (Option Value)} {nc_SITE_WORDS : Nat} {tc_SITE_WORDS0 tc_SITE_WORDS1 tc_SITE_WORDS2 tc_SITE_WORDS3 tc_SITE_WORDS4 : Tok}
    (a_lw_draw : PySem.W.nsIn K mainGlobals "_law_draw" = some (some (.ref f_lw_draw)))
    (l_lw_draw : K.lookup f_lw_draw = some ⟨oc_lw_draw, od_lw_draw, .func (PySem.W.fnOf "_law_draw" "_law_draw" (defArgs s_lw_draw) (defBody s_lw_draw) (defScope s_lw_draw) .none kV_lw_draw dc_lw_draw pm_lw_draw an_lw_draw cd_lw_draw ct_lw_draw), sl_lw_draw⟩)
    (c_lw_draw : PySem.W.codeIn K cd_lw_draw "_law_draw" = true) (k_lw_draw : PySem.W.keepIn K (.ref f_lw_draw) = true)
    (a_lw_amount : PySem.W.nsIn K mainGlobals "_law_amount" = some (some (.ref f_lw_amount)))
    (l_lw_amount : K.lookup f_lw_amount = some ⟨oc_lw_amount, od_lw_amount, .func (PySem.W.fnOf "_law_amount" "_law_amount" (defArgs s_lw_amount) (defBody s_lw_amount) (defScope s_lw_amount) .none kV_lw_amount dc_lw_amount pm_lw_amount an_lw_amount cd_lw_amount ct_lw_amount), sl_lw_amount⟩)
    (c_lw_amount : PySem.W.codeIn K cd_lw_amount "_law_amount" = true) (k_lw_amount : PySem.W.keepIn K (.ref f_lw_amount) = true)
    (a_lw_basin : PySem.W.nsIn K mainGlobals "_law_basin" = some (some (.ref f_lw_basin)))
    (l_lw_basin : K.lookup f_lw_basin = some ⟨oc_lw_basin, od_lw_basin, .func (PySem.W.fnOf "_law_basin" "_law_basin" (defArgs s_lw_basin) (defBody s_lw_basin) (defScope s_lw_basin) .none kV_lw_basin dc_lw_basin pm_lw_basin an_lw_basin cd_lw_basin ct_lw_basin), sl_lw_basin⟩)
    (c_lw_basin : PySem.W.codeIn K cd_lw_basin "_law_basin" = true) (k_lw_basin : PySem.W.keepIn K (.ref f_lw_basin) = true)
    (a_lw_pick : PySem.W.nsIn K mainGlobals "_law_pick" = some (some (.ref f_lw_pick)))
    (l_lw_pick : K.lookup f_lw_pick = some ⟨oc_lw_pick, od_lw_pick, .func (PySem.W.fnOf "_law_pick" "_law_pick" (defArgs s_lw_pick) (defBody s_lw_pick) (defScope s_lw_pick) .none kV_lw_pick dc_lw_pick pm_lw_pick an_lw_pick cd_lw_pick ct_lw_pick), sl_lw_pick⟩)
    (c_lw_pick : PySem.W.codeIn K cd_lw_pick "_law_pick" = true) (k_lw_pick : PySem.W.keepIn K (.ref f_lw_pick) = true)
    (a_lw_rights : PySem.W.nsIn K mainGlobals "_law_rights" = some (some (.ref f_lw_rights)))
    (l_lw_rights : K.lookup f_lw_rights = some ⟨oc_lw_rights, od_lw_rights, .func (PySem.W.fnOf "_law_rights" "_law_rights" (defArgs s_lw_rights) (defBody s_lw_rights) (defScope s_lw_rights) .none kV_lw_rights dc_lw_rights pm_lw_rights an_lw_rights cd_lw_rights ct_lw_rights), sl_lw_rights⟩)
    (c_lw_rights : PySem.W.codeIn K cd_lw_rights "_law_rights" = true) (k_lw_rights : PySem.W.keepIn K (.ref f_lw_rights) = true)
    (a_lw_text : PySem.W.nsIn K mainGlobals "_law_text" = some (some (.ref f_lw_text)))
    (l_lw_text : K.lookup f_lw_text = some ⟨oc_lw_text, od_lw_text, .func (PySem.W.fnOf "_law_text" "_law_text" (defArgs s_lw_text) (defBody s_lw_text) (defScope s_lw_text) .none kV_lw_text dc_lw_text pm_lw_text an_lw_text cd_lw_text ct_lw_text), sl_lw_text⟩)
    (c_lw_text : PySem.W.codeIn K cd_lw_text "_law_text" = true) (k_lw_text : PySem.W.keepIn K (.ref f_lw_text) = true)
    (a_claims : PySem.W.nsIn K mainGlobals "claims" = some (some (.ref f_claims)))
    (l_claims : K.lookup f_claims = some ⟨oc_claims, od_claims, .func (PySem.W.fnOf "claims" "claims" (defArgs s_claims) (defBody s_claims) (defScope s_claims) .none kV_claims dc_claims pm_claims an_claims cd_claims ct_claims), sl_claims⟩)
    (c_claims : PySem.W.codeIn K cd_claims "claims" = true) (k_claims : PySem.W.keepIn K (.ref f_claims) = true)
    (a_lw_number : PySem.W.nsIn K mainGlobals "_law_number" = some (some (.ref f_lw_number)))
    (l_lw_number : K.lookup f_lw_number = some ⟨oc_lw_number, od_lw_number, .func (PySem.W.fnOf "_law_number" "_law_number" (defArgs s_lw_number) (defBody s_lw_number) (defScope s_lw_number) .none kV_lw_number dc_lw_number pm_lw_number an_lw_number cd_lw_number ct_lw_number), sl_lw_number⟩)
    (c_lw_number : PySem.W.codeIn K cd_lw_number "_law_number" = true) (k_lw_number : PySem.W.keepIn K (.ref f_lw_number) = true)
    (a_lw_claims : PySem.W.nsIn K mainGlobals "_law_claims" = some (some (.ref f_lw_claims)))
    (l_lw_claims : K.lookup f_lw_claims = some ⟨oc_lw_claims, od_lw_claims, .func (PySem.W.fnOf "_law_claims" "_law_claims" (defArgs s_lw_claims) (defBody s_lw_claims) (defScope s_lw_claims) .none kV_lw_claims dc_lw_claims pm_lw_claims an_lw_claims cd_lw_claims ct_lw_claims), sl_lw_claims⟩)
    (c_lw_claims : PySem.W.codeIn K cd_lw_claims "_law_claims" = true) (k_lw_claims : PySem.W.keepIn K (.ref f_lw_claims) = true)
    (a_lw_cell : PySem.W.nsIn K mainGlobals "_law_cell" = some (some (.ref f_lw_cell)))
    (l_lw_cell : K.lookup f_lw_cell = some ⟨oc_lw_cell, od_lw_cell, .func (PySem.W.fnOf "_law_cell" "_law_cell" (defArgs s_lw_cell) (defBody s_lw_cell) (defScope s_lw_cell) .none kV_lw_cell dc_lw_cell pm_lw_cell an_lw_cell cd_lw_cell ct_lw_cell), sl_lw_cell⟩)
    (c_lw_cell : PySem.W.codeIn K cd_lw_cell "_law_cell" = true) (k_lw_cell : PySem.W.keepIn K (.ref f_lw_cell) = true)
    (a_lw_digits : PySem.W.nsIn K mainGlobals "_law_digits" = some (some (.ref f_lw_digits)))
    (l_lw_digits : K.lookup f_lw_digits = some ⟨oc_lw_digits, od_lw_digits, .func (PySem.W.fnOf "_law_digits" "_law_digits" (defArgs s_lw_digits) (defBody s_lw_digits) (defScope s_lw_digits) .none kV_lw_digits dc_lw_digits pm_lw_digits an_lw_digits cd_lw_digits ct_lw_digits), sl_lw_digits⟩)
    (c_lw_digits : PySem.W.codeIn K cd_lw_digits "_law_digits" = true) (k_lw_digits : PySem.W.keepIn K (.ref f_lw_digits) = true)
    (a_lw_route : PySem.W.nsIn K mainGlobals "_law_route" = some (some (.ref f_lw_route)))
    (l_lw_route : K.lookup f_lw_route = some ⟨oc_lw_route, od_lw_route, .func (PySem.W.fnOf "_law_route" "_law_route" (defArgs s_lw_route) (defBody s_lw_route) (defScope s_lw_route) .none kV_lw_route dc_lw_route pm_lw_route an_lw_route cd_lw_route ct_lw_route), sl_lw_route⟩)
    (c_lw_route : PySem.W.codeIn K cd_lw_route "_law_route" = true) (k_lw_route : PySem.W.keepIn K (.ref f_lw_route) = true)
    (a_site_line : PySem.W.nsIn K mainGlobals "site_line" = some (some (.ref f_site_line)))
    (l_site_line : K.lookup f_site_line = some ⟨oc_site_line, od_site_line, .func (PySem.W.fnOf "site_line" "site_line" (defArgs s_site_line) (defBody s_site_line) (defScope s_site_line) .none kV_site_line dc_site_line pm_site_line an_site_line cd_site_line ct_site_line), sl_site_line⟩)
    (c_site_line : PySem.W.codeIn K cd_site_line "site_line" = true) (k_site_line : PySem.W.keepIn K (.ref f_site_line) = true)
    (a_right_line : PySem.W.nsIn K mainGlobals "right_line" = some (some (.ref f_right_line)))
    (l_right_line : K.lookup f_right_line = some ⟨oc_right_line, od_right_line, .func (PySem.W.fnOf "right_line" "right_line" (defArgs s_right_line) (defBody s_right_line) (defScope s_right_line) .none kV_right_line dc_right_line pm_right_line an_right_line cd_right_line ct_right_line), sl_right_line⟩)
    (c_right_line : PySem.W.codeIn K cd_right_line "right_line" = true) (k_right_line : PySem.W.keepIn K (.ref f_right_line) = true)
    (a_basin_text : PySem.W.nsIn K mainGlobals "basin_text" = some (some (.ref f_basin_text)))
    (l_basin_text : K.lookup f_basin_text = some ⟨oc_basin_text, od_basin_text, .func (PySem.W.fnOf "basin_text" "basin_text" (defArgs s_basin_text) (defBody s_basin_text) (defScope s_basin_text) .none kV_basin_text dc_basin_text pm_basin_text an_basin_text cd_basin_text ct_basin_text), sl_basin_text⟩)
    (c_basin_text : PySem.W.codeIn K cd_basin_text "basin_text" = true) (k_basin_text : PySem.W.keepIn K (.ref f_basin_text) = true)
    (a_lw_same : PySem.W.nsIn K mainGlobals "_law_same" = some (some (.ref f_lw_same)))
    (l_lw_same : K.lookup f_lw_same = some ⟨oc_lw_same, od_lw_same, .func (PySem.W.fnOf "_law_same" "_law_same" (defArgs s_lw_same) (defBody s_lw_same) (defScope s_lw_same) .none kV_lw_same dc_lw_same pm_lw_same an_lw_same cd_lw_same ct_lw_same), sl_lw_same⟩)
    (c_lw_same : PySem.W.codeIn K cd_lw_same "_law_same" = true) (k_lw_same : PySem.W.keepIn K (.ref f_lw_same) = true)
    (a_site_number : PySem.W.nsIn K mainGlobals "site_number" = some (some (.ref f_site_number)))
    (l_site_number : K.lookup f_site_number = some ⟨oc_site_number, od_site_number, .func (PySem.W.fnOf "site_number" "site_number" (defArgs s_site_number) (defBody s_site_number) (defScope s_site_number) .none kV_site_number dc_site_number pm_site_number an_site_number cd_site_number ct_site_number), sl_site_number⟩)
    (c_site_number : PySem.W.codeIn K cd_site_number "site_number" = true) (k_site_number : PySem.W.keepIn K (.ref f_site_number) = true)
    (a_number : PySem.W.nsIn K mainGlobals "number" = some (some (.ref f_number)))
    (l_number : K.lookup f_number = some ⟨oc_number, od_number, .func (PySem.W.fnOf "number" "number" (defArgs s_number) (defBody s_number) (defScope s_number) .none kV_number dc_number pm_number an_number cd_number ct_number), sl_number⟩)
    (c_number : PySem.W.codeIn K cd_number "number" = true) (k_number : PySem.W.keepIn K (.ref f_number) = true)
    (a_number_within : PySem.W.nsIn K mainGlobals "number_within" = some (some (.ref f_number_within)))
    (l_number_within : K.lookup f_number_within = some ⟨oc_number_within, od_number_within, .func (PySem.W.fnOf "number_within" "number_within" (defArgs s_number_within) (defBody s_number_within) (defScope s_number_within) .none kV_number_within dc_number_within pm_number_within an_number_within cd_number_within ct_number_within), sl_number_within⟩)
    (c_number_within : PySem.W.codeIn K cd_number_within "number_within" = true) (k_number_within : PySem.W.keepIn K (.ref f_number_within) = true)
    (a_is_name : PySem.W.nsIn K mainGlobals "is_name" = some (some (.ref f_is_name)))
    (l_is_name : K.lookup f_is_name = some ⟨oc_is_name, od_is_name, .func (PySem.W.fnOf "is_name" "is_name" (defArgs s_is_name) (defBody s_is_name) (defScope s_is_name) .none kV_is_name dc_is_name pm_is_name an_is_name cd_is_name ct_is_name), sl_is_name⟩)
    (c_is_name : PySem.W.codeIn K cd_is_name "is_name" = true) (k_is_name : PySem.W.keepIn K (.ref f_is_name) = true)
    (a_read_piece : PySem.W.nsIn K mainGlobals "read_piece" = some (some (.ref f_read_piece)))
    (l_read_piece : K.lookup f_read_piece = some ⟨oc_read_piece, od_read_piece, .func (PySem.W.fnOf "read_piece" "read_piece" (defArgs s_read_piece) (defBody s_read_piece) (defScope s_read_piece) .none kV_read_piece dc_read_piece pm_read_piece an_read_piece cd_read_piece ct_read_piece), sl_read_piece⟩)
    (c_read_piece : PySem.W.codeIn K cd_read_piece "read_piece" = true) (k_read_piece : PySem.W.keepIn K (.ref f_read_piece) = true)
    (a_read_told : PySem.W.nsIn K mainGlobals "read_told" = some (some (.ref f_read_told)))
    (l_read_told : K.lookup f_read_told = some ⟨oc_read_told, od_read_told, .func (PySem.W.fnOf "read_told" "read_told" (defArgs s_read_told) (defBody s_read_told) (defScope s_read_told) .none kV_read_told dc_read_told pm_read_told an_read_told cd_read_told ct_read_told), sl_read_told⟩)
    (c_read_told : PySem.W.codeIn K cd_read_told "read_told" = true) (k_read_told : PySem.W.keepIn K (.ref f_read_told) = true)
    (a_read_amounts : PySem.W.nsIn K mainGlobals "read_amounts" = some (some (.ref f_read_amounts)))
    (l_read_amounts : K.lookup f_read_amounts = some ⟨oc_read_amounts, od_read_amounts, .func (PySem.W.fnOf "read_amounts" "read_amounts" (defArgs s_read_amounts) (defBody s_read_amounts) (defScope s_read_amounts) .none kV_read_amounts dc_read_amounts pm_read_amounts an_read_amounts cd_read_amounts ct_read_amounts), sl_read_amounts⟩)
    (c_read_amounts : PySem.W.codeIn K cd_read_amounts "read_amounts" = true) (k_read_amounts : PySem.W.keepIn K (.ref f_read_amounts) = true)
    (a_read_site : PySem.W.nsIn K mainGlobals "read_site" = some (some (.ref f_read_site)))
    (l_read_site : K.lookup f_read_site = some ⟨oc_read_site, od_read_site, .func (PySem.W.fnOf "read_site" "read_site" (defArgs s_read_site) (defBody s_read_site) (defScope s_read_site) .none kV_read_site dc_read_site pm_read_site an_read_site cd_read_site ct_read_site), sl_read_site⟩)
    (c_read_site : PySem.W.codeIn K cd_read_site "read_site" = true) (k_read_site : PySem.W.keepIn K (.ref f_read_site) = true)
    (a_right_fault : PySem.W.nsIn K mainGlobals "right_fault" = some (some (.ref f_right_fault)))
    (l_right_fault : K.lookup f_right_fault = some ⟨oc_right_fault, od_right_fault, .func (PySem.W.fnOf "right_fault" "right_fault" (defArgs s_right_fault) (defBody s_right_fault) (defScope s_right_fault) .none kV_right_fault dc_right_fault pm_right_fault an_right_fault cd_right_fault ct_right_fault), sl_right_fault⟩)
    (c_right_fault : PySem.W.codeIn K cd_right_fault "right_fault" = true) (k_right_fault : PySem.W.keepIn K (.ref f_right_fault) = true)
    (a_site_fault : PySem.W.nsIn K mainGlobals "site_fault" = some (some (.ref f_site_fault)))
    (l_site_fault : K.lookup f_site_fault = some ⟨oc_site_fault, od_site_fault, .func (PySem.W.fnOf "site_fault" "site_fault" (defArgs s_site_fault) (defBody s_site_fault) (defScope s_site_fault) .none kV_site_fault dc_site_fault pm_site_fault an_site_fault cd_site_fault ct_site_fault), sl_site_fault⟩)
    (c_site_fault : PySem.W.codeIn K cd_site_fault "site_fault" = true) (k_site_fault : PySem.W.keepIn K (.ref f_site_fault) = true)
    (a_read_right : PySem.W.nsIn K mainGlobals "read_right" = some (some (.ref f_read_right)))
    (l_read_right : K.lookup f_read_right = some ⟨oc_read_right, od_read_right, .func (PySem.W.fnOf "read_right" "read_right" (defArgs s_read_right) (defBody s_read_right) (defScope s_read_right) .none kV_read_right dc_read_right pm_read_right an_read_right cd_read_right ct_read_right), sl_read_right⟩)
    (c_read_right : PySem.W.codeIn K cd_read_right "read_right" = true) (k_read_right : PySem.W.keepIn K (.ref f_read_right) = true)
    (a_add_line : PySem.W.nsIn K mainGlobals "add_line" = some (some (.ref f_add_line)))
    (l_add_line : K.lookup f_add_line = some ⟨oc_add_line, od_add_line, .func (PySem.W.fnOf "add_line" "add_line" (defArgs s_add_line) (defBody s_add_line) (defScope s_add_line) .none kV_add_line dc_add_line pm_add_line an_add_line cd_add_line ct_add_line), sl_add_line⟩)
    (c_add_line : PySem.W.codeIn K cd_add_line "add_line" = true) (k_add_line : PySem.W.keepIn K (.ref f_add_line) = true)
    (a_next_fault : PySem.W.nsIn K mainGlobals "next_fault" = some (some (.ref f_next_fault)))
    (l_next_fault : K.lookup f_next_fault = some ⟨oc_next_fault, od_next_fault, .func (PySem.W.fnOf "next_fault" "next_fault" (defArgs s_next_fault) (defBody s_next_fault) (defScope s_next_fault) .none kV_next_fault dc_next_fault pm_next_fault an_next_fault cd_next_fault ct_next_fault), sl_next_fault⟩)
    (c_next_fault : PySem.W.codeIn K cd_next_fault "next_fault" = true) (k_next_fault : PySem.W.keepIn K (.ref f_next_fault) = true)
    (a_parse_basin : PySem.W.nsIn K mainGlobals "parse_basin" = some (some (.ref f_parse_basin)))
    (l_parse_basin : K.lookup f_parse_basin = some ⟨oc_parse_basin, od_parse_basin, .func (PySem.W.fnOf "parse_basin" "parse_basin" (defArgs s_parse_basin) (defBody s_parse_basin) (defScope s_parse_basin) .none kV_parse_basin dc_parse_basin pm_parse_basin an_parse_basin cd_parse_basin ct_parse_basin), sl_parse_basin⟩)
    (c_parse_basin : PySem.W.codeIn K cd_parse_basin "parse_basin" = true) (k_parse_basin : PySem.W.keepIn K (.ref f_parse_basin) = true)
    (a_route : PySem.W.nsIn K mainGlobals "route" = some (some (.ref f_route)))
    (l_route : K.lookup f_route = some ⟨oc_route, od_route, .func (PySem.W.fnOf "route" "route" (defArgs s_route) (defBody s_route) (defScope s_route) .none kV_route dc_route pm_route an_route cd_route ct_route), sl_route⟩)
    (c_route : PySem.W.codeIn K cd_route "route" = true) (k_route : PySem.W.keepIn K (.ref f_route) = true)
    (a_upstream : PySem.W.nsIn K mainGlobals "upstream" = some (some (.ref f_upstream)))
    (l_upstream : K.lookup f_upstream = some ⟨oc_upstream, od_upstream, .func (PySem.W.fnOf "upstream" "upstream" (defArgs s_upstream) (defBody s_upstream) (defScope s_upstream) .none kV_upstream dc_upstream pm_upstream an_upstream cd_upstream ct_upstream), sl_upstream⟩)
    (c_upstream : PySem.W.codeIn K cd_upstream "upstream" = true) (k_upstream : PySem.W.keepIn K (.ref f_upstream) = true)
    (a_claim_size : PySem.W.nsIn K mainGlobals "claim_size" = some (some (.ref f_claim_size)))
    (l_claim_size : K.lookup f_claim_size = some ⟨oc_claim_size, od_claim_size, .func (PySem.W.fnOf "claim_size" "claim_size" (defArgs s_claim_size) (defBody s_claim_size) (defScope s_claim_size) .none kV_claim_size dc_claim_size pm_claim_size an_claim_size cd_claim_size ct_claim_size), sl_claim_size⟩)
    (c_claim_size : PySem.W.codeIn K cd_claim_size "claim_size" = true) (k_claim_size : PySem.W.keepIn K (.ref f_claim_size) = true)
    (a_claim_cell : PySem.W.nsIn K mainGlobals "claim_cell" = some (some (.ref f_claim_cell)))
    (l_claim_cell : K.lookup f_claim_cell = some ⟨oc_claim_cell, od_claim_cell, .func (PySem.W.fnOf "claim_cell" "claim_cell" (defArgs s_claim_cell) (defBody s_claim_cell) (defScope s_claim_cell) .none kV_claim_cell dc_claim_cell pm_claim_cell an_claim_cell cd_claim_cell ct_claim_cell), sl_claim_cell⟩)
    (c_claim_cell : PySem.W.codeIn K cd_claim_cell "claim_cell" = true) (k_claim_cell : PySem.W.keepIn K (.ref f_claim_cell) = true)
    (a_law : PySem.W.nsIn K mainGlobals "law" = some (some (.ref f_law)))
    (l_law : K.lookup f_law = some ⟨oc_law, od_law, .func (PySem.W.fnOf "law" "law" (defArgs s_law) (defBody s_law) (defScope s_law) .none kV_law dc_law pm_law an_law cd_law ct_law), sl_law⟩)
    (c_law : PySem.W.codeIn K cd_law "law" = true) (k_law : PySem.W.keepIn K (.ref f_law) = true)
    (zb_len : PySem.W.nsIn K mainGlobals "len" = some none)
    (zb_int : PySem.W.nsIn K mainGlobals "int" = some none)
    (zb_range : PySem.W.nsIn K mainGlobals "range" = some none)
    (zb_tuple : PySem.W.nsIn K mainGlobals "tuple" = some none)
    (zb_str : PySem.W.nsIn K mainGlobals "str" = some none)
    (zb_repr : PySem.W.nsIn K mainGlobals "repr" = some none)
    (zb_enumerate : PySem.W.nsIn K mainGlobals "enumerate" = some none)
    (zb_zip : PySem.W.nsIn K mainGlobals "zip" = some none)
    (zc_NAME : PySem.W.nsIn K mainGlobals "NAME" = some (some (.int 0 tc_NAME)))
    (zc_MOST_DIGITS : PySem.W.nsIn K mainGlobals "MOST_DIGITS" = some (some (.int 9 tc_MOST_DIGITS)))
    (zc_ABOVE_ALL : PySem.W.nsIn K mainGlobals "ABOVE_ALL" = some (some (.int 1000000000 tc_ABOVE_ALL)))
    (zc_MOST_LETTERS : PySem.W.nsIn K mainGlobals "MOST_LETTERS" = some (some (.int 6 tc_MOST_LETTERS)))
    (zc_MOST_TRAVEL : PySem.W.nsIn K mainGlobals "MOST_TRAVEL" = some (some (.int 2 tc_MOST_TRAVEL)))
    (zc_MOST_WATER : PySem.W.nsIn K mainGlobals "MOST_WATER" = some (some (.int 99 tc_MOST_WATER)))
    (zc_MOST_MONTHS : PySem.W.nsIn K mainGlobals "MOST_MONTHS" = some (some (.int 4 tc_MOST_MONTHS)))
    (zc_RIGHT_SITE : PySem.W.nsIn K mainGlobals "RIGHT_SITE" = some (some (.int 1 tc_RIGHT_SITE)))
    (zc_MOST_RIGHTS : PySem.W.nsIn K mainGlobals "MOST_RIGHTS" = some (some (.int 4 tc_MOST_RIGHTS)))
    (zc_MOST_SITES : PySem.W.nsIn K mainGlobals "MOST_SITES" = some (some (.int 4 tc_MOST_SITES)))
    (zc_HELD : PySem.W.nsIn K mainGlobals "HELD" = some (some (.int 5 tc_HELD)))
    (zc_ROOM : PySem.W.nsIn K mainGlobals "ROOM" = some (some (.int 4 tc_ROOM)))
    (zc_INFLOWS : PySem.W.nsIn K mainGlobals "INFLOWS" = some (some (.int 6 tc_INFLOWS)))
    (zc_NEXT : PySem.W.nsIn K mainGlobals "NEXT" = some (some (.int 1 tc_NEXT)))
    (zc_TRAVEL : PySem.W.nsIn K mainGlobals "TRAVEL" = some (some (.int 2 tc_TRAVEL)))
    (zc_DEMANDS : PySem.W.nsIn K mainGlobals "DEMANDS" = some (some (.int 2 tc_DEMANDS)))
    (zc_SITE_WORDS : PySem.W.nsIn K mainGlobals "SITE_WORDS" = some (some (.ref ac_SITE_WORDS)))
    (yc_SITE_WORDS : K.lookup ac_SITE_WORDS = some ⟨.type "tuple", odc_SITE_WORDS, .seq #[.str "to" tc_SITE_WORDS0, .str "in" tc_SITE_WORDS1, .str "reach" tc_SITE_WORDS2, .str "room" tc_SITE_WORDS3, .str "held" tc_SITE_WORDS4] nc_SITE_WORDS, slc_SITE_WORDS⟩)
    : ∃ fd : FuncData, (∀ (s : Shared) (v : Value), BindsTo s fd ⟨[v], []⟩ [("script", v)]) ∧ ∀ base : Heap, K.In base → base.Ns mainGlobals mg → FnG l.prog w K mg base 8 fa fd ["script"] phi_law := by
  have e := hfa.symm.trans (PySem.W.mg_of X G a_law)
  cases e
  have F_lw_draw := fun_mk (st := s_lw_draw) l_lw_draw c_lw_draw k_lw_draw
  have b_lw_draw := F_lw_draw.binds (ps := ["box", "many"]) fun _ _ _ _ _ _ us hl => match us, hl with | [_, _], _ => rfl
  have D_lw_draw : Df K mg "_law_draw" s_lw_draw ["box", "many"] := ⟨_, _, F_lw_draw, b_lw_draw, PySem.W.mg_of X G a_lw_draw⟩
  have F_lw_amount := fun_mk (st := s_lw_amount) l_lw_amount c_lw_amount k_lw_amount
  have b_lw_amount := F_lw_amount.binds (ps := ["box"]) fun _ _ _ _ _ _ us hl => match us, hl with | [_], _ => rfl
  have D_lw_amount : Df K mg "_law_amount" s_lw_amount ["box"] := ⟨_, _, F_lw_amount, b_lw_amount, PySem.W.mg_of X G a_lw_amount⟩
  have F_lw_basin := fun_mk (st := s_lw_basin) l_lw_basin c_lw_basin k_lw_basin
  have b_lw_basin := F_lw_basin.binds (ps := ["box"]) fun _ _ _ _ _ _ us hl => match us, hl with | [_], _ => rfl
  have D_lw_basin : Df K mg "_law_basin" s_lw_basin ["box"] := ⟨_, _, F_lw_basin, b_lw_basin, PySem.W.mg_of X G a_lw_basin⟩
  have F_lw_pick := fun_mk (st := s_lw_pick) l_lw_pick c_lw_pick k_lw_pick
  have b_lw_pick := F_lw_pick.binds (ps := ["box", "rows"]) fun _ _ _ _ _ _ us hl => match us, hl with | [_, _], _ => rfl
  have D_lw_pick : Df K mg "_law_pick" s_lw_pick ["box", "rows"] := ⟨_, _, F_lw_pick, b_lw_pick, PySem.W.mg_of X G a_lw_pick⟩
  have F_lw_rights := fun_mk (st := s_lw_rights) l_lw_rights c_lw_rights k_lw_rights
  have b_lw_rights := F_lw_rights.binds (ps := ["box", "basin"]) fun _ _ _ _ _ _ us hl => match us, hl with | [_, _], _ => rfl
  have D_lw_rights : Df K mg "_law_rights" s_lw_rights ["box", "basin"] := ⟨_, _, F_lw_rights, b_lw_rights, PySem.W.mg_of X G a_lw_rights⟩
  have F_lw_text := fun_mk (st := s_lw_text) l_lw_text c_lw_text k_lw_text
  have b_lw_text := F_lw_text.binds (ps := ["basin", "rights"]) fun _ _ _ _ _ _ us hl => match us, hl with | [_, _], _ => rfl
  have D_lw_text : Df K mg "_law_text" s_lw_text ["basin", "rights"] := ⟨_, _, F_lw_text, b_lw_text, PySem.W.mg_of X G a_lw_text⟩
  have F_claims := fun_mk (st := s_claims) l_claims c_claims k_claims
  have b_claims := F_claims.binds (ps := ["basin", "rights"]) fun _ _ _ _ _ _ us hl => match us, hl with | [_, _], _ => rfl
  have D_claims : Df K mg "claims" s_claims ["basin", "rights"] := ⟨_, _, F_claims, b_claims, PySem.W.mg_of X G a_claims⟩
  have F_lw_number := fun_mk (st := s_lw_number) l_lw_number c_lw_number k_lw_number
  have b_lw_number := F_lw_number.binds (ps := ["basin", "name"]) fun _ _ _ _ _ _ us hl => match us, hl with | [_, _], _ => rfl
  have D_lw_number : Df K mg "_law_number" s_lw_number ["basin", "name"] := ⟨_, _, F_lw_number, b_lw_number, PySem.W.mg_of X G a_lw_number⟩
  have F_lw_claims := fun_mk (st := s_lw_claims) l_lw_claims c_lw_claims k_lw_claims
  have b_lw_claims := F_lw_claims.binds (ps := ["basin", "rights"]) fun _ _ _ _ _ _ us hl => match us, hl with | [_, _], _ => rfl
  have D_lw_claims : Df K mg "_law_claims" s_lw_claims ["basin", "rights"] := ⟨_, _, F_lw_claims, b_lw_claims, PySem.W.mg_of X G a_lw_claims⟩
  have F_lw_cell := fun_mk (st := s_lw_cell) l_lw_cell c_lw_cell k_lw_cell
  have b_lw_cell := F_lw_cell.binds (ps := ["script", "k"]) fun _ _ _ _ _ _ us hl => match us, hl with | [_, _], _ => rfl
  have D_lw_cell : Df K mg "_law_cell" s_lw_cell ["script", "k"] := ⟨_, _, F_lw_cell, b_lw_cell, PySem.W.mg_of X G a_lw_cell⟩
  have F_lw_digits := fun_mk (st := s_lw_digits) l_lw_digits c_lw_digits k_lw_digits
  have b_lw_digits := F_lw_digits.binds (ps := ["script", "first", "last"]) fun _ _ _ _ _ _ us hl => match us, hl with | [_, _, _], _ => rfl
  have D_lw_digits : Df K mg "_law_digits" s_lw_digits ["script", "first", "last"] := ⟨_, _, F_lw_digits, b_lw_digits, PySem.W.mg_of X G a_lw_digits⟩
  have F_lw_route := fun_mk (st := s_lw_route) l_lw_route c_lw_route k_lw_route
  have b_lw_route := F_lw_route.binds (ps := ["basin", "name"]) fun _ _ _ _ _ _ us hl => match us, hl with | [_, _], _ => rfl
  have D_lw_route : Df K mg "_law_route" s_lw_route ["basin", "name"] := ⟨_, _, F_lw_route, b_lw_route, PySem.W.mg_of X G a_lw_route⟩
  have F_site_line := fun_mk (st := s_site_line) l_site_line c_site_line k_site_line
  have b_site_line := F_site_line.binds (ps := ["site"]) fun _ _ _ _ _ _ us hl => match us, hl with | [_], _ => rfl
  have D_site_line : Df K mg "site_line" s_site_line ["site"] := ⟨_, _, F_site_line, b_site_line, PySem.W.mg_of X G a_site_line⟩
  have F_right_line := fun_mk (st := s_right_line) l_right_line c_right_line k_right_line
  have b_right_line := F_right_line.binds (ps := ["right"]) fun _ _ _ _ _ _ us hl => match us, hl with | [_], _ => rfl
  have D_right_line : Df K mg "right_line" s_right_line ["right"] := ⟨_, _, F_right_line, b_right_line, PySem.W.mg_of X G a_right_line⟩
  have F_basin_text := fun_mk (st := s_basin_text) l_basin_text c_basin_text k_basin_text
  have b_basin_text := F_basin_text.binds (ps := ["basin", "rights"]) fun _ _ _ _ _ _ us hl => match us, hl with | [_, _], _ => rfl
  have D_basin_text : Df K mg "basin_text" s_basin_text ["basin", "rights"] := ⟨_, _, F_basin_text, b_basin_text, PySem.W.mg_of X G a_basin_text⟩
  have F_lw_same := fun_mk (st := s_lw_same) l_lw_same c_lw_same k_lw_same
  have b_lw_same := F_lw_same.binds (ps := ["actual", "due"]) fun _ _ _ _ _ _ us hl => match us, hl with | [_, _], _ => rfl
  have D_lw_same : Df K mg "_law_same" s_lw_same ["actual", "due"] := ⟨_, _, F_lw_same, b_lw_same, PySem.W.mg_of X G a_lw_same⟩
  have F_site_number := fun_mk (st := s_site_number) l_site_number c_site_number k_site_number
  have b_site_number := F_site_number.binds (ps := ["basin", "name"]) fun _ _ _ _ _ _ us hl => match us, hl with | [_, _], _ => rfl
  have D_site_number : Df K mg "site_number" s_site_number ["basin", "name"] := ⟨_, _, F_site_number, b_site_number, PySem.W.mg_of X G a_site_number⟩
  have F_number := fun_mk (st := s_number) l_number c_number k_number
  have b_number := F_number.binds (ps := ["piece"]) fun _ _ _ _ _ _ us hl => match us, hl with | [_], _ => rfl
  have D_number : Df K mg "number" s_number ["piece"] := ⟨_, _, F_number, b_number, PySem.W.mg_of X G a_number⟩
  have F_number_within := fun_mk (st := s_number_within) l_number_within c_number_within k_number_within
  have b_number_within := F_number_within.binds (ps := ["piece", "least", "most"]) fun _ _ _ _ _ _ us hl => match us, hl with | [_, _, _], _ => rfl
  have D_number_within : Df K mg "number_within" s_number_within ["piece", "least", "most"] := ⟨_, _, F_number_within, b_number_within, PySem.W.mg_of X G a_number_within⟩
  have F_is_name := fun_mk (st := s_is_name) l_is_name c_is_name k_is_name
  have b_is_name := F_is_name.binds (ps := ["piece"]) fun _ _ _ _ _ _ us hl => match us, hl with | [_], _ => rfl
  have D_is_name : Df K mg "is_name" s_is_name ["piece"] := ⟨_, _, F_is_name, b_is_name, PySem.W.mg_of X G a_is_name⟩
  have F_read_piece := fun_mk (st := s_read_piece) l_read_piece c_read_piece k_read_piece
  have b_read_piece := F_read_piece.binds (ps := ["word", "piece"]) fun _ _ _ _ _ _ us hl => match us, hl with | [_, _], _ => rfl
  have D_read_piece : Df K mg "read_piece" s_read_piece ["word", "piece"] := ⟨_, _, F_read_piece, b_read_piece, PySem.W.mg_of X G a_read_piece⟩
  have F_read_told := fun_mk (st := s_read_told) l_read_told c_read_told k_read_told
  have b_read_told := F_read_told.binds (ps := ["words", "pieces"]) fun _ _ _ _ _ _ us hl => match us, hl with | [_, _], _ => rfl
  have D_read_told : Df K mg "read_told" s_read_told ["words", "pieces"] := ⟨_, _, F_read_told, b_read_told, PySem.W.mg_of X G a_read_told⟩
  have F_read_amounts := fun_mk (st := s_read_amounts) l_read_amounts c_read_amounts k_read_amounts
  have b_read_amounts := F_read_amounts.binds (ps := ["text", "months"]) fun _ _ _ _ _ _ us hl => match us, hl with | [_, _], _ => rfl
  have D_read_amounts : Df K mg "read_amounts" s_read_amounts ["text", "months"] := ⟨_, _, F_read_amounts, b_read_amounts, PySem.W.mg_of X G a_read_amounts⟩
  have F_read_site := fun_mk (st := s_read_site) l_read_site c_read_site k_read_site
  have b_read_site := F_read_site.binds (ps := ["line", "months"]) fun _ _ _ _ _ _ us hl => match us, hl with | [_, _], _ => rfl
  have D_read_site : Df K mg "read_site" s_read_site ["line", "months"] := ⟨_, _, F_read_site, b_read_site, PySem.W.mg_of X G a_read_site⟩
  have F_right_fault := fun_mk (st := s_right_fault) l_right_fault c_right_fault k_right_fault
  have b_right_fault := F_right_fault.binds (ps := ["sites", "rights", "right"]) fun _ _ _ _ _ _ us hl => match us, hl with | [_, _, _], _ => rfl
  have D_right_fault : Df K mg "right_fault" s_right_fault ["sites", "rights", "right"] := ⟨_, _, F_right_fault, b_right_fault, PySem.W.mg_of X G a_right_fault⟩
  have F_site_fault := fun_mk (st := s_site_fault) l_site_fault c_site_fault k_site_fault
  have b_site_fault := F_site_fault.binds (ps := ["sites", "rights", "site"]) fun _ _ _ _ _ _ us hl => match us, hl with | [_, _, _], _ => rfl
  have D_site_fault : Df K mg "site_fault" s_site_fault ["sites", "rights", "site"] := ⟨_, _, F_site_fault, b_site_fault, PySem.W.mg_of X G a_site_fault⟩
  have F_read_right := fun_mk (st := s_read_right) l_read_right c_read_right k_read_right
  have b_read_right := F_read_right.binds (ps := ["line", "months"]) fun _ _ _ _ _ _ us hl => match us, hl with | [_, _], _ => rfl
  have D_read_right : Df K mg "read_right" s_read_right ["line", "months"] := ⟨_, _, F_read_right, b_read_right, PySem.W.mg_of X G a_read_right⟩
  have F_add_line := fun_mk (st := s_add_line) l_add_line c_add_line k_add_line
  have b_add_line := F_add_line.binds (ps := ["sites", "rights", "line"]) fun _ _ _ _ _ _ us hl => match us, hl with | [_, _, _], _ => rfl
  have D_add_line : Df K mg "add_line" s_add_line ["sites", "rights", "line"] := ⟨_, _, F_add_line, b_add_line, PySem.W.mg_of X G a_add_line⟩
  have F_next_fault := fun_mk (st := s_next_fault) l_next_fault c_next_fault k_next_fault
  have b_next_fault := F_next_fault.binds (ps := ["sites", "s"]) fun _ _ _ _ _ _ us hl => match us, hl with | [_, _], _ => rfl
  have D_next_fault : Df K mg "next_fault" s_next_fault ["sites", "s"] := ⟨_, _, F_next_fault, b_next_fault, PySem.W.mg_of X G a_next_fault⟩
  have F_parse_basin := fun_mk (st := s_parse_basin) l_parse_basin c_parse_basin k_parse_basin
  have b_parse_basin := F_parse_basin.binds (ps := ["text"]) fun _ _ _ _ _ _ us hl => match us, hl with | [_], _ => rfl
  have D_parse_basin : Df K mg "parse_basin" s_parse_basin ["text"] := ⟨_, _, F_parse_basin, b_parse_basin, PySem.W.mg_of X G a_parse_basin⟩
  have F_route := fun_mk (st := s_route) l_route c_route k_route
  have b_route := F_route.binds (ps := ["basin", "name"]) fun _ _ _ _ _ _ us hl => match us, hl with | [_, _], _ => rfl
  have D_route : Df K mg "route" s_route ["basin", "name"] := ⟨_, _, F_route, b_route, PySem.W.mg_of X G a_route⟩
  have F_upstream := fun_mk (st := s_upstream) l_upstream c_upstream k_upstream
  have b_upstream := F_upstream.binds (ps := ["basin", "name"]) fun _ _ _ _ _ _ us hl => match us, hl with | [_, _], _ => rfl
  have D_upstream : Df K mg "upstream" s_upstream ["basin", "name"] := ⟨_, _, F_upstream, b_upstream, PySem.W.mg_of X G a_upstream⟩
  have F_claim_size := fun_mk (st := s_claim_size) l_claim_size c_claim_size k_claim_size
  have b_claim_size := F_claim_size.binds (ps := ["basin", "rights", "claim"]) fun _ _ _ _ _ _ us hl => match us, hl with | [_, _, _], _ => rfl
  have D_claim_size : Df K mg "claim_size" s_claim_size ["basin", "rights", "claim"] := ⟨_, _, F_claim_size, b_claim_size, PySem.W.mg_of X G a_claim_size⟩
  have F_claim_cell := fun_mk (st := s_claim_cell) l_claim_cell c_claim_cell k_claim_cell
  have b_claim_cell := F_claim_cell.binds (ps := ["basin", "rights", "claim"]) fun _ _ _ _ _ _ us hl => match us, hl with | [_, _, _], _ => rfl
  have D_claim_cell : Df K mg "claim_cell" s_claim_cell ["basin", "rights", "claim"] := ⟨_, _, F_claim_cell, b_claim_cell, PySem.W.mg_of X G a_claim_cell⟩
  have F_law := fun_mk (st := s_law) l_law c_law k_law
  have b_law := F_law.binds (ps := ["script"]) fun _ _ _ _ _ _ us hl => match us, hl with | [_], _ => rfl
  let D_law : Df K mg "law" s_law ["script"] := ⟨_, _, F_law, b_law, PySem.W.mg_of X G a_law⟩
  have T : Txt K mg := ⟨PySem.W.mg_none_of X G zb_len, PySem.W.mg_none_of X G zb_int, PySem.W.mg_none_of X G zb_range, PySem.W.mg_none_of X G zb_tuple, PySem.W.mg_none_of X G zb_str, PySem.W.mg_none_of X G zb_repr, PySem.W.mg_none_of X G zb_enumerate, PySem.W.mg_none_of X G zb_zip, ⟨_, PySem.W.mg_of X G zc_NAME⟩, ⟨_, PySem.W.mg_of X G zc_MOST_DIGITS⟩, ⟨_, PySem.W.mg_of X G zc_ABOVE_ALL⟩, ⟨_, PySem.W.mg_of X G zc_MOST_LETTERS⟩, ⟨_, PySem.W.mg_of X G zc_MOST_TRAVEL⟩, ⟨_, PySem.W.mg_of X G zc_MOST_WATER⟩, ⟨⟨_, PySem.W.mg_of X G zc_SITE_WORDS, .inr ⟨_, _, _, yc_SITE_WORDS, rfl, rfl, (show (5 : Nat) ≤ sizeLine by decide), .cons ⟨_, rfl⟩ (.cons ⟨_, rfl⟩ (.cons ⟨_, rfl⟩ (.cons ⟨_, rfl⟩ (.cons ⟨_, rfl⟩ (.nil)))))⟩⟩⟩, ⟨_, PySem.W.mg_of X G zc_MOST_MONTHS⟩, ⟨_, PySem.W.mg_of X G zc_RIGHT_SITE⟩, ⟨_, PySem.W.mg_of X G zc_MOST_RIGHTS⟩, ⟨_, PySem.W.mg_of X G zc_MOST_SITES⟩, ⟨_, PySem.W.mg_of X G zc_HELD⟩, ⟨_, PySem.W.mg_of X G zc_ROOM⟩, ⟨_, PySem.W.mg_of X G zc_INFLOWS⟩, ⟨_, PySem.W.mg_of X G zc_NEXT⟩, ⟨_, PySem.W.mg_of X G zc_TRAVEL⟩, ⟨_, PySem.W.mg_of X G zc_DEMANDS⟩⟩
  refine ⟨PySem.W.fnOf "law" "law" (defArgs s_law) (defBody s_law) (defScope s_law) .none kV_law dc_law pm_law an_law cd_law ct_law, fun s v => ?_, fun base _ _ => ?_⟩
  · exact .of_eq rfl
  · have klw_draw := ok_lw_draw (P := l.prog) (w := w) (base := base) T  D_lw_draw
    have klw_amount := ok_lw_amount (P := l.prog) (w := w) (base := base) T D_lw_draw klw_draw D_lw_amount
    have klw_basin := ok_lw_basin (P := l.prog) (w := w) (base := base) T D_lw_draw klw_draw D_lw_amount klw_amount D_lw_basin
    have klw_pick := ok_lw_pick (P := l.prog) (w := w) (base := base) T D_lw_draw klw_draw D_lw_pick
    have klw_rights := ok_lw_rights (P := l.prog) (w := w) (base := base) T D_lw_draw klw_draw D_lw_amount klw_amount D_lw_pick klw_pick D_lw_rights
    have klw_text := ok_lw_text (P := l.prog) (w := w) (base := base) T  D_lw_text
    have kclaims := ok_claims (P := l.prog) (w := w) (base := base) T  D_claims
    have klw_number := ok_lw_number (P := l.prog) (w := w) (base := base) T  D_lw_number
    have klw_claims := ok_lw_claims (P := l.prog) (w := w) (base := base) T D_lw_number klw_number D_lw_claims
    have klw_cell := ok_lw_cell (P := l.prog) (w := w) (base := base) T  D_lw_cell
    have klw_digits := ok_lw_digits (P := l.prog) (w := w) (base := base) T D_lw_cell klw_cell D_lw_digits
    have klw_route := ok_lw_route (P := l.prog) (w := w) (base := base) T D_lw_number klw_number D_lw_route
    have ksite_line := ok_site_line (P := l.prog) (w := w) (base := base) T  D_site_line
    have kright_line := ok_right_line (P := l.prog) (w := w) (base := base) T  D_right_line
    have kbasin_text := ok_basin_text (P := l.prog) (w := w) (base := base) T D_site_line ksite_line D_right_line kright_line D_basin_text
    have klw_same := ok_lw_same (P := l.prog) (w := w) (base := base) T  D_lw_same
    have ksite_number := ok_site_number (P := l.prog) (w := w) (base := base) T  D_site_number
    have knumber := ok_number (P := l.prog) (w := w) (base := base) T  D_number
    have knumber_within := ok_number_within (P := l.prog) (w := w) (base := base) T D_number knumber D_number_within
    have kis_name := ok_is_name (P := l.prog) (w := w) (base := base) T  D_is_name
    have kread_piece := ok_read_piece (P := l.prog) (w := w) (base := base) T D_is_name kis_name D_number_within knumber_within D_read_piece
    have kread_told := ok_read_told (P := l.prog) (w := w) (base := base) T D_read_piece kread_piece D_read_told
    have kread_amounts := ok_read_amounts (P := l.prog) (w := w) (base := base) T D_number_within knumber_within D_read_amounts
    have kread_site := ok_read_site (P := l.prog) (w := w) (base := base) T D_is_name kis_name D_read_told kread_told D_read_amounts kread_amounts D_read_site
    have kright_fault := ok_right_fault (P := l.prog) (w := w) (base := base) T  D_right_fault
    have ksite_fault := ok_site_fault (P := l.prog) (w := w) (base := base) T  D_site_fault
    have kread_right := ok_read_right (P := l.prog) (w := w) (base := base) T D_read_amounts kread_amounts D_is_name kis_name D_read_right
    have kadd_line := ok_add_line (P := l.prog) (w := w) (base := base) T D_read_site kread_site D_site_fault ksite_fault D_read_right kread_right D_right_fault kright_fault D_add_line
    have knext_fault := ok_next_fault (P := l.prog) (w := w) (base := base) T  D_next_fault
    have kparse_basin := ok_parse_basin (P := l.prog) (w := w) (base := base) T D_add_line kadd_line D_next_fault knext_fault D_parse_basin
    have kroute := ok_route (P := l.prog) (w := w) (base := base) T D_site_number ksite_number D_route
    have kupstream := ok_upstream (P := l.prog) (w := w) (base := base) T D_route kroute D_upstream
    have kclaim_size := ok_claim_size (P := l.prog) (w := w) (base := base) T  D_claim_size
    have kclaim_cell := ok_claim_cell (P := l.prog) (w := w) (base := base) T D_site_number ksite_number D_claim_cell
    have klaw := ok_law (P := l.prog) (w := w) (base := base) T D_lw_digits klw_digits D_lw_basin klw_basin D_lw_rights klw_rights D_lw_text klw_text D_basin_text kbasin_text D_lw_same klw_same D_parse_basin kparse_basin D_lw_route klw_route D_route kroute D_site_number ksite_number D_lw_number klw_number D_upstream kupstream D_claims kclaims D_lw_claims klw_claims D_claim_cell kclaim_cell D_claim_size kclaim_size D_law
    exact klaw
end Lw

open PySem PySem.W PyProof.Rows in
set_option maxRecDepth 100000 in
set_option maxHeartbeats 0 in
theorem PySem.Challenge.cw_heldwater_k00_basins_read_holds : PySem.Challenge.rw_heldwater_k00_basins_read.Holds := by
  w_on; o_law; k_head; (case hw => w_witness2)
  k_fill
  refine DL.walk_G (l := PySem.Challenge.rw_heldwater_k00_basins_read) (n := 63) (k := 8) (x := "script") (Φ := Lw.phi_law) rfl (by decide) rfl ⟨rfl, by decide, by decide⟩ (fun w h Y => PySem.W.kIn_of Y) ?F (fun ns _ => Lw.law_true ns)
  case F =>
    intro w mg fa h KX G hmg
    refine' Lw.all_mk KX G hmg ?a_lw_draw ?l_lw_draw ?c_lw_draw ?k_lw_draw ?a_lw_amount ?l_lw_amount ?c_lw_amount ?k_lw_amount ?a_lw_basin ?l_lw_basin ?c_lw_basin ?k_lw_basin ?a_lw_pick ?l_lw_pick ?c_lw_pick ?k_lw_pick ?a_lw_rights ?l_lw_rights ?c_lw_rights ?k_lw_rights ?a_lw_text ?l_lw_text ?c_lw_text ?k_lw_text ?a_claims ?l_claims ?c_claims ?k_claims ?a_lw_number ?l_lw_number ?c_lw_number ?k_lw_number ?a_lw_claims ?l_lw_claims ?c_lw_claims ?k_lw_claims ?a_lw_cell ?l_lw_cell ?c_lw_cell ?k_lw_cell ?a_lw_digits ?l_lw_digits ?c_lw_digits ?k_lw_digits ?a_lw_route ?l_lw_route ?c_lw_route ?k_lw_route ?a_site_line ?l_site_line ?c_site_line ?k_site_line ?a_right_line ?l_right_line ?c_right_line ?k_right_line ?a_basin_text ?l_basin_text ?c_basin_text ?k_basin_text ?a_lw_same ?l_lw_same ?c_lw_same ?k_lw_same ?a_site_number ?l_site_number ?c_site_number ?k_site_number ?a_number ?l_number ?c_number ?k_number ?a_number_within ?l_number_within ?c_number_within ?k_number_within ?a_is_name ?l_is_name ?c_is_name ?k_is_name ?a_read_piece ?l_read_piece ?c_read_piece ?k_read_piece ?a_read_told ?l_read_told ?c_read_told ?k_read_told ?a_read_amounts ?l_read_amounts ?c_read_amounts ?k_read_amounts ?a_read_site ?l_read_site ?c_read_site ?k_read_site ?a_right_fault ?l_right_fault ?c_right_fault ?k_right_fault ?a_site_fault ?l_site_fault ?c_site_fault ?k_site_fault ?a_read_right ?l_read_right ?c_read_right ?k_read_right ?a_add_line ?l_add_line ?c_add_line ?k_add_line ?a_next_fault ?l_next_fault ?c_next_fault ?k_next_fault ?a_parse_basin ?l_parse_basin ?c_parse_basin ?k_parse_basin ?a_route ?l_route ?c_route ?k_route ?a_upstream ?l_upstream ?c_upstream ?k_upstream ?a_claim_size ?l_claim_size ?c_claim_size ?k_claim_size ?a_claim_cell ?l_claim_cell ?c_claim_cell ?k_claim_cell ?a_law ?l_law ?c_law ?k_law ?zb_len ?zb_int ?zb_range ?zb_tuple ?zb_str ?zb_repr ?zb_enumerate ?zb_zip ?zc_NAME ?zc_MOST_DIGITS ?zc_ABOVE_ALL ?zc_MOST_LETTERS ?zc_MOST_TRAVEL ?zc_MOST_WATER ?zc_MOST_MONTHS ?zc_RIGHT_SITE ?zc_MOST_RIGHTS ?zc_MOST_SITES ?zc_HELD ?zc_ROOM ?zc_INFLOWS ?zc_NEXT ?zc_TRAVEL ?zc_DEMANDS ?zc_SITE_WORDS ?yc_SITE_WORDS
    (case a_lw_draw => k_is)
    (case l_lw_draw => k_is)
    (case c_lw_draw => k_is)
    (case k_lw_draw => k_is)
    (case a_lw_amount => k_is)
    (case l_lw_amount => k_is)
    (case c_lw_amount => k_is)
    (case k_lw_amount => k_is)
    (case a_lw_basin => k_is)
    (case l_lw_basin => k_is)
    (case c_lw_basin => k_is)
    (case k_lw_basin => k_is)
    (case a_lw_pick => k_is)
    (case l_lw_pick => k_is)
    (case c_lw_pick => k_is)
    (case k_lw_pick => k_is)
    (case a_lw_rights => k_is)
    (case l_lw_rights => k_is)
    (case c_lw_rights => k_is)
    (case k_lw_rights => k_is)
    (case a_lw_text => k_is)
    (case l_lw_text => k_is)
    (case c_lw_text => k_is)
    (case k_lw_text => k_is)
    (case a_claims => k_is)
    (case l_claims => k_is)
    (case c_claims => k_is)
    (case k_claims => k_is)
    (case a_lw_number => k_is)
    (case l_lw_number => k_is)
    (case c_lw_number => k_is)
    (case k_lw_number => k_is)
    (case a_lw_claims => k_is)
    (case l_lw_claims => k_is)
    (case c_lw_claims => k_is)
    (case k_lw_claims => k_is)
    (case a_lw_cell => k_is)
    (case l_lw_cell => k_is)
    (case c_lw_cell => k_is)
    (case k_lw_cell => k_is)
    (case a_lw_digits => k_is)
    (case l_lw_digits => k_is)
    (case c_lw_digits => k_is)
    (case k_lw_digits => k_is)
    (case a_lw_route => k_is)
    (case l_lw_route => k_is)
    (case c_lw_route => k_is)
    (case k_lw_route => k_is)
    (case a_site_line => k_is)
    (case l_site_line => k_is)
    (case c_site_line => k_is)
    (case k_site_line => k_is)
    (case a_right_line => k_is)
    (case l_right_line => k_is)
    (case c_right_line => k_is)
    (case k_right_line => k_is)
    (case a_basin_text => k_is)
    (case l_basin_text => k_is)
    (case c_basin_text => k_is)
    (case k_basin_text => k_is)
    (case a_lw_same => k_is)
    (case l_lw_same => k_is)
    (case c_lw_same => k_is)
    (case k_lw_same => k_is)
    (case a_site_number => k_is)
    (case l_site_number => k_is)
    (case c_site_number => k_is)
    (case k_site_number => k_is)
    (case a_number => k_is)
    (case l_number => k_is)
    (case c_number => k_is)
    (case k_number => k_is)
    (case a_number_within => k_is)
    (case l_number_within => k_is)
    (case c_number_within => k_is)
    (case k_number_within => k_is)
    (case a_is_name => k_is)
    (case l_is_name => k_is)
    (case c_is_name => k_is)
    (case k_is_name => k_is)
    (case a_read_piece => k_is)
    (case l_read_piece => k_is)
    (case c_read_piece => k_is)
    (case k_read_piece => k_is)
    (case a_read_told => k_is)
    (case l_read_told => k_is)
    (case c_read_told => k_is)
    (case k_read_told => k_is)
    (case a_read_amounts => k_is)
    (case l_read_amounts => k_is)
    (case c_read_amounts => k_is)
    (case k_read_amounts => k_is)
    (case a_read_site => k_is)
    (case l_read_site => k_is)
    (case c_read_site => k_is)
    (case k_read_site => k_is)
    (case a_right_fault => k_is)
    (case l_right_fault => k_is)
    (case c_right_fault => k_is)
    (case k_right_fault => k_is)
    (case a_site_fault => k_is)
    (case l_site_fault => k_is)
    (case c_site_fault => k_is)
    (case k_site_fault => k_is)
    (case a_read_right => k_is)
    (case l_read_right => k_is)
    (case c_read_right => k_is)
    (case k_read_right => k_is)
    (case a_add_line => k_is)
    (case l_add_line => k_is)
    (case c_add_line => k_is)
    (case k_add_line => k_is)
    (case a_next_fault => k_is)
    (case l_next_fault => k_is)
    (case c_next_fault => k_is)
    (case k_next_fault => k_is)
    (case a_parse_basin => k_is)
    (case l_parse_basin => k_is)
    (case c_parse_basin => k_is)
    (case k_parse_basin => k_is)
    (case a_route => k_is)
    (case l_route => k_is)
    (case c_route => k_is)
    (case k_route => k_is)
    (case a_upstream => k_is)
    (case l_upstream => k_is)
    (case c_upstream => k_is)
    (case k_upstream => k_is)
    (case a_claim_size => k_is)
    (case l_claim_size => k_is)
    (case c_claim_size => k_is)
    (case k_claim_size => k_is)
    (case a_claim_cell => k_is)
    (case l_claim_cell => k_is)
    (case c_claim_cell => k_is)
    (case k_claim_cell => k_is)
    (case a_law => k_is)
    (case l_law => k_is)
    (case c_law => k_is)
    (case k_law => k_is)
    (case zb_len => k_is)
    (case zb_int => k_is)
    (case zb_range => k_is)
    (case zb_tuple => k_is)
    (case zb_str => k_is)
    (case zb_repr => k_is)
    (case zb_enumerate => k_is)
    (case zb_zip => k_is)
    (case zc_NAME => k_is)
    (case zc_MOST_DIGITS => k_is)
    (case zc_ABOVE_ALL => k_is)
    (case zc_MOST_LETTERS => k_is)
    (case zc_MOST_TRAVEL => k_is)
    (case zc_MOST_WATER => k_is)
    (case zc_MOST_MONTHS => k_is)
    (case zc_RIGHT_SITE => k_is)
    (case zc_MOST_RIGHTS => k_is)
    (case zc_MOST_SITES => k_is)
    (case zc_HELD => k_is)
    (case zc_ROOM => k_is)
    (case zc_INFLOWS => k_is)
    (case zc_NEXT => k_is)
    (case zc_TRAVEL => k_is)
    (case zc_DEMANDS => k_is)
    (case zc_SITE_WORDS => k_is)
    (case yc_SITE_WORDS => k_is)
