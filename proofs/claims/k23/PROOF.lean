import PyProof.Rows.All
import Wide.All
import OpenK.AllK
import Wide.FinOn
import HandS.ForMost
import HandS.RaiseMore
import HandS.StrMore
import HandS.Zip
import KE.GoesEnum
import KE.GoesMore
import HandS.TupAny
import PySem.Challenge.RW_heldwater_k23_lea_rights_under_leases
set_option Elab.async false
set_option linter.all false
set_option maxRecDepth 100000
/-! DA: values as data. A data value D stands for a Python value by what the heap holds; a cell is data or a place of the store of lists and dicts that still change. -/
namespace DL
open PySem L2

/-- data: no address in it -/
inductive D where
  | non | bl (b : Bool) | int (i : Int) | str (x : Str) | tup (ds : List D) | lst (ds : List D) | wls (ds : List D) | dct (kvs : List (Key × D))
/-- data, or the k-th object of the store -/
inductive C where
  | d (x : D) | p (k : Nat)
/-- an object that may change -/
inductive SO where
  | lst (cs : List C) | dct (kvs : List (Key × C)) | fro (x : D)
def SO.isFro : SO → Bool
  | .fro _ => true
  | _ => false
abbrev Env := List (Option C)
abbrev Sto := List SO

mutual
inductive Rep (K : PySem.W.Frag) (F : Hp) : D → V → Prop
  | non : Rep K F .non .non
  | bl {b : Bool} : Rep K F (.bl b) (.bl b)
  | int {i : Int} : Rep K F (.int i) (.int i)
  | str {x : Str} : Rep K F (.str x) (.str x)
  | tup {ds : List D} {a : Addr} {vs : List V} : SqT K F a vs → Reps K F ds vs → Rep K F (.tup ds) (.ref a)
  | lst {ds : List D} {a : Addr} {vs : List V} : F a = some (.lst vs) → Reps K F ds vs → Rep K F (.lst ds) (.ref a)
  | wls {ds : List D} {a : Addr} {vs : List V} : SqL K F a vs → Reps K F ds vs → Rep K F (.wls ds) (.ref a)
  | dct {kvs : List (Key × D)} {a : Addr} {vs : List V} : F a = some (.dK ((kvs.map (·.1)).zip vs)) → Reps K F (kvs.map (·.2)) vs → Rep K F (.dct kvs) (.ref a)
inductive Reps (K : PySem.W.Frag) (F : Hp) : List D → List V → Prop
  | nil : Reps K F [] []
  | cons {x : D} {v : V} {xs : List D} {vs : List V} : Rep K F x v → Reps K F xs vs → Reps K F (x :: xs) (v :: vs)
end

section
variable {K : PySem.W.Frag} {F F' H H' : Hp}
theorem same_sqt {a : Addr} {vs : List V} (e : Same F F') (h : SqT K F a vs) : SqT K F' a vs := by
  rcases h with (h | ⟨o, h⟩) | h
  · exact .inl (.inl (e _ _ h))
  · exact .inl (.inr ⟨o, e _ _ h⟩)
  · exact .inr h
mutual
theorem Rep.mono (e : Same F F') : ∀ {x : D} {v : V}, Rep K F x v → Rep K F' x v
  | _, _, .non => .non
  | _, _, .bl => .bl
  | _, _, .int => .int
  | _, _, .str => .str
  | _, _, .tup h r => .tup (same_sqt e h) (Reps.mono e r)
  | _, _, .lst h r => .lst (e _ _ h) (Reps.mono e r)
  | _, _, .wls h r => .wls (e.seq h) (Reps.mono e r)
  | _, _, .dct h r => .dct (e _ _ h) (Reps.mono e r)
theorem Reps.mono (e : Same F F') : ∀ {xs : List D} {vs : List V}, Reps K F xs vs → Reps K F' xs vs
  | _, _, .nil => .nil
  | _, _, .cons h r => .cons (Rep.mono e h) (Reps.mono e r)
end
theorem Reps.len : ∀ {xs : List D} {vs : List V}, Reps K F xs vs → xs.length = vs.length
  | _, _, .nil => rfl
  | _, _, .cons _ r => by rw [List.length_cons, List.length_cons, r.len]
theorem Reps.get : ∀ {xs : List D} {vs : List V} {i : Nat} {x : D}, Reps K F xs vs → xs[i]? = some x → ∃ v, vs[i]? = some v ∧ Rep K F x v
  | _, _, _, _, .nil, h => by simp at h
  | _, _, 0, _, .cons h _, e => by simp at e; subst e; exact ⟨_, rfl, h⟩
  | _, _, i + 1, _, .cons _ r, e => by
    obtain ⟨v, h1, h2⟩ := Reps.get (i := i) r (by simpa using e)
    exact ⟨v, by simpa using h1, h2⟩
theorem Reps.app : ∀ {xs ys : List D} {vs us : List V}, Reps K F xs vs → Reps K F ys us → Reps K F (xs ++ ys) (vs ++ us)
  | _, _, _, _, .nil, q => q
  | _, _, _, _, .cons h r, q => .cons h (r.app q)
theorem Reps.set : ∀ {xs : List D} {vs : List V} {i : Nat} {x : D} {v : V}, Reps K F xs vs → Rep K F x v → Reps K F (xs.set i x) (vs.set i v)
  | _, _, _, _, _, .nil, _ => .nil
  | _, _, 0, _, _, .cons _ r, q => .cons q r
  | _, _, i + 1, _, _, .cons h r, q => .cons h (r.set q)
theorem Reps.take : ∀ {xs : List D} {vs : List V} (n : Nat), Reps K F xs vs → Reps K F (xs.take n) (vs.take n)
  | _, _, 0, _ => .nil
  | _, _, _ + 1, .nil => .nil
  | _, _, n + 1, .cons h r => .cons h (r.take n)
theorem Reps.drop : ∀ {xs : List D} {vs : List V} (n : Nat), Reps K F xs vs → Reps K F (xs.drop n) (vs.drop n)
  | _, _, 0, r => r
  | _, _, _ + 1, .nil => .nil
  | _, _, n + 1, .cons _ r => r.drop n

/-- top-level content may stand in H alone (an object of the store) -/
inductive RepP (K : PySem.W.Frag) (F H : Hp) : D → V → Prop
  | non : RepP K F H .non .non
  | bl {b : Bool} : RepP K F H (.bl b) (.bl b)
  | int {i : Int} : RepP K F H (.int i) (.int i)
  | str {x : Str} : RepP K F H (.str x) (.str x)
  | tup {ds : List D} {a : Addr} {vs : List V} : SqT K F a vs → Reps K F ds vs → RepP K F H (.tup ds) (.ref a)
  | lst {ds : List D} {a : Addr} {vs : List V} : H a = some (.lst vs) → Reps K F ds vs → RepP K F H (.lst ds) (.ref a)
  | wls {ds : List D} {a : Addr} {vs : List V} : SqL K F a vs → Reps K F ds vs → RepP K F H (.wls ds) (.ref a)
  | dct {kvs : List (Key × D)} {a : Addr} {vs : List V} : H a = some (.dK ((kvs.map (·.1)).zip vs)) → Reps K F (kvs.map (·.2)) vs → RepP K F H (.dct kvs) (.ref a)
theorem Rep.p (e : Same F H) {x : D} {v : V} : Rep K F x v → RepP K F H x v
  | .non => .non
  | .bl => .bl
  | .int => .int
  | .str => .str
  | .tup h r => .tup h r
  | .lst h r => .lst (e _ _ h) r
  | .wls h r => .wls h r
  | .dct h r => .dct (e _ _ h) r

def RepC (K : PySem.W.Frag) (F : Hp) (A : List Addr) : C → V → Prop
  | .d x, v => Rep K F x v
  | .p k, v => ∃ a, A[k]? = some a ∧ v = .ref a
inductive RepCs (K : PySem.W.Frag) (F : Hp) (A : List Addr) : List C → List V → Prop
  | nil : RepCs K F A [] []
  | cons {c : C} {v : V} {cs : List C} {vs : List V} : RepC K F A c v → RepCs K F A cs vs → RepCs K F A (c :: cs) (v :: vs)
theorem RepC.mono {A : List Addr} {c : C} {v : V} (e : Same F F') (h : RepC K F A c v) : RepC K F' A c v := by
  cases c with
  | d y => exact Rep.mono e h
  | p k => exact h
theorem RepCs.mono {A : List Addr} (e : Same F F') : ∀ {cs : List C} {vs : List V}, RepCs K F A cs vs → RepCs K F' A cs vs
  | _, _, .nil => .nil
  | _, _, .cons h r => .cons (h.mono e) (r.mono e)
theorem RepCs.len {A : List Addr} : ∀ {cs : List C} {vs : List V}, RepCs K F A cs vs → cs.length = vs.length
  | _, _, .nil => rfl
  | _, _, .cons _ r => by rw [List.length_cons, List.length_cons, r.len]
theorem RepCs.get {A : List Addr} : ∀ {cs : List C} {vs : List V} {i : Nat} {c : C}, RepCs K F A cs vs → cs[i]? = some c → ∃ v, vs[i]? = some v ∧ RepC K F A c v
  | _, _, _, _, .nil, h => by simp at h
  | _, _, 0, _, .cons h _, e => by simp at e; subst e; exact ⟨_, rfl, h⟩
  | _, _, i + 1, _, .cons _ r, e => by
    obtain ⟨v, h1, h2⟩ := RepCs.get (i := i) r (by simpa using e)
    exact ⟨v, by simpa using h1, h2⟩
theorem RepCs.app {A : List Addr} : ∀ {xs ys : List C} {vs us : List V}, RepCs K F A xs vs → RepCs K F A ys us → RepCs K F A (xs ++ ys) (vs ++ us)
  | _, _, _, _, .nil, q => q
  | _, _, _, _, .cons h r, q => .cons h (r.app q)
theorem RepCs.set {A : List Addr} : ∀ {xs : List C} {vs : List V} {i : Nat} {x : C} {v : V}, RepCs K F A xs vs → RepC K F A x v → RepCs K F A (xs.set i x) (vs.set i v)
  | _, _, _, _, _, .nil, _ => .nil
  | _, _, 0, _, _, .cons _ r, q => .cons q r
  | _, _, i + 1, _, _, .cons h r, q => .cons h (r.set q)
theorem RepC.at {A B : List Addr} {c : C} {v : V} (h : RepC K F A c v) : RepC K F (A ++ B) c v := by
  cases c with
  | d x => exact h
  | p k =>
    obtain ⟨a, h1, h2⟩ := h
    exact ⟨a, by rw [List.getElem?_append_left (List.getElem?_eq_some_iff.mp h1).1]; exact h1, h2⟩
theorem RepCs.at {A B : List Addr} : ∀ {cs : List C} {vs : List V}, RepCs K F A cs vs → RepCs K F (A ++ B) cs vs
  | _, _, .nil => .nil
  | _, _, .cons h r => .cons h.at r.at
theorem Reps.cs {A : List Addr} : ∀ {ds : List D} {vs : List V}, Reps K F ds vs → RepCs K F A (ds.map .d) vs
  | _, _, .nil => .nil
  | _, _, .cons h r => .cons h r.cs
/-- all of them data -/
def allD : List C → Option (List D)
  | [] => some []
  | .d x :: cs => (allD cs).map (x :: ·)
  | .p _ :: _ => none
theorem allD_map (ds : List D) : allD (ds.map .d) = some ds := by
  induction ds with
  | nil => rfl
  | cons d ds ih => simp only [List.map_cons, allD, ih, Option.map_some]
theorem allD_reps {A : List Addr} : ∀ {cs : List C} {vs : List V} {ds : List D}, RepCs K F A cs vs → allD cs = some ds → Reps K F ds vs
  | _, _, _, .nil, h => by cases h; exact .nil
  | _, _, _, .cons (c := .d x) hr r, h => by
    simp only [allD, Option.map_eq_some_iff] at h
    obtain ⟨ds, h1, rfl⟩ := h
    exact .cons hr (allD_reps r h1)
  | _, _, _, .cons (c := .p _) _ _, h => by cases h
def SObj (K : PySem.W.Frag) (F H : Hp) (A : List Addr) (a : Addr) : SO → Prop
  | .lst cs => ∃ vs, H a = some (.lst vs) ∧ RepCs K F A cs vs
  | .dct kvs => ∃ vs, H a = some (.dK ((kvs.map (·.1)).zip vs)) ∧ RepCs K F A (kvs.map (·.2)) vs
  | .fro x => F a ≠ none ∧ Rep K F x (.ref a)
/-- F: what will not change; A: where the store's objects stand -/
structure SS (K : PySem.W.Frag) (F H : Hp) (A : List Addr) (st : Sto) : Prop where
  ex : Same F H
  len : A.length = st.length
  nd : A.Nodup
  fr : ∀ (k : Nat) (a : Addr) (o : SO), A[k]? = some a → st[k]? = some o → o.isFro = false → F a = none
  obj : ∀ (k : Nat) (a : Addr) (o : SO), A[k]? = some a → st[k]? = some o → SObj K F H A a o
structure Grow (A : List Addr) (F H F' H' : Hp) : Prop where
  ex : Same F F'
  new : ∀ a, F' a ≠ none → F a ≠ none ∨ H a = none ∨ a ∈ A
  keep : ∀ b o, H b = some o → b ∉ A → H' b = some o
  dom : ∀ b, H b ≠ none → H' b ≠ none
theorem Grow.refl {A : List Addr} : Grow A F H F H := ⟨Same.refl F, fun _ h => .inl h, fun _ _ h _ => h, fun _ h => h⟩
theorem Grow.trans {A : List Addr} {F1 H1 F2 H2 : Hp} (a : Grow A F H F1 H1) (b : Grow A F1 H1 F2 H2) : Grow A F H F2 H2 where
  ex := a.ex.trans b.ex
  new := fun x h => by
    rcases b.new x h with h | h | h
    · exact a.new x h
    · refine .inr (.inl ?_)
      cases q : H x with
      | none => rfl
      | some o => exact absurd h (a.dom x (by rw [q]; exact fun z => nomatch z))
    · exact .inr (.inr h)
  keep := fun x o h n => b.keep x o (a.keep x o h n) n
  dom := fun x h => b.dom x (a.dom x h)
theorem SObj.mono {A : List Addr} {a : Addr} {o : SO} (e : Same F F') (h : SObj K F H A a o) (hk : ∀ u, H a = some u → H' a = some u) : SObj K F' H' A a o := by
  cases o with
  | lst ds => obtain ⟨vs, h1, h2⟩ := h; exact ⟨vs, hk _ h1, h2.mono e⟩
  | dct kvs => obtain ⟨vs, h1, h2⟩ := h; exact ⟨vs, hk _ h1, h2.mono e⟩
  | fro x =>
    refine ⟨fun z => ?_, h.2.mono e⟩
    cases q : F a with
    | none => exact h.1 q
    | some u => rw [e _ _ q] at z; cases z
theorem SObj.at {A B : List Addr} {a : Addr} {o : SO} (h : SObj K F H A a o) : SObj K F H (A ++ B) a o := by
  cases o with
  | lst ds => obtain ⟨vs, h1, h2⟩ := h; exact ⟨vs, h1, h2.at⟩
  | dct kvs => obtain ⟨vs, h1, h2⟩ := h; exact ⟨vs, h1, h2.at⟩
  | fro x => exact h
theorem SObj.there {A : List Addr} {a : Addr} {o : SO} (e : Same F H) (h : SObj K F H A a o) : H a ≠ none := by
  cases o with
  | lst ds => obtain ⟨vs, h1, _⟩ := h; rw [h1]; exact fun z => nomatch z
  | dct ds => obtain ⟨vs, h1, _⟩ := h; rw [h1]; exact fun z => nomatch z
  | fro x =>
    intro z
    cases q : F a with
    | none => exact h.1 q
    | some u => rw [e _ _ q] at z; cases z
theorem SS.at_ {A : List Addr} {st : Sto} {q : Addr} (S : SS K F H A st) (ha : q ∈ A) : ∃ (k : Nat) (o : SO), A[k]? = some q ∧ st[k]? = some o := by
  obtain ⟨k, hk⟩ := List.getElem?_of_mem ha
  have hl : k < st.length := by rw [← S.len]; exact (List.getElem?_eq_some_iff.mp hk).1
  exact ⟨k, st[k], hk, List.getElem?_eq_getElem hl⟩
theorem SS.there {A : List Addr} {st : Sto} {q : Addr} (S : SS K F H A st) (ha : q ∈ A) : H q ≠ none := by
  obtain ⟨k, o, h1, h2⟩ := S.at_ ha
  exact (S.obj k q o h1 h2).there S.ex
theorem SS.fresh {A : List Addr} {st : Sto} {q : Addr} (S : SS K F H A st) (hq : H q = none) : q ∉ A := fun ha => S.there ha hq
/-- a new thing that will not change -/
theorem SS.new {A : List Addr} {st : Sto} {q : Addr} {o : HO} (S : SS K F H A st) (hq : H q = none) : SS K (upd F q o) (upd H q o) A st where
  ex := fun b u h => by
    by_cases e : b = q
    · subst e; rw [upd_same] at h ⊢; exact h
    · rw [upd_ne e] at h ⊢; exact S.ex b u h
  len := S.len
  nd := S.nd
  fr := fun k a u hk hu hf => by
    have hn : a ≠ q := fun z => S.fresh hq (by rw [← z]; exact List.mem_of_getElem? hk)
    rw [upd_ne hn]; exact S.fr k a u hk hu hf
  obj := fun k a o' hk ho => by
    refine (S.obj k a o' hk ho).mono (fun b u h => ?_) fun u hu => ?_
    · have : b ≠ q := fun z => by subst z; rw [show F b = none from (Same.free S.ex hq)] at h; cases h
      rw [upd_ne this]; exact h
    · rw [upd_ne (ne_of_none hu hq)]; exact hu
theorem Grow.new1 {A : List Addr} {q : Addr} {o : HO} (hF : F q = none) (hq : H q = none) : Grow A F H (upd F q o) (upd H q o) where
  ex := fun b u h => by
    have : b ≠ q := fun z => by subst z; rw [hF] at h; cases h
    rw [upd_ne this]; exact h
  new := fun a h => by
    by_cases e : a = q
    · subst e; exact .inr (.inl hq)
    · rw [upd_ne e] at h; exact .inl h
  keep := fun b u h _ => by rw [upd_ne (ne_of_none h hq)]; exact h
  dom := fun b h => by
    by_cases e : b = q
    · subst e; rw [upd_same]; exact fun z => nomatch z
    · rw [upd_ne e]; exact h

/-- what a cell holds, where all in it is data -/
def deref (st : Sto) : C → Option D
  | .d x => some x
  | .p k => match st[k]? with
    | some (.lst cs) => (allD cs).map .lst
    | some (.dct kvs) => (allD (kvs.map (·.2))).map fun ds => .dct ((kvs.map (·.1)).zip ds)
    | some (.fro x) => some x
    | none => none
theorem zip_fst {α β : Type} : ∀ {xs : List α} {ys : List β}, xs.length = ys.length → (xs.zip ys).map (·.1) = xs
  | [], [], _ => rfl
  | x :: xs, y :: ys, h => by
    show x :: (xs.zip ys).map (·.1) = x :: xs
    rw [zip_fst (by simpa using h)]
  | [], _ :: _, h => by simp at h
  | _ :: _, [], h => by simp at h
theorem zip_snd {α β : Type} : ∀ {xs : List α} {ys : List β}, xs.length = ys.length → (xs.zip ys).map (·.2) = ys
  | [], [], _ => rfl
  | x :: xs, y :: ys, h => by
    show y :: (xs.zip ys).map (·.2) = y :: ys
    rw [zip_snd (by simpa using h)]
  | [], _ :: _, h => by simp at h
  | _ :: _, [], h => by simp at h
theorem SS.deref {A : List Addr} {st : Sto} {c : C} {v : V} {x : D} (S : SS K F H A st) (r : RepC K F A c v) (h : deref st c = some x) : RepP K F H x v := by
  cases c with
  | d y => cases h; exact Rep.p S.ex r
  | p k =>
    obtain ⟨a, ha, rfl⟩ := r
    simp only [DL.deref] at h
    split at h
    · rename_i cs e
      simp only [Option.map_eq_some_iff] at h
      obtain ⟨ds, h1, rfl⟩ := h
      obtain ⟨vs, h2, h3⟩ := S.obj k a _ ha e
      exact .lst h2 (allD_reps h3 h1)
    · rename_i kvs e
      simp only [Option.map_eq_some_iff] at h
      obtain ⟨ds, h1, rfl⟩ := h
      obtain ⟨vs, h2, h3⟩ := S.obj k a _ ha e
      have h4 := allD_reps h3 h1
      have hl : (kvs.map (·.1)).length = ds.length := by rw [h4.len, ← h3.len, List.length_map, List.length_map]
      exact .dct (by rw [zip_fst hl]; exact h2) (by rw [zip_snd hl]; exact h4)
    · rename_i y e
      cases h
      exact Rep.p S.ex (S.obj k a _ ha e).2
    · cases h

structure SL (K : PySem.W.Frag) (F : Hp) (A : List Addr) (σ : St) (ρ : Env) : Prop where
  len : ρ.length = σ.length
  get : ∀ (i : Nat) (c : C), ρ[i]? = some (some c) → ∃ v, σ[i]? = some (some v) ∧ RepC K F A c v
theorem SL.mono {A : List Addr} {σ : St} {ρ : Env} (e : Same F F') (h : SL K F A σ ρ) : SL K F' A σ ρ := ⟨h.len, fun i c q => by
  obtain ⟨v, h1, h2⟩ := h.get i c q
  exact ⟨v, h1, h2.mono e⟩⟩
theorem SL.set {A : List Addr} {σ : St} {ρ : Env} {i : Nat} {c : C} {v : V} (h : SL K F A σ ρ) (r : RepC K F A c v) : SL K F A (σ.set i (some v)) (ρ.set i (some c)) := ⟨by rw [List.length_set, List.length_set, h.len], fun j c' q => by
  by_cases e : j = i
  · subst e
    by_cases hl : j < ρ.length
    · rw [List.getElem?_set_self hl] at q
      cases q
      exact ⟨v, by rw [List.getElem?_set_self (by rw [← h.len]; exact hl)], r⟩
    · rw [List.getElem?_eq_none (by rw [List.length_set]; omega)] at q; cases q
  · rw [List.getElem?_set_ne (Ne.symm e)] at q
    obtain ⟨w, h1, h2⟩ := h.get j c' q
    exact ⟨w, by rw [List.getElem?_set_ne (Ne.symm e)]; exact h1, h2⟩⟩
end

/-! ### readings by data -/
abbrev GE := Env → Sto → Option (C × Sto)
abbrev GT := Env → Sto → Option (Bool × Sto)
abbrev GA := Env → Sto → Option (List C × Sto)
inductive Res where
  | nx (ρ : Env) (st : Sto) | rt (c : C) (st : Sto) | bk (ρ : Env) (st : Sto) | ct (ρ : Env) (st : Sto)
abbrev GS := Env → Sto → Option Res
def tD (K : PySem.W.Frag) (G : GE) : TE := fun σ H Q => ∃ F A ρ st c st', SS K F H A st ∧ SL K F A σ ρ ∧ G ρ st = some (c, st') ∧
  ∀ v F' H', Grow A F H F' H' → SS K F' H' A st' → RepC K F' A c v → Q v H'
def tDT (K : PySem.W.Frag) (G : GT) : TT := fun σ H Q => ∃ F A ρ st b st', SS K F H A st ∧ SL K F A σ ρ ∧ G ρ st = some (b, st') ∧
  ∀ F' H', Grow A F H F' H' → SS K F' H' A st' → Q b H'
def tDA (K : PySem.W.Frag) (G : GA) : TA := fun σ H Q => ∃ F A ρ st cs st', SS K F H A st ∧ SL K F A σ ρ ∧ G ρ st = some (cs, st') ∧
  ∀ vs F' H', Grow A F H F' H' → SS K F' H' A st' → RepCs K F' A cs vs → Q vs H'
structure GrowS (A : List Addr) (F H : Hp) (A' : List Addr) (F' H' : Hp) : Prop where
  g : Grow A F H F' H'
  app : ∃ B, A' = A ++ B ∧ ∀ b, b ∈ B → H b = none
def Fin (K : PySem.W.Frag) (F H : Hp) (A : List Addr) (Dn : Ends) : Res → Prop
  | .nx ρ st => ∀ σ F' H' A', GrowS A F H A' F' H' → SS K F' H' A' st → SL K F' A' σ ρ → Dn.nx σ H'
  | .rt c st => ∀ v F' H' A', GrowS A F H A' F' H' → SS K F' H' A' st → RepC K F' A' c v → Dn.rt v H'
  | .bk ρ st => ∀ σ F' H' A', GrowS A F H A' F' H' → SS K F' H' A' st → SL K F' A' σ ρ → Dn.bk σ H'
  | .ct ρ st => ∀ σ F' H' A', GrowS A F H A' F' H' → SS K F' H' A' st → SL K F' A' σ ρ → Dn.ct σ H'
def tDS (K : PySem.W.Frag) (G : GS) : TS := fun Dn σ H => ∃ F A ρ st r, SS K F H A st ∧ SL K F A σ ρ ∧ G ρ st = some r ∧ Fin K F H A Dn r
theorem GrowS.refl {A : List Addr} {F H : Hp} : GrowS A F H A F H := ⟨.refl, [], by simp, fun _ h => by simp at h⟩
theorem GrowS.of {A : List Addr} {F H F' H' : Hp} (g : Grow A F H F' H') : GrowS A F H A F' H' := ⟨g, [], by simp, fun _ h => by simp at h⟩
theorem GrowS.trans {A A1 A2 : List Addr} {F H F1 H1 F2 H2 : Hp} (a : GrowS A F H A1 F1 H1) (b : GrowS A1 F1 H1 A2 F2 H2) : GrowS A F H A2 F2 H2 := by
  obtain ⟨B1, rfl, n1⟩ := a.app
  obtain ⟨B2, rfl, n2⟩ := b.app
  have back : ∀ x, H1 x = none → H x = none := fun x h => by
    cases q : H x with
    | none => rfl
    | some o => exact absurd h (a.g.dom x (by rw [q]; exact fun z => nomatch z))
  refine ⟨⟨a.g.ex.trans b.g.ex, fun x h => ?_, fun x o h n => ?_, fun x h => b.g.dom x (a.g.dom x h)⟩, B1 ++ B2, by rw [List.append_assoc], fun x h => ?_⟩
  · rcases b.g.new x h with h | h | h
    · exact a.g.new x h
    · exact .inr (.inl (back x h))
    · rcases List.mem_append.mp h with z | z
      · exact .inr (.inr z)
      · exact .inr (.inl (n1 x z))
  · refine b.g.keep x o (a.g.keep x o h n) fun z => ?_
    rcases List.mem_append.mp z with z | z
    · exact n z
    · rw [n1 x z] at h; cases h
  · rcases List.mem_append.mp h with z | z
    · exact n1 x z
    · exact back x (n2 x z)

/-! ### weaker readings -/
section
variable {X : Cx}
theorem pe_imp {e : Expr} {t u : TE} (h : PE X e t) (q : ∀ σ H Q, u σ H Q → t σ H Q) : PE X e u := ⟨fun pins s σ H Q I z => h.run pins s σ H Q I (q σ H Q z)⟩
theorem pt_imp {e : Expr} {t u : TT} (h : PT X e t) (q : ∀ σ H Q, u σ H Q → t σ H Q) : PT X e u := ⟨fun pins s σ H Q I z => h.run pins s σ H Q I (q σ H Q z)⟩
theorem pa_imp {e : List Expr} {t u : TA} (h : PA X e t) (q : ∀ σ H Q, u σ H Q → t σ H Q) : PA X e u := ⟨fun pos pins s σ H Q I z => h.run pos pins s σ H Q I (q σ H Q z)⟩
theorem ps_imp {e : Stmt} {t u : TS} (h : PS X e t) (q : ∀ D σ H, u D σ H → t D σ H) : PS X e u := ⟨fun pins s σ H Q I z => h.run pins s σ H Q I (q Q σ H z)⟩
theorem pss_imp {e : List Stmt} {t u : TS} (h : PSs X e t) (q : ∀ D σ H, u D σ H → t D σ H) : PSs X e u := ⟨fun pins s σ H Q I z => h.run pins s σ H Q I (q Q σ H z)⟩
end
end DL
/-! DB: expressions by data. -/
namespace DL
open PySem PySem.Spec PyProof.Rows L2

section
variable {X : Cx} {pos : Pos}
/-! ### names, constants -/
def eV (i : Nat) : GE := fun ρ st => match ρ[i]? with
  | some (some c) => some (c, st)
  | _ => none
def eK (x : D) : GE := fun _ st => some (.d x, st)
theorem de_v (i : Nat) {x : Str} {pos : Pos} (hN : X.N[i]? = some x := by rfl) (hv : Vis X.env.scope x := by first | exact Or.inl rfl | exact Or.inr (Or.inl rfl) | exact Or.inr (Or.inr rfl)) (hd : (x == ("__debug__" : Str)) = false := by decide)
    (hcd : (x == ("__classdict__" : Str)) = false := by decide) : PE X (.Name x pos) (tD X.K (eV i)) := by
  refine pe_imp (pe_var hN hv hd hcd) fun σ H Q ⟨F, A, ρ, st, c, st', S, L, g, k⟩ => ?_
  unfold eV at g
  split at g
  · rename_i c' e
    cases g
    obtain ⟨v, h1, h2⟩ := L.get i _ e
    exact ⟨v, h1, k v F H .refl S h2⟩
  · cases g
theorem k_imp {x : D} {v : V} (hv : ∀ F, Rep X.K F x v) : ∀ σ H Q, tD X.K (eK x) σ H Q → tC v σ H Q := fun σ H Q ⟨F, A, ρ, st, c, st', S, L, g, k⟩ => by
  cases g
  exact k v F H .refl S (hv F)
theorem de_int {i : Int} {j pos} : PE X (.Constant (.int i) j pos) (tD X.K (eK (.int i))) := pe_imp pe_int (k_imp fun _ => .int)
theorem de_bl {b : Bool} {j pos} : PE X (.Constant (.bool b) j pos) (tD X.K (eK (.bl b))) := pe_imp pe_bl (k_imp fun _ => .bl)
theorem de_non {j pos} : PE X (.Constant .none j pos) (tD X.K (eK .non)) := pe_imp pe_non (k_imp fun _ => .non)
theorem de_str {x : Str} {j pos} : PE X (.Constant (.str x) j pos) (tD X.K (eK (.str x))) := pe_imp pe_str (k_imp fun _ => .str)
/-- a module's constant -/
theorem de_gl {x : Str} {pos : Pos} {d : D} {v : V} {u : Value} (hg : Gl X x) (hm : X.mg x = some u) (r : RelV v u) (hv : ∀ F, Rep X.K F d v) (hd : (x == ("__debug__" : Str)) = false := by decide) : PE X (.Name x pos) (tD X.K (eK d)) := pe_imp (pe_glob hg hm r hd) (k_imp hv)
theorem de_gi {x : Str} {pos : Pos} {i : Int} (hg : Gl X x) (hm : ∃ t, X.mg x = some (.int i t)) (hd : (x == ("__debug__" : Str)) = false := by decide) : PE X (.Name x pos) (tD X.K (eK (.int i))) := by
  obtain ⟨t, h⟩ := hm
  exact de_gl hg h (v := .int i) ⟨t, rfl⟩ (fun _ => .int) hd

/-! ### two operands -/
def eOp (g : D → D → Option D) (a b : GE) : GE := fun ρ st => (a ρ st).bind fun p => (b ρ p.2).bind fun q => (deref q.2 p.1).bind fun x => (deref q.2 q.1).bind fun y => (g x y).bind fun z => some (.d z, q.2)
/-- what an operation of derefenced values asks -/
def rDD (K : PySem.W.Frag) (g : D → D → Option D) : R2 := fun v u H Q => ∃ F A st x y z, SS K F H A st ∧ RepP K F H x v ∧ RepP K F H y u ∧ g x y = some z ∧ ∀ w F' H', Grow A F H F' H' → SS K F' H' A st → Rep K F' z w → Q w H'
theorem bind_some {α β : Type} {x : Option α} {f : α → Option β} {b : β} (h : x.bind f = some b) : ∃ a, x = some a ∧ f a = some b := by
  cases x with
  | none => cases h
  | some a => exact ⟨a, rfl, h⟩
theorem bin_imp {K : PySem.W.Frag} {g : D → D → Option D} {a b : GE} {r : R2} (hr : ∀ v u H Q, rDD K g v u H Q → r v u H Q) : ∀ σ H Q, tD K (eOp g a b) σ H Q → tOp r (tD K a) (tD K b) σ H Q := fun σ H Q ⟨F, A, ρ, st, c, st', S, L, h, k⟩ => by
  obtain ⟨⟨c1, st1⟩, h1, h⟩ := bind_some h
  obtain ⟨⟨c2, st2⟩, h2, h⟩ := bind_some h
  obtain ⟨x, hx, h⟩ := bind_some h
  obtain ⟨y, hy, h⟩ := bind_some h
  obtain ⟨z, hz, h⟩ := bind_some h
  cases h
  refine ⟨F, A, ρ, st, c1, st1, S, L, h1, fun v F1 H1 g1 S1 r1 => ⟨F1, A, ρ, st1, c2, st2, S1, L.mono g1.ex, h2, fun u F2 H2 g2 S2 r2 => hr _ _ _ _ ⟨F2, A, st2, x, y, z, S2, S2.deref (r1.mono g2.ex) hx, S2.deref r2 hy, hz, fun w F3 H3 g3 S3 r3 => k w F3 H3 ((g1.trans g2).trans g3) S3 r3⟩⟩⟩
theorem de_op {op : Operator} {g : D → D → Option D} {a b : Expr} {Ga Gb : GE} (ho : OpR X (binaryOp op) (rDD X.K g)) (ha : PE X a (tD X.K Ga)) (hb : PE X b (tD X.K Gb)) : PE X (.BinOp a op b pos) (tD X.K (eOp g Ga Gb)) :=
  pe_imp (pe_op ho ha hb) (bin_imp fun _ _ _ _ h => h)
theorem de_cmp {op : CmpOp} {g : D → D → Option D} {a b : Expr} {Ga Gb : GE} (ho : OpR X (compareOp op) (rDD X.K g)) (ha : PE X a (tD X.K Ga)) (hb : PE X b (tD X.K Gb)) (hm : behindInMarks op b = false) : PE X (.Compare a [op] [b] pos) (tD X.K (eOp g Ga Gb)) :=
  pe_imp (pe_cmpR ho ha hb hm) (bin_imp fun _ _ _ _ h => h)
theorem de_ix {g : D → D → Option D} {a b : Expr} {Ga Gb : GE} (ho : IxR X (rDD X.K g)) (ha : PE X a (tD X.K Ga)) (hb : PE X b (tD X.K Gb)) (hs : PlainIx b := by exact fun _ _ => rfl) : PE X (.Subscript a b pos) (tD X.K (eOp g Ga Gb)) :=
  pe_imp (pe_ix ho ha hb hs) (bin_imp fun _ _ _ _ h => h)

theorem opr_imp {f : Value → Value → Sem Value} {r r' : R2} (h : OpR X f r) (q : ∀ x y H Q, r' x y H Q → r x y H Q) : OpR X f r' := fun pins s σ H x y v u Q I rx ry z => h pins s σ H x y v u Q I rx ry (q x y H Q z)
/-- by the values: each way by a rule -/
theorem opr_by {f : Value → Value → Sem Value} {r' : R2} (q : ∀ x y H Q, r' x y H Q → ∃ r : R2, OpR X f r ∧ r x y H Q) : OpR X f r' := fun pins s σ H x y v u Q I rx ry z => by
  obtain ⟨r, h, w⟩ := q x y H Q z
  exact h pins s σ H x y v u Q I rx ry w

theorem lim6 {n : Nat} (h : n ≤ 1000000) : n ≤ sizeLine := Nat.le_trans h (by decide)
theorem lim6' {n : Nat} (h : n < 1000000) : n < sizeLine := Nat.lt_of_lt_of_le h (by decide)

def addD : D → D → Option D
  | .int i, .int j => some (.int (i + j))
  | .str x, .str y => if x.length + y.length ≤ 1000000 then some (.str (x ++ y)) else none
  | .lst xs, .lst ys => if xs.length + ys.length ≤ 1000000 then some (.lst (xs ++ ys)) else none
  | .tup xs, .tup ys => if xs.length + ys.length ≤ 1000000 then some (.tup (xs ++ ys)) else none
  | _, _ => none
theorem op_addD : OpR X (binaryOp .Add) (rDD X.K addD) := opr_by fun v u H Q ⟨F, A, st, x, y, z, S, rx, ry, hz, k⟩ => by
  cases rx <;> cases ry <;> simp only [addD, reduceCtorEq] at hz
  · cases hz
    exact ⟨_, op_add, _, _, rfl, rfl, k _ F H .refl S .int⟩
  · split at hz
    · cases hz
      rename_i hl
      exact ⟨_, op_add_str, _, _, rfl, rfl, lim6 hl, k _ F H .refl S .str⟩
    · cases hz
  · split at hz
    · cases hz
      rename_i _ vs1 h1 q1 _ _ vs2 h2 q2 _ hl
      refine ⟨_, op_catA, _, _, _, _, rfl, rfl, same_sqt S.ex h1, same_sqt S.ex h2, by rw [← q1.len, ← q2.len]; exact lim6 hl, fun e => ?_, fun _ e => ?_, fun _ _ p hp => ?_⟩
      · subst e
        cases q1
        exact k _ F H .refl S (.tup h2 q2)
      · subst e
        cases q2
        rw [List.append_nil] at k
        exact k _ F H .refl S (.tup h1 q1)
      · have g : Grow A F H (upd F p (.tup (vs1 ++ vs2))) (upd H p (.tup (vs1 ++ vs2))) := .new1 (S.ex.free hp) hp
        exact k _ _ _ g (S.new hp) (.tup (SqT.of upd_same) ((q1.app q2).mono g.ex))
    · cases hz
  · split at hz
    · cases hz
      rename_i _ vs1 h1 q1 _ _ vs2 h2 q2 _ hl
      refine ⟨_, op_cat, _, _, _, _, rfl, rfl, h1, h2, by rw [← q1.len, ← q2.len]; exact lim6 hl, fun p hp => ?_⟩
      have hF : F p = none := S.ex.free hp
      have g : Grow A F H (upd F p (.lst (vs1 ++ vs2))) (upd H p (.lst (vs1 ++ vs2))) := .new1 hF hp
      exact k _ _ _ g (S.new hp) (.lst upd_same ((q1.app q2).mono g.ex))
    · cases hz

def iiD (f : Int → Int → D) : D → D → Option D
  | .int i, .int j => some (f i j)
  | _, _ => none
def ciD (c : Int → Int → Bool) (f : Int → Int → D) : D → D → Option D
  | .int i, .int j => if c i j then some (f i j) else none
  | _, _ => none
theorem ii_of {f : Value → Value → Sem Value} {g : Int → Int → Int} (h : OpR X f (rI0 fun i j => .int (g i j))) : OpR X f (rDD X.K (iiD fun i j => .int (g i j))) := opr_imp h fun v u H Q ⟨F, A, st, x, y, z, S, rx, ry, hz, k⟩ => by
  cases rx <;> cases ry <;> simp only [iiD, reduceCtorEq] at hz
  cases hz
  exact ⟨_, _, rfl, rfl, k _ F H .refl S .int⟩
theorem bi_of {f : Value → Value → Sem Value} {g : Int → Int → Bool} (h : OpR X f (rI0 fun i j => .bl (g i j))) : OpR X f (rDD X.K (iiD fun i j => .bl (g i j))) := opr_imp h fun v u H Q ⟨F, A, st, x, y, z, S, rx, ry, hz, k⟩ => by
  cases rx <;> cases ry <;> simp only [iiD, reduceCtorEq] at hz
  cases hz
  exact ⟨_, _, rfl, rfl, k _ F H .refl S .bl⟩
theorem ci_of {f : Value → Value → Sem Value} {Cc : Int → Int → Prop} {g : Int → Int → Int} {c : Int → Int → Bool} (h : OpR X f (rI Cc fun i j => .int (g i j))) (hc : ∀ i j, c i j = true → Cc i j) : OpR X f (rDD X.K (ciD c fun i j => .int (g i j))) := opr_imp h fun v u H Q ⟨F, A, st, x, y, z, S, rx, ry, hz, k⟩ => by
  cases rx <;> cases ry <;> simp only [ciD, reduceCtorEq] at hz
  split at hz
  · cases hz
    rename_i h1
    exact ⟨_, _, rfl, rfl, hc _ _ h1, k _ F H .refl S .int⟩
  · cases hz
def subD := iiD fun i j => .int (i - j)
def mulD : D → D → Option D
  | .int i, .int j => if (decide (i.natAbs < 18446744073709551616) || decide (j.natAbs < 18446744073709551616)) = true then some (.int (i * j)) else none
  | .lst xs, .int k => if k.natAbs < 1000 ∧ xs.length ≤ 1000 then some (.lst (List.replicate k.toNat xs).flatten) else none
  | _, _ => none
def divD := ciD (fun _ j => decide (0 < j ∧ j < 1073741824)) fun i j => .int (i / j)
def modD := ciD (fun _ j => decide (0 < j)) fun i j => .int (i % j)
def powD := ciD (fun i j => decide (0 ≤ j ∧ j ≤ 1000000 ∧ i.natAbs < 2 ^ 64)) fun i j => .int (i ^ j.toNat)
def ltD := iiD fun i j => .bl (decide (i < j))
def leD := iiD fun i j => .bl (decide (i ≤ j))
def gtD := iiD fun i j => .bl (decide (j < i))
def geD := iiD fun i j => .bl (decide (j ≤ i))
theorem op_subD : OpR X (binaryOp .Sub) (rDD X.K subD) := ii_of op_sub
theorem Reps.rep {K : PySem.W.Frag} {F : Hp} {xs : List D} {vs : List V} (r : Reps K F xs vs) : ∀ n : Nat, Reps K F (List.replicate n xs).flatten (List.replicate n vs).flatten
  | 0 => .nil
  | n + 1 => by
    rw [List.replicate_succ, List.flatten_cons, List.replicate_succ, List.flatten_cons]
    exact r.app (Reps.rep r n)
theorem rep_bits {k : Int} {n : Nat} (h : k.natAbs < 1000 ∧ n ≤ 1000) : -(2 ^ 63) ≤ k ∧ k < 2 ^ 63 ∧ n * k.toNat ≤ sizeLine := by
  have h1 : k.toNat ≤ 1000 := by omega
  have h2 : n * k.toNat ≤ 1000 * 1000 := Nat.mul_le_mul h.2 h1
  exact ⟨by omega, by omega, lim6 (by omega)⟩
theorem op_mulD : OpR X (binaryOp .Mult) (rDD X.K mulD) := opr_by fun v u H Q ⟨F, A, st, x, y, z, S, rx, ry, hz, k⟩ => by
  cases rx <;> cases ry <;> simp only [mulD, reduceCtorEq] at hz
  · split at hz
    · cases hz
      rename_i h1
      exact ⟨_, op_mul, _, _, rfl, rfl, by
        simp only [Bool.or_eq_true, decide_eq_true_eq] at h1
        unfold CMul
        omega, k _ F H .refl S .int⟩
    · cases hz
  · split at hz
    · cases hz
      rename_i _ vs1 h1 q1 i _ hl
      rw [q1.len] at hl
      obtain ⟨b1, b2, b3⟩ := rep_bits hl
      refine ⟨_, op_rep, _, _, _, rfl, rfl, h1, b1, b2, b3, fun p hp => ?_⟩
      have g : Grow A F H (upd F p (.lst (List.replicate i.toNat vs1).flatten)) (upd H p (.lst (List.replicate i.toNat vs1).flatten)) := .new1 (S.ex.free hp) hp
      exact k _ _ _ g (S.new hp) (.lst upd_same ((q1.rep _).mono g.ex))
    · cases hz
theorem op_divD : OpR X (binaryOp .FloorDiv) (rDD X.K divD) := ci_of op_fdiv fun i j h => by simpa [CDiv] using h
theorem op_modD : OpR X (binaryOp .Mod) (rDD X.K modD) := ci_of op_mod fun i j h => by simpa using h
theorem op_powD : OpR X (binaryOp .Pow) (rDD X.K powD) := ci_of op_pow fun i j h => by simpa [CPow] using h
theorem op_ltD : OpR X (compareOp .Lt) (rDD X.K ltD) := bi_of op_lt
theorem op_leD : OpR X (compareOp .LtE) (rDD X.K leD) := bi_of op_le
theorem op_gtD : OpR X (compareOp .Gt) (rDD X.K gtD) := bi_of op_gt
theorem op_geD : OpR X (compareOp .GtE) (rDD X.K geD) := bi_of op_ge

/-! ### is None -/
def isND (neg : Bool) : D → D → Option D
  | x, .non => some (.bl (match x with | .non => !neg | _ => neg))
  | _, _ => none
theorem op_isND : OpR X (compareOp .Is) (rDD X.K (isND false)) := opr_imp op_isN fun v u H Q ⟨F, A, st, x, y, z, S, rx, ry, hz, k⟩ => by
  cases ry <;> simp only [isND, reduceCtorEq] at hz
  cases hz
  refine ⟨rfl, ?_⟩
  cases rx <;> exact k _ F H .refl S .bl
theorem op_notND : OpR X (compareOp .IsNot) (rDD X.K (isND true)) := opr_imp op_notN fun v u H Q ⟨F, A, st, x, y, z, S, rx, ry, hz, k⟩ => by
  cases ry <;> simp only [isND, reduceCtorEq] at hz
  cases hz
  refine ⟨rfl, ?_⟩
  cases rx <;> exact k _ F H .refl S .bl

/-! ### ==, !=: scalars, then data -/
mutual
def toPy : D → Option PyData
  | .non => some .none
  | .bl b => some (.bool b)
  | .int i => some (.int i)
  | .str x => some (.str x)
  | .tup ds => (toPys ds).map .tuple
  | .lst ds => (toPys ds).map .list
  | .wls _ => none
  | .dct _ => none
def toPys : List D → Option (List PyData)
  | [] => some []
  | d :: ds => (toPy d).bind fun p => (toPys ds).bind fun ps => some (p :: ps)
end
mutual
theorem dp_of {K : PySem.W.Frag} {F H : Hp} (e : Same F H) : ∀ {x : D} {v : V} {p : PyData}, Rep K F x v → toPy x = some p → Dp K H v p
  | _, _, _, .non, h => by cases h; exact .non
  | _, _, _, .bl, h => by cases h; exact .bl _
  | _, _, _, .int, h => by cases h; exact .int _
  | _, _, _, .str, h => by cases h; exact .str _
  | _, _, _, .tup hs hr, h => by
    simp only [toPy, Option.map_eq_some_iff] at h
    obtain ⟨ps, h1, rfl⟩ := h
    exact .tup (same_sqt e hs) (dps_of e hr h1)
  | _, _, _, .lst hs hr, h => by
    simp only [toPy, Option.map_eq_some_iff] at h
    obtain ⟨ps, h1, rfl⟩ := h
    exact .lst (SqL.of (e _ _ hs)) (dps_of e hr h1)
  | _, _, _, .wls _ _, h => by simp [toPy] at h
  | _, _, _, .dct _ _, h => by simp [toPy] at h
theorem dps_of {K : PySem.W.Frag} {F H : Hp} (e : Same F H) : ∀ {xs : List D} {vs : List V} {ps : List PyData}, Reps K F xs vs → toPys xs = some ps → DpAll K H vs ps
  | _, _, _, .nil, h => by cases h; exact .nil
  | _, _, _, .cons hr hrs, h => by
    simp only [toPys] at h
    obtain ⟨p, h1, h⟩ := bind_some h
    obtain ⟨ps, h2, h⟩ := bind_some h
    cases h
    exact .cons (dp_of e hr h1) (dps_of e hrs h2)
end
theorem dpp_of {K : PySem.W.Frag} {F H : Hp} (e : Same F H) {x : D} {v : V} {p : PyData} (r : RepP K F H x v) (h : toPy x = some p) : Dp K H v p := by
  cases r with
  | non => cases h; exact .non
  | bl => cases h; exact .bl _
  | int => cases h; exact .int _
  | str => cases h; exact .str _
  | tup hs hr =>
    simp only [toPy, Option.map_eq_some_iff] at h
    obtain ⟨ps, h1, rfl⟩ := h
    exact .tup (same_sqt e hs) (dps_of e hr h1)
  | lst hs hr =>
    simp only [toPy, Option.map_eq_some_iff] at h
    obtain ⟨ps, h1, rfl⟩ := h
    exact .lst (SqL.of hs) (dps_of e hr h1)
  | wls _ _ => simp [toPy] at h
  | dct _ _ => simp [toPy] at h
def eqS : D → D → Option Bool
  | .non, .non => some true
  | .int i, .int j => some (i == j)
  | .str x, .str y => some (x == y)
  | .bl a, .bl b => some (a == b)
  | .non, .int _ => some false
  | .non, .str _ => some false
  | .int _, .non => some false
  | .str _, .non => some false
  | .int _, .str _ => some false
  | .str _, .int _ => some false
  | x, y => (toPy x).bind fun p => (toPy y).bind fun q => if SeqAt.shaped p = true ∧ SeqAt.shaped q = true then some (PyData.eqv p q) else none
def eqD (neg : Bool) (x y : D) : Option D := (eqS x y).map fun b => .bl (if neg then !b else b)
theorem eqD_ways {K : PySem.W.Frag} {F H : Hp} {A : List Addr} {st : Sto} {x y : D} {v u : V} {b : Bool} (S : SS K F H A st) (rx : RepP K F H x v) (ry : RepP K F H y u) (h : eqS x y = some b) :
    (scal v u = true ∧ decide (v = u) = b) ∨ ∃ d e, Dp K H v d ∧ Dp K H u e ∧ SeqAt.shaped d = true ∧ SeqAt.shaped e = true ∧ PyData.eqv d e = b := by
  have deep : ((toPy x).bind fun p => (toPy y).bind fun q => if SeqAt.shaped p = true ∧ SeqAt.shaped q = true then some (PyData.eqv p q) else none) = some b → ∃ d e, Dp K H v d ∧ Dp K H u e ∧ SeqAt.shaped d = true ∧ SeqAt.shaped e = true ∧ PyData.eqv d e = b := fun h => by
    obtain ⟨p, h1, h⟩ := bind_some h
    obtain ⟨q, h2, h⟩ := bind_some h
    split at h
    · rename_i hs
      cases h
      exact ⟨p, q, dpp_of S.ex rx h1, dpp_of S.ex ry h2, hs.1, hs.2, rfl⟩
    · cases h
  cases rx <;> cases ry <;> simp only [eqS] at h <;> first
    | (cases h; exact .inl ⟨rfl, by first | rfl | exact dec_int | exact dec_str | exact dec_bl⟩)
    | exact .inr (deep h)
theorem op_eqDD (hu : X.A.units + 64 < cLine) : OpR X (compareOp .Eq) (rDD X.K (eqD false)) := opr_by fun v u H Q ⟨F, A, st, x, y, z, S, rx, ry, hz, k⟩ => by
  unfold eqD at hz
  cases hb : eqS x y with
  | none => rw [hb] at hz; cases hz
  | some b =>
    rw [hb] at hz
    cases hz
    have kk : Q (.bl b) H := k _ F H .refl S .bl
    rcases eqD_ways S rx ry hb with ⟨h1, h2⟩ | ⟨d, e, h1, h2, h3, h4, h5⟩
    · exact ⟨_, op_eq, h1, by rw [h2]; exact kk⟩
    · exact ⟨_, op_eqD hu, d, e, h1, h2, h3, h4, by rw [h5]; exact kk⟩
theorem op_neDD (hu : X.A.units + 64 < cLine) : OpR X (compareOp .NotEq) (rDD X.K (eqD true)) := opr_by fun v u H Q ⟨F, A, st, x, y, z, S, rx, ry, hz, k⟩ => by
  unfold eqD at hz
  cases hb : eqS x y with
  | none => rw [hb] at hz; cases hz
  | some b =>
    rw [hb] at hz
    cases hz
    have kk : Q (.bl (!b)) H := k _ F H .refl S .bl
    rcases eqD_ways S rx ry hb with ⟨h1, h2⟩ | ⟨d, e, h1, h2, h3, h4, h5⟩
    · exact ⟨_, op_ne, h1, by rw [h2]; exact kk⟩
    · exact ⟨_, op_neD hu, d, e, h1, h2, h3, h4, by rw [h5]; exact kk⟩
end
end DL
/-! DC: index, slices, in, tests, displays, calls. -/
namespace DL
open PySem PySem.Spec PyProof.Rows L2

section
variable {X : Cx} {pos : Pos}
/-! ### index -/
theorem ixN_lt {n : Nat} {i : Int} {j : Nat} (h : ixN n i = some j) : j < n := by
  unfold ixN at h
  split at h
  · split at h
    · cases h; omega
    · cases h
  · split at h
    · cases h; omega
    · cases h
theorem Reps.at {K : PySem.W.Frag} {F : Hp} {xs : List D} {vs : List V} {i : Int} {x : D} (r : Reps K F xs vs) (h : atI xs i = some x) : ∃ v, atI vs i = some v ∧ Rep K F x v := by
  unfold atI at h ⊢
  rw [← r.len]
  cases e : ixN xs.length i with
  | none => rw [e] at h; cases h
  | some j =>
    rw [e] at h
    exact r.get h
def keyD : D → Option Key
  | .int i => some (.inl i)
  | .str x => some (.inr x)
  | _ => none
def lookD (kvs : List (Key × D)) (k : Key) : Option D := (kvs.find? fun kv => decide (kv.1 = k)).map (·.2)
def ixD : D → D → Option D
  | .tup xs, .int i => atI xs i
  | .lst xs, .int i => atI xs i
  | .wls xs, .int i => atI xs i
  | .str x, .int i => if x.length ≤ 1000000 then (atI x.cps.toList i).map fun c => .str ⟨#[c]⟩ else none
  | _, _ => none
theorem ixr_by {r' : R2} (q : ∀ (x y : V) (H : Hp) (Q : VK), r' x y H Q → ∃ r : R2, IxR X r ∧ r x y H Q) : IxR X r' := fun value slice pins s σ H x y v u Q I rx ry z hs => by
  obtain ⟨r, h, w⟩ := q x y H Q z
  exact h value slice pins s σ H x y v u Q I rx ry w hs
theorem ix_D : IxR X (rDD X.K ixD) := ixr_by fun v u H Q ⟨F, A, st, x, y, z, S, rx, ry, hz, k⟩ => by
  cases rx <;> cases ry <;> simp only [ixD, reduceCtorEq] at hz
  · split at hz
    · rename_i hl
      simp only [Option.map_eq_some_iff] at hz
      obtain ⟨c, hc, rfl⟩ := hz
      exact ⟨_, ix_str, _, _, c, rfl, rfl, lim6 hl, hc, k _ F H .refl S .str⟩
    · cases hz
  · rename_i hs hr _ _
    obtain ⟨w, h1, h2⟩ := hr.at hz
    exact ⟨_, ix_tup, _, _, _, w, rfl, rfl, same_sqt S.ex hs, h1, k _ F H .refl S h2⟩
  · rename_i hs hr _ _
    obtain ⟨w, h1, h2⟩ := hr.at hz
    exact ⟨_, ix_list, _, _, _, w, rfl, rfl, SqL.of hs, h1, k _ F H .refl S h2⟩
  · rename_i hs hr _ _
    obtain ⟨w, h1, h2⟩ := hr.at hz
    exact ⟨_, ix_list, _, _, _, w, rfl, rfl, S.ex.seq hs, h1, k _ F H .refl S h2⟩

/-! ### in, not in: flat things -/
def flatD : D → Bool
  | .non => true
  | .bl _ => true
  | .int _ => true
  | .str _ => true
  | _ => false
def toV : D → V
  | .bl b => .bl b
  | .int i => .int i
  | .str x => .str x
  | _ => .non
theorem flat_rep {K : PySem.W.Frag} {F : Hp} {x : D} {v : V} (r : Rep K F x v) (h : flatD x = true) : v = toV x ∧ flatV v = true := by
  cases r <;> first | exact ⟨rfl, rfl⟩ | cases h
theorem flat_repp {K : PySem.W.Frag} {F H : Hp} {x : D} {v : V} (r : RepP K F H x v) (h : flatD x = true) : v = toV x ∧ flatV v = true := by
  cases r <;> first | exact ⟨rfl, rfl⟩ | cases h
theorem flat_reps {K : PySem.W.Frag} {F : Hp} : ∀ {xs : List D} {vs : List V}, Reps K F xs vs → xs.all flatD = true → vs = xs.map toV ∧ vs.all flatV = true
  | _, _, .nil, _ => ⟨rfl, rfl⟩
  | _, _, .cons h r, e => by
    rw [List.all_cons, Bool.and_eq_true] at e
    obtain ⟨h1, h2⟩ := flat_rep h e.1
    obtain ⟨h3, h4⟩ := flat_reps r e.2
    refine ⟨by rw [h1, h3, List.map_cons], by rw [List.all_cons, h2, h4]; rfl⟩
def inD (neg : Bool) : D → D → Option D
  | x, .tup ys => if flatD x = true ∧ ys.all flatD = true then some (.bl (if neg then !inV (toV x) (ys.map toV) else inV (toV x) (ys.map toV))) else none
  | x, .lst ys => if flatD x = true ∧ ys.all flatD = true then some (.bl (if neg then !inV (toV x) (ys.map toV) else inV (toV x) (ys.map toV))) else none
  | _, _ => none
theorem in_ways {K : PySem.W.Frag} {neg : Bool} {v u : V} {H : Hp} {Q : VK} (h : rDD K (inD neg) v u H Q) : rIn K neg v u H Q := by
  obtain ⟨F, A, st, x, y, z, S, rx, ry, hz, k⟩ := h
  cases ry <;> simp only [inD, reduceCtorEq] at hz
  · rename_i hs hr
    split at hz
    · rename_i hf
      cases hz
      obtain ⟨e1, f1⟩ := flat_repp rx hf.1
      obtain ⟨e2, f2⟩ := flat_reps hr hf.2
      exact ⟨_, _, rfl, .inr (same_sqt S.ex hs), f1, f2, by rw [e1, e2]; exact k _ F H .refl S .bl⟩
    · cases hz
  · rename_i hs hr
    split at hz
    · rename_i hf
      cases hz
      obtain ⟨e1, f1⟩ := flat_repp rx hf.1
      obtain ⟨e2, f2⟩ := flat_reps hr hf.2
      exact ⟨_, _, rfl, .inl (SqL.of hs), f1, f2, by rw [e1, e2]; exact k _ F H .refl S .bl⟩
    · cases hz
theorem op_inD : OpR X (compareOp .In) (rDD X.K (inD false)) := opr_imp op_in_seq fun _ _ _ _ h => in_ways h
theorem op_ninD : OpR X (compareOp .NotIn) (rDD X.K (inD true)) := opr_imp op_notIn_seq fun _ _ _ _ h => in_ways h

/-! ### slices -/
def GO := Env → Sto → Option (Option Int × Sto)
def tDO (K : PySem.W.Frag) (G : GO) : TO := fun σ H Q => ∃ F A ρ st o st', SS K F H A st ∧ SL K F A σ ρ ∧ G ρ st = some (o, st') ∧ ∀ F' H', Grow A F H F' H' → SS K F' H' A st' → Q o H'
theorem po_imp {e : Option Expr} {t u : TO} (h : PO X e t) (q : ∀ σ H Q, u σ H Q → t σ H Q) : PO X e u := ⟨fun pins s σ H Q I z => h.run pins s σ H Q I (q σ H Q z)⟩
def oN : GO := fun _ st => some (none, st)
def oI (a : GE) : GO := fun ρ st => (a ρ st).bind fun p => match p.1 with
  | .d (.int i) => some (some i, p.2)
  | _ => none
theorem do_n : PO X none (tDO X.K oN) := po_imp po_none fun σ H Q ⟨F, A, ρ, st, o, st', S, L, g, k⟩ => by
  cases g
  exact k F H .refl S
theorem do_i {e : Expr} {G : GE} (h : PE X e (tD X.K G)) : PO X (some e) (tDO X.K (oI G)) := po_imp (po_some h) fun σ H Q ⟨F, A, ρ, st, o, st', S, L, g, k⟩ => by
  obtain ⟨⟨c, st1⟩, h1, g⟩ := bind_some g
  dsimp only at g
  split at g
  · rename_i i
    cases g
    refine ⟨F, A, ρ, st, _, _, S, L, h1, fun v F1 H1 g1 S1 r1 => ?_⟩
    cases r1
    exact ⟨i, rfl, k F1 H1 g1 S1⟩
  · cases g
def cutD (xs : List D) (lo hi : Option Int) : List D := (xs.drop (HT.sIx xs.length 0 lo)).take (HT.sIx xs.length xs.length hi - HT.sIx xs.length 0 lo)
theorem Reps.cut {K : PySem.W.Frag} {F : Hp} {xs : List D} {vs : List V} {lo hi : Option Int} (r : Reps K F xs vs) : Reps K F (cutD xs lo hi) (cutV vs lo hi) := by
  unfold cutD cutV
  rw [← r.len]
  exact (r.drop _).take _
/-- a slice of a list (a new list), a tuple, a text -/
def slD (l h : Option Int) : D → Option D
  | .lst xs => some (.lst (cutD xs l h))
  | .tup xs => some (.tup (cutD xs l h))
  | .str x => if x.length ≤ 1000000 then some (.str (cutS x l h)) else none
  | _ => none
def rSlD (K : PySem.W.Frag) : V → Option Int → Option Int → Hp → VK → Prop := fun v lo hi H Q => ∃ F A st x z, SS K F H A st ∧ RepP K F H x v ∧ slD lo hi x = some z ∧ ∀ w F' H', Grow A F H F' H' → SS K F' H' A st → Rep K F' z w → Q w H'
theorem cutD_whole {xs : List D} {lo hi : Option Int} (h : HT.sIx xs.length 0 lo = 0 ∧ HT.sIx xs.length xs.length hi = xs.length) : cutD xs lo hi = xs := by
  unfold cutD
  rw [h.1, h.2]
  simp
theorem slr_D : SlR X (rSlD X.K) := fun pins s σ H x v vl vu lo hi sl Q I rx hs pl pu ⟨F, A, st, d, z, S, r, hz, k⟩ => by
  have way : ∃ r, SlR X r ∧ r x lo hi H Q := by
    cases r <;> simp only [slD, reduceCtorEq] at hz
    · split at hz
      · rename_i hl; cases hz
        exact ⟨_, sl_str, _, rfl, lim6 hl, k _ F H .refl S .str⟩
      · cases hz
    · rename_i ds a vs h1 h2 _; cases hz
      refine ⟨_, sl_tupA, _, _, rfl, same_sqt S.ex h1, fun w => ?_, fun w p hp => ?_⟩
      · rw [← h2.len] at w
        refine k _ F H .refl S ?_
        rw [cutD_whole w]
        exact .tup h1 h2
      · have g := Grow.new1 (A := A) (o := .tup (cutV vs lo hi)) (S.ex.free hp) hp
        exact k _ _ _ g (S.new hp) (.tup (SqT.of upd_same) (h2.cut.mono g.ex))
    · rename_i ds a vs h1 h2 _; cases hz
      refine ⟨_, sl_list, _, _, rfl, SqL.of h1, fun p hp => ?_⟩
      have g := Grow.new1 (A := A) (o := .lst (cutV vs lo hi)) (S.ex.free hp) hp
      exact k _ _ _ g (S.new hp) (.lst upd_same (h2.cut.mono g.ex))
  obtain ⟨r, h, w⟩ := way
  exact h pins s σ H x v vl vu lo hi sl Q I rx hs pl pu w
def eSl (a : GE) (lo hi : GO) : GE := fun ρ st => (a ρ st).bind fun p => (lo ρ p.2).bind fun l => (hi ρ l.2).bind fun h => (deref h.2 p.1).bind fun x => (slD l.1 h.1 x).map fun z => (.d z, h.2)
theorem de_sl {e : Expr} {lo hi : Option Expr} {p2 : Pos} {G : GE} {Gl Gh : GO} (he : PE X e (tD X.K G)) (hl : PO X lo (tDO X.K Gl)) (hh : PO X hi (tDO X.K Gh)) : PE X (.Subscript e (.Slice lo hi none p2) pos) (tD X.K (eSl G Gl Gh)) :=
  pe_imp (pe_slice slr_D he hl hh) fun σ H Q ⟨F, A, ρ, st, c, st', S, L, g, k⟩ => by
    obtain ⟨⟨c1, st1⟩, h1, g⟩ := bind_some g
    obtain ⟨⟨l, st2⟩, h2, g⟩ := bind_some g
    obtain ⟨⟨h, st3⟩, h3, g⟩ := bind_some g
    obtain ⟨x, h4, g⟩ := bind_some g
    simp only [Option.map_eq_some_iff, Prod.mk.injEq] at g
    obtain ⟨z, h5, rfl, rfl⟩ := g
    refine ⟨F, A, ρ, st, c1, st1, S, L, h1, fun v F1 H1 g1 S1 r1 => ⟨F1, A, ρ, st1, l, st2, S1, L.mono g1.ex, h2, fun F2 H2 g2 S2 => ⟨F2, A, ρ, st2, h, st3, S2, (L.mono g1.ex).mono g2.ex, h3, fun F3 H3 g3 S3 => ?_⟩⟩⟩
    exact ⟨F3, A, st3, x, z, S3, S3.deref ((r1.mono g2.ex).mono g3.ex) h4, h5, fun w F4 H4 g4 S4 r4 => k w F4 H4 (((g1.trans g2).trans g3).trans g4) S4 r4⟩

/-! ### tests -/
def tB (a : GE) : GT := fun ρ st => (a ρ st).bind fun p => match p.1 with
  | .d (.bl b) => some (b, p.2)
  | _ => none
theorem dt_val {e : Expr} {G : GE} (h : PE X e (tD X.K G)) (hp : ∀ {t : TE}, PE X e t → PT X e (L2.tB t)) : PT X e (tDT X.K (tB G)) := pt_imp (hp h) fun σ H Q ⟨F, A, ρ, st, b, st', S, L, g, k⟩ => by
  obtain ⟨⟨c, st1⟩, h1, g⟩ := bind_some g
  dsimp only at g
  split at g
  · rename_i c' b'
    cases g
    refine ⟨F, A, ρ, st, _, _, S, L, h1, fun v F1 H1 g1 S1 r1 => ?_⟩
    cases r1
    exact ⟨_, rfl, k F1 H1 g1 S1⟩
  · cases g
/-- truth of what is no bool: None, an int, a text, a list, a tuple -/
def truD : D → Option Bool
  | .non => some false
  | .bl b => some b
  | .int i => some (i != 0)
  | .str x => if x.length ≤ 1000000 then some ((x.length : Int) != 0) else none
  | .lst ds => some !ds.isEmpty
  | .tup ds => some !ds.isEmpty
  | .wls ds => some !ds.isEmpty
  | .dct _ => none
theorem Reps.empty {K : PySem.W.Frag} {F : Hp} {xs : List D} {vs : List V} (r : Reps K F xs vs) : vs.isEmpty = xs.isEmpty := by cases r <;> rfl
theorem truD_V {K : PySem.W.Frag} {F H : Hp} {x : D} {v : V} {b : Bool} (ex : Same F H) (r : RepP K F H x v) (h : truD x = some b) : TruV K v H b := by
  have e := ex
  cases r <;> simp only [truD, reduceCtorEq] at h
  · cases h; rfl
  · cases h; rfl
  · cases h; rfl
  · split at h
    · rename_i hl; cases h; exact ⟨lim6 hl, rfl⟩
    · cases h
  · rename_i hs hr; cases h; exact .inr (.inl ⟨_, same_sqt e hs, by rw [hr.empty]⟩)
  · rename_i hs hr; cases h; exact .inl ⟨_, SqL.of hs, by rw [hr.empty]⟩
  · rename_i hs hr; cases h; exact .inl ⟨_, e.seq hs, by rw [hr.empty]⟩
def tTr (a : GE) : GT := fun ρ st => (a ρ st).bind fun p => (deref p.2 p.1).bind fun x => (truD x).bind fun b => some (b, p.2)
theorem dt_tr {e : Expr} {G : GE} (h : PE X e (tD X.K G)) (hw : ∀ whole, isTrue e X.env whole = (do let v ← whole; standAt e.pos; holding [v] (truthy v)) := by intro _; rfl) : PT X e (tDT X.K (tTr G)) := pt_imp (pt_truth h hw) fun σ H Q ⟨F, A, ρ, st, b, st', S, L, g, k⟩ => by
  obtain ⟨⟨c, st1⟩, h1, g⟩ := bind_some g
  obtain ⟨x, h2, g⟩ := bind_some g
  obtain ⟨b', h3, g⟩ := bind_some g
  cases g
  exact ⟨F, A, ρ, st, _, st1, S, L, h1, fun v F1 H1 g1 S1 r1 => ⟨_, truD_V S1.ex (S1.deref r1 h2) h3, k F1 H1 g1 S1⟩⟩
def gAnd (a b : GT) : GT := fun ρ st => (a ρ st).bind fun p => if p.1 = true then b ρ p.2 else some (false, p.2)
def gOr (a b : GT) : GT := fun ρ st => (a ρ st).bind fun p => if p.1 = true then some (true, p.2) else b ρ p.2
def gNot (a : GT) : GT := fun ρ st => (a ρ st).bind fun p => some (!p.1, p.2)
theorem and_imp {K : PySem.W.Frag} {a b : GT} : ∀ σ H Q, tDT K (gAnd a b) σ H Q → tAnd (tDT K a) (tDT K b) σ H Q := fun σ H Q ⟨F, A, ρ, st, o, st', S, L, g, k⟩ => by
  obtain ⟨⟨p, st1⟩, h1, g⟩ := bind_some g
  refine ⟨F, A, ρ, st, p, st1, S, L, h1, fun F1 H1 g1 S1 => ?_⟩
  dsimp only at g
  cases p with
  | true =>
    rw [if_pos rfl] at g
    refine iteT ⟨F1, A, ρ, st1, o, st', S1, L.mono g1.ex, g, fun F2 H2 g2 S2 => k F2 H2 (g1.trans g2) S2⟩
  | false =>
    rw [if_neg Bool.false_ne_true] at g
    cases g
    exact iteF (k F1 H1 g1 S1)
theorem or_imp {K : PySem.W.Frag} {a b : GT} : ∀ σ H Q, tDT K (gOr a b) σ H Q → tOr (tDT K a) (tDT K b) σ H Q := fun σ H Q ⟨F, A, ρ, st, o, st', S, L, g, k⟩ => by
  obtain ⟨⟨p, st1⟩, h1, g⟩ := bind_some g
  refine ⟨F, A, ρ, st, p, st1, S, L, h1, fun F1 H1 g1 S1 => ?_⟩
  dsimp only at g
  cases p with
  | true =>
    rw [if_pos rfl] at g
    cases g
    exact iteT (k F1 H1 g1 S1)
  | false =>
    rw [if_neg Bool.false_ne_true] at g
    refine iteF ⟨F1, A, ρ, st1, o, st', S1, L.mono g1.ex, g, fun F2 H2 g2 S2 => k F2 H2 (g1.trans g2) S2⟩
theorem pw_imp {e : Expr} {t u : TT} (h : PW X e t) (q : ∀ σ H Q, u σ H Q → t σ H Q) : PW X e u := ⟨fun w pins s σ H Q I z => h.run w pins s σ H Q I (q σ H Q z)⟩
theorem dw_and {a b : Expr} {rest : List Expr} {ta tb : GT} (ha : PT X a (tDT X.K ta)) (hb : PW X (.BoolOp .And (b :: rest) pos) (tDT X.K tb)) : PW X (.BoolOp .And (a :: b :: rest) pos) (tDT X.K (gAnd ta tb)) := pw_imp (pw_and ha hb) and_imp
theorem dw_or {a b : Expr} {rest : List Expr} {ta tb : GT} (ha : PT X a (tDT X.K ta)) (hb : PW X (.BoolOp .Or (b :: rest) pos) (tDT X.K tb)) : PW X (.BoolOp .Or (a :: b :: rest) pos) (tDT X.K (gOr ta tb)) := pw_imp (pw_or ha hb) or_imp
theorem dt_not {a : Expr} {ta : GT} (ha : PT X a (tDT X.K ta)) : PT X (.UnaryOp .Not a pos) (tDT X.K (gNot ta)) := pt_imp (pt_not ha) fun σ H Q ⟨F, A, ρ, st, o, st', S, L, g, k⟩ => by
  obtain ⟨⟨p, st1⟩, h1, g⟩ := bind_some g
  cases g
  exact ⟨F, A, ρ, st, p, st1, S, L, h1, fun F1 H1 g1 S1 => k F1 H1 g1 S1⟩
/-- and, or of bools as a value; e1 if t else e2 -/
def eAnd (a b : GE) : GE := fun ρ st => (a ρ st).bind fun p => match p.1 with
  | .d (.bl true) => b ρ p.2
  | .d (.bl false) => some (.d (.bl false), p.2)
  | _ => none
def eOr (a b : GE) : GE := fun ρ st => (a ρ st).bind fun p => match p.1 with
  | .d (.bl false) => b ρ p.2
  | .d (.bl true) => some (.d (.bl true), p.2)
  | _ => none
def eNot (a : GE) : GE := fun ρ st => (a ρ st).bind fun p => match p.1 with
  | .d (.bl b) => some (.d (.bl (!b)), p.2)
  | _ => none
theorem de_and {a b : Expr} {rest : List Expr} {ga gb : GE} (ha : PE X a (tD X.K ga)) (hb : PE X (.BoolOp .And (b :: rest) pos) (tD X.K gb)) : PE X (.BoolOp .And (a :: b :: rest) pos) (tD X.K (eAnd ga gb)) := pe_imp (pe_and ha hb) fun σ H Q ⟨F, A, ρ, st, c, st', S, L, g, k⟩ => by
  obtain ⟨⟨c1, st1⟩, h1, g⟩ := bind_some g
  dsimp only at g
  refine ⟨F, A, ρ, st, c1, st1, S, L, h1, fun v F1 H1 g1 S1 r1 => ?_⟩
  split at g
  · cases r1
    exact ⟨true, rfl, iteT ⟨F1, A, ρ, st1, c, st', S1, L.mono g1.ex, g, fun w F2 H2 g2 S2 r2 => k w F2 H2 (g1.trans g2) S2 r2⟩⟩
  · cases r1
    cases g
    exact ⟨false, rfl, iteF (k _ F1 H1 g1 S1 .bl)⟩
  · cases g
theorem de_or {a b : Expr} {rest : List Expr} {ga gb : GE} (ha : PE X a (tD X.K ga)) (hb : PE X (.BoolOp .Or (b :: rest) pos) (tD X.K gb)) : PE X (.BoolOp .Or (a :: b :: rest) pos) (tD X.K (eOr ga gb)) := pe_imp (pe_or ha hb) fun σ H Q ⟨F, A, ρ, st, c, st', S, L, g, k⟩ => by
  obtain ⟨⟨c1, st1⟩, h1, g⟩ := bind_some g
  dsimp only at g
  refine ⟨F, A, ρ, st, c1, st1, S, L, h1, fun v F1 H1 g1 S1 r1 => ?_⟩
  split at g
  · cases r1
    exact ⟨false, rfl, iteF ⟨F1, A, ρ, st1, c, st', S1, L.mono g1.ex, g, fun w F2 H2 g2 S2 r2 => k w F2 H2 (g1.trans g2) S2 r2⟩⟩
  · cases r1
    cases g
    exact ⟨true, rfl, iteT (k _ F1 H1 g1 S1 .bl)⟩
  · cases g
theorem de_one {op : BoolOp} {a : Expr} {ga : GE} (ha : PE X a (tD X.K ga)) : PE X (.BoolOp op [a] pos) (tD X.K ga) := pe_one ha
theorem de_not {a : Expr} {ga : GE} (ha : PE X a (tD X.K ga)) : PE X (.UnaryOp .Not a pos) (tD X.K (eNot ga)) := pe_imp (pe_not ha) fun σ H Q ⟨F, A, ρ, st, c, st', S, L, g, k⟩ => by
  obtain ⟨⟨c1, st1⟩, h1, g⟩ := bind_some g
  dsimp only at g
  split at g
  · cases g
    refine ⟨F, A, ρ, st, _, _, S, L, h1, fun v F1 H1 g1 S1 r1 => ?_⟩
    cases r1
    exact ⟨_, rfl, k _ F1 H1 g1 S1 .bl⟩
  · cases g
def eIf (t : GT) (a b : GE) : GE := fun ρ st => (t ρ st).bind fun p => if p.1 = true then a ρ p.2 else b ρ p.2
theorem de_if {c a b : Expr} {t : GT} {ga gb : GE} (hc : PT X c (tDT X.K t)) (ha : PE X a (tD X.K ga)) (hb : PE X b (tD X.K gb)) : PE X (.IfExp c a b pos) (tD X.K (eIf t ga gb)) := pe_imp (pe_ifExp hc ha hb) fun σ H Q ⟨F, A, ρ, st, c, st', S, L, g, k⟩ => by
  obtain ⟨⟨b, st1⟩, h1, g⟩ := bind_some g
  dsimp only at g
  refine ⟨F, A, ρ, st, b, st1, S, L, h1, fun F1 H1 g1 S1 => ?_⟩
  cases b with
  | true =>
    rw [if_pos rfl] at g
    exact iteT ⟨F1, A, ρ, st1, c, st', S1, L.mono g1.ex, g, fun w F2 H2 g2 S2 r2 => k w F2 H2 (g1.trans g2) S2 r2⟩
  | false =>
    rw [if_neg Bool.false_ne_true] at g
    exact iteF ⟨F1, A, ρ, st1, c, st', S1, L.mono g1.ex, g, fun w F2 H2 g2 S2 r2 => k w F2 H2 (g1.trans g2) S2 r2⟩

/-! ### argument lists, displays -/
def aN : GA := fun _ st => some ([], st)
def aC (a : GE) (r : GA) : GA := fun ρ st => (a ρ st).bind fun p => (r ρ p.2).bind fun q => some (p.1 :: q.1, q.2)
theorem da_n : PA X [] (tDA X.K aN) := pa_imp pa_nil fun σ H Q ⟨F, A, ρ, st, c, st', S, L, g, k⟩ => by
  cases g
  exact k _ F H .refl S .nil
theorem da_c {e : Expr} {es : List Expr} {ga : GE} {gr : GA} (ha : PE X e (tD X.K ga)) (hr : PA X es (tDA X.K gr)) (hs : starEach (e :: es) X.env = (false, eval e X.env) :: starEach es X.env := by rfl) : PA X (e :: es) (tDA X.K (aC ga gr)) := pa_imp (pa_cons ha hr hs) fun σ H Q ⟨F, A, ρ, st, c, st', S, L, g, k⟩ => by
  obtain ⟨⟨c1, st1⟩, h1, g⟩ := bind_some g
  obtain ⟨⟨cs, st2⟩, h2, g⟩ := bind_some g
  cases g
  exact ⟨F, A, ρ, st, c1, st1, S, L, h1, fun v F1 H1 g1 S1 r1 => ⟨F1, A, ρ, st1, cs, st2, S1, L.mono g1.ex, h2, fun vs F2 H2 g2 S2 r2 => k _ F2 H2 (g1.trans g2) S2 (.cons (r1.mono g2.ex) r2)⟩⟩
/-- what is put into data does not change any more -/
def frzL (f : C → Sto → Option (D × Sto)) : List C → Sto → Option (List D × Sto)
  | [], st => some ([], st)
  | c :: cs, st => (f c st).bind fun p => (frzL f cs p.2).bind fun q => some (p.1 :: q.1, q.2)
def frz : Nat → C → Sto → Option (D × Sto)
  | _, .d x, st => some (x, st)
  | 0, .p _, _ => none
  | n + 1, .p k, st => match st[k]? with
    | some (.fro x) => some (x, st)
    | some (.lst cs) => (frzL (frz n) cs st).bind fun q => some (.lst q.1, q.2.set k (.fro (.lst q.1)))
    | some (.dct kvs) => (frzL (frz n) (kvs.map (·.2)) st).bind fun q => some (.dct ((kvs.map (·.1)).zip q.1), q.2.set k (.fro (.dct ((kvs.map (·.1)).zip q.1))))
    | none => none
structure Frz (K : PySem.W.Frag) (A : List Addr) (F F' H : Hp) (st' : Sto) : Prop where
  ex : Same F F'
  new : ∀ a, F' a ≠ none → F a ≠ none ∨ a ∈ A
  ss : SS K F' H A st'
theorem Frz.grow {K : PySem.W.Frag} {A : List Addr} {F F' H : Hp} {st' : Sto} (f : Frz K A F F' H st') : Grow A F H F' H := ⟨f.ex, fun a h => (f.new a h).elim .inl fun z => .inr (.inr z), fun _ _ h _ => h, fun _ h => h⟩
/-- one object, its content told -/
theorem frz_one {K : PySem.W.Frag} {A : List Addr} {F H : Hp} {st : Sto} {k : Nat} {a : Addr} {o : HO} {x : D} (S : SS K F H A st) (ha : A[k]? = some a) (ho : H a = some o) (hx : ∀ F', Same F F' → F' a = some o → Rep K F' x (.ref a)) :
    Frz K A F (upd F a o) H (st.set k (.fro x)) := by
  have e1 : Same F (upd F a o) := fun b u h => by
    by_cases e : b = a
    · subst e; rw [upd_same]; rw [S.ex _ _ h] at ho; exact ho.symm
    · rw [upd_ne e]; exact h
  refine ⟨e1, fun b hb => ?_, ⟨fun b u h => ?_, by rw [List.length_set]; exact S.len, S.nd, fun j b u hj hu hf => ?_, fun j b u hj hu => ?_⟩⟩
  · by_cases e : b = a
    · subst e; exact .inr (List.mem_of_getElem? ha)
    · rw [upd_ne e] at hb; exact .inl hb
  · by_cases e : b = a
    · subst e; rw [upd_same] at h; cases h; exact ho
    · rw [upd_ne e] at h; exact S.ex b u h
  · by_cases e : j = k
    · subst e
      rw [List.getElem?_set_self (by rw [← S.len]; exact (List.getElem?_eq_some_iff.mp hj).1)] at hu
      cases hu
      cases hf
    · rw [List.getElem?_set_ne (Ne.symm e)] at hu
      have : b ≠ a := fun z => e ((List.getElem?_inj (List.getElem?_eq_some_iff.mp hj).1 S.nd).mp (by rw [hj, ha, z]))
      rw [upd_ne this]
      exact S.fr j b u hj hu hf
  · by_cases e : j = k
    · subst e
      rw [List.getElem?_set_self (by rw [← S.len]; exact (List.getElem?_eq_some_iff.mp hj).1)] at hu
      cases hu
      have : b = a := Option.some.inj (hj.symm.trans ha)
      subst this
      exact ⟨by rw [upd_same]; exact fun z => (nomatch z), hx _ e1 upd_same⟩
    · rw [List.getElem?_set_ne (Ne.symm e)] at hu
      exact (S.obj j b u hj hu).mono e1 fun _ z => z
theorem Frz.trans {K : PySem.W.Frag} {A : List Addr} {F F1 F2 H : Hp} {st1 st2 : Sto} (f : Frz K A F F1 H st1) (g : Frz K A F1 F2 H st2) : Frz K A F F2 H st2 := ⟨f.ex.trans g.ex, fun a h => (g.new a h).elim (fun z => f.new a z) .inr, g.ss⟩
theorem Frz.refl {K : PySem.W.Frag} {A : List Addr} {F H : Hp} {st : Sto} (S : SS K F H A st) : Frz K A F F H st := ⟨Same.refl F, fun _ h => .inl h, S⟩
theorem frzL_ok {K : PySem.W.Frag} {A : List Addr} {H : Hp} {f : C → Sto → Option (D × Sto)} (hf : ∀ (F : Hp) (st : Sto) (c : C) (v : V) (x : D) (st' : Sto), SS K F H A st → RepC K F A c v → f c st = some (x, st') → ∃ F', Frz K A F F' H st' ∧ Rep K F' x v) :
    ∀ (cs : List C) (F : Hp) (st : Sto) (vs : List V) (xs : List D) (st' : Sto), SS K F H A st → RepCs K F A cs vs → frzL f cs st = some (xs, st') → ∃ F', Frz K A F F' H st' ∧ Reps K F' xs vs
  | [], F, st, _, _, _, S, .nil, h => by cases h; exact ⟨F, .refl S, .nil⟩
  | c :: cs, F, st, _, _, _, S, .cons r rs, h => by
    obtain ⟨⟨x, st1⟩, h1, h⟩ := bind_some h
    obtain ⟨⟨xs, st2⟩, h2, h⟩ := bind_some h
    cases h
    obtain ⟨F1, f1, r1⟩ := hf F st c _ x st1 S r h1
    obtain ⟨F2, f2, r2⟩ := frzL_ok hf cs F1 st1 _ xs st2 f1.ss (rs.mono f1.ex) h2
    exact ⟨F2, f1.trans f2, .cons (r1.mono f2.ex) r2⟩
theorem frz_ok {K : PySem.W.Frag} {A : List Addr} {H : Hp} : ∀ (n : Nat) (F : Hp) (st : Sto) (c : C) (v : V) (x : D) (st' : Sto), SS K F H A st → RepC K F A c v → frz n c st = some (x, st') → ∃ F', Frz K A F F' H st' ∧ Rep K F' x v
  | _, F, st, .d y, v, x, st', S, r, h => by
    have h : some (y, st) = some (x, st') := by
      unfold frz at h
      exact h
    cases h
    exact ⟨F, .refl S, r⟩
  | 0, F, st, .p k, v, x, st', S, r, h => by cases h
  | n + 1, F, st, .p k, v, x, st', S, ⟨a, ha, e⟩, h => by
    subst e
    unfold frz at h
    split at h
    · rename_i y e1
      cases h
      exact ⟨F, .refl S, (S.obj k a _ ha e1).2⟩
    · rename_i cs e1
      obtain ⟨⟨ds, st1⟩, h1, h⟩ := bind_some h
      cases h
      obtain ⟨vs, h2, h3⟩ := S.obj k a _ ha e1
      obtain ⟨F1, f1, r1⟩ := frzL_ok (fun F st c v x st' => frz_ok n F st c v x st') cs F st vs ds st1 S h3 h1
      have g := frz_one (x := .lst ds) f1.ss ha h2 fun F' e he => .lst he (r1.mono e)
      exact ⟨_, f1.trans g, .lst upd_same (r1.mono g.ex)⟩
    · rename_i kvs e1
      obtain ⟨⟨ds, st1⟩, h1, h⟩ := bind_some h
      cases h
      obtain ⟨vs, h2, h3⟩ := S.obj k a _ ha e1
      obtain ⟨F1, f1, r1⟩ := frzL_ok (fun F st c v x st' => frz_ok n F st c v x st') _ F st vs ds st1 S h3 h1
      have hl : (kvs.map (·.1)).length = ds.length := by rw [r1.len, ← h3.len, List.length_map, List.length_map]
      have g := frz_one (x := .dct ((kvs.map (·.1)).zip ds)) f1.ss ha h2 fun F' e he => .dct (by rw [zip_fst hl]; exact he) (by rw [zip_snd hl]; exact r1.mono e)
      exact ⟨_, f1.trans g, .dct (by rw [zip_fst hl, upd_same]) (by rw [zip_snd hl]; exact r1.mono g.ex)⟩
    · cases h
theorem frzs_ok {K : PySem.W.Frag} {A : List Addr} {H : Hp} (n : Nat) : ∀ (cs : List C) (F : Hp) (st : Sto) (vs : List V) (xs : List D) (st' : Sto), SS K F H A st → RepCs K F A cs vs → frzL (frz n) cs st = some (xs, st') → ∃ F', Frz K A F F' H st' ∧ Reps K F' xs vs :=
  frzL_ok fun F st c v x st' => frz_ok n F st c v x st'
def eTup (a : GA) : GE := fun ρ st => (a ρ st).bind fun p => (frzL (frz 4) p.1 p.2).bind fun q => if q.1.length ≤ 1000000 then some (.d (.tup q.1), q.2) else none
def eLst (a : GA) : GE := fun ρ st => (a ρ st).bind fun p => (frzL (frz 4) p.1 p.2).bind fun q => if q.1.length ≤ 1000000 then some (.d (.lst q.1), q.2) else none
theorem de_tup {es : List Expr} {x1} {ga : GA} (h : PA X es (tDA X.K ga)) : PE X (.Tuple es x1 pos) (tD X.K (eTup ga)) := pe_imp (pe_tup h) fun σ H Q ⟨F, A, ρ, st, c, st', S, L, g, k⟩ => by
  obtain ⟨⟨cs, st1⟩, h1, g⟩ := bind_some g
  obtain ⟨⟨ds, st2⟩, h2, g⟩ := bind_some g
  split at g
  · rename_i hl
    cases g
    refine ⟨F, A, ρ, st, cs, st1, S, L, h1, fun vs F1 H1 g1 S1 r1 => ?_⟩
    obtain ⟨F2, f2, rr⟩ := frzs_ok 4 cs F1 st1 vs ds _ S1 r1 h2
    refine ⟨by rw [← rr.len]; exact lim6 hl, fun p hp => ?_⟩
    have g2 := Grow.new1 (A := A) (o := .tup vs) (f2.ss.ex.free hp) hp
    exact k _ _ _ ((g1.trans f2.grow).trans g2) (f2.ss.new hp) (.tup (SqT.of upd_same) (rr.mono g2.ex))
  · cases g
theorem de_lst {es : List Expr} {ga : GA} (h : PA X es (tDA X.K ga)) : PE X (.List es pos) (tD X.K (eLst ga)) := pe_imp (pe_lst h) fun σ H Q ⟨F, A, ρ, st, c, st', S, L, g, k⟩ => by
  obtain ⟨⟨cs, st1⟩, h1, g⟩ := bind_some g
  obtain ⟨⟨ds, st2⟩, h2, g⟩ := bind_some g
  split at g
  · rename_i hl
    cases g
    refine ⟨F, A, ρ, st, cs, st1, S, L, h1, fun vs F1 H1 g1 S1 r1 => ?_⟩
    obtain ⟨F2, f2, rr⟩ := frzs_ok 4 cs F1 st1 vs ds _ S1 r1 h2
    refine ⟨by rw [← rr.len]; exact lim6 hl, fun p hp => ?_⟩
    have g2 := Grow.new1 (A := A) (o := .lst vs) (f2.ss.ex.free hp) hp
    exact k _ _ _ ((g1.trans f2.grow).trans g2) (f2.ss.new hp) (.lst upd_same (rr.mono g2.ex))
  · cases g

/-! ### built-ins by values -/
/-- of dereferenced arguments a new or old datum -/
def rCD (K : PySem.W.Frag) (g : List D → Option D) : List V → Hp → VK → Prop := fun vs H Q => ∃ F A st xs z, SS K F H A st ∧ Paired (RepP K F H) xs vs ∧ g xs = some z ∧ ∀ w F' H', Grow A F H F' H' → SS K F' H' A st → Rep K F' z w → Q w H'
def derefs (st : Sto) : List C → Option (List D)
  | [] => some []
  | c :: cs => (deref st c).bind fun x => (derefs st cs).map (x :: ·)
theorem derefs_reps {K : PySem.W.Frag} {F H : Hp} {A : List Addr} {st : Sto} (S : SS K F H A st) : ∀ {cs : List C} {vs : List V} {ds : List D}, RepCs K F A cs vs → derefs st cs = some ds → Paired (RepP K F H) ds vs
  | _, _, _, .nil, h => by cases h; exact .nil
  | _, _, _, .cons hr r, h => by
    obtain ⟨x, h1, h⟩ := bind_some h
    simp only [Option.map_eq_some_iff] at h
    obtain ⟨ds, h2, rfl⟩ := h
    exact .cons (S.deref hr h1) (derefs_reps S r h2)
def eCB (g : List D → Option D) (a : GA) : GE := fun ρ st => (a ρ st).bind fun p => (derefs p.2 p.1).bind fun xs => (g xs).bind fun z => some (.d z, p.2)
theorem cb_imp {K : PySem.W.Frag} {g : List D → Option D} {ga : GA} : ∀ σ H Q, tD K (eCB g ga) σ H Q → tCB (rCD K g) (tDA K ga) σ H Q := fun σ H Q ⟨F, A, ρ, st, c, st', S, L, h, k⟩ => by
  obtain ⟨⟨cs, st1⟩, h1, h⟩ := bind_some h
  obtain ⟨xs, h2, h⟩ := bind_some h
  obtain ⟨z, h3, h⟩ := bind_some h
  cases h
  exact ⟨F, A, ρ, st, cs, st1, S, L, h1, fun vs F1 H1 g1 S1 r1 => ⟨F1, A, st1, xs, z, S1, derefs_reps S1 r1 h2, h3, fun w F2 H2 g2 S2 r2 => k w F2 H2 (g1.trans g2) S2 r2⟩⟩
theorem de_b {x : Str} {p : Pos} {e : Expr} {es : List Expr} {id : String} {g : List D → Option D} {ga : GA} (hc : CallR X (.builtin id) (rCD X.K g)) (hg : Gl X x) (hm : X.mg x = none) (hv : bootBuiltins x = some (.builtin id)) (ha : PA X (e :: es) (tDA X.K ga)) (hn : x ≠ "__name__" := by decide) (hdb : (x == ("__debug__" : Str)) = false := by decide)
    (he : starEach (e :: es) X.env = (false, eval e X.env) :: starEach es X.env := by rfl) (hpl : (backTo pos (starEach es X.env)).any (·.1) = false := by rfl) : PE X (.Call (.Name x p) (e :: es) [] pos) (tD X.K (eCB g ga)) :=
  pe_imp (pe_callB hc hg hm hv ha hn hdb he hpl) cb_imp
theorem de_ty {x : Str} {p : Pos} {e : Expr} {es : List Expr} {T : String} {g : List D → Option D} {ga : GA} (hc : CallR X (.type T) (rCD X.K g)) (hg : Gl X x) (hm : X.mg x = none) (hv : bootBuiltins x = some (.type T)) (ha : PA X (e :: es) (tDA X.K ga)) (hn : x ≠ "__name__" := by decide) (hdb : (x == ("__debug__" : Str)) = false := by decide)
    (he : starEach (e :: es) X.env = (false, eval e X.env) :: starEach es X.env := by rfl) (hpl : (backTo pos (starEach es X.env)).any (·.1) = false := by rfl) : PE X (.Call (.Name x p) (e :: es) [] pos) (tD X.K (eCB g ga)) :=
  pe_imp (pe_callTy hc hg hm hv ha hn hdb he hpl) cb_imp
theorem callr_by {f : Value} {r' : List V → Hp → VK → Prop} (q : ∀ xs H Q, r' xs H Q → ∃ r, CallR X f r ∧ r xs H Q) : CallR X f r' := fun pins s σ H xs us Q I rx z => by
  obtain ⟨r, h, w⟩ := q xs H Q z
  exact h pins s σ H xs us Q I rx w
def lenD : List D → Option D
  | [.tup xs] => some (.int xs.length)
  | [.lst xs] => some (.int xs.length)
  | [.wls xs] => some (.int xs.length)
  | [.str x] => if x.length ≤ 1000000 then some (.int x.length) else none
  | _ => none
theorem call_lenD : CallR X (.builtin "len") (rCD X.K lenD) := callr_by fun vs H Q ⟨F, A, st, xs, z, S, rs, hz, k⟩ => by
  cases rs with
  | nil => cases hz
  | cons r rs =>
    cases rs with
    | cons _ _ => cases r <;> cases hz
    | nil =>
      cases r <;> simp only [lenD, reduceCtorEq] at hz
      · split at hz
        · rename_i hl; cases hz
          exact ⟨_, call_len_str, _, rfl, lim6 hl, k _ F H .refl S .int⟩
        · cases hz
      · rename_i hs hr _; cases hz
        exact ⟨_, call_len_seq, _, _, rfl, .inr (same_sqt S.ex hs), by rw [← hr.len]; exact k _ F H .refl S .int⟩
      · rename_i hs hr _; cases hz
        exact ⟨_, call_len_seq, _, _, rfl, .inl (SqL.of hs), by rw [← hr.len]; exact k _ F H .refl S .int⟩
      · rename_i hs hr _; cases hz
        exact ⟨_, call_len_seq, _, _, rfl, .inl (S.ex.seq hs), by rw [← hr.len]; exact k _ F H .refl S .int⟩
def intD : List D → Option D
  | [.int i] => some (.int i)
  | [.bl b] => some (.int (if b then 1 else 0))
  | [.str x] => if x.length ≤ 640 then (PySem.intText? x).map .int else none
  | _ => none
theorem call_intD : CallR X (.type "int") (rCD X.K intD) := callr_by fun vs H Q ⟨F, A, st, xs, z, S, rs, hz, k⟩ => by
  cases rs with
  | nil => cases hz
  | cons r rs =>
    cases rs with
    | cons _ _ => cases r <;> cases hz
    | nil =>
      cases r <;> simp only [intD, reduceCtorEq] at hz
      · cases hz
        exact ⟨_, call_int1, .inr ⟨_, rfl, k _ F H .refl S .int⟩⟩
      · cases hz
        exact ⟨_, call_int1, .inl ⟨_, rfl, k _ F H .refl S .int⟩⟩
      · split at hz
        · rename_i hl
          simp only [Option.map_eq_some_iff] at hz
          obtain ⟨n, h1, rfl⟩ := hz
          exact ⟨_, call_int_str, _, n, rfl, h1, hl, k _ F H .refl S .int⟩
        · cases hz
def strD : List D → Option D
  | [.int i] => if i.natAbs.log2 < 1920 then some (.str (toString i)) else none
  | _ => none
theorem call_strD : CallR X (.type "str") (rCD X.K strD) := callr_by fun vs H Q ⟨F, A, st, xs, z, S, rs, hz, k⟩ => by
  cases rs with
  | nil => cases hz
  | cons r rs =>
    cases rs with
    | cons _ _ => cases r <;> cases hz
    | nil =>
      cases r <;> simp only [strD, reduceCtorEq] at hz
      split at hz
      · rename_i hl; cases hz
        exact ⟨_, call_str_int, _, rfl, hl, k _ F H .refl S .str⟩
      · cases hz
def tupleD : List D → Option D
  | [.tup xs] => some (.tup xs)
  | [.lst xs] => some (.tup xs)
  | _ => none
theorem call_tupleD : CallR X (.type "tuple") (rCD X.K tupleD) := callr_by fun vs H Q ⟨F, A, st, xs, z, S, rs, hz, k⟩ => by
  cases rs with
  | nil => cases hz
  | cons r rs =>
    cases rs with
    | cons _ _ => cases r <;> cases hz
    | nil =>
      cases r <;> simp only [tupleD, reduceCtorEq] at hz
      · rename_i hs hr _; cases hz
        exact ⟨_, call_tuple_of, _, _, rfl, .inr ⟨same_sqt S.ex hs, k _ F H .refl S (.tup hs hr)⟩⟩
      · rename_i a vs' hs hr _; cases hz
        refine ⟨_, call_tuple_of, a, vs', rfl, .inl ⟨SqL.of hs, fun l hl => ?_⟩⟩
        have g := Grow.new1 (A := A) (o := .tup vs') (S.ex.free hl) hl
        exact k _ _ _ g (S.new hl) (.tup (SqT.of upd_same) (hr.mono g.ex))
end
end DL
/-! DDx: statements, calls of defs, loops. -/
namespace DL
open PySem PySem.Spec PyProof.Rows L2

section
variable {X : Cx} {pos : Pos}
theorem SL.app {K : PySem.W.Frag} {F : Hp} {A B : List Addr} {σ : L2.St} {ρ : Env} (h : SL K F A σ ρ) : SL K F (A ++ B) σ ρ := ⟨h.len, fun i c q => by
  obtain ⟨v, h1, h2⟩ := h.get i c q
  exact ⟨v, h1, h2.at⟩⟩
theorem SL.grow {K : PySem.W.Frag} {F H F' H' : Hp} {A A' : List Addr} {σ : L2.St} {ρ : Env} (h : SL K F A σ ρ) (g : GrowS A F H A' F' H') : SL K F' A' σ ρ := by
  obtain ⟨B, rfl, _⟩ := g.app
  exact (h.mono g.g.ex).app

/-! ### blocks -/
def sNx : GS := fun ρ st => some (.nx ρ st)
def sSeq (a b : GS) : GS := fun ρ st => (a ρ st).bind fun r => match r with
  | .nx ρ' st' => b ρ' st'
  | r => some r
theorem Fin.mono {K : PySem.W.Frag} {F H F1 H1 : Hp} {A A1 : List Addr} {D : Ends} {r : Res} (g : GrowS A F H A1 F1 H1) (h : Fin K F H A D r) : Fin K F1 H1 A1 D r := by
  cases r with
  | nx ρ st => exact fun σ F' H' A' g' S L => h σ F' H' A' (g.trans g') S L
  | rt ρ st => exact fun σ F' H' A' g' S L => h σ F' H' A' (g.trans g') S L
  | bk ρ st => exact fun σ F' H' A' g' S L => h σ F' H' A' (g.trans g') S L
  | ct ρ st => exact fun σ F' H' A' g' S L => h σ F' H' A' (g.trans g') S L
theorem dss_n : PSs X [] (tDS X.K sNx) := pss_imp pss_nil fun Dn σ H ⟨F, A, ρ, st, r, S, L, g, k⟩ => by
  cases g
  exact k σ F H A .refl S L
theorem seq_imp {K : PySem.W.Frag} {a b : GS} : ∀ Dn σ H, tDS K (sSeq a b) Dn σ H → tSeq (tDS K a) (tDS K b) Dn σ H := fun Dn σ H ⟨F, A, ρ, st, r, S, L, g, k⟩ => by
  obtain ⟨r1, h1, g⟩ := bind_some g
  refine ⟨F, A, ρ, st, r1, S, L, h1, ?_⟩
  cases r1 with
  | nx ρ1 st1 => exact fun σ1 F1 H1 A1 g1 S1 L1 => ⟨F1, A1, ρ1, st1, r, S1, L1, g, k.mono g1⟩
  | rt c st1 => cases g; exact k
  | bk ρ1 st1 => cases g; exact k
  | ct ρ1 st1 => cases g; exact k
theorem dss_c {s : Stmt} {rest : List Stmt} {a b : GS} (h1 : PS X s (tDS X.K a)) (h2 : PSs X rest (tDS X.K b)) : PSs X (s :: rest) (tDS X.K (sSeq a b)) := pss_imp (pss_cons h1 h2) seq_imp
theorem dss_1 {s : Stmt} {a : GS} (h1 : PS X s (tDS X.K a)) : PSs X [s] (tDS X.K a) := pss_one h1
def sNo : GS := fun _ _ => none
theorem ds_no {s : Stmt} : PS X s (tDS X.K sNo) := ps_imp ps_never fun Dn σ H ⟨F, A, ρ, st, r, S, L, g, k⟩ => by cases g
theorem dss_no {s : List Stmt} : PSs X s (tDS X.K sNo) := pss_imp pss_never fun Dn σ H ⟨F, A, ρ, st, r, S, L, g, k⟩ => by cases g
theorem ds_pass : PS X (.Pass pos) (tDS X.K sNx) := ps_imp ps_pass fun Dn σ H ⟨F, A, ρ, st, r, S, L, g, k⟩ => by
  cases g
  exact k σ F H A .refl S L
def sBk : GS := fun ρ st => some (.bk ρ st)
def sCt : GS := fun ρ st => some (.ct ρ st)
theorem ds_break : PS X (.Break pos) (tDS X.K sBk) := ps_imp ps_break fun Dn σ H ⟨F, A, ρ, st, r, S, L, g, k⟩ => by
  cases g
  exact k σ F H A .refl S L
theorem ds_cont : PS X (.Continue pos) (tDS X.K sCt) := ps_imp ps_continue fun Dn σ H ⟨F, A, ρ, st, r, S, L, g, k⟩ => by
  cases g
  exact k σ F H A .refl S L
def sEx (a : GE) : GS := fun ρ st => (a ρ st).map fun p => .nx ρ p.2
def sRt (a : GE) : GS := fun ρ st => (a ρ st).map fun p => .rt p.1 p.2
theorem ds_ex {e : Expr} {a : GE} (he : PE X e (tD X.K a)) (hs : swapsWith e none pos.line X.env = pure false := by rfl) : PS X (.Expr e pos) (tDS X.K (sEx a)) := ps_imp (ps_expr he hs) fun Dn σ H ⟨F, A, ρ, st, r, S, L, g, k⟩ => by
  simp only [sEx, Option.map_eq_some_iff] at g
  obtain ⟨⟨c, st1⟩, h1, rfl⟩ := g
  exact ⟨F, A, ρ, st, c, st1, S, L, h1, fun v F1 H1 g1 S1 r1 => k σ F1 H1 A (.of g1) S1 (L.mono g1.ex)⟩
theorem ds_rt {e : Expr} {a : GE} (he : PE X e (tD X.K a)) : PS X (.Return (some e) pos) (tDS X.K (sRt a)) := ps_imp (ps_ret he) fun Dn σ H ⟨F, A, ρ, st, r, S, L, g, k⟩ => by
  simp only [sRt, Option.map_eq_some_iff] at g
  obtain ⟨⟨c, st1⟩, h1, rfl⟩ := g
  exact ⟨F, A, ρ, st, c, st1, S, L, h1, fun v F1 H1 g1 S1 r1 => k v F1 H1 A (.of g1) S1 r1⟩
def sRn : GS := fun ρ st => some (.rt (.d .non) st)
theorem ds_rn : PS X (.Return none pos) (tDS X.K sRn) := ps_imp ps_retN fun Dn σ H ⟨F, A, ρ, st, r, S, L, g, k⟩ => by
  cases g
  exact k _ F H A .refl S .non
def sIf (t : GT) (a b : GS) : GS := fun ρ st => (t ρ st).bind fun p => if p.1 = true then a ρ p.2 else b ρ p.2
theorem ds_if {c : Expr} {sa sb : List Stmt} {t : GT} {a b : GS} (hc : PT X c (tDT X.K t)) (ha : PSs X sa (tDS X.K a)) (hb : PSs X sb (tDS X.K b)) : PS X (.If c sa sb pos) (tDS X.K (sIf t a b)) := ps_imp (ps_if hc ha hb) fun Dn σ H ⟨F, A, ρ, st, r, S, L, g, k⟩ => by
  obtain ⟨⟨d, st1⟩, h1, g⟩ := bind_some g
  refine ⟨F, A, ρ, st, d, st1, S, L, h1, fun F1 H1 g1 S1 => ?_⟩
  dsimp only at g
  cases d with
  | true => rw [if_pos rfl] at g; exact iteT ⟨F1, A, ρ, st1, r, S1, L.mono g1.ex, g, k.mono (.of g1)⟩
  | false => rw [if_neg Bool.false_ne_true] at g; exact iteF ⟨F1, A, ρ, st1, r, S1, L.mono g1.ex, g, k.mono (.of g1)⟩

/-! ### names stored -/
def sSet (i : Nat) (a : GE) : GS := fun ρ st => (a ρ st).map fun p => .nx (ρ.set i (some p.1)) p.2
theorem set_imp {K : PySem.W.Frag} {i : Nat} {a : GE} : ∀ Dn σ H, tDS K (sSet i a) Dn σ H → tAsg (tD K a) (gName i) Dn σ H := fun Dn σ H ⟨F, A, ρ, st, r, S, L, g, k⟩ => by
  simp only [sSet, Option.map_eq_some_iff] at g
  obtain ⟨⟨c, st1⟩, h1, rfl⟩ := g
  exact ⟨F, A, ρ, st, c, st1, S, L, h1, fun v F1 H1 g1 S1 r1 => k _ F1 H1 A (.of g1) S1 ((L.mono g1.ex).set r1)⟩
theorem ds_set {i : Nat} {x : Str} {e : Expr} {a : GE} {pos' : Pos} (hN : X.N.Nodup) (hi : X.N[i]? = some x) (hx : Loc X.env.scope x) (he : PE X e (tD X.K a)) (hs : swapsWith e (some (.Name x pos')) pos.line X.env = pure false := by rfl) (hf : X.fn x = true ∨ X.env.scope.names.lookup x = some .local := by first | exact .inl rfl | exact .inr rfl | assumption) :
    PS X (.Assign [.Name x pos'] e pos) (tDS X.K (sSet i a)) := ps_imp (ps_set hN hi hx he hs hf) set_imp
/-- a new list that will change: its content is data, its place a new one of the store -/
def sNew (i : Nat) (a : GE) : GS := fun ρ st => (a ρ st).bind fun p => match p.1 with
  | .d (.lst ds) => some (.nx (ρ.set i (some (.p p.2.length))) (p.2 ++ [.lst (ds.map .d)]))
  | _ => none
/-- of an expression that makes its list anew -/
def tDN (K : PySem.W.Frag) (G : GE) : TE := fun σ H Q => ∃ F A ρ st ds st', SS K F H A st ∧ SL K F A σ ρ ∧ G ρ st = some (.d (.lst ds), st') ∧
  ∀ a vs F' H', Grow A F H F' H' → SS K F' H' A st' → F' a = none → H a = none → H' a = some (.lst vs) → a ∉ A → Reps K F' ds vs → Q (.ref a) H'
theorem SS.push {K : PySem.W.Frag} {F H : Hp} {A : List Addr} {st : Sto} {a : Addr} {o : SO} (S : SS K F H A st) (hF : o.isFro = false → F a = none) (ha : a ∉ A) (ho : SObj K F H (A ++ [a]) a o) : SS K F H (A ++ [a]) (st ++ [o]) := by
  have way : ∀ (k : Nat) (b : Addr) (u : SO), (A ++ [a])[k]? = some b → (st ++ [o])[k]? = some u → (A[k]? = some b ∧ st[k]? = some u) ∨ (b = a ∧ u = o) := fun k b u hk hu => by
    by_cases h : k < A.length
    · rw [List.getElem?_append_left h] at hk
      rw [List.getElem?_append_left (by rw [← S.len]; exact h)] at hu
      exact .inl ⟨hk, hu⟩
    · rw [List.getElem?_append_right (by omega)] at hk
      rw [List.getElem?_append_right (by rw [← S.len]; omega)] at hu
      rw [← S.len] at hu
      cases e : k - A.length with
      | zero => rw [e] at hk hu; cases hk; cases hu; exact .inr ⟨rfl, rfl⟩
      | succ n => rw [e] at hk; simp at hk
  refine ⟨S.ex, by rw [List.length_append, List.length_append, S.len]; rfl, ?_, fun k b u hk hu hf => ?_, fun k b u hk hu => ?_⟩
  · rw [List.nodup_append]
    refine ⟨S.nd, by simp, fun x hx y hy e => ?_⟩
    rw [List.mem_singleton] at hy
    subst hy
    subst e
    exact ha hx
  · rcases way k b u hk hu with ⟨h1, h2⟩ | ⟨rfl, rfl⟩
    · exact S.fr k b u h1 h2 hf
    · exact hF hf
  · rcases way k b u hk hu with ⟨h1, h2⟩ | ⟨rfl, rfl⟩
    · exact (S.obj k b u h1 h2).at
    · exact ho
theorem new_imp {K : PySem.W.Frag} {i : Nat} {a : GE} : ∀ Dn σ H, tDS K (sNew i a) Dn σ H → tAsg (tDN K a) (gName i) Dn σ H := fun Dn σ H ⟨F, A, ρ, st, r, S, L, g, k⟩ => by
  obtain ⟨⟨c, st1⟩, h1, g⟩ := bind_some g
  dsimp only at g
  split at g
  · rename_i ds
    cases g
    refine ⟨F, A, ρ, st, ds, st1, S, L, h1, fun b vs F1 H1 g1 S1 hF hH hb hA hr => ?_⟩
    refine k _ F1 H1 (A ++ [b]) ⟨g1, [b], rfl, fun x hx => by rw [List.mem_singleton] at hx; subst hx; exact hH⟩ (S1.push (fun _ => hF) hA ⟨vs, hb, hr.cs⟩) (((L.mono g1.ex).app (B := [b])).set ?_)
    exact ⟨b, by rw [← S1.len, List.getElem?_append_right (Nat.le_refl _), Nat.sub_self]; rfl, rfl⟩
  · cases g
theorem ds_new {i : Nat} {x : Str} {e : Expr} {a : GE} {pos' : Pos} (hN : X.N.Nodup) (hi : X.N[i]? = some x) (hx : Loc X.env.scope x) (he : PE X e (tDN X.K a)) (hs : swapsWith e (some (.Name x pos')) pos.line X.env = pure false := by rfl) (hf : X.fn x = true ∨ X.env.scope.names.lookup x = some .local := by first | exact .inl rfl | exact .inr rfl | assumption) :
    PS X (.Assign [.Name x pos'] e pos) (tDS X.K (sNew i a)) := ps_imp (ps_set hN hi hx he hs hf) new_imp
/-- [..], a new list -/
theorem dn_lst {es : List Expr} {ga : GA} (h : PA X es (tDA X.K ga)) : PE X (.List es pos) (tDN X.K (eLst ga)) := pe_imp (pe_lst h) fun σ H Q ⟨F, A, ρ, st, c, st', S, L, g, k⟩ => by
  obtain ⟨⟨cs, st1⟩, h1, g⟩ := bind_some g
  obtain ⟨⟨ds, st2⟩, h2, g⟩ := bind_some g
  split at g
  · rename_i hl
    cases g
    refine ⟨F, A, ρ, st, cs, _, S, L, h1, fun vs F0 H1 g0 S0 r1 => ?_⟩
    obtain ⟨F1, f2, rr⟩ := frzs_ok 4 cs F0 st1 vs ds _ S0 r1 h2
    have S1 := f2.ss
    have g1 := g0.trans f2.grow
    refine ⟨by rw [← rr.len]; exact lim6 hl, fun p hp => ?_⟩
    have hF1 : F1 p = none := S1.ex.free hp
    have hH : H p = none := by
      cases q : H p with
      | none => rfl
      | some o => exact absurd hp (g1.dom p (by rw [q]; exact fun z => nomatch z))
    have S2 : SS X.K F1 (upd H1 p (.lst vs)) A _ := ⟨fun b u h => by rw [upd_ne (ne_of_none h hF1)]; exact S1.ex b u h, S1.len, S1.nd, S1.fr, fun k a o hk ho => (S1.obj k a o hk ho).mono (Same.refl _) fun u hu => by rw [upd_ne (ne_of_none hu hp)]; exact hu⟩
    exact k p vs F1 _ ⟨g1.ex, g1.new, fun b o hb hn => by rw [upd_ne (ne_of_none (g1.keep b o hb hn) hp)]; exact g1.keep b o hb hn, fun b hb => by
      by_cases e : b = p
      · subst e; rw [upd_same]; exact fun z => nomatch z
      · rw [upd_ne e]; exact g1.dom b hb⟩ S2 hF1 hH upd_same (S1.fresh hp) rr
  · cases g
/-- targets: a name, names in a tuple -/
inductive T1 where
  | n (i : Nat) | t (is : List Nat)
/-- .g: names and tuples of names in a tuple -/
inductive Tg where
  | n (i : Nat) | t (is : List Nat) | g (ts : List T1)
def T1.slots : T1 → List Nat
  | .n i => [i]
  | .t is => is
def setAll : List Nat → List D → Env → Option Env
  | [], [], ρ => some ρ
  | i :: is, x :: xs, ρ => setAll is xs (ρ.set i (some (.d x)))
  | _, _, _ => none
def setG : List T1 → List D → Env → Option Env
  | [], [], ρ => some ρ
  | .n i :: ts, x :: xs, ρ => setG ts xs (ρ.set i (some (.d x)))
  | .t is :: ts, .tup ys :: xs, ρ => (setAll is ys ρ).bind (setG ts xs)
  | _, _, _ => none
def bindTg : Tg → D → Env → Option Env
  | .g ts, .tup xs, ρ => setG ts xs ρ
  | .n i, x, ρ => some (ρ.set i (some (.d x)))
  | .t is, .tup xs, ρ => setAll is xs ρ
  | _, _, _ => none
def Tg.slots : Tg → List Nat
  | .n i => [i]
  | .t is => is
  | .g ts => ts.flatMap T1.slots
theorem wipe_get (σ : L2.St) (i : Nat) : ∀ vs : List Nat, (wipe σ vs)[i]? = if i ∈ vs ∧ i < σ.length then some none else σ[i]?
  | [] => by simp [wipe]
  | v :: vs => by
    unfold wipe
    by_cases h : v = i
    · subst h
      by_cases hl : v < σ.length
      · rw [List.getElem?_set_self (by rw [wipe_length]; exact hl), if_pos ⟨List.mem_cons_self, hl⟩]
      · rw [List.getElem?_eq_none (by rw [List.length_set, wipe_length]; omega), if_neg (fun z => hl z.2), List.getElem?_eq_none (by omega)]
    · rw [List.getElem?_set_ne h, wipe_get σ i vs]
      have : (i ∈ v :: vs) ↔ i ∈ vs := by simp [Ne.symm h]
      simp only [this]
theorem wipe_set {σ : L2.St} {i : Nat} {x : Option V} {vs : List Nat} (h : i ∈ vs) : wipe (σ.set i x) vs = wipe σ vs := by
  refine List.ext_getElem? fun j => ?_
  rw [wipe_get, wipe_get, List.length_set]
  by_cases e : j ∈ vs ∧ j < σ.length
  · rw [if_pos e, if_pos e]
  · rw [if_neg e, if_neg e]
    by_cases hj : i = j
    · subst hj
      have : ¬ i < σ.length := fun z => e ⟨h, z⟩
      rw [List.getElem?_eq_none (by rw [List.length_set]; omega), List.getElem?_eq_none (by omega)]
    · rw [List.getElem?_set_ne hj]
theorem wipe_wipe {σ : L2.St} {vs : List Nat} : wipe (wipe σ vs) vs = wipe σ vs := by
  refine List.ext_getElem? fun j => ?_
  rw [wipe_get (wipe σ vs), wipe_get, wipe_length]
  split <;> rfl
/-- a target serves a datum -/
def TgOk (K : PySem.W.Frag) (g : TG) (t : Tg) : Prop := ∀ (x : D) (v : V) (F H : Hp) (A : List Addr) (σ : L2.St) (ρ ρ' : Env) (Q : L2.St → Hp → Prop), Same F H → Rep K F x v → SL K F A σ ρ → bindTg t x ρ = some ρ' → (∀ σ', SL K F A σ' ρ' → (∀ vs : List Nat, (∀ i ∈ t.slots, i ∈ vs) → wipe σ' vs = wipe σ vs) → Q σ' H) → g v σ H Q
theorem tg_n {K : PySem.W.Frag} {i : Nat} : TgOk K (gName i) (.n i) := fun x v F H A σ ρ ρ' Q e r L h k => by
  cases h
  exact k _ (L.set r) fun vs hv => wipe_set (hv i (List.mem_singleton.mpr rfl))
def gNames : List Nat → TGs
  | [] => gNil
  | i :: is => gCons (gName i) (gNames is)
theorem gNames_ok {K : PySem.W.Frag} {F H : Hp} {A : List Addr} {Q : L2.St → Hp → Prop} : ∀ {is : List Nat} {xs : List D} {vs : List V} {σ : L2.St} {ρ ρ' : Env}, Reps K F xs vs → SL K F A σ ρ → setAll is xs ρ = some ρ' → (∀ σ', SL K F A σ' ρ' → (∀ vs : List Nat, (∀ i ∈ is, i ∈ vs) → wipe σ' vs = wipe σ vs) → Q σ' H) → gNames is vs σ H Q
  | [], [], _, _, _, _, .nil, L, h, k => by cases h; exact ⟨rfl, k _ L fun _ _ => rfl⟩
  | i :: is, x :: xs, _, _, _, _, .cons r rs, L, h, k => ⟨_, _, rfl, gNames_ok rs (SL.set (c := .d x) L r) h fun σ' L' w => k σ' L' fun vs hv => (w vs fun j hj => hv j (List.mem_cons_of_mem _ hj)).trans (wipe_set (hv i List.mem_cons_self))⟩
  | [], _ :: _, _, _, _, _, _, _, h, _ => by cases h
  | _ :: _, [], _, _, _, _, _, _, h, _ => by cases h
theorem setAll_len : ∀ {is : List Nat} {xs : List D} {ρ ρ' : Env}, setAll is xs ρ = some ρ' → xs.length = is.length
  | [], [], _, _, _ => rfl
  | i :: is, x :: xs, _, _, h => by rw [List.length_cons, List.length_cons, setAll_len (is := is) (xs := xs) h]
  | [], _ :: _, _, _, h => by cases h
  | _ :: _, [], _, _, h => by cases h
theorem tg_t {K : PySem.W.Frag} {is : List Nat} {n : Nat} (hn : n = is.length) : TgOk K (gTup K n (gNames is)) (.t is) := fun x v F H A σ ρ ρ' Q e r L h k => by
  cases r with
  | tup hs hr => exact ⟨_, _, rfl, same_sqt e hs, by rw [hn, ← hr.len]; exact setAll_len h, gNames_ok hr L h k⟩
  | _ => cases h
def gT1 (K : PySem.W.Frag) : T1 → TG
  | .n i => gName i
  | .t is => gTup K is.length (gNames is)
def gT1s (K : PySem.W.Frag) : List T1 → TGs
  | [] => gNil
  | t :: ts => gCons (gT1 K t) (gT1s K ts)
theorem gT1s_ok {K : PySem.W.Frag} {F H : Hp} {A : List Addr} {Q : L2.St → Hp → Prop} (e : Same F H) : ∀ {ts : List T1} {xs : List D} {vs : List V} {σ : L2.St} {ρ ρ' : Env}, Reps K F xs vs → SL K F A σ ρ → setG ts xs ρ = some ρ' → (∀ σ', SL K F A σ' ρ' → (∀ vs : List Nat, (∀ i ∈ ts.flatMap T1.slots, i ∈ vs) → wipe σ' vs = wipe σ vs) → Q σ' H) → gT1s K ts vs σ H Q
  | [], [], _, _, _, _, .nil, L, h, k => by cases h; exact ⟨rfl, k _ L fun _ _ => rfl⟩
  | .n i :: ts, x :: xs, _, _, _, _, .cons r rs, L, h, k => ⟨_, _, rfl, gT1s_ok e rs (SL.set (c := .d x) L r) h fun σ' L' w => k σ' L' fun vs hv => (w vs fun j hj => hv j (by rw [List.flatMap_cons]; exact List.mem_append.mpr (.inr hj))).trans (wipe_set (hv i (by rw [List.flatMap_cons]; exact List.mem_append.mpr (.inl (List.mem_singleton.mpr rfl)))))⟩
  | .t is :: ts, .tup ys :: xs, _, σ, _, _, .cons r rs, L, h, k => by
    obtain ⟨ρ1, h1, h2⟩ := bind_some h
    cases r with
    | tup hs hr =>
      refine ⟨_, _, rfl, _, _, rfl, same_sqt e hs, ?_, gNames_ok hr L h1 fun σ1 L1 w1 => gT1s_ok e rs L1 h2 fun σ' L' w => k σ' L' fun vs hv => (w vs fun j hj => hv j (by rw [List.flatMap_cons]; exact List.mem_append.mpr (.inr hj))).trans (w1 vs fun j hj => hv j (by rw [List.flatMap_cons]; exact List.mem_append.mpr (.inl hj)))⟩
      rw [← hr.len]
      exact setAll_len h1
  | [], _ :: _, _, _, _, _, _, _, h, _ => by cases h
  | .n _ :: _, [], _, _, _, _, _, _, h, _ => by cases h
  | .t _ :: _, [], _, _, _, _, _, _, h, _ => by cases h
  | .t _ :: _, .non :: _, _, _, _, _, _, _, h, _ => by cases h
  | .t _ :: _, .bl _ :: _, _, _, _, _, _, _, h, _ => by cases h
  | .t _ :: _, .int _ :: _, _, _, _, _, _, _, h, _ => by cases h
  | .t _ :: _, .str _ :: _, _, _, _, _, _, _, h, _ => by cases h
  | .t _ :: _, .lst _ :: _, _, _, _, _, _, _, h, _ => by cases h
  | .t _ :: _, .wls _ :: _, _, _, _, _, _, _, h, _ => by cases h
  | .t _ :: _, .dct _ :: _, _, _, _, _, _, _, h, _ => by cases h
theorem setG_len : ∀ {ts : List T1} {xs : List D} {ρ ρ' : Env}, setG ts xs ρ = some ρ' → xs.length = ts.length
  | [], [], _, _, _ => rfl
  | .n i :: ts, x :: xs, _, _, h => by rw [List.length_cons, List.length_cons, setG_len (ts := ts) (xs := xs) h]
  | .t is :: ts, .tup ys :: xs, _, _, h => by
    obtain ⟨ρ1, h1, h2⟩ := bind_some h
    rw [List.length_cons, List.length_cons, setG_len (ts := ts) (xs := xs) h2]
  | [], _ :: _, _, _, h => by cases h
  | .n _ :: _, [], _, _, h => by cases h
  | .t _ :: _, [], _, _, h => by cases h
  | .t _ :: _, .non :: _, _, _, h => by cases h
  | .t _ :: _, .bl _ :: _, _, _, h => by cases h
  | .t _ :: _, .int _ :: _, _, _, h => by cases h
  | .t _ :: _, .str _ :: _, _, _, h => by cases h
  | .t _ :: _, .lst _ :: _, _, _, h => by cases h
  | .t _ :: _, .wls _ :: _, _, _, h => by cases h
  | .t _ :: _, .dct _ :: _, _, _, h => by cases h
theorem tg_g {K : PySem.W.Frag} {ts : List T1} {n : Nat} (hn : n = ts.length) : TgOk K (gTup K n (gT1s K ts)) (.g ts) := fun x v F H A σ ρ ρ' Q e r L h k => by
  cases r with
  | tup hs hr => exact ⟨_, _, rfl, same_sqt e hs, by rw [hn, ← hr.len]; exact setG_len h, gT1s_ok e hr L h k⟩
  | _ => cases h
/-- a, b = e -/
def sUn (t : Tg) (a : GE) : GS := fun ρ st => (a ρ st).bind fun p => match p.1 with
  | .d x => (bindTg t x ρ).map fun ρ' => .nx ρ' p.2
  | _ => none
theorem ds_un {tg e : Expr} {a : GE} {g : TG} {t : Tg} (ht : TgOk X.K g t) (hg : PG X tg g) (he : PE X e (tD X.K a)) (hs : swapsWithSole [tg] e pos.line X.env = pure false := by rfl) (hw : swappedStores [tg] e X.env = pure none := by rfl)
    (h1 : (assignEach [tg] X.env).map (·.2) = [assign tg X.env] := by rfl) : PS X (.Assign [tg] e pos) (tDS X.K (sUn t a)) := ps_imp (ps_asg he hg hs hw h1) fun Dn σ H ⟨F, A, ρ, st, r, S, L, g, k⟩ => by
  obtain ⟨⟨c, st1⟩, h1, g⟩ := bind_some g
  dsimp only at g
  split at g
  · rename_i x
    simp only [Option.map_eq_some_iff] at g
    obtain ⟨ρ', h2, rfl⟩ := g
    refine ⟨F, A, ρ, st, _, _, S, L, h1, fun v F1 H1 g1 S1 r1 => ht x v F1 H1 A σ ρ ρ' _ S1.ex r1 (L.mono g1.ex) h2 fun σ' L' _ => k σ' F1 H1 A (.of g1) S1 L'⟩
  · cases g
/-- x += e -/
def sAug (i : Nat) (g : D → D → Option D) (a : GE) : GS := fun ρ st => match ρ[i]? with
  | some (some (.d x)) => (a ρ st).bind fun p => (deref p.2 p.1).bind fun y => (g x y).map fun z => .nx (ρ.set i (some (.d z))) p.2
  | _ => none
theorem ip_addD : PIp X .Add (rDD X.K (iiD fun i j => .int (i + j))) := fun pins s σ H x y v u Q I rx ry ⟨F, A, st, a, b, z, S, ra, rb, hz, k⟩ => by
  cases ra <;> cases rb <;> simp only [iiD, reduceCtorEq] at hz
  cases hz
  exact ip_add pins s σ H _ _ v u Q I rx ry ⟨_, _, rfl, rfl, k _ F H .refl S .int⟩
theorem ip_subD : PIp X .Sub (rDD X.K (iiD fun i j => .int (i - j))) := fun pins s σ H x y v u Q I rx ry ⟨F, A, st, a, b, z, S, ra, rb, hz, k⟩ => by
  cases ra <;> cases rb <;> simp only [iiD, reduceCtorEq] at hz
  cases hz
  exact ip_sub pins s σ H _ _ v u Q I rx ry ⟨_, _, rfl, rfl, k _ F H .refl S .int⟩
theorem ds_aug {i : Nat} {x : Str} {e : Expr} {a : GE} {op : Operator} {g : D → D → Option D} {pos' : Pos} (hN : X.N.Nodup) (hi : X.N[i]? = some x) (hx : Loc X.env.scope x) (he : PE X e (tD X.K a)) (ho : PIp X op (rDD X.K g)) (hf : X.fn x = true ∨ X.env.scope.names.lookup x = some .local := by first | exact .inl rfl | exact .inr rfl | assumption) :
    PS X (.AugAssign (.Name x pos') op e pos) (tDS X.K (sAug i g a)) := ps_imp (ps_aug hN hi hx he ho hf) fun Dn σ H ⟨F, A, ρ, st, r, S, L, h, k⟩ => by
  unfold sAug at h
  split at h
  · rename_i y e1
    obtain ⟨⟨c, st1⟩, h1, h⟩ := bind_some h
    obtain ⟨b, h2, h⟩ := bind_some h
    simp only [Option.map_eq_some_iff] at h
    obtain ⟨z, h3, rfl⟩ := h
    obtain ⟨v, hv, rv⟩ := L.get i _ e1
    refine ⟨v, hv, F, A, ρ, st, c, st1, S, L, h1, fun u F1 H1 g1 S1 r1 => ⟨F1, A, st1, y, b, z, S1, Rep.p S1.ex (Rep.mono g1.ex rv), S1.deref r1 h2, h3, fun w F2 H2 g2 S2 r2 => k _ F2 H2 A (.of (g1.trans g2)) S2 ((L.mono (g1.trans g2).ex).set r2)⟩⟩
  · cases h

/-! ### a def's promise by data, and its call -/
def spD (K : PySem.W.Frag) (n : Nat) (Φ : List C → Sto → Option (C × Sto)) : Sp := fun vs H Q E => vs.length = n ∧ ∃ F A cs st c st', SS K F H A st ∧ RepCs K F A cs vs ∧ Φ cs st = some (c, st') ∧
  ∀ v F' H', Grow A F H F' H' → SS K F' H' A st' → RepC K F' A c v → Q v H'
/-- what leaves a def: its own lists are gone or data now -/
def okC (n : Nat) : C → Bool
  | .d _ => true
  | .p k => decide (k < n)
def okSO (n : Nat) : SO → Bool
  | .lst cs => cs.all (okC n)
  | .dct kvs => (kvs.map (·.2)).all (okC n)
  | .fro _ => true
def cutSt (n : Nat) (c : C) (st : Sto) : Option (C × Sto) := if (st.take n).all (okSO n) = true then some (c, st.take n) else none
def fin (n : Nat) : C → Sto → Option (C × Sto)
  | .d x, st => cutSt n (.d x) st
  | .p k, st => if k < n then cutSt n (.p k) st else (frz 4 (.p k) st).bind fun q => cutSt n (.d q.1) q.2
def fnD (N n : Nat) (G : GS) : List C → Sto → Option (C × Sto) := fun cs st => if cs.length = n then (G (cs.map some ++ List.replicate (N - n) none) st).bind fun r => match r with
  | .rt c st' => fin st.length c st'
  | .nx _ st' => fin st.length (.d .non) st'
  | _ => none else none
theorem SL.start {K : PySem.W.Frag} {F : Hp} {A : List Addr} {N : List Str} {cs : List C} {vs : List V} (r : RepCs K F A cs vs) : SL K F A (L2.start N vs) (cs.map some ++ List.replicate (N.length - cs.length) none) := by
  unfold L2.start
  refine ⟨by rw [List.length_append, List.length_append, List.length_map, List.length_map, List.length_replicate, List.length_replicate, r.len], fun i c h => ?_⟩
  by_cases hi : i < cs.length
  · rw [List.getElem?_append_left (by rw [List.length_map]; exact hi), List.getElem?_map] at h
    rw [List.getElem?_append_left (by rw [List.length_map, ← r.len]; exact hi), List.getElem?_map]
    cases e : cs[i]? with
    | none => rw [e] at h; cases h
    | some c' =>
      rw [e] at h
      cases h
      obtain ⟨v, h1, h2⟩ := r.get e
      exact ⟨v, by rw [h1]; rfl, h2⟩
  · rw [List.getElem?_append_right (by rw [List.length_map]; omega), List.getElem?_replicate] at h
    split at h <;> cases h
/-- forgetting the later objects of the store -/
theorem okC_back {K : PySem.W.Frag} {F : Hp} {A B : List Addr} {c : C} {v : V} (h : RepC K F (A ++ B) c v) (ok : okC A.length c = true) : RepC K F A c v := by
  cases c with
  | d x => exact h
  | p k =>
    obtain ⟨a, h1, h2⟩ := h
    have hk : k < A.length := of_decide_eq_true ok
    exact ⟨a, by rw [List.getElem?_append_left hk] at h1; exact h1, h2⟩
theorem okCs_back {K : PySem.W.Frag} {F : Hp} {A B : List Addr} : ∀ {cs : List C} {vs : List V}, RepCs K F (A ++ B) cs vs → cs.all (okC A.length) = true → RepCs K F A cs vs
  | _, _, .nil, _ => .nil
  | _, _, .cons h r, e => by
    rw [List.all_cons, Bool.and_eq_true] at e
    exact .cons (okC_back h e.1) (okCs_back r e.2)
theorem SS.drop {K : PySem.W.Frag} {F H : Hp} {A B : List Addr} {st : Sto} (S : SS K F H (A ++ B) st) (ok : (st.take A.length).all (okSO A.length) = true) : SS K F H A (st.take A.length) := by
  have up : ∀ {k : Nat} {a : Addr} {o : SO}, A[k]? = some a → (st.take A.length)[k]? = some o → (A ++ B)[k]? = some a ∧ st[k]? = some o := fun {k a o} hk ho => ⟨by rw [List.getElem?_append_left (List.getElem?_eq_some_iff.mp hk).1]; exact hk, by
    rw [List.getElem?_take] at ho
    split at ho
    · exact ho
    · cases ho⟩
  refine ⟨S.ex, by rw [List.length_take, ← S.len, List.length_append]; omega, (List.nodup_append.mp S.nd).1, fun k a o hk ho hf => S.fr k a o (up hk ho).1 (up hk ho).2 hf, fun k a o hk ho => ?_⟩
  have ob := S.obj k a o (up hk ho).1 (up hk ho).2
  have oo : okSO A.length o = true := List.all_eq_true.mp ok o (List.mem_of_getElem? ho)
  cases o with
  | lst cs => obtain ⟨vs, h1, h2⟩ := ob; exact ⟨vs, h1, okCs_back h2 oo⟩
  | dct kvs => obtain ⟨vs, h1, h2⟩ := ob; exact ⟨vs, h1, okCs_back h2 oo⟩
  | fro x => exact ob
theorem cut_ok {K : PySem.W.Frag} {F0 H F1 H1 : Hp} {A0 A1 : List Addr} {st0 st1 st' : Sto} {c c' : C} {v : V} {Q : VK} (S0 : SS K F0 H A0 st0) (g1 : GrowS A0 F0 H A1 F1 H1) (S1 : SS K F1 H1 A1 st1) (r1 : RepC K F1 A1 c v) (hc : okC st0.length c = true) (h : cutSt st0.length c st1 = some (c', st'))
    (kk : ∀ v F' H', Grow A0 F0 H F' H' → SS K F' H' A0 st' → RepC K F' A0 c' v → Q v H') : Q v H1 := by
  obtain ⟨B, rfl, hB⟩ := g1.app
  unfold cutSt at h
  split at h
  · rename_i ok
    cases h
    rw [← S0.len] at ok hc kk
    exact kk v F1 H1 g1.g (S1.drop ok) (okC_back r1 hc)
  · cases h
/-- a def's promise by data, where no repr is under way (the guards are empty), and nothing leaves by an exception -/
structure FnG (P : Program) (w : World) (K : PySem.W.Frag) (mg : Str → Option Value) (base : Heap) (k : Nat) (f : Addr) (fd : FuncData) (ps : List Str) (Φ : List C → Sto → Option (C × Sto)) : Prop where
  go : ∀ (A : Around) (outer : List PySem.Env) (s : Shared) (H : Hp) (args : Args) (us : List Value) (vs : List V) (Q : VK), Room k A → A.guards = some [] → Env0 P w K mg base A outer s H → BindsTo s fd args (ps.zip us) → Vals vs us → spD K ps.length Φ vs H Q E0 →
    codeAny (model P w) A (.call (.ref f) args) (CR CX0 outer P w H s Q E0) s
theorem FnG.mono {P : Program} {w : World} {K : PySem.W.Frag} {mg : Str → Option Value} {base : Heap} {j k : Nat} {f : Addr} {fd : FuncData} {ps : List Str} {Φ : List C → Sto → Option (C × Sto)} (G : FnG P w K mg base j f fd ps Φ) (h : j ≤ k) : FnG P w K mg base k f fd ps Φ :=
  ⟨fun A outer s H args us vs Q hr => G.go A outer s H args us vs Q (hr.mono h)⟩
theorem guards_in (A : Around) (env : PySem.Env) (h : A.guards = some []) : (A.deeper env).guards = some [] := by
  first | exact h | simpa [Around.deeper] using h
/-- the data reading of a whole body serves the promise -/
theorem body_D {K : PySem.W.Frag} {N ps : List Str} {G : GS} {vs : List V} {H : Hp} {Q : VK} (h : spD K ps.length (fnD N.length ps.length G) vs H Q E0) : tDS K G { nx := fun _ H' => Q .non H', rt := Q } (L2.start N vs) H := by
  obtain ⟨hl, F0, A0, cs, st, c, st', S0, R0, h, kk⟩ := h
  unfold fnD at h
  split at h
  · rename_i hcl
    obtain ⟨r, h1, h⟩ := bind_some h
    refine ⟨F0, A0, _, st, r, S0, ?_, h1, ?_⟩
    · have := SL.start (N := N) R0
      rw [hcl] at this
      exact this
    · have fin_ok : ∀ (c1 : C) (st1 : Sto) (v : V) (F1 H1 : Hp) (A1 : List Addr), GrowS A0 F0 H A1 F1 H1 → SS K F1 H1 A1 st1 → RepC K F1 A1 c1 v → DL.fin st.length c1 st1 = some (c, st') → Q v H1 := fun c1 st1 v F1 H1 A1 g1 S1 r1 hf => by
        cases c1 with
        | d y => exact cut_ok S0 g1 S1 r1 rfl hf kk
        | p j =>
          have hf : (if j < st.length then cutSt st.length (.p j) st1 else (frz 4 (.p j) st1).bind fun q => cutSt st.length (.d q.1) q.2) = some (c, st') := hf
          by_cases hj : j < st.length
          · rw [if_pos hj] at hf
            exact cut_ok S0 g1 S1 r1 (decide_eq_true hj) hf kk
          · rw [if_neg hj] at hf
            obtain ⟨⟨x, st2⟩, h2, hf⟩ := bind_some hf
            obtain ⟨F2, f2, r2⟩ := frz_ok 4 F1 st1 (.p j) v x st2 S1 r1 h2
            exact cut_ok (c := .d x) S0 (g1.trans (.of f2.grow)) f2.ss r2 rfl hf kk
      cases r with
      | rt c1 st1 => exact fun v F1 H1 A1 g1 S1 r1 => fin_ok c1 st1 v F1 H1 A1 g1 S1 r1 h
      | nx ρ1 st1 => exact fun σ1 F1 H1 A1 g1 S1 _ => fin_ok (.d .non) st1 .non F1 H1 A1 g1 S1 .non h
      | bk _ _ => cases h
      | ct _ _ => cases h
  · cases h
theorem fn_D {P : Program} {w : World} {K : PySem.W.Frag} {mg : Str → Option Value} {base : Heap} {x qual : Str} {st0 : Stmt} {f : Addr} {fd : FuncData} {N ps : List Str} {k : Nat} {G : GS} (Fu : Fun K x qual st0 f fd) (S : FnScope N ps (defScope st0))
    (hbody : ∀ (cdv : Value) (A : Around) (outer : List PySem.Env) (s : Shared) (H : Hp), Room k (A.deeper (envOfC qual (defScope st0) s.heap.objs.size f cdv)) → (A.deeper (envOfC qual (defScope st0) s.heap.objs.size f cdv)).guards = some [] →
      PSs (cxOf CX0 P w K mg base N qual (defScope st0) f cdv A outer s H E0).nox (defBody st0) (tDS K G)) : FnG P w K mg base (k + 1) f fd ps (fnD N.length ps.length G) := by
  obtain ⟨cls, dct, kwV, docV, modV, annA, codeV, clo, slots, hfd, stands, coded⟩ := Fu.ex
  subst hfd
  refine ⟨fun A outer s H args us vs Q room quiet e0 binds rel sp => ?_⟩
  have inK : K.In s.heap := e0.mod.kin.keeps fun b o e => (e0.bs b o e).1
  have nol : s.heap.NoLimit := e0.mod.nolimit.keeps fun b o e => (e0.bs b o e).1
  have kinds : ∀ y ∈ ps.zip us, (defScope st0).names.lookup y.1 = some .local ∨ ((defScope st0).names.lookup y.1 = some .cell ∧ ((cellsFrom (s.heap.objs.size + 1) (defScope st0).names []).lookup y.1).isSome = true) := by
    intro y hy
    have hm : y.1 ∈ ps := by
      obtain ⟨n, v⟩ := y
      exact (List.of_mem_zip hy).1
    cases S.par y.1 hm with
    | inl h => exact .inl h
    | inr h => exact .inr ⟨h, PySem.W.cellsFrom_some _ _ _ (.inl h)⟩
  apply codeAny_call_function room.depth (inK _ _ stands) rfl S.co S.gen rfl (PySem.W.codeRec_of inK coded)
  apply binds
  apply wpAny_newFunctionEnv_cells S.kind kinds
  intro env eqn s1 begun
  subst eqn
  refine ⟨nol.keeps begun.toInCall.keep, codeAny_func ?_⟩
  have inv : Inv (cxOf CX0 P w K mg base N qual (defScope st0) f codeV A outer s H E0) [] (L2.start N vs) H s1 := inv_start S room.hd e0 sp.1 rel begun
  have run := ((hbody codeV A outer s H (room.deeper _) (guards_in _ _ quiet)).nox).run [] s1 (L2.start N vs) H _ inv (body_D sp)
  refine wpAny_mono run (fun fl s' hs => ?_) (fun _ _ z => z)
  cases fl with
  | ret u =>
    obtain ⟨v, σ1, H1, J, rv, q⟩ := hs
    exact ⟨v, H1, J.os, J.bare, J.base, J.hok, rv, q⟩
  | next =>
    obtain ⟨σ1, H1, J, q⟩ := hs
    exact ⟨V.non, H1, J.os, J.bare, J.base, J.hok, rfl, q⟩
  | brk =>
    obtain ⟨_, _, _, q⟩ := hs
    exact q.elim
  | cont =>
    obtain ⟨_, _, _, q⟩ := hs
    exact q.elim
/-- what a def is handed: its own store holds just the objects that it is passed -/
def ptrs : List C → List Nat
  | [] => []
  | .d _ :: r => ptrs r
  | .p k :: r => k :: ptrs r
def renum : Nat → List C → List C
  | _, [] => []
  | n, .d x :: r => .d x :: renum n r
  | n, .p _ :: r => .p n :: renum (n + 1) r
def flatSO : SO → Bool
  | .lst cs => cs.all (okC 0)
  | .dct kvs => (kvs.map (·.2)).all (okC 0)
  | .fro _ => true
def pick (st : Sto) : List Nat → Option Sto
  | [] => some []
  | k :: ks => match st[k]? with
    | some o => if flatSO o = true then (pick st ks).map (o :: ·) else none
    | none => none
def putBack : Sto → List Nat → Sto → Sto
  | st, k :: ks, o :: os => putBack (st.set k o) ks os
  | st, _, _ => st
def backC (ks : List Nat) : C → Option C
  | .d x => some (.d x)
  | .p i => match ks[i]? with
    | some k => some (.p k)
    | none => none
def eCall (Φ : List C → Sto → Option (C × Sto)) (a : GA) : GE := fun ρ st => (a ρ st).bind fun p => if (ptrs p.1).Nodup then (pick p.2 (ptrs p.1)).bind fun os => (Φ (renum 0 p.1) os).bind fun q => if q.2.all flatSO = true then (backC (ptrs p.1) q.1).map fun c => (c, putBack p.2 (ptrs p.1) q.2) else none else none
theorem pick_len {st : Sto} : ∀ {ks : List Nat} {os : Sto}, pick st ks = some os → os.length = ks.length
  | [], _, h => by cases h; rfl
  | k :: ks, os, h => by
    unfold pick at h
    split at h
    · split at h
      · simp only [Option.map_eq_some_iff] at h
        obtain ⟨r, h1, rfl⟩ := h
        rw [List.length_cons, List.length_cons, pick_len h1]
      · cases h
    · cases h
theorem pick_get {st : Sto} : ∀ {ks : List Nat} {os : Sto} {i k : Nat}, pick st ks = some os → ks[i]? = some k → os[i]? = st[k]? ∧ ∀ o, os[i]? = some o → flatSO o = true
  | [], _, _, _, _, h => by simp at h
  | j :: ks, os, i, k, h, hi => by
    unfold pick at h
    split at h
    · rename_i o ho
      split at h
      · rename_i hfl
        simp only [Option.map_eq_some_iff] at h
        obtain ⟨r, h1, rfl⟩ := h
        cases i with
        | zero =>
          simp at hi
          subst hi
          refine ⟨by rw [ho]; rfl, fun u hu => ?_⟩
          have : o = u := by simpa using hu
          rw [← this]; exact hfl
        | succ i => exact pick_get (i := i) h1 (by simpa using hi)
      · cases h
    · cases h
theorem flat_at {K : PySem.W.Frag} {F : Hp} {A A' : List Addr} : ∀ {cs : List C} {vs : List V}, RepCs K F A cs vs → cs.all (okC 0) = true → RepCs K F A' cs vs
  | _, _, .nil, _ => .nil
  | _, _, .cons (c := .d x) h r, e => by
    rw [List.all_cons, Bool.and_eq_true] at e
    exact .cons h (flat_at r e.2)
  | _, _, .cons (c := .p k) h r, e => by
    rw [List.all_cons, Bool.and_eq_true] at e
    exact absurd (of_decide_eq_true (p := k < 0) e.1) (Nat.not_lt_zero k)
theorem flatSO_at {K : PySem.W.Frag} {F H : Hp} {A A' : List Addr} {a : Addr} {o : SO} (h : SObj K F H A a o) (e : flatSO o = true) : SObj K F H A' a o := by
  cases o with
  | lst cs => obtain ⟨vs, h1, h2⟩ := h; exact ⟨vs, h1, flat_at h2 e⟩
  | dct kvs => obtain ⟨vs, h1, h2⟩ := h; exact ⟨vs, h1, flat_at h2 e⟩
  | fro x => exact h
theorem putBack_len : ∀ (ks : List Nat) (st os : Sto), (putBack st ks os).length = st.length
  | [], st, os => by cases os <;> rfl
  | k :: ks, st, [] => rfl
  | k :: ks, st, o :: os => by
    show (putBack (st.set k o) ks os).length = st.length
    rw [putBack_len ks, List.length_set]
theorem putBack_out : ∀ {ks : List Nat} {st os : Sto} {j : Nat}, j ∉ ks → (putBack st ks os)[j]? = st[j]?
  | [], st, os, j, _ => by cases os <;> rfl
  | k :: ks, st, [], j, _ => rfl
  | k :: ks, st, o :: os, j, h => by
    show (putBack (st.set k o) ks os)[j]? = st[j]?
    rw [putBack_out (fun z => h (List.mem_cons_of_mem _ z)), List.getElem?_set_ne (fun e => h (by rw [e]; exact List.mem_cons_self))]
theorem putBack_in : ∀ {ks : List Nat} {st os : Sto} {i k : Nat}, ks.Nodup → ks[i]? = some k → k < st.length → i < os.length → (putBack st ks os)[k]? = os[i]?
  | [], _, _, _, _, _, h, _, _ => by simp at h
  | j :: ks, st, [], i, k, _, _, _, hl => by simp at hl
  | j :: ks, st, o :: os, 0, k, nd, h, hk, _ => by
    simp at h
    subst h
    show (putBack (st.set j o) ks os)[j]? = some o
    rw [putBack_out (List.nodup_cons.mp nd).1, List.getElem?_set_self hk]
  | j :: ks, st, o :: os, i + 1, k, nd, h, hk, hl => by
    show (putBack (st.set j o) ks os)[k]? = os[i]?
    exact putBack_in (List.nodup_cons.mp nd).2 (by simpa using h) (by rw [List.length_set]; exact hk) (by simpa using hl)
def pickA (A : List Addr) (ks : List Nat) : List Addr := ks.map fun k => A.getD k 0
theorem getD_of {A : List Addr} {k : Nat} {a : Addr} (h : A[k]? = some a) : A.getD k 0 = a := by
  rw [List.getD_eq_getElem?_getD, h]; rfl
theorem renum_reps {K : PySem.W.Frag} {F : Hp} {A : List Addr} : ∀ {cs : List C} {vs : List V} (ks : List Nat), RepCs K F A cs vs → RepCs K F (pickA A (ks ++ ptrs cs)) (renum ks.length cs) vs
  | _, _, ks, .nil => .nil
  | _, _, ks, .cons (c := .d x) (cs := cs) h r => .cons h (renum_reps ks r)
  | _, _, ks, .cons (c := .p k) (cs := cs) h r => by
    obtain ⟨a, ha, e⟩ := h
    refine .cons ⟨a, ?_, e⟩ ?_
    · unfold pickA
      show (((ks ++ k :: ptrs cs)).map fun k => A.getD k 0)[ks.length]? = some a
      rw [List.getElem?_map, List.getElem?_append_right (Nat.le_refl _), Nat.sub_self]
      show some (A.getD k 0) = some a
      rw [getD_of ha]
    · have q := renum_reps (ks ++ [k]) r
      rw [List.append_assoc, List.length_append] at q
      exact q
theorem ptrs_in {K : PySem.W.Frag} {F : Hp} {A : List Addr} : ∀ {cs : List C} {vs : List V} {k : Nat}, RepCs K F A cs vs → k ∈ ptrs cs → k < A.length
  | _, _, _, .nil, h => by cases h
  | _, _, _, .cons (c := .d x) h r, q => ptrs_in r q
  | _, _, _, .cons (c := .p k) h r, q => by
    obtain ⟨a, ha, _⟩ := h
    rcases List.mem_cons.mp q with e | q
    · rw [e]; exact (List.getElem?_eq_some_iff.mp ha).1
    · exact ptrs_in r q
theorem mem_pickA {A : List Addr} {ks : List Nat} {a : Addr} (hk : ∀ k ∈ ks, k < A.length) (h : a ∈ pickA A ks) : ∃ k ∈ ks, A[k]? = some a := by
  unfold pickA at h
  obtain ⟨k, h1, h2⟩ := List.mem_map.mp h
  exact ⟨k, h1, by rw [← h2, List.getD_eq_getElem?_getD, List.getElem?_eq_getElem (hk k h1)]; rfl⟩
theorem SS.pick {K : PySem.W.Frag} {F H : Hp} {A : List Addr} {st os : Sto} {ks : List Nat} (S : SS K F H A st) (hk : ∀ k ∈ ks, k < A.length) (nd : ks.Nodup) (h : DL.pick st ks = some os) : SS K F H (pickA A ks) os where
  ex := S.ex
  len := by rw [pick_len h]; unfold pickA; rw [List.length_map]
  nd := by
    unfold pickA
    refine List.Pairwise.map _ (fun a b e => e) ?_ |> fun (x : List.Pairwise _ _) => x
    refine List.Pairwise.imp_of_mem (fun {a b} ha hb hab e => hab ?_) nd
    have h1 := List.getElem?_eq_getElem (hk a ha)
    have h2 := List.getElem?_eq_getElem (hk b hb)
    rw [getD_of h1, getD_of h2] at e
    exact (List.getElem?_inj (hk a ha) S.nd).mp (by rw [h1, h2, e])
  fr := fun i a o hi ho hf => by
    unfold pickA at hi
    rw [List.getElem?_map] at hi
    cases e : ks[i]? with
    | none => rw [e] at hi; cases hi
    | some k =>
      rw [e] at hi
      cases hi
      rw [(pick_get h e).1] at ho
      have h1 := List.getElem?_eq_getElem (hk k (List.mem_of_getElem? e))
      exact S.fr k _ o (by show A[k]? = some (A.getD k 0); rw [getD_of h1]; exact h1) ho hf
  obj := fun i a o hi ho => by
    unfold pickA at hi
    rw [List.getElem?_map] at hi
    cases e : ks[i]? with
    | none => rw [e] at hi; cases hi
    | some k =>
      rw [e] at hi
      cases hi
      have fl := (pick_get h e).2 o ho
      rw [(pick_get h e).1] at ho
      have h1 := List.getElem?_eq_getElem (hk k (List.mem_of_getElem? e))
      exact flatSO_at (S.obj k _ o (by show A[k]? = some (A.getD k 0); rw [getD_of h1]; exact h1) ho) fl
theorem SS.putBack {K : PySem.W.Frag} {F H F' H' : Hp} {A : List Addr} {st os' : Sto} {ks : List Nat} (S : SS K F H A st) (hk : ∀ k ∈ ks, k < A.length) (nd : ks.Nodup) (g : Grow (pickA A ks) F H F' H') (S' : SS K F' H' (pickA A ks) os') (fl : os'.all flatSO = true) : SS K F' H' A (DL.putBack st ks os') ∧ Grow A F H F' H' := by
  have sub : ∀ a, a ∈ pickA A ks → a ∈ A := fun a ha => by
    obtain ⟨k, _, h2⟩ := mem_pickA hk ha
    exact List.mem_of_getElem? h2
  have out : ∀ {k : Nat} {a : Addr}, A[k]? = some a → k ∉ ks → a ∉ pickA A ks := fun {k a} hka hm z => by
    obtain ⟨j, hj, h2⟩ := mem_pickA hk z
    have : k = j := (List.getElem?_inj (List.getElem?_eq_some_iff.mp hka).1 S.nd).mp (hka.trans h2.symm)
    exact hm (by rw [this]; exact hj)
  have inn : ∀ {k : Nat} {a : Addr} {o : SO}, A[k]? = some a → (DL.putBack st ks os')[k]? = some o → k ∈ ks → ∃ i, (pickA A ks)[i]? = some a ∧ os'[i]? = some o := fun {k a o} hka ho hm => by
    obtain ⟨i, hi⟩ := List.getElem?_of_mem hm
    have hkl : k < st.length := by rw [← S.len]; exact (List.getElem?_eq_some_iff.mp hka).1
    have hil : i < os'.length := by
      rw [← S'.len]; unfold pickA; rw [List.length_map]; exact (List.getElem?_eq_some_iff.mp hi).1
    rw [putBack_in nd hi hkl hil] at ho
    refine ⟨i, ?_, ho⟩
    unfold pickA
    rw [List.getElem?_map, hi]
    show some (A.getD k 0) = some a
    rw [getD_of hka]
  refine ⟨⟨S'.ex, by rw [putBack_len]; exact S.len, S.nd, fun k a o hka ho hf => ?_, fun k a o hka ho => ?_⟩, g.ex, fun a h => ?_, fun b o hb hn => g.keep b o hb fun z => hn (sub b z), g.dom⟩
  · by_cases hm : k ∈ ks
    · obtain ⟨i, h1, h2⟩ := inn hka ho hm
      exact S'.fr i a o h1 h2 hf
    · rw [putBack_out hm] at ho
      cases q : F' a with
      | none => rfl
      | some u =>
        rcases g.new a (by rw [q]; exact fun z => nomatch z) with z | z | z
        · exact absurd (S.fr k a o hka ho hf) z
        · exact absurd z (S.there (List.mem_of_getElem? hka))
        · exact absurd z (out hka hm)
  · by_cases hm : k ∈ ks
    · obtain ⟨i, h1, h2⟩ := inn hka ho hm
      exact flatSO_at (S'.obj i a o h1 h2) (List.all_eq_true.mp fl o (List.mem_of_getElem? h2))
    · rw [putBack_out hm] at ho
      exact (S.obj k a o hka ho).mono g.ex fun u hu => g.keep a u hu (out hka hm)
  · rcases g.new a h with z | z | z
    · exact .inl z
    · exact .inr (.inl z)
    · exact .inr (.inr (sub a z))
/-- the callee's promise at the caller's state -/
theorem call_G {k : Nat} {f : Addr} {fd : FuncData} {ps : List Str} {Φ : List C → Sto → Option (C × Sto)} (G : FnG X.prog X.w X.K X.mg X.base k f fd ps Φ) (hr : Room k X.A) (hq : X.A.guards = some []) (hb : Binds X.K fd ps [])
    {pins : List (Addr × Obj)} {σ : L2.St} {H : Hp} {s : Shared} {Q : VK} {us : List Value} {vs : List V} (I : Inv X pins σ H s) (r : Vals vs us) (h : spD X.K ps.length Φ vs H Q E0) : wpAny (model X.prog X.w) X.A (call (.ref f) us) (EP X pins σ Q) X.xe s := by
  have hl : us.length = ps.length := r.length.symm.trans h.1
  have bound := hb s us I.kIn (by rw [List.append_nil]; exact hl)
  rw [List.append_nil] at bound
  refine wpAny_call (codeAny_mono (G.go X.A X.stack s H ⟨us, []⟩ us vs Q hr hq I.env0 bound r h) ?_)
  intro res s' out
  match res, out with
  | .ok (.ret u), out => exact I.after out
  | .ok .next, out => exact out.elim
  | .ok .brk, out => exact out.elim
  | .ok .cont, out => exact out.elim
  | .error e, out => exact out.elim
theorem pe_G {k : Nat} {f : Addr} {fd : FuncData} {ps : List Str} {Φ : List C → Sto → Option (C × Sto)} {x : Str} {p : Pos} {e : Expr} {es : List Expr} {t : TA} (G : FnG X.prog X.w X.K X.mg X.base k f fd ps Φ) (hr : Room k X.A) (hq : X.A.guards = some []) (hg : Gl X x) (hm : X.mg x = some (.ref f)) (hk : PySem.W.keepIn X.K (.ref f) = true) (hb : Binds X.K fd ps [])
    (ha : PA X (e :: es) t) (hdb : (x == ("__debug__" : Str)) = false) (he : starEach (e :: es) X.env = (false, eval e X.env) :: starEach es X.env) (hpl : (backTo pos (starEach es X.env)).any (·.1) = false) :
    PE X (.Call (.Name x p) (e :: es) [] pos) (fun σ H Q => t σ H fun vs H1 => spD X.K ps.length Φ vs H1 Q E0) := by
  refine ⟨fun pins s σ H Q I h => wpAny_Call_Name_kw (ld_glob I hg hm ?_ hdb)⟩
  refine PySem.W.callWith_K (h₀ := X.base) I.ok.mod.kin hk ?_ he hpl
  refine thn (ha.run pos pins s σ H _ I h) ?_
  intro us s1 ⟨vs, H1, I1, r, q⟩
  exact ⟨I1.kIn, call_G G hr hq hb I1 r q⟩
theorem de_call {k j : Nat} {f : Addr} {fd : FuncData} {ps : List Str} {Φ : List C → Sto → Option (C × Sto)} {x : Str} {p : Pos} {e : Expr} {es : List Expr} {ga : GA} (G : FnG X.prog X.w X.K X.mg X.base k f fd ps Φ) (hr : Room j X.A) (hkj : k ≤ j) (hq : X.A.guards = some []) (hg : Gl X x) (hm : X.mg x = some (.ref f)) (hk : PySem.W.keepIn X.K (.ref f) = true) (hb : Binds X.K fd ps [])
    (hn : ∀ cs st r, Φ cs st = some r → cs.length = ps.length) (ha : PA X (e :: es) (tDA X.K ga)) (hdb : (x == ("__debug__" : Str)) = false := by decide) (he : starEach (e :: es) X.env = (false, eval e X.env) :: starEach es X.env := by rfl) (hpl : (backTo pos (starEach es X.env)).any (·.1) = false := by rfl) :
    PE X (.Call (.Name x p) (e :: es) [] pos) (tD X.K (eCall Φ ga)) := pe_imp (pe_G G (hr.mono hkj) hq hg hm hk hb ha hdb he hpl) fun σ H Q ⟨F, A, ρ, st, c, st', S, L, g, kk⟩ => by
  obtain ⟨⟨cs, st1⟩, h1, g⟩ := bind_some g
  dsimp only at g
  split at g
  · rename_i nd
    obtain ⟨os, h2, g⟩ := bind_some g
    obtain ⟨⟨c1, os'⟩, h3, g⟩ := bind_some g
    dsimp only at g
    by_cases fl : os'.all flatSO = true
    case neg => rw [if_neg fl] at g; cases g
    rw [if_pos fl] at g
    simp only [Option.map_eq_some_iff, Prod.mk.injEq] at g
    obtain ⟨c2, h4, rfl, rfl⟩ := g
    refine ⟨F, A, ρ, st, cs, st1, S, L, h1, fun vs F1 H1 g1 S1 r1 => ?_⟩
    have hki : ∀ k ∈ ptrs cs, k < A.length := fun k hk => ptrs_in r1 hk
    have rr : RepCs X.K F1 (pickA A (ptrs cs)) (renum 0 cs) vs := renum_reps [] r1
    refine ⟨by rw [← rr.len]; exact hn _ _ _ h3, F1, pickA A (ptrs cs), renum 0 cs, os, c1, os', S1.pick hki nd h2, rr, h3, fun v F2 H2 g2 S2 r2 => ?_⟩
    obtain ⟨S3, g3⟩ := S1.putBack hki nd g2 S2 fl
    refine kk v F2 H2 (g1.trans g3) S3 ?_
    cases c1 with
    | d y => cases h4; exact r2
    | p i =>
      obtain ⟨a, ha', e'⟩ := r2
      simp only [backC] at h4
      split at h4
      · rename_i k2 e2
        cases h4
        refine ⟨a, ?_, e'⟩
        unfold pickA at ha'
        rw [List.getElem?_map, e2] at ha'
        cases ha'
        have h5 := List.getElem?_eq_getElem (hki k2 (List.mem_of_getElem? e2))
        show A[k2]? = some (A.getD k2 0)
        rw [getD_of h5]; exact h5
      · cases h4
  · cases g
theorem fnD_len {N n : Nat} {G : GS} : ∀ cs st r, fnD N n G cs st = some r → cs.length = n := fun cs st r h => by
  unfold fnD at h
  split at h
  · assumption
  · cases h
end
end DL
/-! DF: what is walked; for; while; comprehensions. -/
namespace DL
open PySem PySem.Spec PyProof.Rows L2

/-- what a loop goes over: items that stay, or a list of the store -/
inductive Src where
  | items (ds : List D) | sto (k : Nat)
def itemAt (st : Sto) : Src → Nat → Option (Option D)
  | .items ds, i => some ds[i]?
  | .sto k, i => match st[k]? with
    | some (.lst cs) => match cs[i]? with
      | some (.d x) => some (some x)
      | some (.p _) => none
      | none => some none
    | _ => none
def srcLen (st : Sto) : Src → Nat
  | .items ds => ds.length
  | .sto k => match st[k]? with
    | some (.lst ds) => ds.length
    | _ => 0
abbrev GI := Env → Sto → Option (Src × Sto)
structure WalkOf (K : PySem.W.Frag) (A0 : List Addr) (F0 : Hp) (J : It) (src : Src) : Prop where
  stop : ∀ (F H : Hp) (B : List Addr) (st : Sto) (i : Nat), Same F0 F → SS K F H (A0 ++ B) st → itemAt st src i = some none → J.stop i H
  go : ∀ (F H : Hp) (B : List Addr) (st : Sto) (i : Nat) (x : D), Same F0 F → SS K F H (A0 ++ B) st → itemAt st src i = some (some x) →
    J.go i H ∧ ∀ v H', J.yld i H v H' → ∃ F', Grow (A0 ++ B) F H F' H' ∧ SS K F' H' (A0 ++ B) st ∧ Rep K F' x v
def tDI (K : PySem.W.Frag) (G : GI) : TI := fun σ H R => ∃ F A ρ st src st', SS K F H A st ∧ SL K F A σ ρ ∧ G ρ st = some (src, st') ∧
  ∀ J F' H', Grow A F H F' H' → SS K F' H' A st' → WalkOf K A F' J src → R J H'
section
variable {X : Cx} {pos : Pos} {tg : Expr}
theorem pi_imp {e : Expr} {t u : TI} (h : PI X tg e t) (q : ∀ σ H R, u σ H R → t σ H R) : PI X tg e u := ⟨fun pins s σ H R I z => h.run pins s σ H R I (q σ H R z)⟩

/-! ### a list or a tuple -/
theorem sqt_inj_len {i : Nat} {vs : List V} {x : V} (h : vs[i]? = some x) : i < vs.length := (List.getElem?_eq_some_iff.mp h).1
theorem walk_l {K : PySem.W.Frag} {A : List Addr} {F : Hp} {a : Addr} {vs : List V} {ds : List D} (h : SqL K F a vs) (r : Reps K F ds vs) : WalkOf K A F (Itl K a) (.items ds) where
  stop := fun F1 H B st i e S hi => by
    simp only [itemAt, Option.some.injEq] at hi
    exact ⟨vs, S.ex.seq (e.seq h), by rw [← r.len]; exact List.getElem?_eq_none_iff.mp hi⟩
  go := fun F1 H B st i x e S hi => by
    simp only [itemAt, Option.some.injEq] at hi
    obtain ⟨v, hv, rv⟩ := (r.mono e).get hi
    refine ⟨⟨vs, v, S.ex.seq (e.seq h), hv⟩, fun w H' ⟨e1, y⟩ => ?_⟩
    subst e1
    have : some v = some w := hv.symm.trans (y vs (S.ex.seq (e.seq h)))
    cases this
    exact ⟨F1, .refl, S, rv⟩
theorem walk_t {K : PySem.W.Frag} {A : List Addr} {F : Hp} {a : Addr} {vs : List V} {ds : List D} (h : SqT K F a vs) (r : Reps K F ds vs) : WalkOf K A F (Itt K a) (.items ds) where
  stop := fun F1 H B st i e S hi => by
    simp only [itemAt, Option.some.injEq] at hi
    exact ⟨vs, same_sqt S.ex (same_sqt e h), by rw [← r.len]; exact List.getElem?_eq_none_iff.mp hi⟩
  go := fun F1 H B st i x e S hi => by
    simp only [itemAt, Option.some.injEq] at hi
    obtain ⟨v, hv, rv⟩ := (r.mono e).get hi
    refine ⟨⟨vs, v, same_sqt S.ex (same_sqt e h), hv⟩, fun w H' ⟨e1, y⟩ => ?_⟩
    subst e1
    have : some v = some w := hv.symm.trans (y vs (same_sqt S.ex (same_sqt e h)))
    cases this
    exact ⟨F1, .refl, S, rv⟩
theorem walk_p {K : PySem.W.Frag} {A : List Addr} {F : Hp} {a : Addr} {k : Nat} (ha : A[k]? = some a) : WalkOf K A F (Itl K a) (.sto k) where
  stop := fun F1 H B st i e S hi => by
    simp only [itemAt] at hi
    split at hi
    · rename_i cs e1
      split at hi
      · cases hi
      · cases hi
      · rename_i e2
        have ha' : (A ++ B)[k]? = some a := by rw [List.getElem?_append_left (List.getElem?_eq_some_iff.mp ha).1]; exact ha
        obtain ⟨vs, h1, h2⟩ := S.obj k a _ ha' e1
        exact ⟨vs, SqL.of h1, by rw [← h2.len]; exact List.getElem?_eq_none_iff.mp e2⟩
    · cases hi
  go := fun F1 H B st i x e S hi => by
    simp only [itemAt] at hi
    split at hi
    · rename_i cs e1
      split at hi
      · rename_i y e2
        cases hi
        have ha' : (A ++ B)[k]? = some a := by rw [List.getElem?_append_left (List.getElem?_eq_some_iff.mp ha).1]; exact ha
        obtain ⟨vs, h1, h2⟩ := S.obj k a _ ha' e1
        obtain ⟨v, hv, rv⟩ := h2.get e2
        refine ⟨⟨vs, v, SqL.of h1, hv⟩, fun w H' ⟨e1, y⟩ => ?_⟩
        subst e1
        have : some v = some w := hv.symm.trans (y vs (SqL.of h1))
        cases this
        exact ⟨F1, .refl, S, rv⟩
      · cases hi
      · cases hi
    · cases hi
def iV (a : GE) : GI := fun ρ st => (a ρ st).bind fun p => match p.1 with
  | .d (.tup ds) => some (.items ds, p.2)
  | .d (.lst ds) => some (.items ds, p.2)
  | .d (.wls ds) => some (.items ds, p.2)
  | .p k => match p.2[k]? with
    | some (.lst _) => some (.sto k, p.2)
    | _ => none
  | _ => none
theorem di_v {l : Expr} {a : GE} (hl : PE X l (tD X.K a)) : PI X tg l (tDI X.K (iV a)) := ⟨fun pins s σ H R I ⟨F, A, ρ, st, src, st', S, L, g, k⟩ => by
  obtain ⟨⟨c, st1⟩, h1, g⟩ := bind_some g
  dsimp only at g
  split at g
  · cases g
    refine (pi_tup hl).run pins s σ H R I ⟨F, A, ρ, st, _, _, S, L, h1, fun v F1 H1 g1 S1 r1 => ?_⟩
    cases r1 with
    | tup hs hr => exact ⟨_, rfl, ⟨_, same_sqt S1.ex hs⟩, k _ F1 H1 g1 S1 (walk_t hs hr)⟩
  · cases g
    refine (pi_list hl).run pins s σ H R I ⟨F, A, ρ, st, _, _, S, L, h1, fun v F1 H1 g1 S1 r1 => ?_⟩
    cases r1 with
    | lst hs hr => exact ⟨_, rfl, ⟨_, SqL.of (S1.ex _ _ hs)⟩, k _ F1 H1 g1 S1 (walk_l (SqL.of hs) hr)⟩
  · cases g
    refine (pi_list hl).run pins s σ H R I ⟨F, A, ρ, st, _, _, S, L, h1, fun v F1 H1 g1 S1 r1 => ?_⟩
    cases r1 with
    | wls hs hr => exact ⟨_, rfl, ⟨_, S1.ex.seq hs⟩, k _ F1 H1 g1 S1 (walk_l hs hr)⟩
  · split at g
    · rename_i ds e1
      cases g
      refine (pi_list hl).run pins s σ H R I ⟨F, A, ρ, st, _, _, S, L, h1, fun v F1 H1 g1 S1 r1 => ?_⟩
      obtain ⟨a', ha, e⟩ := r1
      obtain ⟨vs, h2, _⟩ := S1.obj _ a' _ ha e1
      exact ⟨a', e, ⟨vs, SqL.of h2⟩, k _ F1 H1 g1 S1 (walk_p ha)⟩
    · cases g
  · cases g⟩
/-! ### ranges -/
def rngD (lo : Int) (n : Nat) : List D := (List.range n).map fun i => .int (lo + (i : Nat))
theorem walk_r {K : PySem.W.Frag} {A : List Addr} {F : Hp} {lo : Int} {n : Nat} : WalkOf K A F (Itr lo n) (.items (rngD lo n)) where
  stop := fun F1 H B st i e S hi => by
    simp only [itemAt, Option.some.injEq] at hi
    have := List.getElem?_eq_none_iff.mp hi
    show n ≤ i
    simpa [rngD] using this
  go := fun F1 H B st i x e S hi => by
    simp only [itemAt, Option.some.injEq] at hi
    have hl := (List.getElem?_eq_some_iff.mp hi).1
    have hl : i < n := by simpa [rngD] using hl
    refine ⟨hl, fun w H' ⟨e1, y⟩ => ?_⟩
    subst e1 y
    have : x = .int (lo + (i : Nat)) := by
      unfold rngD at hi
      rw [List.getElem?_map, List.getElem?_range hl] at hi
      cases hi
      rfl
    subst this
    exact ⟨F1, .refl, S, .int⟩
def iR1 (a : GA) : GI := fun ρ st => (a ρ st).bind fun p => match p.1 with
  | [.d (.int j)] => if j.natAbs < 1000000 then some (.items (rngD 0 j.toNat), p.2) else none
  | _ => none
def iR2 (a : GA) : GI := fun ρ st => (a ρ st).bind fun p => match p.1 with
  | [.d (.int i), .d (.int j)] => if i.natAbs < 1000000 ∧ j.natAbs < 1000000 then some (.items (rngD i (j - i).toNat), p.2) else none
  | _ => none
theorem di_r1 {a : Expr} {ga : GA} {p : Pos} (hg : Gl X "range") (hm : X.mg "range" = none) (ha : PA X [a] (tDA X.K ga)) (hs : starEach [a] X.env = [(false, eval a X.env)] := by rfl) : PI X tg (.Call (.Name "range" p) [a] [] pos) (tDI X.K (iR1 ga)) := pi_imp (pi_range1 hg hm ha hs) fun σ H R ⟨F, A, ρ, st, src, st', S, L, g, k⟩ => by
  obtain ⟨⟨cs, st1⟩, h1, g⟩ := bind_some g
  refine ⟨F, A, ρ, st, cs, st1, S, L, h1, fun vs F1 H1 g1 S1 r1 => ?_⟩
  dsimp only at g
  split at g
  · split at g
    · rename_i j hj
      cases g
      cases r1 with
      | cons r rr =>
        cases rr
        cases r
        exact ⟨_, rfl, by omega, by omega, k _ F1 H1 g1 S1 walk_r⟩
    · cases g
  · cases g
theorem di_r2 {a b : Expr} {ga : GA} {p : Pos} (hg : Gl X "range") (hm : X.mg "range" = none) (ha : PA X [a, b] (tDA X.K ga)) (hs : starEach [a, b] X.env = [(false, eval a X.env), (false, eval b X.env)] := by rfl) (hs2 : starEach [b] X.env = [(false, eval b X.env)] := by rfl) : PI X tg (.Call (.Name "range" p) [a, b] [] pos) (tDI X.K (iR2 ga)) := pi_imp (pi_range2 hg hm ha hs hs2) fun σ H R ⟨F, A, ρ, st, src, st', S, L, g, k⟩ => by
  obtain ⟨⟨cs, st1⟩, h1, g⟩ := bind_some g
  refine ⟨F, A, ρ, st, cs, st1, S, L, h1, fun vs F1 H1 g1 S1 r1 => ?_⟩
  dsimp only at g
  split at g
  · split at g
    · rename_i i j hj
      cases g
      cases r1 with
      | cons r rr =>
        cases rr with
        | cons r' rr =>
          cases rr
          cases r
          cases r'
          exact ⟨_, _, rfl, by omega, k _ F1 H1 g1 S1 walk_r⟩
    · cases g
  · cases g

/-! ### for -/
def forG (t : Tg) (body : GS) (src : Src) : Nat → Nat → Env → Sto → Option Res
  | 0, _, _, _ => none
  | n + 1, i, ρ, st => (itemAt st src i).bind fun o => match o with
    | none => some (.nx ρ st)
    | some x => (bindTg t x ρ).bind fun ρ1 => (body ρ1 st).bind fun r => match r with
      | .nx ρ2 st2 => forG t body src n (i + 1) ρ2 st2
      | .ct ρ2 st2 => forG t body src n (i + 1) ρ2 st2
      | .bk ρ2 st2 => some (.nx ρ2 st2)
      | .rt c st2 => some (.rt c st2)
def sFor (t : Tg) (gi : GI) (body : GS) : GS := fun ρ st => (gi ρ st).bind fun p => forG t body p.1 (srcLen p.2 p.1 + 1) 0 ρ p.2
theorem ds_for {iter : Expr} {body : List Stmt} {gi : GI} {g : TG} {t : Tg} {gb : GS} (hp : PassesOwn (model X.prog X.w) X.A X.env X.xe) (hc : X.calm = true) (hi : PI X tg iter (tDI X.K gi)) (ht : TgOk X.K g t) (hg : PG X tg g) (hb : PSs X body (tDS X.K gb))
    (hs : ∀ x, foldedSetIterable iter X.env x = pure x := by intro _; rfl) : PS X (.For tg iter body [] pos) (tDS X.K (sFor t gi gb)) := ps_imp (ps_for hp hc hi hg hb hs) fun Dn σ H ⟨F, A, ρ, st, r, S, L, h, k⟩ => by
  obtain ⟨⟨src, st1⟩, h1, h⟩ := bind_some h
  refine ⟨F, A, ρ, st, src, st1, S, L, h1, fun J F1 H1 g1 S1 w1 => ?_⟩
  refine ⟨fun i m σ' H' => ∃ F' B ρ' st', GrowS A F1 H1 (A ++ B) F' H' ∧ SS X.K F' H' (A ++ B) st' ∧ SL X.K F' (A ++ B) σ' ρ' ∧ forG t gb src m i ρ' st' = some r,
    ⟨_, F1, [], ρ, st1, by rw [List.append_nil]; exact .refl, by rw [List.append_nil]; exact S1, by rw [List.append_nil]; exact L.mono g1.ex, h⟩, fun i m σ' H' ⟨F', B, ρ', st', g', S', L', h'⟩ => ?_⟩
  cases m with
  | zero => cases h'
  | succ m =>
    obtain ⟨o, h2, h'⟩ := bind_some h'
    have k' : Fin X.K F' H' (A ++ B) Dn r := k.mono ((GrowS.of g1).trans g')
    cases o with
    | none =>
      cases h'
      exact .inl ⟨w1.stop F' H' B st' i g'.g.ex S' h2, k' σ' F' H' (A ++ B) .refl S' L'⟩
    | some x =>
      obtain ⟨ρ1, h3, h'⟩ := bind_some h'
      obtain ⟨r1, h4, h'⟩ := bind_some h'
      obtain ⟨go, yl⟩ := w1.go F' H' B st' i x g'.g.ex S' h2
      refine .inr ⟨go, fun σ2 H2 => ∃ F2 B2 ρ2 st2, GrowS A F1 H1 (A ++ B2) F2 H2 ∧ SS X.K F2 H2 (A ++ B2) st2 ∧ SL X.K F2 (A ++ B2) σ2 ρ2 ∧ forG t gb src m (i + 1) ρ2 st2 = some r, fun σ2 H2 w => ⟨m, Nat.lt_succ_self m, w⟩, fun v H2 hy => ?_⟩
      obtain ⟨F2, g2, S2, rv⟩ := yl v H2 hy
      refine ht x v F2 H2 (A ++ B) σ' ρ' ρ1 _ S2.ex rv (L'.mono g2.ex) h3 fun σ3 L3 _ => ?_
      refine ⟨F2, A ++ B, ρ1, st', r1, S2, L3, h4, ?_⟩
      have kk := k'.mono (GrowS.of g2)
      have gg : GrowS A F1 H1 (A ++ B) F2 H2 := g'.trans (.of g2)
      cases r1 with
      | nx ρ2 st2 =>
        intro σ4 F4 H4 A4 g4 S4 L4
        obtain ⟨B4, e4, n4⟩ := g4.app
        subst e4
        exact ⟨F4, B ++ B4, ρ2, st2, by rw [← List.append_assoc]; exact gg.trans g4, by rw [← List.append_assoc]; exact S4, by rw [← List.append_assoc]; exact L4, h'⟩
      | ct ρ2 st2 =>
        intro σ4 F4 H4 A4 g4 S4 L4
        obtain ⟨B4, e4, n4⟩ := g4.app
        subst e4
        exact ⟨F4, B ++ B4, ρ2, st2, by rw [← List.append_assoc]; exact gg.trans g4, by rw [← List.append_assoc]; exact S4, by rw [← List.append_assoc]; exact L4, h'⟩
      | bk ρ2 st2 => cases h'; exact kk
      | rt c st2 => cases h'; exact kk

/-! ### while -/
def whG (t : GT) (body : GS) : Nat → Env → Sto → Option Res
  | 0, _, _ => none
  | n + 1, ρ, st => (t ρ st).bind fun p => if p.1 = true then (body ρ p.2).bind fun r => match r with
      | .nx ρ2 st2 => whG t body n ρ2 st2
      | .ct ρ2 st2 => whG t body n ρ2 st2
      | .bk ρ2 st2 => some (.nx ρ2 st2)
      | .rt c st2 => some (.rt c st2)
    else some (.nx ρ p.2)
def sWh (N : Nat) (t : GT) (body : GS) : GS := fun ρ st => whG t body N ρ st
theorem ds_wh (N : Nat) {c : Expr} {body : List Stmt} {t : GT} {gb : GS} (hp : PassesOwn (model X.prog X.w) X.A X.env X.xe) (hc : PT X c (tDT X.K t)) (hb : PSs X body (tDS X.K gb)) : PS X (.While c body [] pos) (tDS X.K (sWh N t gb)) := ps_imp (ps_while hp hc hb) fun Dn σ H ⟨F, A, ρ, st, r, S, L, h, k⟩ => by
  refine ⟨fun m σ' H' => ∃ F' A' ρ' st', GrowS A F H A' F' H' ∧ SS X.K F' H' A' st' ∧ SL X.K F' A' σ' ρ' ∧ whG t gb m ρ' st' = some r, ⟨N, F, A, ρ, st, .refl, S, L, h⟩, fun m σ' H' ⟨F', A', ρ', st', g', S', L', h'⟩ => ?_⟩
  cases m with
  | zero => cases h'
  | succ m =>
    obtain ⟨⟨b, st1⟩, h1, h'⟩ := bind_some h'
    refine ⟨F', A', ρ', st', b, st1, S', L', h1, fun F1 H1 g1 S1 => ?_⟩
    have kk : Fin X.K F1 H1 A' Dn r := k.mono (g'.trans (.of g1))
    have gg : GrowS A F H A' F1 H1 := g'.trans (.of g1)
    dsimp only at h'
    cases b with
    | false =>
      rw [if_neg Bool.false_ne_true] at h'
      cases h'
      exact iteF (kk σ' F1 H1 A' .refl S1 (L'.mono g1.ex))
    | true =>
      rw [if_pos rfl] at h'
      obtain ⟨r1, h2, h'⟩ := bind_some h'
      refine iteT ⟨fun σ2 H2 => ∃ F2 A2 ρ2 st2, GrowS A F H A2 F2 H2 ∧ SS X.K F2 H2 A2 st2 ∧ SL X.K F2 A2 σ2 ρ2 ∧ whG t gb m ρ2 st2 = some r, fun σ2 H2 w => ⟨m, Nat.lt_succ_self m, w⟩, F1, A', ρ', st1, r1, S1, L'.mono g1.ex, h2, ?_⟩
      cases r1 with
      | nx ρ2 st2 => exact fun σ4 F4 H4 A4 g4 S4 L4 => ⟨F4, A4, ρ2, st2, gg.trans g4, S4, L4, h'⟩
      | ct ρ2 st2 => exact fun σ4 F4 H4 A4 g4 S4 L4 => ⟨F4, A4, ρ2, st2, gg.trans g4, S4, L4, h'⟩
      | bk ρ2 st2 => cases h'; exact kk
      | rt c st2 => cases h'; exact kk

/-! ### comprehensions -/
def wipeE : Env → List Nat → Env
  | ρ, [] => ρ
  | ρ, v :: vs => (wipeE ρ vs).set v none
theorem SL.none {K : PySem.W.Frag} {F : Hp} {A : List Addr} {σ : L2.St} {ρ : Env} {i : Nat} (h : SL K F A σ ρ) : SL K F A (σ.set i none) (ρ.set i none) := ⟨by rw [List.length_set, List.length_set, h.len], fun j c q => by
  by_cases e : j = i
  · subst e
    by_cases hl : j < ρ.length
    · rw [List.getElem?_set_self hl] at q; cases q
    · rw [List.getElem?_eq_none (by rw [List.length_set]; omega)] at q; cases q
  · rw [List.getElem?_set_ne (Ne.symm e)] at q
    obtain ⟨w, h1, h2⟩ := h.get j c q
    exact ⟨w, by rw [List.getElem?_set_ne (Ne.symm e)]; exact h1, h2⟩⟩
theorem SL.wipe {K : PySem.W.Frag} {F : Hp} {A : List Addr} {σ : L2.St} {ρ : Env} (h : SL K F A σ ρ) : ∀ vs : List Nat, SL K F A (L2.wipe σ vs) (wipeE ρ vs)
  | [] => h
  | v :: vs => (SL.wipe h vs).none
def lcG (t : Tg) (test : GT) (elt : GE) (src : Src) (ρ : Env) : Nat → Nat → Sto → List D → Option (List D × Sto)
  | 0, _, _, _ => none
  | n + 1, i, st, acc => (itemAt st src i).bind fun o => match o with
    | none => some (acc, st)
    | some x => (bindTg t x ρ).bind fun ρ1 => (test ρ1 st).bind fun p => if p.1 = true then (elt ρ1 p.2).bind fun q => (frz 4 q.1 q.2).bind fun y => if acc.length < 1000000 then lcG t test elt src ρ n (i + 1) y.2 (acc ++ [y.1]) else none
      else lcG t test elt src ρ n (i + 1) p.2 acc
def gYes : GT := fun _ st => some (true, st)
def eLc (vs : List Nat) (t : Tg) (gi : GI) (test : GT) (elt : GE) : GE := fun ρ st => (gi ρ st).bind fun p => (lcG t test elt p.1 (wipeE ρ vs) (srcLen p.2 p.1 + 1) 0 p.2 []).map fun q => (.d (.lst q.1), q.2)
theorem SS.other {K : PySem.W.Frag} {F H : Hp} {A : List Addr} {st : Sto} {a : Addr} {o : HO} (S : SS K F H A st) (hF : F a = none) (hA : a ∉ A) : SS K F (upd H a o) A st :=
  ⟨fun b u h => by rw [upd_ne (ne_of_none h hF)]; exact S.ex b u h, S.len, S.nd, S.fr, fun k b u hk hu => (S.obj k b u hk hu).mono (Same.refl _) fun w hw => by
    have : b ≠ a := fun z => by subst z; exact hA (List.mem_of_getElem? hk)
    rw [upd_ne this]; exact hw⟩
theorem Grow.other {A : List Addr} {F H F' H' : Hp} {a : Addr} {o : HO} (g : Grow A F H F' H') (hn : H a = none) : Grow A F H F' (upd H' a o) :=
  ⟨g.ex, g.new, fun b u hb n => by rw [upd_ne (ne_of_none hb hn)]; exact g.keep b u hb n, fun b hb => by
    by_cases e : b = a
    · subst e; rw [upd_same]; exact fun z => nomatch z
    · rw [upd_ne e]; exact g.dom b hb⟩
theorem lc_loop {K : PySem.W.Frag} {vs : List Nat} {t : Tg} {test : GT} {elt : GE} {g : TG} {σ : L2.St} {F0 H0 F1 H1 : Hp} {A : List Addr} {ρw : Env} {st1 st2 : Sto} {acc0 ds : List D} {us0 : List V} {src : Src} {J : It} {Da : Addr} {fuel : Nat} {Nd : Hp → Prop} (ht : TgOk K g t) (hv : ∀ i ∈ t.slots, i ∈ vs)
    (w1 : WalkOf K A F1 J src) (hH0 : H0 Da = none) (g1 : Grow A F0 H0 F1 H1) (S1 : SS K F1 H1 A st1) (hA : Da ∉ A) (L1 : SL K F1 A (L2.wipe σ vs) ρw) (hD : H1 Da = some (.lst us0)) (hF : F1 Da = none) (hr0 : Reps K F1 acc0 us0)
    (h0 : lcG t test elt src ρw fuel 0 st1 acc0 = some (ds, st2)) (hk : ∀ F' H' us, Grow A F0 H0 F' H' → SS K F' H' A st2 → H' Da = some (.lst us) → F' Da = none → Same F1 F' → Reps K F' ds us → Nd H') :
    ∃ W : Nat → Nat → Hp → Prop, (∃ m, W 0 m H1) ∧ ∀ i m H, W i m H → (J.stop i H ∧ Nd H) ∨ (J.go i H ∧ ∃ Nx : Hp → Prop, (∀ H', Nx H' → ∃ m', m' < m ∧ W (i + 1) m' H') ∧ ∀ x H', J.yld i H x H' → g x (L2.wipe σ vs) H' fun σ2 H2 => L2.wipe σ2 vs = L2.wipe σ vs ∧ tDT K test σ2 H2 fun b H3 =>
      if b = true then tD K elt σ2 H3 fun y H4 => ∃ acc, H4 Da = some (.lst acc) ∧ acc.length < sizeLine ∧ Nx (upd H4 Da (.lst (acc ++ [y]))) else Nx H3) := by
  refine ⟨fun i m H' => ∃ F' stc acc us, Grow A F0 H0 F' H' ∧ SS K F' H' A stc ∧ H' Da = some (.lst us) ∧ F' Da = none ∧ Same F1 F' ∧ Reps K F' acc us ∧ lcG t test elt src ρw m i stc acc = some (ds, st2),
    ⟨fuel, F1, st1, acc0, us0, g1, S1, hD, hF, Same.refl F1, hr0, h0⟩, fun i m H' ⟨F', stc, acc, us, g', S', hDa, hFD, e1, hr, h'⟩ => ?_⟩
  cases m with
  | zero => cases h'
  | succ m =>
    obtain ⟨o, h2, h'⟩ := bind_some h'
    have S'' : SS K F' H' (A ++ []) stc := by rw [List.append_nil]; exact S'
    cases o with
    | none =>
      cases h'
      exact .inl ⟨w1.stop F' H' [] _ i e1 S'' h2, hk F' H' us g' S' hDa hFD e1 hr⟩
    | some x =>
      obtain ⟨ρ1, h3, h'⟩ := bind_some h'
      obtain ⟨⟨b, st3⟩, h4, h'⟩ := bind_some h'
      obtain ⟨go, yl⟩ := w1.go F' H' [] stc i x e1 S'' h2
      refine .inr ⟨go, fun H2 => ∃ F2 st2' acc us, Grow A F0 H0 F2 H2 ∧ SS K F2 H2 A st2' ∧ H2 Da = some (.lst us) ∧ F2 Da = none ∧ Same F1 F2 ∧ Reps K F2 acc us ∧ lcG t test elt src ρw m (i + 1) st2' acc = some (ds, st2), fun H2 w => ⟨m, Nat.lt_succ_self m, w⟩, fun v H2 hy => ?_⟩
      obtain ⟨F2, g2, S2, rv⟩ := yl v H2 hy
      rw [List.append_nil] at g2 S2
      have stay : ∀ {Fa Ha Fb Hb : Hp} {ws : List V}, Grow A Fa Ha Fb Hb → Ha Da = some (.lst ws) → Fa Da = none → Hb Da = some (.lst ws) ∧ Fb Da = none := fun {Fa Ha Fb Hb ws} gg e1 e2 => ⟨gg.keep _ _ e1 hA, by
        cases q : Fb Da with
        | none => rfl
        | some o =>
          rcases gg.new Da (by rw [q]; exact fun z => nomatch z) with z | z | z
          · exact absurd e2 z
          · rw [e1] at z; cases z
          · exact absurd z hA⟩
      obtain ⟨hD2, hFD2⟩ := stay g2 hDa hFD
      refine ht x v F2 H2 A (L2.wipe σ vs) ρw ρ1 _ S2.ex rv (L1.mono (e1.trans g2.ex)) h3 fun σ3 L3 wv => ⟨(wv vs hv).trans wipe_wipe, ?_⟩
      refine ⟨F2, A, ρ1, stc, b, st3, S2, L3, h4, fun F3 H3 g3 S3 => ?_⟩
      obtain ⟨hD3, hFD3⟩ := stay g3 hD2 hFD2
      dsimp only at h'
      cases b with
      | false =>
        rw [if_neg Bool.false_ne_true] at h'
        exact iteF ⟨F3, st3, acc, us, (g'.trans g2).trans g3, S3, hD3, hFD3, (e1.trans g2.ex).trans g3.ex, (hr.mono g2.ex).mono g3.ex, h'⟩
      | true =>
        rw [if_pos rfl] at h'
        obtain ⟨⟨c, st4⟩, h5, h'⟩ := bind_some h'
        obtain ⟨⟨yd, st5⟩, h6, h'⟩ := bind_some h'
        refine iteT ⟨F3, A, ρ1, st3, c, st4, S3, L3.mono g3.ex, h5, fun y F4 H4 g4 S4 r4 => ?_⟩
        obtain ⟨F5, f5, r5⟩ := frz_ok 4 F4 st4 c y yd st5 S4 r4 h6
        have g5 := g4.trans f5.grow
        obtain ⟨hD5, hFD5⟩ := stay g5 hD3 hFD3
        dsimp only at h'
        split at h'
        · rename_i hl
          have hr5 := ((hr.mono g2.ex).mono g3.ex).mono g5.ex
          refine ⟨us, hD5, by rw [← hr5.len]; exact lim6' hl, F5, st5, acc ++ [yd], us ++ [y], ?_, f5.ss.other hFD5 hA, upd_same, hFD5, ((e1.trans g2.ex).trans g3.ex).trans g5.ex, hr5.app (.cons r5 .nil), h'⟩
          exact (((g'.trans g2).trans g3).trans g5).other hH0
        · cases h'
theorem lc_imp {K : PySem.W.Frag} {vs : List Nat} {t : Tg} {gi : GI} {test : GT} {elt : GE} {g : TG} {σ : L2.St} {H F : Hp} {A : List Addr} {ρ : Env} {st : Sto} {ds : List D} {st' : Sto} {Q : VK} (ht : TgOk K g t) (hv : ∀ i ∈ t.slots, i ∈ vs)
    (S : SS K F H A st) (L : SL K F A σ ρ) (h : eLc vs t gi test elt ρ st = some (.d (.lst ds), st'))
    (k : ∀ a us F' H', Grow A F H F' H' → SS K F' H' A st' → F' a = none → H a = none → H' a = some (.lst us) → a ∉ A → Reps K F' ds us → Q (.ref a) H') : tLc (tDI K gi) g (tDT K test) (tD K elt) vs σ H Q := by
  obtain ⟨⟨src, st1⟩, h1, h⟩ := bind_some h
  have hgi := h1
  simp only [Option.map_eq_some_iff, Prod.mk.injEq, C.d.injEq, D.lst.injEq] at h
  obtain ⟨⟨ds', st2⟩, h0, rfl, rfl⟩ := h
  clear h1
  refine ⟨F, A, ρ, st, src, st1, S, L, hgi, fun J F1 H1 g1 S1 w1 Da hD => ?_⟩
  have hF1 : F1 Da = none := S1.ex.free hD
  have hA : Da ∉ A := S1.fresh hD
  have hH : H Da = none := by
    cases q : H Da with
    | none => rfl
    | some o => exact absurd hD (g1.dom Da (by rw [q]; exact fun z => nomatch z))
  exact lc_loop ht hv w1 hH (g1.other hH) (S1.other hF1 hA) hA ((L.mono g1.ex).wipe vs) upd_same hF1 .nil h0 fun F' H' us g' S' hDa hFD _ hr => k Da us F' H' g' S' hFD hH hDa hA hr
theorem lc_lst {vs : List Nat} {t : Tg} {gi : GI} {test : GT} {elt : GE} {ρ : Env} {st st' : Sto} {c : C} (h : eLc vs t gi test elt ρ st = some (c, st')) : ∃ ds, c = .d (.lst ds) := by
  obtain ⟨⟨src, st1⟩, h1, h⟩ := bind_some h
  simp only [Option.map_eq_some_iff, Prod.mk.injEq] at h
  obtain ⟨q, _, e, _⟩ := h
  exact ⟨_, e.symm⟩
theorem yes_imp {K : PySem.W.Frag} : ∀ σ H Q, tDT K gYes σ H Q → tYes σ H Q := fun σ H Q ⟨F, A, ρ, st, b, st', S, L, g, k⟩ => by
  cases g
  exact k F H .refl S
theorem pts_imp {e : List Expr} {t u : TT} (h : PTs X e t) (q : ∀ σ H Q, u σ H Q → t σ H Q) : PTs X e u := ⟨fun pins s σ H Q I z => h.run pins s σ H Q I (q σ H Q z)⟩
theorem dts_n : PTs X [] (tDT X.K gYes) := pts_imp pts_nil yes_imp
theorem dts_1 {c : Expr} {t : GT} (h : PT X c (tDT X.K t)) : PTs X [c] (tDT X.K t) := pts_one h
theorem lc_frozen {K : PySem.W.Frag} {F F' H H' : Hp} {A : List Addr} {st' : Sto} {a : Addr} {us : List V} {ds : List D} {c : C} {Q : VK} (g : Grow A F H F' H') (S : SS K F' H' A st') (hF : F' a = none) (hH : H a = none) (hH' : H' a = some (.lst us)) (hA : a ∉ A) (hr : Reps K F' ds us)
    (k : ∀ v F' H', Grow A F H F' H' → SS K F' H' A st' → RepC K F' A (.d (.lst ds)) v → Q v H') : Q (.ref a) H' := by
  have e2 : Same F' (upd F' a (.lst us)) := fun b u h => by rw [upd_ne (ne_of_none h hF)]; exact h
  refine k _ (upd F' a (.lst us)) H' ⟨g.ex.trans e2, fun b hb => ?_, g.keep, g.dom⟩ ⟨fun b u h => ?_, S.len, S.nd, fun k b u hk hu hf => ?_, fun k b u hk hu => (S.obj k b u hk hu).mono e2 fun _ z => z⟩ (.lst upd_same (hr.mono e2))
  · by_cases e : b = a
    · subst e; exact .inr (.inl hH)
    · rw [upd_ne e] at hb; exact g.new b hb
  · by_cases e : b = a
    · subst e; rw [upd_same] at h; cases h; exact hH'
    · rw [upd_ne e] at h; exact S.ex b u h
  · rw [upd_ne (fun e => hA (by rw [← e]; exact List.mem_of_getElem? hk))]; exact S.fr k b u hk hu hf
/-- [e for a in xs for b in ys] -/
def lcG2 (t : Tg) (gi1 : GI) (vs1 : List Nat) (t1 : Tg) (test1 : GT) (elt : GE) (src : Src) (ρw : Env) : Nat → Nat → Sto → List D → Option (List D × Sto)
  | 0, _, _, _ => none
  | n + 1, i, st, acc => (itemAt st src i).bind fun o => match o with
    | none => some (acc, st)
    | some x => (bindTg t x ρw).bind fun ρ1 => (gi1 ρ1 st).bind fun p => (lcG t1 test1 elt p.1 (wipeE ρ1 vs1) (srcLen p.2 p.1 + 1) 0 p.2 acc).bind fun q => lcG2 t gi1 vs1 t1 test1 elt src ρw n (i + 1) q.2 q.1
def eLc2 (vs vs1 : List Nat) (t t1 : Tg) (gi gi1 : GI) (test1 : GT) (elt : GE) : GE := fun ρ st => (gi ρ st).bind fun p => (lcG2 t gi1 vs1 t1 test1 elt p.1 (wipeE ρ vs) (srcLen p.2 p.1 + 1) 0 p.2 []).map fun q => (.d (.lst q.1), q.2)
theorem lc2_imp {K : PySem.W.Frag} {vs vs1 : List Nat} {t t1 : Tg} {gi gi1 : GI} {test1 : GT} {elt : GE} {g gg1 : TG} {σ : L2.St} {H F : Hp} {A : List Addr} {ρ : Env} {st : Sto} {ds : List D} {st' : Sto} {Q : VK} (ht : TgOk K g t) (hv : ∀ i ∈ t.slots, i ∈ vs) (ht1 : TgOk K gg1 t1) (hv1 : ∀ i ∈ t1.slots, i ∈ vs1)
    (S : SS K F H A st) (L : SL K F A σ ρ) (h : eLc2 vs vs1 t t1 gi gi1 test1 elt ρ st = some (.d (.lst ds), st'))
    (k : ∀ a us F' H', Grow A F H F' H' → SS K F' H' A st' → F' a = none → H a = none → H' a = some (.lst us) → a ∉ A → Reps K F' ds us → Q (.ref a) H') : tLc2 (tDI K gi) g tYes (tDI K gi1) gg1 (tDT K test1) (tD K elt) vs vs1 σ H Q := by
  obtain ⟨⟨src, st1⟩, h1, h⟩ := bind_some h
  have hgi := h1
  simp only [Option.map_eq_some_iff, Prod.mk.injEq, C.d.injEq, D.lst.injEq] at h
  obtain ⟨⟨ds', st2⟩, h0, rfl, rfl⟩ := h
  clear h1
  refine ⟨F, A, ρ, st, src, st1, S, L, hgi, fun J F1 H1 g1 S1 w1 Da hD => ?_⟩
  have hF1 : F1 Da = none := S1.ex.free hD
  have hA : Da ∉ A := S1.fresh hD
  have hH : H Da = none := by
    cases q : H Da with
    | none => rfl
    | some o => exact absurd hD (g1.dom Da (by rw [q]; exact fun z => nomatch z))
  have L1 : SL K F1 A (L2.wipe σ vs) (wipeE ρ vs) := (L.mono g1.ex).wipe vs
  refine ⟨fun i m H' => ∃ F' stc acc us, Grow A F H F' H' ∧ SS K F' H' A stc ∧ H' Da = some (.lst us) ∧ F' Da = none ∧ Same F1 F' ∧ Reps K F' acc us ∧ lcG2 t gi1 vs1 t1 test1 elt src (wipeE ρ vs) m i stc acc = some (ds', st2),
    ⟨_, F1, st1, [], [], g1.other hH, S1.other hF1 hA, upd_same, hF1, Same.refl F1, .nil, h0⟩, fun i m H' ⟨F', stc, acc, us, g', S', hDa, hFD, e1, hr, h'⟩ => ?_⟩
  cases m with
  | zero => cases h'
  | succ m =>
    obtain ⟨o, h2, h'⟩ := bind_some h'
    have S'' : SS K F' H' (A ++ []) stc := by rw [List.append_nil]; exact S'
    cases o with
    | none =>
      cases h'
      exact .inl ⟨w1.stop F' H' [] _ i e1 S'' h2, k Da us F' H' g' S' hFD hH hDa hA hr⟩
    | some x =>
      obtain ⟨ρ1, h3, h'⟩ := bind_some h'
      obtain ⟨⟨src1, st3⟩, h4, h'⟩ := bind_some h'
      obtain ⟨⟨acc1, st4⟩, h5, h'⟩ := bind_some h'
      obtain ⟨go, yl⟩ := w1.go F' H' [] stc i x e1 S'' h2
      refine .inr ⟨go, fun H2 => ∃ F2 st2' acc us, Grow A F H F2 H2 ∧ SS K F2 H2 A st2' ∧ H2 Da = some (.lst us) ∧ F2 Da = none ∧ Same F1 F2 ∧ Reps K F2 acc us ∧ lcG2 t gi1 vs1 t1 test1 elt src (wipeE ρ vs) m (i + 1) st2' acc = some (ds', st2), fun H2 w => ⟨m, Nat.lt_succ_self m, w⟩, fun v H2 hy => ?_⟩
      obtain ⟨F2, g2, S2, rv⟩ := yl v H2 hy
      rw [List.append_nil] at g2 S2
      have stay : ∀ {Fa Ha Fb Hb : Hp} {ws : List V}, Grow A Fa Ha Fb Hb → Ha Da = some (.lst ws) → Fa Da = none → Hb Da = some (.lst ws) ∧ Fb Da = none := fun {Fa Ha Fb Hb ws} gg e1 e2 => ⟨gg.keep _ _ e1 hA, by
        cases q : Fb Da with
        | none => rfl
        | some o =>
          rcases gg.new Da (by rw [q]; exact fun z => nomatch z) with z | z | z
          · exact absurd e2 z
          · rw [e1] at z; cases z
          · exact absurd z hA⟩
      obtain ⟨hD2, hFD2⟩ := stay g2 hDa hFD
      refine ht x v F2 H2 A (L2.wipe σ vs) (wipeE ρ vs) ρ1 _ S2.ex rv (L1.mono (e1.trans g2.ex)) h3 fun σ3 L3 wv => ⟨(wv vs hv).trans wipe_wipe, ?_⟩
      unfold tYes
      refine iteT ?_
      refine ⟨F2, A, ρ1, stc, src1, st3, S2, L3, h4, fun J1 F3 H3 g3 S3 w3 => ?_⟩
      obtain ⟨hD3, hFD3⟩ := stay g3 hD2 hFD2
      exact lc_loop ht1 hv1 w3 hH ((g'.trans g2).trans g3) S3 hA ((L3.mono g3.ex).wipe vs1) hD3 hFD3 ((hr.mono g2.ex).mono g3.ex) h5 fun F4 H4 us4 g4 S4 hD4 hFD4 e4 hr4 => ⟨F4, st4, acc1, us4, g4, S4, hD4, hFD4, ((e1.trans g2.ex).trans g3.ex).trans e4, hr4, h'⟩
theorem lc2_lst {vs vs1 : List Nat} {t t1 : Tg} {gi gi1 : GI} {test : GT} {elt : GE} {ρ : Env} {st st' : Sto} {c : C} (h : eLc2 vs vs1 t t1 gi gi1 test elt ρ st = some (c, st')) : ∃ ds, c = .d (.lst ds) := by
  obtain ⟨⟨src, st1⟩, h1, h⟩ := bind_some h
  simp only [Option.map_eq_some_iff, Prod.mk.injEq] at h
  obtain ⟨q, _, e, _⟩ := h
  exact ⟨_, e.symm⟩
theorem de_lc2 {elt tg tg1 iter iter1 : Expr} {ifs1 : List Expr} {scope : Scope} {own : List (Str × Nat)} {vs1 : List Nat} {gi gi1 : GI} {g gg1 : TG} {t t1 : Tg} {gt1 : GT} {ge : GE} (hc : X.calm = true) (hN : X.N.Nodup) (hi : PI X tg iter (tDI X.K gi)) (ok : BlkOk X.N X.env.scope scope own) (hvs : ∀ i ∈ vs1, i ∈ own.map (·.2)) (ht : TgOk X.K g t) (hv : ∀ i ∈ t.slots, i ∈ own.map (·.2)) (ht1 : TgOk X.K gg1 t1) (hv1 : ∀ i ∈ t1.slots, i ∈ vs1)
    (hg : ∀ (s : Shared) (H : Hp) (C : Addr) (cl : List (Str × Addr)) (fp : List Addr), PG (X.blk s H scope (compEnvC scope cl C X.env) fp) tg g)
    (hi1 : ∀ (s : Shared) (H : Hp) (C : Addr) (cl : List (Str × Addr)) (fp : List Addr), PI (X.blk s H scope (compEnvC scope cl C X.env) fp) tg1 iter1 (tDI X.K gi1)) (hg1 : ∀ (s : Shared) (H : Hp) (C : Addr) (cl : List (Str × Addr)) (fp : List Addr), PG (X.blk s H scope (compEnvC scope cl C X.env) fp) tg1 gg1)
    (ht1t : ∀ (s : Shared) (H : Hp) (C : Addr) (cl : List (Str × Addr)) (fp : List Addr), PTs (X.blk s H scope (compEnvC scope cl C X.env) fp) ifs1 (tDT X.K gt1)) (he : ∀ (s : Shared) (H : Hp) (C : Addr) (cl : List (Str × Addr)) (fp : List Addr), PE (X.blk s H scope (compEnvC scope cl C X.env) fp) elt (tD X.K ge)) (hs : ∀ x, foldedSetIterable iter X.env x = pure x := by intro _; rfl) (hs1 : ∀ env x, foldedSetIterable iter1 env x = pure x := by intro _ _; rfl) :
    PE X (.ListComp elt [⟨tg, iter, [], 0⟩, ⟨tg1, iter1, ifs1, 0⟩] scope pos) (tD X.K (eLc2 (own.map (·.2)) vs1 t t1 gi gi1 gt1 ge)) := pe_imp (pe_lc2 hc hN hi ok hvs hg (fun _ _ _ _ _ => pts_nil) hi1 hg1 ht1t he hs hs1) fun σ H Q ⟨F, A, ρ, st, c, st', S, L, h, k⟩ => by
  obtain ⟨ds, rfl⟩ := lc2_lst h
  exact lc2_imp ht hv ht1 hv1 S L h fun a us F' H' gr S' hF hH hH' hA hr => lc_frozen (c := .d (.lst ds)) gr S' hF hH hH' hA hr k
/-- name = [e for .. for ..] -/
theorem ds_lc2 {i : Nat} {y : Str} {py spos : Pos} {elt tg tg1 iter iter1 : Expr} {ifs1 : List Expr} {scope : Scope} {own : List (Str × Nat)} {vs1 : List Nat} {gi gi1 : GI} {g gg1 : TG} {t t1 : Tg} {gt1 : GT} {ge : GE} (hc : X.calm = true) (hN : X.N.Nodup) (hy : X.N[i]? = some y) (hyl : X.env.scope.names.lookup y = some .local) (hsw : swapsWith (.ListComp elt [⟨tg, iter, [], 0⟩, ⟨tg1, iter1, ifs1, 0⟩] scope pos) (some (.Name y py)) spos.line X.env = pure true) (hi : PI X tg iter (tDI X.K gi)) (ok : BlkOk X.N X.env.scope scope own) (hvs : ∀ i ∈ vs1, i ∈ own.map (·.2)) (ht : TgOk X.K g t) (hv : ∀ i ∈ t.slots, i ∈ own.map (·.2)) (ht1 : TgOk X.K gg1 t1) (hv1 : ∀ i ∈ t1.slots, i ∈ vs1)
    (hg : ∀ (s : Shared) (H : Hp) (C : Addr) (cl : List (Str × Addr)) (fp : List Addr), PG (X.blk s H scope (compEnvC scope cl C X.env) fp) tg g)
    (hi1 : ∀ (s : Shared) (H : Hp) (C : Addr) (cl : List (Str × Addr)) (fp : List Addr), PI (X.blk s H scope (compEnvC scope cl C X.env) fp) tg1 iter1 (tDI X.K gi1)) (hg1 : ∀ (s : Shared) (H : Hp) (C : Addr) (cl : List (Str × Addr)) (fp : List Addr), PG (X.blk s H scope (compEnvC scope cl C X.env) fp) tg1 gg1)
    (ht1t : ∀ (s : Shared) (H : Hp) (C : Addr) (cl : List (Str × Addr)) (fp : List Addr), PTs (X.blk s H scope (compEnvC scope cl C X.env) fp) ifs1 (tDT X.K gt1)) (he : ∀ (s : Shared) (H : Hp) (C : Addr) (cl : List (Str × Addr)) (fp : List Addr), PE (X.blk s H scope (compEnvC scope cl C X.env) fp) elt (tD X.K ge)) (hs : ∀ x, foldedSetIterable iter X.env x = pure x := by intro _; rfl) (hs1 : ∀ env x, foldedSetIterable iter1 env x = pure x := by intro _ _; rfl) :
    PS X (.Assign [.Name y py] (.ListComp elt [⟨tg, iter, [], 0⟩, ⟨tg1, iter1, ifs1, 0⟩] scope pos) spos) (tDS X.K (sSet i (eLc2 (own.map (·.2)) vs1 t t1 gi gi1 gt1 ge))) := ps_imp (ps_setLc2 hc hN hy hyl hsw hi ok hvs hg (fun _ _ _ _ _ => pts_nil) hi1 hg1 ht1t he hs hs1) fun Dn σ H h => by
  obtain ⟨F, A, ρ, st, c, st', S, L, h, k⟩ := set_imp Dn σ H h
  obtain ⟨ds, rfl⟩ := lc2_lst h
  exact lc2_imp (Q := fun x H1 => gName i x σ H1 Dn.nx) ht hv ht1 hv1 S L h fun a us F' H' gr S' hF hH hH' hA hr => lc_frozen (c := .d (.lst ds)) (Q := fun x H1 => gName i x σ H1 Dn.nx) gr S' hF hH hH' hA hr k
section
variable {elt iter : Expr} {ifs : List Expr} {scope : Scope} {own : List (Str × Nat)} {gi : GI} {g : TG} {t : Tg} {gt : GT} {ge : GE}
theorem de_lc (hc : X.calm = true) (hN : X.N.Nodup) (hi : PI X tg iter (tDI X.K gi)) (ok : BlkOk X.N X.env.scope scope own) (ht : TgOk X.K g t) (hv : ∀ i ∈ t.slots, i ∈ own.map (·.2))
    (hg : ∀ (s : Shared) (H : Hp) (C : Addr) (cl : List (Str × Addr)) (fp : List Addr), PG (X.blk s H scope (compEnvC scope cl C X.env) fp) tg g) (htt : ∀ (s : Shared) (H : Hp) (C : Addr) (cl : List (Str × Addr)) (fp : List Addr), PTs (X.blk s H scope (compEnvC scope cl C X.env) fp) ifs (tDT X.K gt))
    (he : ∀ (s : Shared) (H : Hp) (C : Addr) (cl : List (Str × Addr)) (fp : List Addr), PE (X.blk s H scope (compEnvC scope cl C X.env) fp) elt (tD X.K ge)) (hs : ∀ x, foldedSetIterable iter X.env x = pure x := by intro _; rfl) :
    PE X (.ListComp elt [⟨tg, iter, ifs, 0⟩] scope pos) (tD X.K (eLc (own.map (·.2)) t gi gt ge)) := pe_imp (pe_lc hc hN hi ok hg htt he hs) fun σ H Q ⟨F, A, ρ, st, c, st', S, L, h, k⟩ => by
  obtain ⟨ds, rfl⟩ := lc_lst h
  exact lc_imp ht hv S L h fun a us F' H' gr S' hF hH hH' hA hr => lc_frozen (c := .d (.lst ds)) gr S' hF hH hH' hA hr k
theorem dn_lc (hc : X.calm = true) (hN : X.N.Nodup) (hi : PI X tg iter (tDI X.K gi)) (ok : BlkOk X.N X.env.scope scope own) (ht : TgOk X.K g t) (hv : ∀ i ∈ t.slots, i ∈ own.map (·.2))
    (hg : ∀ (s : Shared) (H : Hp) (C : Addr) (cl : List (Str × Addr)) (fp : List Addr), PG (X.blk s H scope (compEnvC scope cl C X.env) fp) tg g) (htt : ∀ (s : Shared) (H : Hp) (C : Addr) (cl : List (Str × Addr)) (fp : List Addr), PTs (X.blk s H scope (compEnvC scope cl C X.env) fp) ifs (tDT X.K gt))
    (he : ∀ (s : Shared) (H : Hp) (C : Addr) (cl : List (Str × Addr)) (fp : List Addr), PE (X.blk s H scope (compEnvC scope cl C X.env) fp) elt (tD X.K ge)) (hs : ∀ x, foldedSetIterable iter X.env x = pure x := by intro _; rfl) :
    PE X (.ListComp elt [⟨tg, iter, ifs, 0⟩] scope pos) (tDN X.K (eLc (own.map (·.2)) t gi gt ge)) := pe_imp (pe_lc hc hN hi ok hg htt he hs) fun σ H Q ⟨F, A, ρ, st, ds, st', S, L, h, k⟩ => lc_imp ht hv S L h k
/-- name = [..] -/
theorem ds_lc {i : Nat} {y : Str} {py spos : Pos} (hc : X.calm = true) (hN : X.N.Nodup) (hy : X.N[i]? = some y) (hyl : X.env.scope.names.lookup y = some .local) (hsw : swapsWith (.ListComp elt [⟨tg, iter, ifs, 0⟩] scope pos) (some (.Name y py)) spos.line X.env = pure true) (hi : PI X tg iter (tDI X.K gi)) (ok : BlkOk X.N X.env.scope scope own) (ht : TgOk X.K g t) (hv : ∀ i ∈ t.slots, i ∈ own.map (·.2))
    (hg : ∀ (s : Shared) (H : Hp) (C : Addr) (cl : List (Str × Addr)) (fp : List Addr), PG (X.blk s H scope (compEnvC scope cl C X.env) fp) tg g) (htt : ∀ (s : Shared) (H : Hp) (C : Addr) (cl : List (Str × Addr)) (fp : List Addr), PTs (X.blk s H scope (compEnvC scope cl C X.env) fp) ifs (tDT X.K gt))
    (he : ∀ (s : Shared) (H : Hp) (C : Addr) (cl : List (Str × Addr)) (fp : List Addr), PE (X.blk s H scope (compEnvC scope cl C X.env) fp) elt (tD X.K ge)) (hs : ∀ x, foldedSetIterable iter X.env x = pure x := by intro _; rfl) :
    PS X (.Assign [.Name y py] (.ListComp elt [⟨tg, iter, ifs, 0⟩] scope pos) spos) (tDS X.K (sSet i (eLc (own.map (·.2)) t gi gt ge))) := ps_imp (ps_setLc hc hN hy hyl hsw hi ok hg htt he hs) fun Dn σ H h => by
  obtain ⟨F, A, ρ, st, c, st', S, L, h, k⟩ := set_imp Dn σ H h
  obtain ⟨ds, rfl⟩ := lc_lst h
  exact lc_imp ht hv S L h fun a us F' H' gr S' hF hH hH' hA hr => lc_frozen (c := .d (.lst ds)) (Q := fun x H1 => gName i x σ H1 Dn.nx) gr S' hF hH hH' hA hr k
theorem ds_nlc {i : Nat} {y : Str} {py spos : Pos} (hc : X.calm = true) (hN : X.N.Nodup) (hy : X.N[i]? = some y) (hyl : X.env.scope.names.lookup y = some .local) (hsw : swapsWith (.ListComp elt [⟨tg, iter, ifs, 0⟩] scope pos) (some (.Name y py)) spos.line X.env = pure true) (hi : PI X tg iter (tDI X.K gi)) (ok : BlkOk X.N X.env.scope scope own) (ht : TgOk X.K g t) (hv : ∀ i ∈ t.slots, i ∈ own.map (·.2))
    (hg : ∀ (s : Shared) (H : Hp) (C : Addr) (cl : List (Str × Addr)) (fp : List Addr), PG (X.blk s H scope (compEnvC scope cl C X.env) fp) tg g) (htt : ∀ (s : Shared) (H : Hp) (C : Addr) (cl : List (Str × Addr)) (fp : List Addr), PTs (X.blk s H scope (compEnvC scope cl C X.env) fp) ifs (tDT X.K gt))
    (he : ∀ (s : Shared) (H : Hp) (C : Addr) (cl : List (Str × Addr)) (fp : List Addr), PE (X.blk s H scope (compEnvC scope cl C X.env) fp) elt (tD X.K ge)) (hs : ∀ x, foldedSetIterable iter X.env x = pure x := by intro _; rfl) :
    PS X (.Assign [.Name y py] (.ListComp elt [⟨tg, iter, ifs, 0⟩] scope pos) spos) (tDS X.K (sNew i (eLc (own.map (·.2)) t gi gt ge))) := ps_imp (ps_setLc hc hN hy hyl hsw hi ok hg htt he hs) fun Dn σ H h => by
  obtain ⟨F, A, ρ, st, ds, st', S, L, h, k⟩ := new_imp Dn σ H h
  exact lc_imp (Q := fun x H1 => gName i x σ H1 Dn.nx) ht hv S L h k
end
end
end DL
/-! DG: methods of lists, stores, dicts. -/
namespace DL
open PySem PySem.Spec PyProof.Rows L2

section
variable {X : Cx} {pos : Pos}
/-- an object of the store is written -/
theorem SS.write {K : PySem.W.Frag} {F H : Hp} {A : List Addr} {st : Sto} {k : Nat} {a : Addr} {o o' : SO} {u : HO} (S : SS K F H A st) (ha : A[k]? = some a) (ho : st[k]? = some o) (hf : o.isFro = false) (hn : o'.isFro = false) (hw : SObj K F (upd H a u) A a o') :
    SS K F (upd H a u) A (st.set k o') ∧ Grow A F H F (upd H a u) := by
  have hF : F a = none := S.fr k a o ha ho hf
  have hkl : k < st.length := (List.getElem?_eq_some_iff.mp ho).1
  refine ⟨⟨fun b w h => by rw [upd_ne (ne_of_none h hF)]; exact S.ex b w h, by rw [List.length_set]; exact S.len, S.nd, fun j b w hj hw' hfw => ?_, fun j b w hj hw' => ?_⟩, Same.refl F, fun _ h => .inl h, fun b w hb hna => ?_, fun b hb => ?_⟩
  · by_cases e : j = k
    · subst e
      have : b = a := Option.some.inj (hj.symm.trans ha)
      rw [this]; exact hF
    · rw [List.getElem?_set_ne (Ne.symm e)] at hw'
      exact S.fr j b w hj hw' hfw
  · by_cases e : j = k
    · subst e
      rw [List.getElem?_set_self hkl] at hw'
      cases hw'
      have : b = a := Option.some.inj (hj.symm.trans ha)
      subst this
      exact hw
    · rw [List.getElem?_set_ne (Ne.symm e)] at hw'
      have : b ≠ a := fun z => e ((List.getElem?_inj (List.getElem?_eq_some_iff.mp hj).1 S.nd).mp (by rw [hj, ha, z]))
      exact (S.obj j b w hj hw').mono (Same.refl F) fun x hx => by rw [upd_ne this]; exact hx
  · have : b ≠ a := fun z => by subst z; exact hna (List.mem_of_getElem? ha)
    rw [upd_ne this]; exact hb
  · by_cases e : b = a
    · subst e; rw [upd_same]; exact fun z => nomatch z
    · rw [upd_ne e]; exact hb
def isLst (st : Sto) (k : Nat) : Bool := match st[k]? with
  | some (.lst _) => true
  | _ => false
/-- xs.append(e), xs a list of the store -/
def eApp (o a : GE) : GE := fun ρ st => (o ρ st).bind fun p => match p.1 with
  | .p k => if isLst p.2 k = true then (a ρ p.2).bind fun q => match q.2[k]? with
    | some (.lst cs) => if cs.length < 1000000 then some (.d .non, q.2.set k (.lst (cs ++ [q.1]))) else none
    | _ => none
    else none
  | _ => none
theorem isLst_ty {K : PySem.W.Frag} {F H : Hp} {A : List Addr} {st : Sto} {k : Nat} {a : Addr} (S : SS K F H A st) (ha : A[k]? = some a) (h : isLst st k = true) : tyV K "list" (V.ref a) H := by
  unfold isLst at h
  split at h
  · rename_i cs e
    obtain ⟨vs, h1, _⟩ := S.obj k a _ ha e
    exact .inl ⟨rfl, vs, SqL.of h1⟩
  · cases h
section
variable {o e : Expr} {apos : Pos} {go ga : GE}
theorem de_app (ho : PE X o (tD X.K go)) (ha : PE X e (tD X.K ga)) (hst : starEach [e] X.env = (false, eval e X.env) :: starEach [] X.env := by rfl)
    (hbase : attributeBase o "append" X.env (eval o X.env) = eval o X.env := by rfl) (hfew : ((backTo pos (starEach (e :: []) X.env)).all (fun x => !x.1) && (backToKw pos (keywordEach [] X.env)).all (fun x => x.1.isSome)
      && decide ((e :: ([] : List Expr)).length + ([] : List Keyword).length + (if ([] : List Keyword).isEmpty then 0 else 1) < 30)) = true := by rfl)
    (hline : (apos.endLine == pos.line) = true := by rfl) (hplain : (backTo pos (starEach ([] : List Expr) X.env)).any (·.1) = false := by rfl) : PE X (.Call (.Attribute o "append" apos) [e] [] pos) (tD X.K (eApp go ga)) :=
  pe_imp (pe_bm PySem.F.plainAttrs_list PySem.F.slot_list_append PySem.F.type_list_append mt_append ho (da_c ha da_n hst) hbase hfew hline hst hplain) fun σ H Q ⟨F, A, ρ, st, c, st', S, L, g, k⟩ => by
    obtain ⟨⟨c1, st1⟩, h1, g⟩ := bind_some g
    dsimp only at g
    split at g
    · rename_i j
      split at g
      · rename_i hil
        obtain ⟨⟨c2, st2⟩, h2, g⟩ := bind_some g
        dsimp only at g
        split at g
        · rename_i cs e2
          split at g
          · rename_i hl
            cases g
            refine ⟨F, A, ρ, st, _, _, S, L, h1, fun v F1 H1 g1 S1 r1 => ?_⟩
            obtain ⟨a, hka, rfl⟩ := r1
            refine ⟨isLst_ty S1 hka hil, F1, A, ρ, st1, [c2], st2, S1, L.mono g1.ex, by simp [aC, aN, h2], fun vs F2 H2 g2 S2 r2 => ?_⟩
            cases r2 with
            | cons r rr =>
              cases rr
              obtain ⟨ws, hw, hr⟩ := S2.obj j a _ hka e2
              refine ⟨a, ws, _, rfl, rfl, hw, by rw [← hr.len]; exact lim6' hl, ?_⟩
              obtain ⟨S3, g3⟩ := S2.write (o' := .lst (cs ++ [c2])) hka e2 rfl rfl ⟨_, upd_same, hr.app (.cons r .nil)⟩
              exact k _ _ _ ((g1.trans g2).trans g3) S3 .non
          · cases g
        · cases g
      · cases g
    · cases g
/-- xs.extend(ys), ys data or another list of the store -/
def eExt (o a : GE) : GE := fun ρ st => (o ρ st).bind fun p => match p.1 with
  | .p k => if isLst p.2 k = true then (a ρ p.2).bind fun q => match q.2[k]?, deref q.2 q.1 with
    | some (.lst cs), some (.lst ds) => if cs.length + ds.length < 1000000 then some (.d .non, q.2.set k (.lst (cs ++ ds.map .d))) else none
    | _, _ => none
    else none
  | _ => none
theorem de_ext (ho : PE X o (tD X.K go)) (ha : PE X e (tD X.K ga)) (hst : starEach [e] X.env = (false, eval e X.env) :: starEach [] X.env := by rfl)
    (hbase : attributeBase o "extend" X.env (eval o X.env) = eval o X.env := by rfl) (hfew : ((backTo pos (starEach (e :: []) X.env)).all (fun x => !x.1) && (backToKw pos (keywordEach [] X.env)).all (fun x => x.1.isSome)
      && decide ((e :: ([] : List Expr)).length + ([] : List Keyword).length + (if ([] : List Keyword).isEmpty then 0 else 1) < 30)) = true := by rfl)
    (hline : (apos.endLine == pos.line) = true := by rfl) (hplain : (backTo pos (starEach ([] : List Expr) X.env)).any (·.1) = false := by rfl) : PE X (.Call (.Attribute o "extend" apos) [e] [] pos) (tD X.K (eExt go ga)) :=
  pe_imp (pe_bm PySem.F.plainAttrs_list PySem.F.slot_list_extend PySem.F.type_list_extend mt_extend ho (da_c ha da_n hst) hbase hfew hline hst hplain) fun σ H Q ⟨F, A, ρ, st, c, st', S, L, g, k⟩ => by
    obtain ⟨⟨c1, st1⟩, h1, g⟩ := bind_some g
    dsimp only at g
    split at g
    · rename_i j
      split at g
      · rename_i hil
        obtain ⟨⟨c2, st2⟩, h2, g⟩ := bind_some g
        dsimp only at g
        split at g
        · rename_i cs ds e2 e3
          split at g
          · rename_i hl
            cases g
            refine ⟨F, A, ρ, st, _, _, S, L, h1, fun v F1 H1 g1 S1 r1 => ?_⟩
            obtain ⟨a, hka, rfl⟩ := r1
            refine ⟨isLst_ty S1 hka hil, F1, A, ρ, st1, [c2], st2, S1, L.mono g1.ex, by simp [aC, aN, h2], fun vs F2 H2 g2 S2 r2 => ?_⟩
            cases r2 with
            | cons r rr =>
              cases rr
              obtain ⟨ws, hw, hr⟩ := S2.obj j a _ hka e2
              have rp := S2.deref r e3
              cases rp with
              | lst hb hd =>
                rename_i b us
                refine ⟨a, b, ws, us, rfl, rfl, hw, hb, by rw [← hr.len, ← hd.len]; exact Nat.le_of_lt (lim6' hl), ?_⟩
                obtain ⟨S3, g3⟩ := S2.write (o' := .lst (cs ++ ds.map .d)) hka e2 rfl rfl ⟨_, upd_same, hr.app hd.cs⟩
                exact k _ _ _ ((g1.trans g2).trans g3) S3 .non
          · cases g
        · cases g
      · cases g
    · cases g
/-- xs.index(y), flat things, there -/
def idxD (ds : List D) (y : D) : Option D := if flatD y = true ∧ ds.all flatD = true then (ds.findIdx? fun z => eqV (toV z) (toV y)).map fun j => .int (j : Nat) else none
def eIdx (o a : GE) : GE := fun ρ st => (o ρ st).bind fun p => match p.1 with
  | .d (.lst ds) => (a ρ p.2).bind fun q => match q.1 with
    | .d y => (idxD ds y).map fun z => (.d z, q.2)
    | _ => none
  | _ => none
theorem de_idx (ho : PE X o (tD X.K go)) (ha : PE X e (tD X.K ga)) (hst : starEach [e] X.env = (false, eval e X.env) :: starEach [] X.env := by rfl)
    (hbase : attributeBase o "index" X.env (eval o X.env) = eval o X.env := by rfl) (hfew : ((backTo pos (starEach (e :: []) X.env)).all (fun x => !x.1) && (backToKw pos (keywordEach [] X.env)).all (fun x => x.1.isSome)
      && decide ((e :: ([] : List Expr)).length + ([] : List Keyword).length + (if ([] : List Keyword).isEmpty then 0 else 1) < 30)) = true := by rfl)
    (hline : (apos.endLine == pos.line) = true := by rfl) (hplain : (backTo pos (starEach ([] : List Expr) X.env)).any (·.1) = false := by rfl) : PE X (.Call (.Attribute o "index" apos) [e] [] pos) (tD X.K (eIdx go ga)) :=
  pe_imp (pe_bm PySem.F.plainAttrs_list PySem.F.slot_list_index PySem.F.type_list_index mt_index ho (da_c ha da_n hst) hbase hfew hline hst hplain) fun σ H Q ⟨F, A, ρ, st, c, st', S, L, g, k⟩ => by
    obtain ⟨⟨c1, st1⟩, h1, g⟩ := bind_some g
    dsimp only at g
    split at g
    · rename_i ds
      obtain ⟨⟨c2, st2⟩, h2, g⟩ := bind_some g
      dsimp only at g
      split at g
      · rename_i y
        simp only [Option.map_eq_some_iff, Prod.mk.injEq] at g
        obtain ⟨z, h3, rfl, rfl⟩ := g
        unfold idxD at h3
        split at h3
        · rename_i hf
          simp only [Option.map_eq_some_iff] at h3
          obtain ⟨j, h4, rfl⟩ := h3
          refine ⟨F, A, ρ, st, _, _, S, L, h1, fun v F1 H1 g1 S1 r1 => ?_⟩
          cases r1 with
          | lst hs hr =>
            rename_i a us
            refine ⟨.inl ⟨rfl, us, SqL.of (S1.ex _ _ hs)⟩, F1, A, ρ, st1, [.d y], st2, S1, L.mono g1.ex, by simp [aC, aN, h2], fun vs F2 H2 g2 S2 r2 => ?_⟩
            cases r2 with
            | cons r rr =>
              cases rr
              obtain ⟨e1, f1⟩ := flat_rep r hf.1
              obtain ⟨e2, f2⟩ := flat_reps hr hf.2
              subst e1
              subst e2
              rw [List.findIdx?_eq_some_iff_getElem] at h4
              obtain ⟨hj, h5, h6⟩ := h4
              refine ⟨a, _, _, j, toV ds[j], rfl, rfl, SqL.of (S2.ex _ _ (g2.ex _ _ hs)), f1, f2, by rw [List.getElem?_map, List.getElem?_eq_getElem hj]; rfl, h5, fun m z' hm hz => ?_, k _ _ _ (g1.trans g2) S2 .int⟩
              rw [List.getElem?_map, List.getElem?_eq_getElem (by omega)] at hz
              cases hz
              exact Bool.eq_false_iff.mpr (h6 m hm)
        · cases h3
      · cases g
    · cases g
end

/-! ### methods of texts -/
def rMD (K : PySem.W.Frag) (g : List D → Option D) : V → List V → Hp → VK → Prop := fun x xs H Q => rCD K g (x :: xs) H Q
theorem mtr_by {id : String} {r' : V → List V → Hp → VK → Prop} (q : ∀ x xs H Q, r' x xs H Q → ∃ r, MtR X id r ∧ r x xs H Q) : MtR X id r' := fun pins s σ H x xs v us Q I rx rs z => by
  obtain ⟨r, h, w⟩ := q x xs H Q z
  exact h pins s σ H x xs v us Q I rx rs w
section
variable {o e : Expr} {apos : Pos} {go ga : GE} {id : String} {name : Str} {g : List D → Option D}
def eM0 (g : List D → Option D) (o : GE) : GE := fun ρ st => (o ρ st).bind fun p => match p.1 with
  | .d (.str a) => (g [.str a]).map fun z => (.d z, p.2)
  | _ => none
theorem de_m0 (slot : Slot "str" name id) (ty : typeOf (.builtin id) = pure (.type "method_descriptor")) (rule : MtR X id (rMD X.K g)) (ho : PE X o (tD X.K go))
    (hbase : attributeBase o name X.env (eval o X.env) = eval o X.env := by rfl) (hline : (apos.endLine == pos.line) = true := by rfl) : PE X (.Call (.Attribute o name apos) [] [] pos) (tD X.K (eM0 g go)) :=
  pe_imp (pe_m0 slot ty rule ho hbase hline) fun σ H Q ⟨F, A, ρ, st, c, st', S, L, h, k⟩ => by
    obtain ⟨⟨c1, st1⟩, h1, h⟩ := bind_some h
    dsimp only at h
    split at h
    · rename_i a
      simp only [Option.map_eq_some_iff, Prod.mk.injEq] at h
      obtain ⟨z, h2, rfl, rfl⟩ := h
      refine ⟨F, A, ρ, st, _, _, S, L, h1, fun v F1 H1 g1 S1 r1 => ?_⟩
      cases r1
      exact ⟨⟨a, rfl⟩, F1, A, _, [.str a], z, S1, .cons .str .nil, h2, fun w F2 H2 g2 S2 r2 => k w F2 H2 (g1.trans g2) S2 r2⟩
    · cases h
def eM1 (g : List D → Option D) (o a : GE) : GE := fun ρ st => (o ρ st).bind fun p => match p.1 with
  | .d (.str x) => (a ρ p.2).bind fun q => (deref q.2 q.1).bind fun y => (g [.str x, y]).map fun z => (.d z, q.2)
  | _ => none
theorem de_m1 (slot : Slot "str" name id) (ty : typeOf (.builtin id) = pure (.type "method_descriptor")) (rule : MtR X id (rMD X.K g)) (ho : PE X o (tD X.K go)) (ha : PE X e (tD X.K ga))
    (hs : starEach [e] X.env = [(false, eval e X.env)] := by rfl) (hbase : attributeBase o name X.env (eval o X.env) = eval o X.env := by rfl) (hline : (apos.endLine == pos.line) = true := by rfl) : PE X (.Call (.Attribute o name apos) [e] [] pos) (tD X.K (eM1 g go ga)) :=
  pe_imp (pe_m1 slot ty rule ho ha hs hbase hline) fun σ H Q ⟨F, A, ρ, st, c, st', S, L, h, k⟩ => by
    obtain ⟨⟨c1, st1⟩, h1, h⟩ := bind_some h
    dsimp only at h
    split at h
    · rename_i a
      obtain ⟨⟨c2, st2⟩, h2, h⟩ := bind_some h
      obtain ⟨y, h3, h⟩ := bind_some h
      simp only [Option.map_eq_some_iff, Prod.mk.injEq] at h
      obtain ⟨z, h4, rfl, rfl⟩ := h
      refine ⟨F, A, ρ, st, _, _, S, L, h1, fun v F1 H1 g1 S1 r1 => ?_⟩
      cases r1
      refine ⟨⟨a, rfl⟩, F1, A, ρ, _, c2, st2, S1, L.mono g1.ex, h2, fun v2 F2 H2 g2 S2 r2 => ⟨F2, A, st2, [.str a, y], z, S2, .cons .str (.cons (S2.deref r2 h3) .nil), h4, fun w F3 H3 g3 S3 r3 => k w F3 H3 ((g1.trans g2).trans g3) S3 r3⟩⟩
    · cases h
def sbD (f : Str → Bool) : List D → Option D
  | [.str x] => some (.bl (f x))
  | _ => none
theorem sb_of {f : Str → Bool} (h : MtR X id (fun x xs H Q => ∃ a, x = .str a ∧ xs = [] ∧ True ∧ Q (.bl (f a)) H)) : MtR X id (rMD X.K (sbD f)) := mtr_by fun x xs H Q ⟨F, A, st, ds, z, S, rs, hz, k⟩ => by
  cases rs with
  | cons r rs =>
    cases rs with
    | nil =>
      cases r <;> simp only [sbD, reduceCtorEq] at hz
      cases hz
      exact ⟨_, h, _, rfl, rfl, trivial, k _ F H .refl S .bl⟩
    | cons _ _ => cases r <;> cases hz
theorem m_isascii : MtR X "str.isascii" (rMD X.K (sbD Txt.isascii)) := sb_of mt_isascii
theorem m_isalpha : MtR X "str.isalpha" (rMD X.K (sbD Txt.isalpha)) := sb_of mt_isalpha
theorem m_islower : MtR X "str.islower" (rMD X.K (sbD Txt.islower)) := sb_of mt_islower
theorem m_isdigit : MtR X "str.isdigit" (rMD X.K (sbD Txt.isdigit)) := sb_of mt_isdigit
def splitD : List D → Option D
  | [.str a, .str b] => if (b.length == 0) = false ∧ a.length ≤ 1000000 then some (.lst ((Txt.split a b).map .str)) else none
  | _ => none
theorem reps_strs {K : PySem.W.Frag} {F : Hp} : ∀ ys : List Str, Reps K F (ys.map .str) (ys.map V.str)
  | [] => .nil
  | y :: ys => .cons .str (reps_strs ys)
theorem m_split : MtR X "str.split" (rMD X.K splitD) := mtr_by fun x xs H Q ⟨F, A, st, ds, z, S, rs, hz, k⟩ => by
  cases rs with
  | cons r rs =>
    cases rs with
    | nil => cases r <;> cases hz
    | cons r2 rs =>
      cases rs with
      | cons _ _ => cases r <;> cases r2 <;> cases hz
      | nil =>
        cases r <;> cases r2 <;> simp only [splitD, reduceCtorEq] at hz
        split at hz
        · rename_i hl
          cases hz
          refine ⟨_, mt_split, _, _, rfl, rfl, hl.1, Nat.le_trans (Nat.add_le_add_right hl.2 2) (by decide), fun p hp => ?_⟩
          exact k _ _ _ (.new1 (S.ex.free hp) hp) (S.new hp) (.lst upd_same (reps_strs _))
        · cases hz
def strsOf : List D → Option (List Str)
  | [] => some []
  | .str x :: r => (strsOf r).map (x :: ·)
  | _ => none
theorem strsOf_eq : ∀ {ds : List D} {ys : List Str}, strsOf ds = some ys → ds = ys.map .str
  | [], ys, h => by cases h; rfl
  | .str x :: r, ys, h => by
    simp only [strsOf, Option.map_eq_some_iff] at h
    obtain ⟨zs, h1, rfl⟩ := h
    rw [strsOf_eq h1]
    rfl
  | .non :: _, _, h => by cases h
  | .bl _ :: _, _, h => by cases h
  | .int _ :: _, _, h => by cases h
  | .tup _ :: _, _, h => by cases h
  | .lst _ :: _, _, h => by cases h
  | .wls _ :: _, _, h => by cases h
  | .dct _ :: _, _, h => by cases h
theorem reps_strs_inv {K : PySem.W.Frag} {F : Hp} : ∀ {ys : List Str} {vs : List V}, Reps K F (ys.map .str) vs → vs = ys.map V.str
  | [], _, .nil => rfl
  | y :: ys, _, .cons .str r => by rw [reps_strs_inv r]; rfl
def joinD : List D → Option D
  | [.str a, .lst ds] => (strsOf ds).bind fun ys => if (ys.map (·.length)).sum + ys.length * a.length ≤ 16777216 then some (.str (Txt.join a ys)) else none
  | [.str a, .tup ds] => (strsOf ds).bind fun ys => if (ys.map (·.length)).sum + ys.length * a.length ≤ 16777216 then some (.str (Txt.join a ys)) else none
  | _ => none
theorem m_join : MtR X "str.join" (rMD X.K joinD) := mtr_by fun x xs H Q ⟨F, A, st, ds, z, S, rs, hz, k⟩ => by
  cases rs with
  | cons r rs =>
    cases rs with
    | nil => cases r <;> cases hz
    | cons r2 rs =>
      cases rs with
      | cons _ _ => cases r <;> cases r2 <;> cases hz
      | nil =>
        cases r <;> cases r2 <;> simp only [joinD, reduceCtorEq] at hz
        · rename_i hs hr _
          obtain ⟨ys, h1, hz⟩ := bind_some hz
          split at hz
          · rename_i hl
            cases hz
            rw [strsOf_eq h1] at hr
            rw [reps_strs_inv hr] at hs
            exact ⟨_, mt_join, _, _, ys, rfl, rfl, .inr (same_sqt S.ex hs), hl, k _ F H .refl S .str⟩
          · cases hz
        · rename_i hs hr _
          obtain ⟨ys, h1, hz⟩ := bind_some hz
          split at hz
          · rename_i hl
            cases hz
            rw [strsOf_eq h1] at hr
            rw [reps_strs_inv hr] at hs
            exact ⟨_, mt_join, _, _, ys, rfl, rfl, .inl (SqL.of hs), hl, k _ F H .refl S .str⟩
          · cases hz
end
end
end DL
/-! DH: stores by place, dicts, enumerate, zip. -/
namespace DL
open PySem PySem.Spec PyProof.Rows L2

section
variable {X : Cx} {pos : Pos}
/-! ### xs[i] = e -/
def sPut (o i v : GE) : GS := fun ρ st => (v ρ st).bind fun p => (o ρ p.2).bind fun q => match q.1 with
  | .p k => (i ρ q.2).bind fun r => match r.1, r.2[k]? with
    | .d (.int n), some (.lst cs) => match ixN cs.length n with
      | some j => some (.nx ρ (r.2.set k (.lst (cs.set j p.1))))
      | none => none
    | _, _ => none
  | _ => none
theorem ds_put {o i e : Expr} {po : Pos} {go gi gv : GE} (ho : PE X o (tD X.K go)) (hi : PE X i (tD X.K gi)) (hv : PE X e (tD X.K gv))
    (ha : ∀ v, assign (.Subscript o i po) X.env v = (do
      let ov ← holding [v] (eval o X.env)
      let iv ← holding [v, ov] (eval i X.env)
      standAt po
      holding [v, ov, iv] (setItem ov iv v)
      release [v, ov, iv] []) := by intro _; rfl)
    (hs : swapsWithSole [.Subscript o i po] e pos.line X.env = pure false := by rfl) (hw : swappedStores [.Subscript o i po] e X.env = pure none := by rfl)
    (h1 : (assignEach [.Subscript o i po] X.env).map (·.2) = [assign (.Subscript o i po) X.env] := by rfl) : PS X (.Assign [.Subscript o i po] e pos) (tDS X.K (sPut go gi gv)) :=
  ps_imp (ps_asg hv (pg_sub ho hi set_list ha) hs hw h1) fun Dn σ H ⟨F, A, ρ, st, r, S, L, g, k⟩ => by
    obtain ⟨⟨c1, st1⟩, h1, g⟩ := bind_some g
    obtain ⟨⟨c2, st2⟩, h2, g⟩ := bind_some g
    dsimp only at g
    split at g
    · rename_i j
      obtain ⟨⟨c3, st3⟩, h3, g⟩ := bind_some g
      dsimp only at g
      split at g
      · rename_i n cs e3
        split at g
        · rename_i m em
          cases g
          refine ⟨F, A, ρ, st, c1, st1, S, L, h1, fun v F1 H1 g1 S1 r1 => ⟨F1, A, ρ, st1, _, _, S1, L.mono g1.ex, h2, fun w F2 H2 g2 S2 r2 => ?_⟩⟩
          refine ⟨F2, A, ρ, st2, _, _, S2, (L.mono g1.ex).mono g2.ex, h3, fun u F3 H3 g3 S3 r3 => ?_⟩
          obtain ⟨a, hka, rfl⟩ := r2
          cases r3
          obtain ⟨ws, hw, hr⟩ := S3.obj j a _ hka e3
          refine ⟨a, ws, n, m, rfl, rfl, hw, by rw [← hr.len]; exact em, ?_⟩
          obtain ⟨S4, g4⟩ := S3.write (o' := .lst (cs.set m c1)) hka e3 rfl rfl ⟨_, upd_same, hr.set ((r1.mono g2.ex).mono g3.ex)⟩
          exact k σ F3 _ A (.of (((g1.trans g2).trans g3).trans g4)) S4 (((L.mono g1.ex).mono g2.ex).mono g3.ex)
        · cases g
      · cases g
    · cases g
/-- an item of a list of lists -/
def eIxP (o i : GE) : GE := fun ρ st => (o ρ st).bind fun p => match p.1 with
  | .p k => (i ρ p.2).bind fun r => match r.1, r.2[k]? with
    | .d (.int n), some (.lst cs) => (atI cs n).map fun c => (c, r.2)
    | _, _ => none
  | _ => none
theorem RepCs.atI {K : PySem.W.Frag} {F : Hp} {A : List Addr} {xs : List C} {vs : List V} {i : Int} {x : C} (r : RepCs K F A xs vs) (h : L2.atI xs i = some x) : ∃ v, L2.atI vs i = some v ∧ RepC K F A x v := by
  unfold L2.atI at h ⊢
  rw [← r.len]
  cases e : ixN xs.length i with
  | none => rw [e] at h; cases h
  | some j =>
    rw [e] at h
    exact r.get h
theorem de_ixp {a b : Expr} {Ga Gb : GE} (ha : PE X a (tD X.K Ga)) (hb : PE X b (tD X.K Gb)) (hs : PlainIx b := by exact fun _ _ => rfl) : PE X (.Subscript a b pos) (tD X.K (eIxP Ga Gb)) :=
  pe_imp (pe_ix ix_list ha hb hs) fun σ H Q ⟨F, A, ρ, st, c, st', S, L, g, k⟩ => by
    obtain ⟨⟨c1, st1⟩, h1, g⟩ := bind_some g
    dsimp only at g
    split at g
    · rename_i j
      obtain ⟨⟨c2, st2⟩, h2, g⟩ := bind_some g
      dsimp only at g
      split at g
      · rename_i n cs e2
        simp only [Option.map_eq_some_iff, Prod.mk.injEq] at g
        obtain ⟨c3, h3, rfl, rfl⟩ := g
        refine ⟨F, A, ρ, st, _, _, S, L, h1, fun v F1 H1 g1 S1 r1 => ⟨F1, A, ρ, st1, _, _, S1, L.mono g1.ex, h2, fun w F2 H2 g2 S2 r2 => ?_⟩⟩
        obtain ⟨x, hka, rfl⟩ := r1
        cases r2
        obtain ⟨ws, hw, hr⟩ := S2.obj j x _ hka e2
        obtain ⟨y, h4, h5⟩ := hr.atI h3
        exact ⟨x, ws, n, y, rfl, rfl, SqL.of hw, h4, k y F2 H2 (g1.trans g2) S2 h5⟩
      · cases g
    · cases g

/-! ### dicts of the store and dicts as data -/
def lookC (kvs : List (Key × C)) (k : Key) : Option C := (kvs.find? fun kv => decide (kv.1 = k)).map (·.2)
theorem look_V {K : PySem.W.Frag} {F : Hp} {A : List Addr} : ∀ {kvs : List (Key × C)} {vs : List V} (k : Key), RepCs K F A (kvs.map (·.2)) vs →
    (lookC kvs k = none → valV ((kvs.map (·.1)).zip vs) k = none) ∧ ∀ c, lookC kvs k = some c → ∃ v, valV ((kvs.map (·.1)).zip vs) k = some v ∧ RepC K F A c v
  | [], _, k, .nil => ⟨fun _ => rfl, fun c h => by cases h⟩
  | (k1, c1) :: kvs, _, k, .cons (vs := vs) (v := v) h r => by
    obtain ⟨i1, i2⟩ := look_V (kvs := kvs) k r
    show (lookC ((k1, c1) :: kvs) k = none → valV ((k1, v) :: (kvs.map (·.1)).zip vs) k = none) ∧ ∀ c, lookC ((k1, c1) :: kvs) k = some c → ∃ w, valV ((k1, v) :: (kvs.map (·.1)).zip vs) k = some w ∧ RepC K F A c w
    by_cases e : k1 = k
    · subst e
      rw [valV_pos rfl]
      have : lookC ((k1, c1) :: kvs) k1 = some c1 := by simp [lookC]
      rw [this]
      exact ⟨fun h => (by cases h), fun c hc => (by cases hc; exact ⟨v, rfl, h⟩)⟩
    · rw [valV_neg (by exact e)]
      have : lookC ((k1, c1) :: kvs) k = lookC kvs k := by simp [lookC, List.find?_cons, e]
      rw [this]
      exact ⟨i1, i2⟩
def putC (kvs : List (Key × C)) (k : Key) (c : C) : List (Key × C) := if (kvs.any fun kv => decide (kv.1 = k)) = true then kvs.map (fun kv => if kv.1 = k then (kv.1, c) else kv) else kvs ++ [(k, c)]
theorem put_any {K : PySem.W.Frag} {F : Hp} {A : List Addr} {k : Key} : ∀ {kvs : List (Key × C)} {vs : List V}, RepCs K F A (kvs.map (·.2)) vs → ((kvs.map (·.1)).zip vs).any (fun kv => decide (kv.1 = k)) = kvs.any fun kv => decide (kv.1 = k)
  | [], _, .nil => rfl
  | (k1, c1) :: kvs, _, .cons (vs := vs) (v := v) h r => by
    show (decide (k1 = k) || ((kvs.map (·.1)).zip vs).any fun kv => decide (kv.1 = k)) = (decide (k1 = k) || kvs.any fun kv => decide (kv.1 = k))
    rw [put_any (kvs := kvs) r]
theorem put_map {K : PySem.W.Frag} {F : Hp} {A : List Addr} {k : Key} {c : C} {u : V} (hc : RepC K F A c u) : ∀ {kvs : List (Key × C)} {vs : List V}, RepCs K F A (kvs.map (·.2)) vs →
    ∃ ws, (((kvs.map (·.1)).zip vs).map fun kv => if kv.1 = k then (kv.1, u) else kv) = ((kvs.map fun kv => if kv.1 = k then (kv.1, c) else kv).map (·.1)).zip ws ∧ RepCs K F A ((kvs.map fun kv => if kv.1 = k then (kv.1, c) else kv).map (·.2)) ws
  | [], _, .nil => ⟨[], rfl, .nil⟩
  | (k1, c1) :: kvs, _, .cons (vs := vs) (v := v) h r => by
    obtain ⟨ws, e, q⟩ := put_map (k := k) hc (kvs := kvs) r
    by_cases hk : k1 = k
    · refine ⟨u :: ws, ?_, ?_⟩
      · simp only [List.map_cons, List.zip_cons_cons, if_pos hk]
        exact congrArg _ e
      · simp only [List.map_cons, if_pos hk]
        exact .cons hc q
    · refine ⟨v :: ws, ?_, ?_⟩
      · simp only [List.map_cons, List.zip_cons_cons, if_neg hk]
        exact congrArg _ e
      · simp only [List.map_cons, if_neg hk]
        exact .cons h q
theorem put_V {K : PySem.W.Frag} {F : Hp} {A : List Addr} {k : Key} {c : C} {u : V} (hc : RepC K F A c u) {kvs : List (Key × C)} {vs : List V} (r : RepCs K F A (kvs.map (·.2)) vs) :
    ∃ ws, putK ((kvs.map (·.1)).zip vs) k u = ((putC kvs k c).map (·.1)).zip ws ∧ RepCs K F A ((putC kvs k c).map (·.2)) ws := by
  unfold putK putC
  rw [put_any r]
  by_cases h : (kvs.any fun kv => decide (kv.1 = k)) = true
  · rw [if_pos h, if_pos h]
    exact put_map hc r
  · rw [if_neg h, if_neg h]
    refine ⟨vs ++ [u], ?_, ?_⟩
    · rw [List.map_append, List.zip_append (by rw [List.length_map, ← r.len, List.length_map])]
      rfl
    · rw [List.map_append]
      exact r.app (.cons hc .nil)
/-- x = {} -/
def sNewD (i : Nat) : GS := fun ρ st => some (.nx (ρ.set i (some (.p st.length))) (st ++ [.dct []]))
theorem ds_newD {i : Nat} {x : Str} {pos' pd : Pos} (hN : X.N.Nodup) (hi : X.N[i]? = some x) (hx : Loc X.env.scope x) (hs : swapsWith (.Dict [] [] pd) (some (.Name x pos')) pos.line X.env = pure false := by rfl) (hf : X.fn x = true ∨ X.env.scope.names.lookup x = some .local := by first | exact .inl rfl | exact .inr rfl | assumption) :
    PS X (.Assign [.Name x pos'] (.Dict [] [] pd) pos) (tDS X.K (sNewD i)) := ps_imp (ps_set hN hi hx pe_dnewK hs hf) fun Dn σ H ⟨F, A, ρ, st, r, S, L, g, k⟩ => by
  cases g
  intro p hp
  have hF := S.ex.free hp
  have hA := S.fresh hp
  refine k _ F (upd H p (.dK [])) (A ++ [p]) ⟨Grow.other .refl hp, [p], rfl, fun b hb => by rw [List.mem_singleton] at hb; subst hb; exact hp⟩ ((S.other hF hA).push (fun _ => hF) hA ⟨[], upd_same, .nil⟩) ((L.app (B := [p])).set (c := .p st.length) ?_)
  exact ⟨p, by rw [← S.len, List.getElem?_append_right (Nat.le_refl _), Nat.sub_self]; rfl, rfl⟩
/-- d[k] = e -/
def sPutD (o i v : GE) : GS := fun ρ st => (v ρ st).bind fun p => (o ρ p.2).bind fun q => match q.1 with
  | .p k => (i ρ q.2).bind fun r => match r.1 with
    | .d y => match keyD y, r.2[k]? with
      | some ky, some (.dct kvs) => if kvs.length < 1000000 then some (.nx ρ (r.2.set k (.dct (putC kvs ky p.1)))) else none
      | _, _ => none
    | _ => none
  | _ => none
theorem key_rep {K : PySem.W.Frag} {F : Hp} {y : D} {v : V} {k : Key} (r : Rep K F y v) (h : keyD y = some k) : v = kV k := by
  cases r <;> simp only [keyD, reduceCtorEq] at h <;> (cases h; rfl)
theorem ds_putD {o i e : Expr} {po : Pos} {go gi gv : GE} (hu : X.A.units + 1 < cLine) (ho : PE X o (tD X.K go)) (hi : PE X i (tD X.K gi)) (hv : PE X e (tD X.K gv)) (hs : swapsWith e (some (.Subscript o i po)) pos.line X.env = pure false := by rfl) :
    PS X (.Assign [.Subscript o i po] e pos) (tDS X.K (sPutD go gi gv)) := ps_imp (ps_dput hu ho hi hv hs) fun Dn σ H ⟨F, A, ρ, st, r, S, L, g, k⟩ => by
  obtain ⟨⟨c1, st1⟩, h1, g⟩ := bind_some g
  obtain ⟨⟨c2, st2⟩, h2, g⟩ := bind_some g
  dsimp only at g
  split at g
  · rename_i j
    obtain ⟨⟨c3, st3⟩, h3, g⟩ := bind_some g
    dsimp only at g
    split at g
    · rename_i y
      split at g
      · rename_i ky kvs ek e3
        split at g
        · rename_i hl
          cases g
          refine ⟨F, A, ρ, st, c1, st1, S, L, h1, fun v F1 H1 g1 S1 r1 => ⟨F1, A, ρ, st1, _, _, S1, L.mono g1.ex, h2, fun w F2 H2 g2 S2 r2 => ?_⟩⟩
          refine ⟨F2, A, ρ, st2, _, _, S2, (L.mono g1.ex).mono g2.ex, h3, fun u F3 H3 g3 S3 r3 => ?_⟩
          obtain ⟨a, hka, rfl⟩ := r2
          rw [key_rep r3 ek]
          obtain ⟨ws, hw, hr⟩ := S3.obj j a _ hka e3
          have hc : RepC X.K F3 A c1 v := (r1.mono g2.ex).mono g3.ex
          obtain ⟨us, e4, r4⟩ := put_V (k := ky) hc hr
          have hlen : ((kvs.map (·.1)).zip ws).length < sizeLine := by
            rw [List.length_zip, List.length_map, ← hr.len, List.length_map, Nat.min_self]
            exact lim6' hl
          refine ⟨a, _, rfl, DPut.k (k := ky) hw hlen, ?_⟩
          obtain ⟨S4, g4⟩ := S3.write (o' := .dct (putC kvs ky c1)) (u := .dK (putK ((kvs.map (·.1)).zip ws) ky v)) hka e3 rfl rfl ⟨us, by rw [upd_same, e4], r4⟩
          exact k σ F3 _ A (.of (((g1.trans g2).trans g3).trans g4)) S4 (((L.mono g1.ex).mono g2.ex).mono g3.ex)
        · cases g
      · cases g
    · cases g
  · cases g
/-- what stands behind a key: of a dict of the store or of data -/
def dictOf (st : Sto) : C → Option (List (Key × C))
  | .p k => match st[k]? with
    | some (.dct kvs) => some kvs
    | _ => none
  | .d (.dct kvs) => some (kvs.map fun kv => (kv.1, .d kv.2))
  | _ => none
theorem dict_rep {K : PySem.W.Frag} {F H : Hp} {A : List Addr} {st : Sto} {c : C} {v : V} {kvs : List (Key × C)} (S : SS K F H A st) (r : RepC K F A c v) (h : dictOf st c = some kvs) : ∃ a vs, v = .ref a ∧ H a = some (.dK ((kvs.map (·.1)).zip vs)) ∧ RepCs K F A (kvs.map (·.2)) vs := by
  cases c with
  | p k =>
    obtain ⟨a, hka, rfl⟩ := r
    simp only [dictOf] at h
    split at h
    · rename_i e
      cases h
      obtain ⟨vs, h1, h2⟩ := S.obj k a _ hka e
      exact ⟨a, vs, rfl, h1, h2⟩
    · cases h
  | d x =>
    cases r <;> simp only [dictOf, reduceCtorEq] at h
    cases h
    rename_i kv a vs h1 h2 
    refine ⟨a, vs, rfl, ?_, ?_⟩
    · rw [List.map_map]
      exact S.ex _ _ h1
    · rw [List.map_map]
      have := h2.cs (A := A)
      rw [List.map_map] at this
      exact this
def eGetD (o i : GE) : GE := fun ρ st => (o ρ st).bind fun p => (i ρ p.2).bind fun q => match q.1 with
  | .d y => (keyD y).bind fun ky => (dictOf q.2 p.1).bind fun kvs => (lookC kvs ky).map fun c => (c, q.2)
  | _ => none
theorem de_getD {o i : Expr} {go gi : GE} (hu : X.A.units + 1 < cLine) (ho : PE X o (tD X.K go)) (hi : PE X i (tD X.K gi)) (hs : NoSl i := by exact fun _ _ => rfl) : PE X (.Subscript o i pos) (tD X.K (eGetD go gi)) := pe_imp (pe_dget hu ho hi hs) fun σ H Q ⟨F, A, ρ, st, c, st', S, L, g, k⟩ => by
  obtain ⟨⟨c1, st1⟩, h1, g⟩ := bind_some g
  obtain ⟨⟨c2, st2⟩, h2, g⟩ := bind_some g
  dsimp only at g
  split at g
  · rename_i y
    obtain ⟨ky, h3, g⟩ := bind_some g
    obtain ⟨kvs, h4, g⟩ := bind_some g
    simp only [Option.map_eq_some_iff, Prod.mk.injEq] at g
    obtain ⟨c3, h5, rfl, rfl⟩ := g
    refine ⟨F, A, ρ, st, c1, st1, S, L, h1, fun v F1 H1 g1 S1 r1 => ⟨F1, A, ρ, st1, _, _, S1, L.mono g1.ex, h2, fun w F2 H2 g2 S2 r2 => ?_⟩⟩
    rw [key_rep r2 h3]
    obtain ⟨a, vs, rfl, h6, h7⟩ := dict_rep S2 (r1.mono g2.ex) h4
    obtain ⟨u, h8, h9⟩ := (look_V ky h7).2 _ h5
    exact ⟨a, u, rfl, by rw [← h8]; exact DGet.k h6, k u F2 H2 (g1.trans g2) S2 h9⟩
  · cases g
theorem isD_of {K : PySem.W.Frag} {F H : Hp} {A : List Addr} {st : Sto} {c : C} {v : V} {kvs : List (Key × C)} (S : SS K F H A st) (r : RepC K F A c v) (h : dictOf st c = some kvs) : ∃ a, v = .ref a ∧ IsD H a := by
  obtain ⟨a, vs, rfl, h1, _⟩ := dict_rep S r h
  exact ⟨a, rfl, .inl ⟨_, .inl h1⟩⟩
def eGet1 (o i : GE) : GE := fun ρ st => (o ρ st).bind fun p => (dictOf p.2 p.1).bind fun _ => (i ρ p.2).bind fun q => match q.1 with
  | .d y => (keyD y).bind fun ky => (dictOf q.2 p.1).bind fun kvs => some (match lookC kvs ky with | some c => c | none => .d .non, q.2)
  | _ => none
def eGet2 (o i e : GE) : GE := fun ρ st => (o ρ st).bind fun p => (dictOf p.2 p.1).bind fun _ => (i ρ p.2).bind fun q => (e ρ q.2).bind fun r => match q.1 with
  | .d y => (keyD y).bind fun ky => (dictOf r.2 p.1).bind fun kvs => some (match lookC kvs ky with | some c => c | none => r.1, r.2)
  | _ => none
theorem de_get1 {o i : Expr} {apos : Pos} {go gi : GE} (hu : X.A.units + 1 < cLine) (ho : PE X o (tD X.K go)) (hi : PE X i (tD X.K gi)) (m : M1 X o "get" apos i pos) : PE X (.Call (.Attribute o "get" apos) [i] [] pos) (tD X.K (eGet1 go gi)) := pe_imp (pe_dget1 hu ho hi m) fun σ H Q ⟨F, A, ρ, st, c, st', S, L, g, k⟩ => by
  obtain ⟨⟨c1, st1⟩, h1, g⟩ := bind_some g
  obtain ⟨kv0, h0, g⟩ := bind_some g
  obtain ⟨⟨c2, st2⟩, h2, g⟩ := bind_some g
  dsimp only at g
  split at g
  · rename_i y
    obtain ⟨ky, h3, g⟩ := bind_some g
    obtain ⟨kvs, h4, g⟩ := bind_some g
    cases g
    refine ⟨F, A, ρ, st, c1, st1, S, L, h1, fun v F1 H1 g1 S1 r1 => ?_⟩
    obtain ⟨a0, e0, d0⟩ := isD_of S1 r1 h0
    refine ⟨a0, e0, d0, F1, A, ρ, st1, _, _, S1, L.mono g1.ex, h2, fun w F2 H2 g2 S2 r2 => ?_⟩
    rw [key_rep r2 h3]
    obtain ⟨a, vs, e1, h6, h7⟩ := dict_rep S2 (r1.mono g2.ex) h4
    have ea : a0 = a := V.ref.inj (e0.symm.trans e1)
    subst ea
    refine ⟨_, DGet.k h6, ?_⟩
    cases e : lookC kvs ky with
    | none =>
      rw [(look_V ky h7).1 e]
      rw [e] at k
      exact k _ F2 H2 (g1.trans g2) S2 .non
    | some c =>
      obtain ⟨u, h8, h9⟩ := (look_V ky h7).2 c e
      rw [h8]
      rw [e] at k
      exact k _ F2 H2 (g1.trans g2) S2 h9
  · cases g
theorem de_get2 {o i e : Expr} {apos : Pos} {go gi ge : GE} (hu : X.A.units + 1 < cLine) (ho : PE X o (tD X.K go)) (hi : PE X i (tD X.K gi)) (he : PE X e (tD X.K ge)) (m : M2 X o "get" apos i e pos) : PE X (.Call (.Attribute o "get" apos) [i, e] [] pos) (tD X.K (eGet2 go gi ge)) := pe_imp (pe_dget2 hu ho hi he m) fun σ H Q ⟨F, A, ρ, st, c, st', S, L, g, k⟩ => by
  obtain ⟨⟨c1, st1⟩, h1, g⟩ := bind_some g
  obtain ⟨kv0, h0, g⟩ := bind_some g
  obtain ⟨⟨c2, st2⟩, h2, g⟩ := bind_some g
  obtain ⟨⟨c3, st3⟩, h5, g⟩ := bind_some g
  dsimp only at g
  split at g
  · rename_i y
    obtain ⟨ky, h3, g⟩ := bind_some g
    obtain ⟨kvs, h4, g⟩ := bind_some g
    cases g
    refine ⟨F, A, ρ, st, c1, st1, S, L, h1, fun v F1 H1 g1 S1 r1 => ?_⟩
    obtain ⟨a0, e0, d0⟩ := isD_of S1 r1 h0
    refine ⟨a0, e0, d0, F1, A, ρ, st1, _, _, S1, L.mono g1.ex, h2, fun w F2 H2 g2 S2 r2 => ?_⟩
    refine ⟨F2, A, ρ, st2, _, _, S2, (L.mono g1.ex).mono g2.ex, h5, fun u F3 H3 g3 S3 r3 => ?_⟩
    rw [key_rep r2 h3]
    obtain ⟨a, vs, e1, h6, h7⟩ := dict_rep S3 ((r1.mono g2.ex).mono g3.ex) h4
    have ea : a0 = a := V.ref.inj (e0.symm.trans e1)
    subst ea
    refine ⟨_, DGet.k h6, ?_⟩
    cases e : lookC kvs ky with
    | none =>
      rw [(look_V ky h7).1 e]
      rw [e] at k
      exact k _ F3 H3 ((g1.trans g2).trans g3) S3 r3
    | some c =>
      obtain ⟨u, h8, h9⟩ := (look_V ky h7).2 c e
      rw [h8]
      rw [e] at k
      exact k _ F3 H3 ((g1.trans g2).trans g3) S3 h9
  · cases g
end
end DL
/-! DI: enumerate of lists and tuples, zip. -/
namespace DL
open PySem PySem.Spec PyProof.Rows L2

/-! ### enumerate(a tuple) -/
set_option maxHeartbeats 1000000 in
theorem enum1_meets {v : Value} {o : Obj} {Ho : Heap → Prop} (B : Begins v o Ho) : Meets (Builtin.«enumerate.__new__» ⟨[.type "enumerate", v], []⟩) (fun _ R s => Ho s.heap ∧
    R (.ok (.ret (.ref (s.heap.push o).objs.size))) { s with heap := (s.heap.push o).push { cls := .type "enumerate", data := .fields #[.none, .bool false, .ref s.heap.objs.size, rawInt 0, .none, .none] } }) :=
  .of_wp fun prog w A R s both => by
    obtain ⟨hp, gn, dr, tk, os⟩ := s
    obtain ⟨pre, goal⟩ := both
    have sub := sub_enumerate
    have iter : ∀ {A' : Around} {E' : Value → Shared → Prop} {Q' : Value → Shared → Prop}, Q' (.ref hp.objs.size) ⟨hp.push o, gn, dr, tk, os⟩ → wpAny (model prog w) A' (pyIter v) Q' E' ⟨hp, gn, dr, tk, os⟩ := fun q => B.iter _ _ _ _ _ _ pre q
    wp_walk using iter
    refine wpAny_stack_any fun stk => wpAny_pure ?_
    split
    · rename_i kind _ _ _ _ _
      cases (kind == Value.type "enumerate") <;> (wp_walk using iter; exact ⟨_, rfl, goal⟩)
    · wp_walk using iter
      exact ⟨_, rfl, goal⟩
theorem enum1_call {prog : Program} {w : World} {A : Around} {E : Value → Shared → Prop} {s : Shared} {v : Value} {o : Obj} {Ho : Heap → Prop} {Q : Value → Shared → Prop} (B : Begins v o Ho) (pre : Ho s.heap)
    (goal : ∀ h', IsEnum h' (s.heap.objs.size + 1) s.heap.objs.size 0 .none → h'.get? s.heap.objs.size = some o → (∀ b u, s.heap.get? b = some u → h'.get? b = some u) → Q (.ref (s.heap.objs.size + 1)) { s with heap := h' }) :
    wpAny (model prog w) A (call (.type "enumerate") [v]) Q E s := by
  refine callType_new F.called_enumerate (by decide) (F.typeCall_enumerate_1 _) (F.newCall_enumerate_1 _) (fun x => F.args_object_init_2 x _) F.entry_enumerate_new (enum1_meets B) ⟨pre, ?_⟩
  have size1 : (s.heap.push o).objs.size = s.heap.objs.size + 1 := Heap.size_push ..
  show _ ∧ _
  rw [size1]
  have made : IsEnum ((s.heap.push o).push { cls := .type "enumerate", data := .fields #[.none, .bool false, .ref s.heap.objs.size, rawInt 0, .none, .none] }) (s.heap.objs.size + 1) s.heap.objs.size 0 .none := by
    have at_ := Heap.get?_push_size (s.heap.push o) (o := { cls := .type "enumerate", data := .fields #[.none, .bool false, .ref s.heap.objs.size, rawInt 0, .none, .none] }) rfl
    rw [size1] at at_
    exact at_
  exact ⟨⟨_, made, rfl⟩, goal _ made (Heap.get?_push_of_some _ (Heap.get?_push_size _ B.free)) fun b u z => Heap.get?_push_of_some _ (Heap.get?_push_of_some _ z)⟩
/-- the tuple at a, each item in a new pair with its number -/
def EnT (K : PySem.W.Frag) (a : Addr) : It where
  go := fun i H => ∃ (xs : List V) (x : V), SqT K H a xs ∧ xs[i]? = some x
  yld := fun i H v H' => ∃ T x, v = .ref T ∧ H T = none ∧ H' = upd H T (.tup [.int (i : Nat), x]) ∧ ∀ xs, SqT K H a xs → xs[i]? = some x
  stop := fun i H => ∃ xs : List V, SqT K H a xs ∧ xs.length ≤ i
theorem turn_EnT {P : Program} {w : World} {K : PySem.W.Frag} {elts : List Expr} {kk : Nat} {tpos : Pos} (a e it : Addr) (hne : e ≠ it) (hia : a ≠ it) :
    Turn P w K (.Tuple elts kk tpos) (EnT K a) [e, it] e (fun i h => (∃ old, IsEnum h e it ((i : Nat) : Int) old) ∧ h.IsTupleIter it a i) where
  mem := List.mem_cons_self
  obj := fun i h st b hb => by
    obtain ⟨⟨old, he⟩, o, ho, _, hd⟩ := st
    rcases List.mem_cons.mp hb with z | z
    · rw [z]
      refine ⟨_, he, fun v q => ?_⟩
      cases q
    · rw [List.mem_singleton] at z
      exact ⟨o, by rw [z]; exact ho, fun v q => by rw [hd] at q; cases q⟩
  keep := fun i h h' st k => by
    obtain ⟨⟨old, he⟩, hi⟩ := st
    exact ⟨⟨old, k e (by simp) _ he⟩, hi.at fun o q => k it (by simp) o q⟩
  item := by
    intro X hP hw hK hc i pins s σ H E I hf st hg
    subst hP hw hK
    obtain ⟨⟨old, he⟩, hit⟩ := st
    obtain ⟨xs, x, hq, hx⟩ := hg
    obtain ⟨its, rv, p, hz⟩ := I.tuple hq
    obtain ⟨u, hu, ru⟩ := rv.get hx
    have tup : s.heap.IsTuple a its.toArray := p
    have hea : e ≠ a := fun z => by
      obtain ⟨o, ho, hcl, _⟩ := tup
      rw [← z, he] at ho
      cases ho
      have : ("enumerate" : String) = "tuple" := by injection hcl
      exact absurd this (by decide)
    have il : i < its.toArray.size := by simpa using (List.getElem?_eq_some_iff.mp hu).1
    have elt : e < s.heap.objs.size := Heap.lt_size he
    have ilt : it < s.heap.objs.size := by obtain ⟨_, q, _⟩ := hit; exact Heap.lt_size q
    have quiet : X.A.in1.handled = none := I.ok.hd hc
    refine wpAny_pyNext_enum_itemC (Draws.tuple quiet it a hia its.toArray) he ⟨hit, tup⟩ il hne (by simp [hne, hea]) ?_
    intro y h' tk hy out st' hT hsz hk
    have ey : y = u := by
      have hy : its.toArray[i]? = some y := hy
      rw [List.getElem?_toArray, hu] at hy
      exact (Option.some.inj hy).symm
    subst ey
    refine ⟨_, rfl, wpAny_letOwnedTupleGo_enum out ?_⟩
    intro h'' he' sb
    have size_ne : s.heap.objs.size ≠ e := Nat.ne_of_gt elt
    have hT2 : h''.get? s.heap.objs.size = some { cls := .type "tuple", data := .seq #[.int i tk, y] } := (sb.2 _ size_ne).trans hT
    have laid : ObjOk X.prog X.w (upd H s.heap.objs.size (.tup [.int (i : Nat), x])) h'' s.heap.objs.size (.tup [.int (i : Nat), x]) :=
      ⟨by show 2 ≤ sizeLine; decide, [.int i tk, y], .cons ⟨_, rfl⟩ (.cons ru .nil), ⟨_, hT2, rfl, _, rfl⟩⟩
    have away : ∀ b o, b ∉ [e, it] → s.heap.get? b = some o → h''.get? b = some o := fun b o hb q => by
      have h1 : b ≠ e := fun z => hb (by simp [z])
      have h2 : b ≠ it := fun z => hb (by simp [z])
      exact (sb.2 b h1).trans (hk b o h1 h2 q)
    have inv : Inv X pins σ (upd H s.heap.objs.size (.tup [.int (i : Nat), x])) { s with heap := h'', toks := tk + 1 } := I.turnedNew away hf (Nat.le_refl _) laid
    refine ⟨.ref s.heap.objs.size, _, inv, rfl, ⟨_, x, rfl, I.hok.fresh (Nat.le_refl _), rfl, fun ys hys => by rw [I.tuple_inj hys hq]; exact hx⟩, ⟨⟨y, ?_⟩, st'.1.at fun o q => (sb.2 it (Ne.symm hne)).trans q⟩, fun b hb => ?_⟩
    · rw [show ((i + 1 : Nat) : Int) = (i : Int) + 1 by omega]
      exact he'
    · have lt : b < s.heap.objs.size := by
        rcases List.mem_cons.mp hb with z | z
        · rw [z]; exact elt
        · rw [List.mem_singleton] at z; rw [z]; exact ilt
      rw [upd_ne (Nat.ne_of_lt lt)]
      exact (hf b hb).1
  done := by
    intro X hP hw hK hc i pins s σ H E I hf st hg
    subst hP hw hK
    obtain ⟨⟨old, he⟩, hit⟩ := st
    obtain ⟨xs, hq, hx⟩ := hg
    obtain ⟨its, rv, p, hz⟩ := I.tuple hq
    have tup : s.heap.IsTuple a its.toArray := p
    have quiet : X.A.in1.handled = none := I.ok.hd hc
    obtain ⟨f0, f1, f2, f3, f4, f5⟩ := hf it (by simp)
    have none_at : its.toArray[i]? = none := by
      rw [List.getElem?_toArray]
      exact List.getElem?_eq_none_iff.mpr (by rw [← rv.length]; exact hx)
    have last : Draws X.prog X.w X.A.in1 it [it, a] i (fun _ _ => True) (fun j h => j = i ∧ h.IsTupleIter it a i ∧ h.IsTuple a its.toArray) := {
      live := fun j h st => let ⟨o, ho, _⟩ := st.2.1; ⟨o, ho⟩
      frame := fun j h h' st hk => ⟨st.1, st.2.1.at fun o q => hk it (by simp) o q, st.2.2.at fun o q => hk a (by simp) o q⟩
      item := fun j s Q E hj st _ => absurd st.1 (Nat.ne_of_lt hj)
      done := fun s Q E st hE => wpAny_nextOf_tuple_end quiet st.2.1 st.2.2 none_at hE }
    refine wpAny_pyNext_enum_endD last he ⟨rfl, hit, tup⟩ ?_
    intro h' ext
    exact ⟨rfl, I.turned (t' := s.toks) (fun b o hb q => ext b o hb q) f0 f1 f3 f4 f5⟩
  self := fun A i s Q E st h => by
    obtain ⟨⟨_, he⟩, _⟩ := st
    exact wpAny_pyIter_enum he h
section
variable {X : Cx} {pos tpos p : Pos} {e e2 : Expr} {elts : List Expr} {kk : Nat}
def iEnT (K : PySem.W.Frag) (ta : TA) : TI := fun σ H R => ta σ H fun vs H1 => ∃ a xs, vs = [.ref a] ∧ SqT K H1 a xs ∧ R (EnT K a) H1
theorem pi_enT {ta : TA} (hg : Gl X "enumerate") (hm : X.mg "enumerate" = none) (ha : PA X [e] ta) (hs : starEach [e] X.env = [(false, eval e X.env)]) : PI X (.Tuple elts kk tpos) (.Call (.Name "enumerate" p) [e] [] pos) (iEnT X.K ta) := by
  constructor
  intro pins s σ H R I h
  refine Call_ (ld_blt I hg hm boot_enumerate (PyProof.Rows.callWith_type1 ?_ hs rfl))
  refine thn (ha.run pos pins s σ H _ I h) ?_
  rintro us s1 ⟨vs, H1, I1, r1, a, xs, rfl, hq, q⟩
  obtain ⟨u, rfl, ru⟩ := r1.one
  cases ru
  obtain ⟨its, rv, pl, hz⟩ := I1.tuple hq
  have tup : s1.heap.IsTuple a its.toArray := pl
  have al : a < s1.heap.objs.size := by obtain ⟨o, ho, _⟩ := tup; exact Heap.lt_size ho
  refine enum1_call (begins_tuple a its.toArray) tup ?_
  intro h' made iter keep
  refine wpAny_pyIter_enum made ?_
  have I2 : Inv X pins σ H1 { s1 with heap := h' } := I1.kept (t' := s1.toks) keep
  refine ⟨s1.heap.objs.size + 1, [s1.heap.objs.size + 1, s1.heap.objs.size], _, _, H1, rfl, I2, turn_EnT a (s1.heap.objs.size + 1) s1.heap.objs.size (Nat.succ_ne_self _) (Nat.ne_of_lt al), ⟨⟨.none, made⟩, ⟨_, iter, rfl, rfl⟩⟩, ?_, q⟩
  intro b hb
  have hle : s1.heap.objs.size ≤ b := by
    rcases List.mem_cons.mp hb with z | z
    · rw [z]; exact Nat.le_succ _
    · rw [List.mem_singleton] at z; rw [z]; exact Nat.le_refl _
  exact I1.fpOk hle (I1.hok.fresh hle)
def enumD (ds : List D) : List D := ds.mapIdx fun i d => .tup [.int (i : Nat), d]
theorem pair_new {K : PySem.W.Frag} {F H : Hp} {A : List Addr} {st : Sto} {T : Addr} {x y : V} {dx dy : D} (S : SS K F H A st) (hT : H T = none) (rx : Rep K F dx x) (ry : Rep K F dy y) :
    ∃ F', Grow A F H F' (upd H T (.tup [x, y])) ∧ SS K F' (upd H T (.tup [x, y])) A st ∧ Rep K F' (.tup [dx, dy]) (.ref T) := by
  have g : Grow A F H (upd F T (.tup [x, y])) (upd H T (.tup [x, y])) := .new1 (S.ex.free hT) hT
  exact ⟨_, g, S.new hT, .tup (SqT.of upd_same) (.cons (rx.mono g.ex) (.cons (ry.mono g.ex) .nil))⟩
theorem walk_enL {K : PySem.W.Frag} {A : List Addr} {F : Hp} {a : Addr} {vs : List V} {ds : List D} (h : SqL K F a vs) (r : Reps K F ds vs) : WalkOf K A F (Ite K a) (.items (enumD ds)) where
  stop := fun F1 H B st i e S hi => by
    simp only [itemAt, Option.some.injEq] at hi
    have := List.getElem?_eq_none_iff.mp hi
    exact ⟨vs, S.ex.seq (e.seq h), by rw [← r.len]; simpa [enumD] using this⟩
  go := fun F1 H B st i x e S hi => by
    simp only [itemAt, Option.some.injEq, enumD, List.getElem?_mapIdx, Option.map_eq_some_iff] at hi
    obtain ⟨d, hd, rfl⟩ := hi
    obtain ⟨v, hv, rv⟩ := (r.mono e).get hd
    refine ⟨⟨vs, v, S.ex.seq (e.seq h), hv⟩, fun w H' ⟨T, y, ew, hT, eH, fy⟩ => ?_⟩
    subst ew eH
    have : some v = some y := hv.symm.trans (fy vs (S.ex.seq (e.seq h)))
    cases this
    exact pair_new S hT .int rv
theorem walk_enT {K : PySem.W.Frag} {A : List Addr} {F : Hp} {a : Addr} {vs : List V} {ds : List D} (h : SqT K F a vs) (r : Reps K F ds vs) : WalkOf K A F (EnT K a) (.items (enumD ds)) where
  stop := fun F1 H B st i e S hi => by
    simp only [itemAt, Option.some.injEq] at hi
    have := List.getElem?_eq_none_iff.mp hi
    exact ⟨vs, same_sqt S.ex (same_sqt e h), by rw [← r.len]; simpa [enumD] using this⟩
  go := fun F1 H B st i x e S hi => by
    simp only [itemAt, Option.some.injEq, enumD, List.getElem?_mapIdx, Option.map_eq_some_iff] at hi
    obtain ⟨d, hd, rfl⟩ := hi
    obtain ⟨v, hv, rv⟩ := (r.mono e).get hd
    refine ⟨⟨vs, v, same_sqt S.ex (same_sqt e h), hv⟩, fun w H' ⟨T, y, ew, hT, eH, fy⟩ => ?_⟩
    subst ew eH
    have : some v = some y := hv.symm.trans (fy vs (same_sqt S.ex (same_sqt e h)))
    cases this
    exact pair_new S hT .int rv
def iEn (a : GA) : GI := fun ρ st => (a ρ st).bind fun p => match p.1 with
  | [.d (.tup ds)] => some (.items (enumD ds), p.2)
  | [.d (.lst ds)] => some (.items (enumD ds), p.2)
  | _ => none
theorem di_en {ga : GA} (hg : Gl X "enumerate") (hm : X.mg "enumerate" = none) (ha : PA X [e] (tDA X.K ga)) (hs : starEach [e] X.env = [(false, eval e X.env)] := by rfl) : PI X (.Tuple elts kk tpos) (.Call (.Name "enumerate" p) [e] [] pos) (tDI X.K (iEn ga)) := ⟨fun pins s σ H R I ⟨F, A, ρ, st, src, st', S, L, g, k⟩ => by
  obtain ⟨⟨cs, st1⟩, h1, g⟩ := bind_some g
  dsimp only at g
  split at g
  · cases g
    refine (pi_enT hg hm ha hs).run pins s σ H R I ⟨F, A, ρ, st, _, _, S, L, h1, fun vs F1 H1 g1 S1 r1 => ?_⟩
    cases r1 with
    | cons r rr =>
      cases rr
      cases r with
      | tup h2 hr => exact ⟨_, _, rfl, same_sqt S1.ex h2, k _ F1 H1 g1 S1 (walk_enT h2 hr)⟩
  · cases g
    refine (pi_enum hg hm ha hs).run pins s σ H R I ⟨F, A, ρ, st, _, _, S, L, h1, fun vs F1 H1 g1 S1 r1 => ?_⟩
    cases r1 with
    | cons r rr =>
      cases rr
      cases r with
      | lst h2 hr => exact ⟨_, _, rfl, SqL.of (S1.ex _ _ h2), k _ F1 H1 g1 S1 (walk_enL (SqL.of h2) hr)⟩
  · cases g⟩
/-! ### zip -/
def zipD (xs ys : List D) : List D := (xs.zip ys).map fun p => .tup [p.1, p.2]
theorem zip_none {xs ys : List D} {i : Nat} (h : (zipD xs ys)[i]? = none) : xs.length ≤ i ∨ ys.length ≤ i := by
  have := List.getElem?_eq_none_iff.mp h
  simp only [zipD, List.length_map, List.length_zip] at this
  omega
theorem zip_some {xs ys : List D} {i : Nat} {z : D} (h : (zipD xs ys)[i]? = some z) : ∃ x y, xs[i]? = some x ∧ ys[i]? = some y ∧ z = .tup [x, y] := by
  simp only [zipD, List.getElem?_map, Option.map_eq_some_iff] at h
  obtain ⟨⟨x, y⟩, h1, rfl⟩ := h
  rw [List.getElem?_zip_eq_some] at h1
  exact ⟨x, y, h1.1, h1.2, rfl⟩
theorem walk_zL {K : PySem.W.Frag} {A : List Addr} {F : Hp} {a b : Addr} {vs us : List V} {ds es : List D} (h : SqL K F a vs) (r : Reps K F ds vs) (h' : SqL K F b us) (r' : Reps K F es us) : WalkOf K A F (Itz K a b) (.items (zipD ds es)) where
  stop := fun F1 H B st i e S hi => by
    simp only [itemAt, Option.some.injEq] at hi
    exact ⟨vs, us, S.ex.seq (e.seq h), S.ex.seq (e.seq h'), by rw [← r.len, ← r'.len]; exact zip_none hi⟩
  go := fun F1 H B st i x e S hi => by
    simp only [itemAt, Option.some.injEq] at hi
    obtain ⟨d, d', hd, hd', rfl⟩ := zip_some hi
    obtain ⟨v, hv, rv⟩ := (r.mono e).get hd
    obtain ⟨v', hv', rv'⟩ := (r'.mono e).get hd'
    refine ⟨⟨vs, us, v, v', S.ex.seq (e.seq h), S.ex.seq (e.seq h'), hv, hv'⟩, fun w H' ⟨T, y, y', ew, hT, eH, fy, fy'⟩ => ?_⟩
    subst ew eH
    have q1 : some v = some y := hv.symm.trans (fy vs (S.ex.seq (e.seq h)))
    have q2 : some v' = some y' := hv'.symm.trans (fy' us (S.ex.seq (e.seq h')))
    cases q1
    cases q2
    exact pair_new S hT rv rv'
theorem walk_zT {K : PySem.W.Frag} {A : List Addr} {F : Hp} {a b : Addr} {vs us : List V} {ds es : List D} (h : SqT K F a vs) (r : Reps K F ds vs) (h' : SqT K F b us) (r' : Reps K F es us) : WalkOf K A F (RZ.ItzT K a b) (.items (zipD ds es)) where
  stop := fun F1 H B st i e S hi => by
    simp only [itemAt, Option.some.injEq] at hi
    exact ⟨vs, us, same_sqt S.ex (same_sqt e h), same_sqt S.ex (same_sqt e h'), by rw [← r.len, ← r'.len]; exact zip_none hi⟩
  go := fun F1 H B st i x e S hi => by
    simp only [itemAt, Option.some.injEq] at hi
    obtain ⟨d, d', hd, hd', rfl⟩ := zip_some hi
    obtain ⟨v, hv, rv⟩ := (r.mono e).get hd
    obtain ⟨v', hv', rv'⟩ := (r'.mono e).get hd'
    refine ⟨⟨vs, us, v, v', same_sqt S.ex (same_sqt e h), same_sqt S.ex (same_sqt e h'), hv, hv'⟩, fun w H' ⟨T, y, y', ew, hT, eH, fy, fy'⟩ => ?_⟩
    subst ew eH
    have q1 : some v = some y := hv.symm.trans (fy vs (same_sqt S.ex (same_sqt e h)))
    have q2 : some v' = some y' := hv'.symm.trans (fy' us (same_sqt S.ex (same_sqt e h')))
    cases q1
    cases q2
    exact pair_new S hT rv rv'
def iZp (a : GA) : GI := fun ρ st => (a ρ st).bind fun p => match p.1 with
  | [.d (.tup ds), .d (.tup es)] => some (.items (zipD ds es), p.2)
  | [.d (.lst ds), .d (.lst es)] => some (.items (zipD ds es), p.2)
  | _ => none
theorem di_zp {ga : GA} (hg : Gl X "zip") (hm : X.mg "zip" = none) (ha : PA X [e, e2] (tDA X.K ga)) (hs : starEach [e, e2] X.env = (false, eval e X.env) :: starEach [e2] X.env := by rfl) (hpl : (backTo pos (starEach [e2] X.env)).any (·.1) = false := by rfl) :
    PI X (.Tuple elts kk tpos) (.Call (.Name "zip" p) [e, e2] [] pos) (tDI X.K (iZp ga)) := pi_imp (RZ.pi_zipA hg hm ha hs hpl) fun σ H R ⟨F, A, ρ, st, src, st', S, L, g, k⟩ => by
  obtain ⟨⟨cs, st1⟩, h1, g⟩ := bind_some g
  refine ⟨F, A, ρ, st, cs, st1, S, L, h1, fun vs F1 H1 g1 S1 r1 => ?_⟩
  dsimp only at g
  split at g
  · cases g
    cases r1 with
    | cons r rr =>
      cases rr with
      | cons r' rr =>
        cases rr
        cases r with
        | tup h2 hr =>
          cases r' with
          | tup h3 hr' => exact ⟨_, _, _, _, rfl, .inr ⟨same_sqt S1.ex h2, same_sqt S1.ex h3, k _ F1 H1 g1 S1 (walk_zT h2 hr h3 hr')⟩⟩
  · cases g
    cases r1 with
    | cons r rr =>
      cases rr with
      | cons r' rr =>
        cases rr
        cases r with
        | lst h2 hr =>
          cases r' with
          | lst h3 hr' => exact ⟨_, _, _, _, rfl, .inl ⟨SqL.of (S1.ex _ _ h2), SqL.of (S1.ex _ _ h3), k _ F1 H1 g1 S1 (walk_zL (SqL.of h2) hr (SqL.of h3) hr')⟩⟩
  · cases g
end
end DL
/-! DJ: repr, rpartition, slices by two, a module's tuple. -/
namespace DL
open PySem PySem.Spec PyProof.Rows L2

section
variable {X : Cx} {pos : Pos}
/-! ### repr -/
def reprD : List D → Option D
  | [x] => (toPy x).bind fun p => if p.showable = true ∧ p.hasDict = false ∧ p.shown.length ≤ 1000000 ∧ p.depth ≤ 40 then some (.str p.shown) else none
  | _ => none
theorem call_reprD (hq : X.A.guards = some []) (hu : X.A.units + 64 < cLine) : CallR X (.builtin "repr") (rCD X.K reprD) := fun pins s σ H vs us Q I rv ⟨F, A, st, xs, z, S, rs, hz, k⟩ => by
  cases rs with
  | nil => cases hz
  | cons r rs =>
    cases rs with
    | cons _ _ => cases r <;> cases hz
    | nil =>
      obtain ⟨u, rfl, ru⟩ := rv.one
      rename_i x v _
      have hz : ((toPy x).bind fun p => if p.showable = true ∧ p.hasDict = false ∧ p.shown.length ≤ 1000000 ∧ p.depth ≤ 40 then some (D.str p.shown) else none) = some z := hz
      obtain ⟨p, hp, hz⟩ := bind_some hz
      split at hz
      · rename_i c
        obtain ⟨c1, c2, c3, c4⟩ := c
        cases hz
        obtain ⟨as, rd⟩ := Dp.reads I p v u (dpp_of S.ex r hp) ru
        have goal : ∀ h' t tk, (∀ b o, s.heap.get? b = some o → h'.get? b = some o) → EP X pins σ Q (.str p.shown t) { s with heap := h', toks := tk } := fun h' t tk keep =>
          ⟨.str p.shown, H, I.kept keep, ⟨t, rfl⟩, k _ F H .refl S .str⟩
        cases r with
        | non =>
          cases hp; cases ru
          exact PySem.P.repr_of_none (goal _ _ _ fun _ _ z => z)
        | bl =>
          cases hp; cases ru
          exact PySem.P.repr_of_bool (goal _ _ _ fun _ _ z => z)
        | @int i =>
          cases hp
          obtain ⟨t, rfl⟩ := ru
          have small : i.natAbs.log2 < 1920 := of_decide_eq_true c1
          exact PySem.P.repr_of_int small (goal _ _ _ fun _ _ z => z)
        | str =>
          cases hp
          obtain ⟨t, rfl⟩ := ru
          exact PySem.P.repr_of_str (goal _ _ _ fun _ _ z => z) (lim6 c3)
        | tup _ _ => cases ru; exact repr_of_reads' rd c1 (fun q => by rw [c2] at q; cases q) hq (by omega) (fun _ _ z => z) (fun h' t tk keep => goal h' t tk keep) (lim6 c3)
        | lst _ _ => cases ru; exact repr_of_reads' rd c1 (fun q => by rw [c2] at q; cases q) hq (by omega) (fun _ _ z => z) (fun h' t tk keep => goal h' t tk keep) (lim6 c3)
        | wls _ _ => cases hp
        | dct _ _ => cases hp
      · cases hz

/-! ### rpartition -/
def rpartD : List D → Option D
  | [.str a, .str b] => if (b.length == 0) = false ∧ a.length ≤ 1000000 then some (.tup [.str (Txt.rpartition a b).1, .str (Txt.rpartition a b).2.1, .str (Txt.rpartition a b).2.2]) else none
  | _ => none
theorem m_rpart : MtR X "str.rpartition" (rMD X.K rpartD) := fun pins s σ H x xs v us Q I rx rxs ⟨Fr, A, st, ds, z, S, rs, hz, k⟩ => by
  cases rs with
  | cons r rs =>
    cases rs with
    | nil => cases r <;> cases hz
    | cons r2 rs =>
      cases rs with
      | cons _ _ => cases r <;> cases r2 <;> cases hz
      | nil =>
        cases r <;> cases r2 <;> simp only [rpartD, reduceCtorEq] at hz
        rename_i a b _
        split at hz
        · rename_i hl
          cases hz
          obtain ⟨t, rfl⟩ := rx
          obtain ⟨u, rfl, t2, rfl⟩ := rxs.one
          refine call_meets F.slot_str_rpartition (typeIs_str _ _ _) F.entry_str_rpartition (F.args_str_rpartition_2 _ _) (meets_str_rpartition a b t t2 hl.1 (lim6 hl.2)) ?_
          have fin : ∀ p, H p = none → Q (.ref p) (upd H p (.tup [.str (Txt.rpartition a b).1, .str (Txt.rpartition a b).2.1, .str (Txt.rpartition a b).2.2])) := fun p hp =>
            k _ _ _ (.new1 (S.ex.free hp) hp) (S.new hp) (.tup (SqT.of upd_same) (.cons .str (.cons .str (.cons .str .nil))))
          unfold Txt.rpartition at fin
          revert fin
          cases Builtin.Str.lastOccurrence a b 0 a.length with
          | none => exact fun fin => laid_parts I fin
          | some i => exact fun fin => laid_parts I fin
        · cases hz
end
end DL
namespace DL
open PySem PySem.Spec PyProof.Rows L2
/-! ### xs[lo:hi:k], a new list -/
def pickD {α : Type} (xs : List α) (lo hi st : Option Int) : List α := (sliceRange (sliceBounds lo hi st xs.length).1 (sliceBounds lo hi st xs.length).2.1 (sliceBounds lo hi st xs.length).2.2).filterMap fun i => xs[i]?
theorem pick_paired {α β : Type} {R : α → β → Prop} {xs : List α} {ys : List β} (h : Paired R xs ys) (hg : ∀ (i : Nat) (x : α), xs[i]? = some x → ∃ y, ys[i]? = some y ∧ R x y) (hn : ∀ i : Nat, xs[i]? = none → ys[i]? = none) : ∀ is : List Nat, Paired R (is.filterMap fun i => xs[i]?) (is.filterMap fun i => ys[i]?)
  | [] => .nil
  | i :: is => by
    cases e : xs[i]? with
    | none => rw [List.filterMap_cons_none e, List.filterMap_cons_none (hn i e)]; exact pick_paired h hg hn is
    | some x =>
      obtain ⟨y, hy, r⟩ := hg i x e
      rw [List.filterMap_cons_some e, List.filterMap_cons_some hy]
      exact .cons r (pick_paired h hg hn is)
theorem vals_pick {vs : List V} {us : List Value} (r : Vals vs us) (lo hi st : Option Int) : Vals (pickD vs lo hi st) (slicePick us.toArray lo hi st).toList := by
  unfold slicePick pickD
  rw [List.toList_toArray, List.size_toArray, ← r.length]
  simp only [List.getElem?_toArray]
  exact pick_paired r (fun i x h => r.get h) (fun i h => r.none_of h) _
theorem reps_pick {K : PySem.W.Frag} {F : Hp} {ds : List D} {vs : List V} (r : Reps K F ds vs) (lo hi st : Option Int) : Reps K F (pickD ds lo hi st) (pickD vs lo hi st) := by
  unfold pickD
  rw [← r.len]
  have all : ∀ is : List Nat, Reps K F (is.filterMap fun i => ds[i]?) (is.filterMap fun i => vs[i]?) := by
    intro is
    induction is with
    | nil => exact .nil
    | cons i is ih =>
      cases e : ds[i]? with
      | none =>
        have e2 : vs[i]? = none := List.getElem?_eq_none_iff.mpr (by rw [← r.len]; exact List.getElem?_eq_none_iff.mp e)
        rw [List.filterMap_cons_none e, List.filterMap_cons_none e2]; exact ih
      | some x =>
        obtain ⟨y, hy, q⟩ := r.get e
        rw [List.filterMap_cons_some e, List.filterMap_cons_some hy]
        exact .cons q ih
  exact all _
section
variable {X : Cx} {pos p2 : Pos} {e kx : Expr} {lo hi : Option Expr}
def tSl3 (K : PySem.W.Frag) (te : TE) (tl th tk : TO) : TE := fun σ H Q => te σ H fun x H1 => tl σ H1 fun l H2 => th σ H2 fun u H3 => tk σ H3 fun k H4 => ∃ a xs, x = .ref a ∧ SqL K H4 a xs ∧ k ≠ some 0 ∧ ∀ p, H4 p = none → Q (.ref p) (upd H4 p (.lst (pickD xs l u k)))
theorem pe_sl3 {te : TE} {tl th tk : TO} (he : PE X e te) (hl : PO X lo tl) (hh : PO X hi th) (hk : PO X (some kx) tk) : PE X (.Subscript e (.Slice lo hi (some kx) p2) pos) (tSl3 X.K te tl th tk) := by
  constructor
  intro pins s σ H Q I h
  refine Subscript_ (thn (he.run pins s σ H _ I h) ?_)
  rintro v s1 ⟨x, H1, I1, r1, q1⟩
  refine wpAny_Slice (thn (hl.run pins s1 σ H1 _ I1 q1) ?_)
  rintro vl s2 ⟨l, H2, I2, pl, q2⟩
  refine thn (hh.run pins s2 σ H2 _ I2 q2) ?_
  rintro vu s3 ⟨u, H3, I3, pu, q3⟩
  refine thn (hk.run pins s3 σ H3 _ I3 q3) ?_
  rintro vk s4 ⟨k, H4, I4, pk, a, xs, rfl, hx, h0, q4⟩
  cases r1
  have I5 : Inv X pins σ H4 { s4 with heap := s4.heap.push { cls := .type "slice", data := .fields #[vl, vu, vk] } } := I4.kept (t' := s4.toks) fun b o z => Heap.get?_push_of_some _ z
  obtain ⟨its, rv, ht, hz⟩ := I5.list hx
  have sized : its.toArray.size ≤ sizeLine := by rw [List.size_toArray, ← rv.length]; exact hz
  refine tail_any (ops := [.ref a, .ref s4.heap.objs.size]) ht.isList.typeIs slot_list_getitem.lookup (wpAny_getItem_list_slice ht.isList (Heap.IsSliceOf.new ..) pl pu pk h0 ?_ sized) (by with_unfolding_all rfl)
  have picked := vals_pick rv l u k
  have len_le : (pickD xs l u k).length ≤ sizeLine := by
    rw [picked.length, Array.length_toList]
    exact Nat.le_trans (slicePick_size_le its.toArray l u k) sized
  refine ⟨.ref _, _, I5.laid (t' := s4.toks) (o := .lst (pickD xs l u k)) (fun b o z => Heap.get?_push_of_some _ z) (Nat.le_refl _) ?_, rfl, q4 _ (I5.hok.fresh (Nat.le_refl _))⟩
  exact ⟨len_le, _, 0, picked, by rw [Array.toArray_toList]; exact Heap.get?_push_size _ rfl⟩
def eSl3 (a : GE) (lo hi k : GO) : GE := fun ρ st => (a ρ st).bind fun p => (lo ρ p.2).bind fun l => (hi ρ l.2).bind fun h => (k ρ h.2).bind fun m => (deref m.2 p.1).bind fun x => match x with
  | .lst xs => if m.1 ≠ some 0 then some (.d (.lst (pickD xs l.1 h.1 m.1)), m.2) else none
  | _ => none
theorem de_sl3 {G : GE} {Gl Gh Gk : GO} (he : PE X e (tD X.K G)) (hl : PO X lo (tDO X.K Gl)) (hh : PO X hi (tDO X.K Gh)) (hk : PO X (some kx) (tDO X.K Gk)) : PE X (.Subscript e (.Slice lo hi (some kx) p2) pos) (tD X.K (eSl3 G Gl Gh Gk)) :=
  pe_imp (pe_sl3 he hl hh hk) fun σ H Q ⟨F, A, ρ, st, c, st', S, L, g, kk⟩ => by
    obtain ⟨⟨c1, st1⟩, h1, g⟩ := bind_some g
    obtain ⟨⟨l, st2⟩, h2, g⟩ := bind_some g
    obtain ⟨⟨h, st3⟩, h3, g⟩ := bind_some g
    obtain ⟨⟨m, st4⟩, h4, g⟩ := bind_some g
    obtain ⟨x, h5, g⟩ := bind_some g
    cases x with
    | lst xs =>
      dsimp only at g
      split at g
      · rename_i hm
        cases g
        refine ⟨F, A, ρ, st, c1, st1, S, L, h1, fun v F1 H1 g1 S1 r1 => ⟨F1, A, ρ, st1, l, st2, S1, L.mono g1.ex, h2, fun F2 H2 g2 S2 => ⟨F2, A, ρ, st2, h, st3, S2, (L.mono g1.ex).mono g2.ex, h3, fun F3 H3 g3 S3 => ⟨F3, A, ρ, st3, m, _, S3, ((L.mono g1.ex).mono g2.ex).mono g3.ex, h4, fun F4 H4 g4 S4 => ?_⟩⟩⟩⟩
        have rp := S4.deref (((r1.mono g2.ex).mono g3.ex).mono g4.ex) h5
        cases rp with
        | lst hs hr =>
          refine ⟨_, _, rfl, SqL.of hs, hm, fun p hp => ?_⟩
          exact kk _ _ _ ((((g1.trans g2).trans g3).trans g4).trans (.new1 (S4.ex.free hp) hp)) (S4.new hp) (.lst upd_same ((reps_pick hr l h m).mono (Grow.new1 (A := A) (S4.ex.free hp) hp).ex))
      · cases g
    | _ => cases g
/-! ### a module's names -/
theorem de_gs {x y : Str} (hg : Gl X x) (hm : ∃ t, X.mg x = some (.str y t)) (hd : (x == ("__debug__" : Str)) = false := by decide) : PE X (.Name x pos) (tD X.K (eK (.str y))) := by
  obtain ⟨t, h⟩ := hm
  exact de_gl hg h (v := .str y) ⟨t, rfl⟩ (fun _ => .str) hd
/-- a tuple of the module's top: texts alone -/
structure TopStrs (K : PySem.W.Frag) (mg : Str → Option Value) (x : Str) (ys : List Str) : Prop where
  at_ : ∃ a, mg x = some (.ref a) ∧ SqT K (fun _ => none) a (ys.map V.str)
theorem de_gt {x : Str} {ys : List Str} (hg : Gl X x) (hm : TopStrs X.K X.mg x ys) (hd : (x == ("__debug__" : Str)) = false := by decide) : PE X (.Name x pos) (tD X.K (eK (.tup (ys.map .str)))) := by
  obtain ⟨a, h, q⟩ := hm.at_
  exact de_gl hg h (v := .ref a) rfl (fun F => .tup (same_sqt (fun b o z => by cases (show (none : Option HO) = some o from z)) q) (reps_strs ys)) hd
end
end DL
/-! DL: the law's end over a promise by data. -/
namespace DL
open PySem PySem.Spec PyProof.Rows L2

theorem reps_ints {K : PySem.W.Frag} {F : Hp} : ∀ ns : List Int, Reps K F (ns.map .int) (ns.map V.int)
  | [] => .nil
  | n :: ns => .cons .int (reps_ints ns)
/-- the heap at the entry: the script alone, where it is not one of the module's own objects -/
def entryH (K : PySem.W.Frag) (a : Addr) (o : Obj) (ns : List Int) : Hp := fun b => if b = a ∧ K.lookup a = none then some (.frz o (.lst (ns.map V.int))) else none
theorem entry_some {K : PySem.W.Frag} {a b : Addr} {o : Obj} {ns : List Int} {u : HO} (h : entryH K a o ns b = some u) : b = a ∧ K.lookup a = none ∧ u = .frz o (.lst (ns.map V.int)) := by
  unfold entryH at h
  split at h
  · rename_i c
    cases h
    exact ⟨c.1, c.2, rfl⟩
  · cases h
theorem law_G {P : Program} {w : World} {K : PySem.W.Frag} {mg mb : Str → Option Value} {k : Nat} {fa a : Addr} {fd : FuncData} {x : Str} {Φ : List C → Sto → Option (C × Sto)} {t : Shared} {vs : List Value} {ns : List Int}
    (inK : K.In t.heap) (glob : t.heap.Ns mainGlobals mg) (blt : t.heap.Ns builtinsNs mb) (boot : ∀ x : Str, x ≠ "__name__" → mb x = bootBuiltins x) (nol : t.heap.NoLimit) (gens : t.gens = #[])
    (obj : t.heap.get? a = some { cls := .type "list", data := .seq vs.toArray }) (whole : IntsAre vs ns) (size : ns.length ≤ sizeLine) (room : Room k callerA)
    (G : ∀ base : Heap, K.In base → base.Ns mainGlobals mg → FnG P w K mg base k fa fd [x] Φ) (bind : ∀ (s : Shared) (u : Value), BindsTo s fd ⟨[u], []⟩ [(x, u)])
    (ok : Φ [.d (.wls (ns.map .int))] [] = some (.d (.bl true), [])) :
    codeAny (model P w) callerA (.call (.ref fa) ⟨[.ref a], []⟩) (fun r s' => r = .ok (.ret (.bool true)) ∧ OldK t.heap s'.heap ∧ s'.os = t.os ∧ AllBare s'.gens) t := by
  let H := entryH K a { cls := .type "list", data := .seq vs.toArray } ns
  have vi := vals_ints whole
  have held : HOk P w H t.heap := fun b u e => by
    obtain ⟨rfl, _, rfl⟩ := entry_some e
    exact ⟨obj, by rw [List.length_map]; exact size, vs, _, vi, obj⟩
  have script : SqL K H a (ns.map V.int) := by
    cases q : K.lookup a with
    | none => exact .inl (.inr ⟨_, if_pos ⟨rfl, q⟩⟩)
    | some o =>
      have e := inK a o q
      rw [obj] at e
      cases e
      exact .inr ⟨_, vs.toArray, _, q, rfl, rfl, rfl, by rw [List.size_toArray, whole.length]; exact size, by simpa using vi⟩
  have clear : ∀ {b : Addr} {o : Obj}, K.lookup b = some o → H b = none := fun {b o} e => by
    cases q : H b with
    | none => rfl
    | some u =>
      obtain ⟨rfl, z, _⟩ := entry_some q
      rw [z] at e
      cases e
  have dicts : ∀ {b : Addr} {o : Obj} {es : Array DictEntry} {ep : Nat}, t.heap.get? b = some o → o.data = .dict es ep → H b = none := fun {b o es ep} e d => by
    cases q : H b with
    | none => rfl
    | some u =>
      obtain ⟨rfl, _, _⟩ := entry_some q
      rw [obj] at e
      cases e
      exact nomatch d
  have names : ∀ {b : Addr} {m : Str → Option Value}, t.heap.Ns b m → (hidT t.heap H).Ns b m := fun {b m} h => by
    obtain ⟨o, es, ep, e, d, rest⟩ := h
    exact ⟨o, es, ep, hidT_get e (dicts e d), d, rest⟩
  have inB : K.In (hidT t.heap H) := fun b o e => hidT_get (inK b o e) (clear e)
  have mod : Mod K mg (hidT t.heap H) := by
    obtain ⟨mc, c1, c2⟩ := nol
    exact ⟨inB, names glob, ⟨mb, names blt, boot⟩, mc, names c1, c2⟩
  have e0 : Env0 P w K mg (hidT t.heap H) callerA [] t H := by
    refine ⟨rfl, mod, fun b o e => of_hidT e, Nat.le_of_eq (hidT_size _ _), trivial, fun b hb => ?_, held, .of_eq gens⟩
    exact absurd (show b ∈ ([] : List Addr) from hb) (by simp)
  have sp : spD K [x].length Φ [V.ref a] H (fun v _ => v = .bl true) E0 := by
    refine ⟨rfl, H, [], _, [], _, [], ⟨Same.refl H, rfl, List.nodup_nil, fun k a o h => by simp at h, fun k a o h => by simp at h⟩, .cons (c := .d (.wls (ns.map .int))) (Rep.wls script (reps_ints ns)) .nil, ok, fun v F' H' _ _ r => ?_⟩
    cases r
    rfl
  refine codeAny_mono ((G _ inB (names glob)).go callerA [] t H ⟨[.ref a], []⟩ [.ref a] [.ref a] _ room rfl e0 (bind t (.ref a)) (.cons rfl .nil) sp) ?_
  intro res s' out
  match res, out with
  | .ok .next, out => exact out.elim
  | .ok .brk, out => exact out.elim
  | .ok .cont, out => exact out.elim
  | .error e, out => exact out.elim
  | .ok (.ret u), out =>
    obtain ⟨v, H', os, bare, un, held', rel, rfl⟩ := out
    cases rel
    refine ⟨rfl, OldK.of_keep fun b o e => ?_, os, bare⟩
    cases q : H b with
    | none => exact un.keep b o e q (by simp [frs]) (by simp)
    | some u =>
      obtain ⟨rfl, _, rfl⟩ := entry_some q
      obtain ⟨e2, _⟩ := held' b _ (un.frzs b _ _ q)
      rw [obj] at e
      cases e
      exact e2
/-- the goal that the head leaves, from the law's promise by data -/
theorem walk_G {l : PySem.W.OpenLaw} {n k : Nat} {q : Program} {loose : List Str} {XP : (Str → Option Value) → Heap → Prop} {YP : World → Heap → Prop} {d : DefRec} {K : Params → PySem.W.Frag} {x : Str} {Φ : List C → Sto → Option (C × Sto)}
    (hn : l.most = some n) (hn2 : n ≤ sizeLine) (hdf : d.params.defaults = []) (room : Room k callerA) (hY : ∀ (w : World) (h : Heap), YP w h → (K w.params).In h)
    (G : ∀ (w : World) (mg : Str → Option Value) (fa : Addr) (h : Heap), (K w.params).In h → h.Ns mainGlobals mg → mg d.name = some (.ref fa) →
      ∃ fd : FuncData, (∀ (s : Shared) (u : Value), BindsTo s fd ⟨[u], []⟩ [(x, u)]) ∧ ∀ base : Heap, (K w.params).In base → base.Ns mainGlobals mg → FnG l.prog w (K w.params) mg base k fa fd [x] Φ)
    (ok : ∀ ns : List Int, ns.length ≤ n → Φ [.d (.wls (ns.map .int))] [] = some (.d (.bl true), [])) : PySem.W.WalkO q loose XP YP l.row.toRowW d [] (fun f vs => PySem.call f vs) := by
  refine Att.attach_call hn hdf ?_
  intro w s0 t mg mb fa o pm cd doc a vs ns gr Y ho hd hcd hmg obj whole len gens
  have inK := hY w _ Y
  obtain ⟨fd, bind, hG⟩ := G w mg fa _ inK gr.T.g hmg
  exact law_G inK gr.T.g gr.T.b gr.T.builtins gr.T.nolimit gens obj whole (Nat.le_trans len hn2) room hG bind (ok ns len)
end DL
/-! DK: a compare as a test, minus. -/
namespace DL
open PySem PySem.Spec PyProof.Rows L2
section
variable {X : Cx} {pos : Pos}
theorem dt_cmp {op : CmpOp} {g : D → D → Option D} {a b : Expr} {Ga Gb : GE} (ho : OpR X (compareOp op) (rDD X.K g)) (ha : PE X a (tD X.K Ga)) (hb : PE X b (tD X.K Gb)) (hm : behindInMarks op b = false) : PT X (.Compare a [op] [b] pos) (tDT X.K (tB (eOp g Ga Gb))) :=
  pt_imp (pt_cmpR ho ha hb hm) fun σ H Q ⟨F, A, ρ, st, b, st', S, L, g, k⟩ => by
  obtain ⟨⟨c, st1⟩, h1, g⟩ := bind_some g
  dsimp only at g
  split at g
  · rename_i c' b'
    cases g
    refine bin_imp (K := X.K) (fun v u H Q h => h) σ H _ ⟨F, A, ρ, st, _, _, S, L, h1, fun v F1 H1 g1 S1 r1 => ?_⟩
    cases r1
    exact ⟨_, rfl, k F1 H1 g1 S1⟩
  · cases g
def eNeg (a : GE) : GE := fun ρ st => (a ρ st).bind fun p => match p.1 with
  | .d (.int i) => some (.d (.int (-i)), p.2)
  | _ => none
theorem de_neg {a : Expr} {ga : GE} (ha : PE X a (tD X.K ga)) : PE X (.UnaryOp .USub a pos) (tD X.K (eNeg ga)) :=
  pe_imp (pe_un un_neg ha) fun σ H Q ⟨F, A, ρ, st, c, st', S, L, g, k⟩ => by
  obtain ⟨⟨c1, st1⟩, h1, g⟩ := bind_some g
  dsimp only at g
  split at g
  · cases g
    refine ⟨F, A, ρ, st, _, _, S, L, h1, fun v F1 H1 g1 S1 r1 => ?_⟩
    cases r1
    exact ⟨_, rfl, k _ F1 H1 g1 S1 .int⟩
  · cases g
end
end DL
/-! DM: sum, min, max, all, list(); new lists by list(), by a repeated display. -/
namespace DL
open PySem PySem.Spec PyProof.Rows L2
section
variable {X : Cx} {pos : Pos}
def intsOf : List D → Option (List Int)
  | [] => some []
  | .int i :: ds => (intsOf ds).map (i :: ·)
  | _ :: _ => none
theorem intsOf_eq : ∀ {ds : List D} {ns : List Int}, intsOf ds = some ns → ds = ns.map .int
  | [], ns, h => by cases h; rfl
  | .int i :: ds, ns, h => by
    simp only [intsOf, Option.map_eq_some_iff] at h
    obtain ⟨ms, h1, rfl⟩ := h
    rw [intsOf_eq h1]
    rfl
  | .non :: _, _, h => by cases h
  | .bl _ :: _, _, h => by cases h
  | .str _ :: _, _, h => by cases h
  | .tup _ :: _, _, h => by cases h
  | .lst _ :: _, _, h => by cases h
  | .wls _ :: _, _, h => by cases h
  | .dct _ :: _, _, h => by cases h
theorem intsOf_map : ∀ ns : List Int, intsOf (ns.map .int) = some ns
  | [] => rfl
  | n :: ns => by
    show (intsOf (ns.map .int)).map (n :: ·) = _
    rw [intsOf_map ns]
    rfl
theorem reps_ints_inv {K : PySem.W.Frag} {F : Hp} : ∀ {ns : List Int} {vs : List V}, Reps K F (ns.map .int) vs → vs = ns.map V.int
  | [], _, .nil => rfl
  | n :: ns, _, .cons .int r => by rw [reps_ints_inv (ns := ns) r]; rfl
def sumD : List D → Option D
  | [.lst ds] => (intsOf ds).map fun ns => .int ns.sum
  | _ => none
theorem call_sumD (hc : X.calm = true) : CallR X (.builtin "sum") (rCD X.K sumD) := callr_by fun vs H Q ⟨F, A, st, xs, z, S, rs, hz, k⟩ => by
  cases rs with
  | nil => cases hz
  | cons r rs =>
    cases rs with
    | cons _ _ => cases r <;> cases hz
    | nil =>
      cases r <;> simp only [sumD, reduceCtorEq] at hz
      simp only [Option.map_eq_some_iff] at hz
      obtain ⟨ns, h1, rfl⟩ := hz
      rename_i hs hr _
      have e := intsOf_eq h1
      subst e
      have e2 := reps_ints_inv hr
      subst e2
      exact ⟨_, cr_sum hc, _, ns, rfl, SqL.of hs, k _ F H .refl S .int⟩
def minL : List Int → Option Int
  | [] => none
  | n :: ns => some (ns.foldl min n)
def maxL : List Int → Option Int
  | [] => none
  | n :: ns => some (ns.foldl max n)
theorem foldl_min_le : ∀ (ns : List Int) (n : Int), ns.foldl min n ≤ n ∧ ∀ x ∈ ns, ns.foldl min n ≤ x
  | [], n => ⟨Int.le_refl _, fun x h => by cases h⟩
  | m :: ns, n => by
    obtain ⟨h1, h2⟩ := foldl_min_le ns (min n m)
    rw [List.foldl_cons]
    refine ⟨by omega, fun x hx => ?_⟩
    rcases List.mem_cons.mp hx with rfl | hx
    · omega
    · exact h2 x hx
theorem foldl_min_mem : ∀ (ns : List Int) (n : Int), ns.foldl min n = n ∨ ns.foldl min n ∈ ns
  | [], n => .inl rfl
  | m :: ns, n => by
    rw [List.foldl_cons]
    rcases foldl_min_mem ns (min n m) with h | h
    · rw [h]
      by_cases c : n ≤ m
      · exact .inl (by omega)
      · exact .inr (List.mem_cons.mpr (.inl (by omega)))
    · exact .inr (List.mem_cons_of_mem _ h)
theorem foldl_max_le : ∀ (ns : List Int) (n : Int), n ≤ ns.foldl max n ∧ ∀ x ∈ ns, x ≤ ns.foldl max n
  | [], n => ⟨Int.le_refl _, fun x h => by cases h⟩
  | m :: ns, n => by
    obtain ⟨h1, h2⟩ := foldl_max_le ns (max n m)
    rw [List.foldl_cons]
    refine ⟨by omega, fun x hx => ?_⟩
    rcases List.mem_cons.mp hx with rfl | hx
    · omega
    · exact h2 x hx
theorem foldl_max_mem : ∀ (ns : List Int) (n : Int), ns.foldl max n = n ∨ ns.foldl max n ∈ ns
  | [], n => .inl rfl
  | m :: ns, n => by
    rw [List.foldl_cons]
    rcases foldl_max_mem ns (max n m) with h | h
    · rw [h]
      by_cases c : m ≤ n
      · exact .inl (by omega)
      · exact .inr (List.mem_cons.mpr (.inl (by omega)))
    · exact .inr (List.mem_cons_of_mem _ h)
def minD : List D → Option D
  | [.int i, .int j] => some (.int (min i j))
  | [.lst ds] => (intsOf ds).bind fun ns => (minL ns).map .int
  | _ => none
def maxD : List D → Option D
  | [.int i, .int j] => some (.int (max i j))
  | [.lst ds] => (intsOf ds).bind fun ns => (maxL ns).map .int
  | _ => none
theorem call_minD (hc : X.calm = true) : CallR X (.builtin "min") (rCD X.K minD) := callr_by fun vs H Q ⟨F, A, st, xs, z, S, rs, hz, k⟩ => by
  cases rs with
  | nil => cases hz
  | cons r rs =>
    cases rs with
    | cons r2 rs =>
      cases rs with
      | cons _ _ => cases r <;> cases r2 <;> cases hz
      | nil =>
        cases r <;> cases r2 <;> simp only [minD, reduceCtorEq] at hz
        rename_i i j _
        cases hz
        refine ⟨_, call_min2 hc, i, j, rfl, ?_⟩
        have e : (if j < i then j else i) = min i j := by
          by_cases c : j < i
          · rw [if_pos c]; omega
          · rw [if_neg c]; omega
        rw [e]
        exact k _ F H .refl S .int
    | nil =>
      cases r <;> simp only [minD, reduceCtorEq] at hz
      rename_i hs hr _
      obtain ⟨ns, h1, hz⟩ := bind_some hz
      simp only [Option.map_eq_some_iff] at hz
      obtain ⟨m, h2, rfl⟩ := hz
      have e := intsOf_eq h1
      subst e
      have e2 := reps_ints_inv hr
      subst e2
      cases ns with
      | nil => cases h2
      | cons n ns =>
        cases h2
        refine ⟨_, cr_min hc, _, n :: ns, rfl, SqL.of hs, Nat.succ_pos _, fun m hm hle => ?_⟩
        obtain ⟨a1, a2⟩ := foldl_min_le ns n
        have e : m = ns.foldl min n := by
          have b1 : m ≤ ns.foldl min n := by
            rcases foldl_min_mem ns n with h | h
            · rw [h]; exact hle n List.mem_cons_self
            · exact hle _ (List.mem_cons_of_mem _ h)
          rcases List.mem_cons.mp hm with h | h
          · omega
          · have := a2 m h; omega
        rw [e]
        exact k _ F H .refl S .int
theorem call_maxD (hc : X.calm = true) : CallR X (.builtin "max") (rCD X.K maxD) := callr_by fun vs H Q ⟨F, A, st, xs, z, S, rs, hz, k⟩ => by
  cases rs with
  | nil => cases hz
  | cons r rs =>
    cases rs with
    | cons r2 rs =>
      cases rs with
      | cons _ _ => cases r <;> cases r2 <;> cases hz
      | nil =>
        cases r <;> cases r2 <;> simp only [maxD, reduceCtorEq] at hz
        rename_i i j _
        cases hz
        refine ⟨_, call_max2 hc, i, j, rfl, ?_⟩
        have e : (if j > i then j else i) = max i j := by
          by_cases c : j > i
          · rw [if_pos c]; omega
          · rw [if_neg c]; omega
        rw [e]
        exact k _ F H .refl S .int
    | nil =>
      cases r <;> simp only [maxD, reduceCtorEq] at hz
      rename_i hs hr _
      obtain ⟨ns, h1, hz⟩ := bind_some hz
      simp only [Option.map_eq_some_iff] at hz
      obtain ⟨m, h2, rfl⟩ := hz
      have e := intsOf_eq h1
      subst e
      have e2 := reps_ints_inv hr
      subst e2
      cases ns with
      | nil => cases h2
      | cons n ns =>
        cases h2
        refine ⟨_, cr_max hc, _, n :: ns, rfl, SqL.of hs, Nat.succ_pos _, fun m hm hle => ?_⟩
        obtain ⟨a1, a2⟩ := foldl_max_le ns n
        have e : m = ns.foldl max n := by
          have b1 : ns.foldl max n ≤ m := by
            rcases foldl_max_mem ns n with h | h
            · rw [h]; exact hle n List.mem_cons_self
            · exact hle _ (List.mem_cons_of_mem _ h)
          rcases List.mem_cons.mp hm with h | h
          · omega
          · have := a2 m h; omega
        rw [e]
        exact k _ F H .refl S .int
def blsOf : List D → Option (List Bool)
  | [] => some []
  | .bl i :: ds => (blsOf ds).map (i :: ·)
  | _ :: _ => none
theorem blsOf_eq : ∀ {ds : List D} {ns : List Bool}, blsOf ds = some ns → ds = ns.map .bl
  | [], ns, h => by cases h; rfl
  | .bl i :: ds, ns, h => by
    simp only [blsOf, Option.map_eq_some_iff] at h
    obtain ⟨ms, h1, rfl⟩ := h
    rw [blsOf_eq h1]
    rfl
  | .non :: _, _, h => by cases h
  | .int _ :: _, _, h => by cases h
  | .str _ :: _, _, h => by cases h
  | .tup _ :: _, _, h => by cases h
  | .lst _ :: _, _, h => by cases h
  | .wls _ :: _, _, h => by cases h
  | .dct _ :: _, _, h => by cases h
theorem blsOf_map : ∀ ns : List Bool, blsOf (ns.map .bl) = some ns
  | [] => rfl
  | n :: ns => by
    show (blsOf (ns.map .bl)).map (n :: ·) = _
    rw [blsOf_map ns]
    rfl
theorem reps_bls_inv {K : PySem.W.Frag} {F : Hp} : ∀ {ns : List Bool} {vs : List V}, Reps K F (ns.map .bl) vs → vs = ns.map V.bl
  | [], _, .nil => rfl
  | n :: ns, _, .cons .bl r => by rw [reps_bls_inv (ns := ns) r]; rfl
def allB : List D → Option D
  | [.lst ds] => (blsOf ds).map fun ns => .bl (ns.all id)
  | _ => none
theorem call_allB (hc : X.calm = true) : CallR X (.builtin "all") (rCD X.K allB) := callr_by fun vs H Q ⟨F, A, st, xs, z, S, rs, hz, k⟩ => by
  cases rs with
  | nil => cases hz
  | cons r rs =>
    cases rs with
    | cons _ _ => cases r <;> cases hz
    | nil =>
      cases r <;> simp only [allB, reduceCtorEq] at hz
      simp only [Option.map_eq_some_iff] at hz
      obtain ⟨ns, h1, rfl⟩ := hz
      rename_i hs hr _
      have e := blsOf_eq h1
      subst e
      have e2 := reps_bls_inv hr
      subst e2
      exact ⟨_, cr_all hc, _, ns, rfl, SqL.of hs, k _ F H .refl S .bl⟩
/-! ### list() -/
def listD : List D → Option D
  | [.tup xs] => some (.lst xs)
  | [.lst xs] => some (.lst xs)
  | [.wls xs] => some (.lst xs)
  | _ => none
theorem list_way {vs : List V} {H F : Hp} {A : List Addr} {st : Sto} {xs : List D} {z : D} (S : SS X.K F H A st) (rs : Paired (RepP X.K F H) xs vs) (hz : listD xs = some z) : ∃ p ys ds, vs = [.ref p] ∧ (SqL X.K H p ys ∨ SqT X.K H p ys) ∧ z = .lst ds ∧ Reps X.K F ds ys := by
  cases rs with
  | nil => cases hz
  | cons r rs =>
    cases rs with
    | cons _ _ => cases r <;> cases hz
    | nil =>
      cases r <;> simp only [listD, reduceCtorEq] at hz
      · rename_i hs hr; cases hz
        exact ⟨_, _, _, rfl, .inr (same_sqt S.ex hs), rfl, hr⟩
      · rename_i hs hr; cases hz
        exact ⟨_, _, _, rfl, .inl (SqL.of hs), rfl, hr⟩
      · rename_i hs hr; cases hz
        exact ⟨_, _, _, rfl, .inl (S.ex.seq hs), rfl, hr⟩
theorem call_listD : CallR X (.type "list") (rCD X.K listD) := callr_by fun vs H Q ⟨F, A, st, xs, z, S, rs, hz, k⟩ => by
  obtain ⟨p, ys, ds, rfl, hq, rfl, hr⟩ := list_way S rs hz
  refine ⟨_, call_list_of, p, ys, rfl, hq, fun l hl => ?_⟩
  have g := Grow.new1 (A := A) (o := .lst ys) (S.ex.free hl) hl
  exact k _ _ _ g (S.new hl) (.lst upd_same (hr.mono g.ex))
/-- what hands a new list that nothing else knows -/
theorem new_of {F F1 H H1 : Hp} {A : List Addr} {st : Sto} {Q : VK} {ds : List D} {ys : List V} (g : Grow A F H F1 H1) (S : SS X.K F1 H1 A st) (hr : Reps X.K F1 ds ys)
    (k : ∀ a vs F' H', Grow A F H F' H' → SS X.K F' H' A st → F' a = none → H a = none → H' a = some (.lst vs) → a ∉ A → Reps X.K F' ds vs → Q (.ref a) H') (p : Addr) (hp : H1 p = none) : Q (.ref p) (upd H1 p (.lst ys)) := by
  have hF1 : F1 p = none := S.ex.free hp
  have hH : H p = none := by
    cases q : H p with
    | none => rfl
    | some o => exact absurd hp (g.dom p (by rw [q]; exact fun z => nomatch z))
  exact k p ys F1 _ (g.other hH) (S.other hF1 (S.fresh hp)) hF1 hH upd_same (S.fresh hp) hr
/-- x = list(e), a list that will change -/
theorem dn_list {p : Pos} {e : Expr} {ga : GA} (hg : Gl X "list") (hm : X.mg "list" = none) (ha : PA X [e] (tDA X.K ga))
    (he : starEach [e] X.env = (false, eval e X.env) :: starEach [] X.env := by rfl) : PE X (.Call (.Name "list" p) [e] [] pos) (tDN X.K (eCB listD ga)) :=
  pe_imp (pe_callTy call_list_of hg hm (by decide +kernel) ha (by decide) (by decide) he (by rfl)) fun σ H Q ⟨F, A, ρ, st, ds, st', S, L, h, k⟩ => by
    obtain ⟨⟨cs, st1⟩, h1, h⟩ := bind_some h
    obtain ⟨xs, h2, h⟩ := bind_some h
    obtain ⟨z, h3, h⟩ := bind_some h
    cases h
    refine ⟨F, A, ρ, st, cs, _, S, L, h1, fun vs F1 H1 g1 S1 r1 => ?_⟩
    obtain ⟨p, ys, ds', rfl, hq, e', hr⟩ := list_way S1 (derefs_reps S1 r1 h2) h3
    cases e'
    exact ⟨p, ys, rfl, hq, fun l hl => new_of (X := X) g1 S1 hr k l hl⟩
/-- x = [e] * n, a list that will change -/
theorem dn_rep {a b : Expr} {Ga Gb : GE} (ha : PE X a (tD X.K Ga)) (hb : PE X b (tD X.K Gb)) : PE X (.BinOp a .Mult b pos) (tDN X.K (eOp mulD Ga Gb)) :=
  pe_imp (pe_op op_rep ha hb) fun σ H Q ⟨F, A, ρ, st, ds, st', S, L, h, k⟩ => by
    obtain ⟨⟨c1, st1⟩, h1, h⟩ := bind_some h
    obtain ⟨⟨c2, st2⟩, h2, h⟩ := bind_some h
    obtain ⟨x, h3, h⟩ := bind_some h
    obtain ⟨y, h4, h⟩ := bind_some h
    obtain ⟨z, h5, h⟩ := bind_some h
    cases h
    refine ⟨F, A, ρ, st, c1, st1, S, L, h1, fun v F1 H1 g1 S1 r1 => ⟨F1, A, ρ, st1, c2, _, S1, L.mono g1.ex, h2, fun u F2 H2 g2 S2 r2 => ?_⟩⟩
    have rx := S2.deref (r1.mono g2.ex) h3
    have ry := S2.deref r2 h4
    clear h
    cases rx <;> cases ry <;> simp only [mulD, reduceCtorEq] at h5
    · split at h5
      · cases h5
      · cases h5
    · split at h5
      · rename_i _ vs1 q1 q2 _ hl
        cases h5
        rw [q2.len] at hl
        obtain ⟨b1, b2, b3⟩ := rep_bits hl
        exact ⟨_, _, _, rfl, rfl, q1, b1, b2, b3, fun p hp => new_of (X := X) (g1.trans g2) S2 (q2.rep _) k p hp⟩
      · cases h5
end
end DL
/-! CM1: what the defs do, by data (made by gen2.py). -/
namespace Lw
open PySem PySem.Spec PyProof.Rows L2 DL
def G_lw_draw : GS :=
  (sSeq (sSet 2 (eOp ixD (eV 0) (eK (.int 1))))
    (sSeq (sPut (eV 0) (eK (.int 1)) (eOp addD (eV 2) (eK (.int 1))))
    (sSeq (sIf (DL.tB (eOp ltD (eV 2) (eCB lenD (aC (eOp ixD (eV 0) (eK (.int 0))) aN)))) (sRt (eOp modD (eCB intD (aC (eOp ixD (eOp ixD (eV 0) (eK (.int 0))) (eV 2)) aN)) (eV 1))) sNx)
    (sRt (eOp modD (eCB intD (aC (eOp addD (eOp mulD (eV 2) (eK (.int 7))) (eK (.int 3))) aN)) (eV 1))))))
def phi_lw_draw : List C → Sto → Option (C × Sto) := fnD 3 2 G_lw_draw

def G_lw_amount : GS :=
  (sRt (eOp ixD (eLst (aC (eK (.int 0)) (aC (eK (.int 1)) (aC (eK (.int 2)) (aC (eK (.int 3)) (aC (eK (.int 5)) (aC (eK (.int 9)) (aC (eK (.int 99)) (aC (eCall phi_lw_draw (aC (eV 0) (aC (eK (.int 20)) aN))) aN))))))))) (eCall phi_lw_draw (aC (eV 0) (aC (eK (.int 8)) aN)))))
def phi_lw_amount : List C → Sto → Option (C × Sto) := fnD 1 1 G_lw_amount

def lw_basin_f1 : GS :=
  (sSeq (sSet 6 (eK .non))
    (sSeq (sSet 7 (eK (.int 0)))
    (sSeq (sSet 8 (eK .non))
    (sSeq (sIf (DL.tB (eOp ltD (eOp addD (eV 5) (eK (.int 1))) (eV 2))) (sSeq (sSet 6 (eOp ixD (eV 3) (eOp addD (eOp addD (eV 5) (eK (.int 1))) (eCall phi_lw_draw (aC (eV 0) (aC (eOp subD (eOp subD (eV 2) (eV 5)) (eK (.int 1))) aN))))))
    (sSeq (sSet 7 (eOp ixD (eLst (aC (eK (.int 0)) (aC (eK (.int 0)) (aC (eK (.int 1)) (aC (eK (.int 2)) aN))))) (eCall phi_lw_draw (aC (eV 0) (aC (eK (.int 4)) aN)))))
    (sSet 8 (eOp ixD (eLst (aC (eK .non) (aC (eK .non) (aC (eCall phi_lw_amount (aC (eV 0) aN)) (aC (eCall phi_lw_draw (aC (eV 0) (aC (eK (.int 6)) aN))) aN))))) (eCall phi_lw_draw (aC (eV 0) (aC (eK (.int 4)) aN))))))) sNx)
    (sSeq (sSet 9 (eOp ixD (eLst (aC (eK (.int 0)) (aC (eCall phi_lw_amount (aC (eV 0) aN)) (aC (eCall phi_lw_draw (aC (eV 0) (aC (eK (.int 9)) aN))) aN)))) (eCall phi_lw_draw (aC (eV 0) (aC (eK (.int 3)) aN)))))
    (sSeq (sSet 10 (eOp mulD (eCall phi_lw_draw (aC (eV 0) (aC (eOp addD (eV 9) (eK (.int 1))) aN))) (eCB intD (aC (eOp (eqD false) (eCall phi_lw_draw (aC (eV 0) (aC (eK (.int 3)) aN))) (eK (.int 0))) aN))))
    (sEx (eApp (eV 4) (eTup (aC (eOp ixD (eV 3) (eV 5)) (aC (eV 6) (aC (eV 7) (aC (eV 8) (aC (eV 9) (aC (eV 10) (aC (eCB tupleD (aC (eLc [11] (.n 11) (iR1 (aC (eV 1) aN)) gYes (eCall phi_lw_amount (aC (eV 0) aN))) aN)) aN))))))))))))))))
def G_lw_basin : GS :=
  (sSeq (sSet 1 (eOp addD (eK (.int 1)) (eCall phi_lw_draw (aC (eV 0) (aC (eK (.int 4)) aN)))))
    (sSeq (sSet 2 (eOp addD (eK (.int 1)) (eCall phi_lw_draw (aC (eV 0) (aC (eK (.int 4)) aN)))))
    (sSeq (sSet 3 (eSl (eLst (aC (eK (.str "up")) (aC (eK (.str "dale")) (aC (eK (.str "weir")) (aC (eK (.str "mouth")) aN))))) (oI (eOp subD (eK (.int 4)) (eV 2))) oN))
    (sSeq (sNew 4 (eLst aN))
    (sSeq (sFor (.n 5) (iR1 (aC (eV 2) aN)) lw_basin_f1)
    (sRt (eTup (aC (eV 1) (aC (eCB tupleD (aC (eV 4) aN)) aN)))))))))
def phi_lw_basin : List C → Sto → Option (C × Sto) := fnD 12 1 G_lw_basin

def G_lw_pick : GS :=
  (sRt (eOp ixD (eV 1) (eOp modD (eCB intD (aC (eCall phi_lw_draw (aC (eV 0) (aC (eK (.int 90)) aN))) aN)) (eCB lenD (aC (eV 1) aN)))))
def phi_lw_pick : List C → Sto → Option (C × Sto) := fnD 2 2 G_lw_pick

def lw_rights_f1 : GS :=
  (sEx (eApp (eV 2) (eTup (aC (eV 3) (aC (eOp ixD (eCall phi_lw_pick (aC (eV 0) (aC (eOp ixD (eV 1) (eK (.int 1))) aN))) (eK (.int 0))) (aC (eCB tupleD (aC (eLc [4] (.n 4) (iR1 (aC (eOp ixD (eV 1) (eK (.int 0))) aN)) gYes (eCall phi_lw_amount (aC (eV 0) aN))) aN)) aN))))))
def G_lw_rights : GS :=
  (sSeq (sNew 2 (eLst aN))
    (sSeq (sFor (.n 3) (iV (eSl (eLst (aC (eK (.str "a")) (aC (eK (.str "mill")) (aC (eK (.str "farm")) (aC (eK (.str "town")) aN))))) oN (oI (eCall phi_lw_draw (aC (eV 0) (aC (eK (.int 5)) aN)))))) lw_rights_f1)
    (sRt (eCB tupleD (aC (eV 2) aN)))))
def phi_lw_rights : List C → Sto → Option (C × Sto) := fnD 5 2 G_lw_rights

def lw_text_f1 : GS :=
  (sSeq (sSet 10 (eOp addD (eK (.str "site ")) (eV 3)))
    (sSeq (sIf (DL.tB (eOp (isND true) (eV 4) (eK .non))) (sSeq (sSet 10 (eOp addD (eOp addD (eV 10) (eK (.str " to "))) (eV 4)))
    (sSeq (sIf (DL.tB (eOp gtD (eV 5) (eK (.int 0)))) (sSet 10 (eOp addD (eOp addD (eV 10) (eK (.str " in "))) (eCB strD (aC (eV 5) aN)))) sNx)
    (sIf (DL.tB (eOp (isND true) (eV 6) (eK .non))) (sSet 10 (eOp addD (eOp addD (eV 10) (eK (.str " reach "))) (eCB strD (aC (eV 6) aN)))) sNx))) sNx)
    (sSeq (sIf (DL.tB (eOp gtD (eV 7) (eK (.int 0)))) (sSet 10 (eOp addD (eOp addD (eV 10) (eK (.str " room "))) (eCB strD (aC (eV 7) aN)))) sNx)
    (sSeq (sIf (DL.tB (eOp gtD (eV 8) (eK (.int 0)))) (sSet 10 (eOp addD (eOp addD (eV 10) (eK (.str " held "))) (eCB strD (aC (eV 8) aN)))) sNx)
    (sEx (eApp (eV 2) (eOp addD (eOp addD (eV 10) (eK (.str " flow "))) (eM1 joinD (eK (.str " ")) (eLc [11] (.n 11) (iV (eV 9)) gYes (eCB strD (aC (eV 11) aN)))))))))))
def lw_text_f2 : GS :=
  (sEx (eApp (eV 2) (eOp addD (eOp addD (eOp addD (eOp addD (eOp addD (eK (.str "right ")) (eV 3)) (eK (.str " at "))) (eV 12)) (eK (.str " wants "))) (eM1 joinD (eK (.str " ")) (eLc [11] (.n 11) (iV (eV 13)) gYes (eCB strD (aC (eV 11) aN)))))))
def G_lw_text : GS :=
  (sSeq (sNew 2 (eLst aN))
    (sSeq (sFor (.t [3, 4, 5, 6, 7, 8, 9]) (iV (eOp ixD (eV 0) (eK (.int 1)))) lw_text_f1)
    (sSeq (sFor (.t [3, 12, 13]) (iV (eV 1)) lw_text_f2)
    (sRt (eM1 joinD (eK (.str "\n")) (eV 2))))))
def phi_lw_text : List C → Sto → Option (C × Sto) := fnD 14 2 G_lw_text

def G_claims : GS :=
  (sSeq (sUn (.t [2, 3]) (eV 0))
    (sSeq (sSet 4 (eLc2 [5, 6] [6] (.n 5) (.n 6) (iR1 (aC (eCB lenD (aC (eV 1) aN)) aN)) (iR1 (aC (eV 2) aN)) gYes (eTup (aC (eK (.str "right")) (aC (eV 5) (aC (eV 6) aN))))))
    (sSeq (sSet 7 (eLc [8] (.n 8) (iR1 (aC (eCB lenD (aC (eV 3) aN)) aN)) gYes (eTup (aC (eK (.str "room")) (aC (eV 8) aN)))))
    (sRt (eCB tupleD (aC (eOp addD (eV 4) (eV 7)) aN))))))
def phi_claims : List C → Sto → Option (C × Sto) := fnD 9 2 G_claims

def G_lw_number : GS :=
  (sRt (eIdx (eLc [2] (.n 2) (iV (eOp ixD (eV 0) (eK (.int 1)))) gYes (eOp ixD (eV 2) (eK (.int 0)))) (eV 1)))
def phi_lw_number : List C → Sto → Option (C × Sto) := fnD 3 2 G_lw_number

def lw_claims_f1 : GS :=
  (sEx (eApp (eV 2) (eLst (aC (eTup (aC (eCall phi_lw_number (aC (eV 0) (aC (eV 4) aN))) (aC (eCB intD (aC (eV 6) aN)) aN))) (aC (eOp ixD (eV 5) (eV 6)) aN)))))
def lw_claims_f2 : GS :=
  (sFor (.n 6) (iR1 (aC (eOp ixD (eV 0) (eK (.int 0))) aN)) lw_claims_f1)
def lw_claims_f3 : GS :=
  (sEx (eApp (eV 2) (eLst (aC (eTup (aC (eCB intD (aC (eV 7) aN)) (aC (eOp subD (eOp ixD (eV 0) (eK (.int 0))) (eK (.int 1))) aN))) (aC (eOp ixD (eOp ixD (eOp ixD (eV 0) (eK (.int 1))) (eV 7)) (eK (.int 4))) aN)))))
def G_lw_claims : GS :=
  (sSeq (sNew 2 (eLst aN))
    (sSeq (sFor (.t [3, 4, 5]) (iV (eV 1)) lw_claims_f2)
    (sSeq (sFor (.n 7) (iR1 (aC (eCB lenD (aC (eOp ixD (eV 0) (eK (.int 1))) aN)) aN)) lw_claims_f3)
    (sRt (eV 2)))))
def phi_lw_claims : List C → Sto → Option (C × Sto) := fnD 8 2 G_lw_claims

def G_lw_cell : GS :=
  (sSeq (sIf (DL.tB (eOp ltD (eV 1) (eCB lenD (aC (eV 0) aN)))) (sRt (eOp ixD (eV 0) (eV 1))) sNx)
    (sRt (eK (.int 0))))
def phi_lw_cell : List C → Sto → Option (C × Sto) := fnD 2 2 G_lw_cell

def lw_digits_f1 : GS :=
  (sIf (DL.tB (eOp gtD (eV 5) (eK (.int 0)))) (sSeq (sEx (eApp (eV 3) (eOp modD (eCB intD (aC (eV 5) aN)) (eK (.int 1000)))))
    (sSet 5 (eOp divD (eV 5) (eK (.int 1000))))) sNx)
def lw_digits_f2 : GS :=
  (sSeq (sSet 7 (eOp modD (eCB intD (aC (eOp addD (eOp addD (eOp mulD (eV 7) (eK (.int 16807))) (eOp mulD (eK (.int 7)) (eV 6))) (eK (.int 1))) aN)) (eK (.int 2147483647))))
    (sEx (eApp (eV 3) (eOp modD (eCB intD (aC (eOp divD (eV 7) (eK (.int 997))) aN)) (eK (.int 1000))))))
def lw_digits_f3 : GS :=
  (sSeq (sSet 5 (eCall phi_lw_cell (aC (eV 0) (aC (eV 4) aN))))
    (sSeq (sIf (DL.tB (eOp ltD (eV 5) (eK (.int 0)))) (sSet 5 (eOp subD (eK (.int 1)) (eOp mulD (eK (.int 2)) (eV 5)))) sNx)
    (sIf (DL.tB (eOp geD (eV 5) (eOp powD (eK (.int 10)) (eK (.int 18))))) (sFor (.n 6) (iR1 (aC (eK (.int 60)) aN)) lw_digits_f1) (sSeq (sSet 7 (eOp modD (eCB intD (aC (eOp addD (eOp addD (eOp mulD (eV 5) (eK (.int 48271))) (eOp mulD (eV 4) (eK (.int 69621)))) (eK (.int 11))) aN)) (eK (.int 2147483647))))
    (sFor (.n 6) (iR1 (aC (eK (.int 12)) aN)) lw_digits_f2)))))
def G_lw_digits : GS :=
  (sSeq (sNew 3 (eLst aN))
    (sSeq (sFor (.n 4) (iR2 (aC (eV 1) (aC (eV 2) aN))) lw_digits_f3)
    (sRt (eV 3))))
def phi_lw_digits : List C → Sto → Option (C × Sto) := fnD 8 3 G_lw_digits

def lw_route_f1 : GS :=
  (sSeq (sSet 4 (eOp ixD (eOp ixD (eV 0) (eK (.int 1))) (eCall phi_lw_number (aC (eV 0) (aC (eOp ixD (eOp ixD (eV 2) (eNeg (eK (.int 1)))) (eK (.int 0))) aN)))))
    (sIf (DL.tB (eOp (isND true) (eOp ixD (eV 4) (eK (.int 1))) (eK .non))) (sEx (eApp (eV 2) (eTup (aC (eOp ixD (eV 4) (eK (.int 1))) (aC (eOp addD (eOp ixD (eOp ixD (eV 2) (eNeg (eK (.int 1)))) (eK (.int 1))) (eOp ixD (eV 4) (eK (.int 2)))) aN))))) sNx))
def G_lw_route : GS :=
  (sSeq (sNew 2 (eLst (aC (eTup (aC (eV 1) (aC (eK (.int 0)) aN))) aN)))
    (sSeq (sFor (.n 3) (iR1 (aC (eK (.int 4)) aN)) lw_route_f1)
    (sRt (eCB tupleD (aC (eV 2) aN)))))
def phi_lw_route : List C → Sto → Option (C × Sto) := fnD 5 2 G_lw_route

def G_site_line : GS :=
  (sSeq (sUn (.t [1, 2, 3, 4, 5, 6, 7]) (eV 0))
    (sSeq (sNew 8 (eLst (aC (eK (.str "site")) (aC (eV 1) aN))))
    (sSeq (sIf (DL.tB (eOp (isND true) (eV 2) (eK .non))) (sSeq (sEx (eExt (eV 8) (eLst (aC (eK (.str "to")) (aC (eV 2) aN)))))
    (sSeq (sIf (DL.tB (eOp gtD (eV 3) (eK (.int 0)))) (sEx (eExt (eV 8) (eLst (aC (eK (.str "in")) (aC (eCB strD (aC (eV 3) aN)) aN))))) sNx)
    (sIf (DL.tB (eOp (isND true) (eV 4) (eK .non))) (sEx (eExt (eV 8) (eLst (aC (eK (.str "reach")) (aC (eCB strD (aC (eV 4) aN)) aN))))) sNx))) sNx)
    (sSeq (sIf (DL.tB (eOp gtD (eV 5) (eK (.int 0)))) (sEx (eExt (eV 8) (eLst (aC (eK (.str "room")) (aC (eCB strD (aC (eV 5) aN)) aN))))) sNx)
    (sSeq (sIf (DL.tB (eOp gtD (eV 6) (eK (.int 0)))) (sEx (eExt (eV 8) (eLst (aC (eK (.str "held")) (aC (eCB strD (aC (eV 6) aN)) aN))))) sNx)
    (sSeq (sEx (eApp (eV 8) (eK (.str "flow"))))
    (sSeq (sEx (eExt (eV 8) (eLc [9] (.n 9) (iV (eV 7)) gYes (eCB strD (aC (eV 9) aN)))))
    (sRt (eM1 joinD (eK (.str " ")) (eV 8))))))))))
def phi_site_line : List C → Sto → Option (C × Sto) := fnD 10 1 G_site_line

def G_right_line : GS :=
  (sSeq (sUn (.t [1, 2, 3]) (eV 0))
    (sSeq (sNew 4 (eLst (aC (eK (.str "right")) (aC (eV 1) (aC (eK (.str "at")) (aC (eV 2) (aC (eK (.str "wants")) aN)))))))
    (sSeq (sEx (eExt (eV 4) (eLc [5] (.n 5) (iV (eV 3)) gYes (eCB strD (aC (eV 5) aN)))))
    (sRt (eM1 joinD (eK (.str " ")) (eV 4))))))
def phi_right_line : List C → Sto → Option (C × Sto) := fnD 6 1 G_right_line

def G_basin_text : GS :=
  (sSeq (sNew 2 (eLc [3] (.n 3) (iV (eOp ixD (eV 0) (eK (.int 1)))) gYes (eCall phi_site_line (aC (eV 3) aN))))
    (sSeq (sEx (eExt (eV 2) (eLc [4] (.n 4) (iV (eV 1)) gYes (eCall phi_right_line (aC (eV 4) aN)))))
    (sRt (eM1 joinD (eK (.str "\n")) (eV 2)))))
def phi_basin_text : List C → Sto → Option (C × Sto) := fnD 5 2 G_basin_text

def G_lw_same : GS :=
  (sRt (eOp (eqD false) (eCB reprD (aC (eV 0) aN)) (eCB reprD (aC (eV 1) aN))))
def phi_lw_same : List C → Sto → Option (C × Sto) := fnD 2 2 G_lw_same

def site_number_f1 : GS :=
  (sIf (DL.tB (eOp (eqD false) (eOp ixD (eV 3) (eK (.int 0))) (eV 1))) (sRt (eV 2)) sNx)
def G_site_number : GS :=
  (sSeq (sFor (.t [2, 3]) (iEn (aC (eOp ixD (eV 0) (eK (.int 1))) aN)) site_number_f1)
    (sRt (eK .non)))
def phi_site_number : List C → Sto → Option (C × Sto) := fnD 4 2 G_site_number

def G_number : GS :=
  (sSeq (sIf (gOr (gNot (gAnd (DL.tB (eM0 (sbD Txt.isascii) (eV 0))) (DL.tB (eM0 (sbD Txt.isdigit) (eV 0))))) (gAnd (DL.tB (eOp (eqD false) (eOp ixD (eV 0) (eK (.int 0))) (eK (.str "0")))) (DL.tB (eOp (eqD true) (eV 0) (eK (.str "0")))))) (sRt (eK .non)) sNx)
    (sSeq (sIf (DL.tB (eOp gtD (eCB lenD (aC (eV 0) aN)) (eK (.int 9)))) (sRt (eK (.int 1000000000))) sNx)
    (sRt (eCB intD (aC (eV 0) aN)))))
def phi_number : List C → Sto → Option (C × Sto) := fnD 1 1 G_number

def G_number_within : GS :=
  (sSeq (sSet 3 (eCall phi_number (aC (eV 0) aN)))
    (sSeq (sIf (gOr (DL.tB (eOp (isND false) (eV 3) (eK .non))) (gOr (DL.tB (eOp ltD (eV 3) (eV 1))) (DL.tB (eOp gtD (eV 3) (eV 2))))) (sRt (eK .non)) sNx)
    (sRt (eV 3))))
def phi_number_within : List C → Sto → Option (C × Sto) := fnD 4 3 G_number_within

def G_is_name : GS :=
  (sRt (eAnd (eM0 (sbD Txt.isascii) (eV 0)) (eAnd (eM0 (sbD Txt.isalpha) (eV 0)) (eAnd (eM0 (sbD Txt.islower) (eV 0)) (eOp leD (eCB lenD (aC (eV 0) aN)) (eK (.int 6)))))))
def phi_is_name : List C → Sto → Option (C × Sto) := fnD 1 1 G_is_name

def G_read_piece : GS :=
  (sSeq (sIf (DL.tB (eOp (eqD false) (eV 0) (eK (.str "to")))) (sRt (eIf (DL.tB (eCall phi_is_name (aC (eV 1) aN))) (eV 1) (eK .non))) sNx)
    (sSeq (sIf (DL.tB (eOp (eqD false) (eV 0) (eK (.str "in")))) (sRt (eCall phi_number_within (aC (eV 1) (aC (eK (.int 1)) (aC (eK (.int 2)) aN))))) sNx)
    (sSeq (sIf (DL.tB (eOp (eqD false) (eV 0) (eK (.str "reach")))) (sRt (eCall phi_number_within (aC (eV 1) (aC (eK (.int 0)) (aC (eK (.int 99)) aN))))) sNx)
    (sSeq (sIf (DL.tB (eOp (eqD false) (eV 0) (eK (.str "room")))) (sRt (eCall phi_number_within (aC (eV 1) (aC (eK (.int 1)) (aC (eK (.int 99)) aN))))) sNx)
    (sRt (eCall phi_number_within (aC (eV 1) (aC (eK (.int 1)) (aC (eK (.int 1000000000)) aN)))))))))
def phi_read_piece : List C → Sto → Option (C × Sto) := fnD 2 2 G_read_piece

def read_told_f1 : GS :=
  (sSeq (sPutD (eV 3) (eV 2) (eCall phi_read_piece (aC (eV 2) (aC (eV 4) aN))))
    (sIf (DL.tB (eOp (isND false) (eGetD (eV 3) (eV 2)) (eK .non))) (sRt (eK .non)) sNx))
def G_read_told : GS :=
  (sSeq (sIf (DL.tB (eOp (eqD true) (eV 0) (eLc [2] (.n 2) (iV (eK (.tup ((["to", "in", "reach", "room", "held"] : List PySem.Str).map .str)))) (DL.tB (eOp (inD false) (eV 2) (eV 0))) (eV 2)))) (sRt (eK .non)) sNx)
    (sSeq (sIf (gAnd (DL.tB (eOp (inD true) (eK (.str "to")) (eV 0))) (gOr (DL.tB (eOp (inD false) (eK (.str "in")) (eV 0))) (DL.tB (eOp (inD false) (eK (.str "reach")) (eV 0))))) (sRt (eK .non)) sNx)
    (sSeq (sNewD 3)
    (sSeq (sFor (.t [2, 4]) (iZp (aC (eV 0) (aC (eV 1) aN))) read_told_f1)
    (sRt (eV 3))))))
def phi_read_told : List C → Sto → Option (C × Sto) := fnD 5 2 G_read_told

def G_read_amounts : GS :=
  (sSeq (sSet 2 (eLc [3] (.n 3) (iV (eM1 splitD (eV 0) (eK (.str " ")))) gYes (eCall phi_number_within (aC (eV 3) (aC (eK (.int 0)) (aC (eK (.int 99)) aN))))))
    (sSeq (sIf (gOr (DL.tB (eOp (inD false) (eK .non) (eV 2))) (DL.tB (eOp gtD (eCB lenD (aC (eV 2) aN)) (eK (.int 4))))) (sRt (eK .non)) sNx)
    (sSeq (sIf (gAnd (DL.tB (eOp (isND true) (eV 1) (eK .non))) (DL.tB (eOp (eqD true) (eCB lenD (aC (eV 2) aN)) (eV 1)))) (sRt (eK .non)) sNx)
    (sRt (eCB tupleD (aC (eV 2) aN))))))
def phi_read_amounts : List C → Sto → Option (C × Sto) := fnD 4 2 G_read_amounts

def G_read_site : GS :=
  (sSeq (sUn (.t [2, 3, 4]) (eM1 rpartD (eV 0) (eK (.str " flow "))))
    (sSeq (sSet 5 (eM1 splitD (eV 2) (eK (.str " "))))
    (sSeq (sIf (gOr (DL.tB (eOp (eqD true) (eOp ixD (eV 5) (eK (.int 0))) (eK (.str "site")))) (gOr (DL.tB (eOp (eqD false) (eOp modD (eCB lenD (aC (eV 5) aN)) (eK (.int 2))) (eK (.int 1)))) (gNot (DL.tB (eCall phi_is_name (aC (eOp ixD (eV 5) (eK (.int 1))) aN)))))) (sRt (eK .non)) sNx)
    (sSeq (sSet 6 (eCall phi_read_told (aC (eSl3 (eV 5) (oI (eK (.int 2))) oN (oI (eK (.int 2)))) (aC (eSl3 (eV 5) (oI (eK (.int 3))) oN (oI (eK (.int 2)))) aN))))
    (sSeq (sSet 7 (eCall phi_read_amounts (aC (eV 4) (aC (eV 1) aN))))
    (sSeq (sIf (gOr (DL.tB (eOp (isND false) (eV 6) (eK .non))) (DL.tB (eOp (isND false) (eV 7) (eK .non)))) (sRt (eK .non)) sNx)
    (sRt (eTup (aC (eOp ixD (eV 5) (eK (.int 1))) (aC (eGet1 (eV 6) (eK (.str "to"))) (aC (eGet2 (eV 6) (eK (.str "in")) (eK (.int 0))) (aC (eGet1 (eV 6) (eK (.str "reach"))) (aC (eGet2 (eV 6) (eK (.str "room")) (eK (.int 0))) (aC (eGet2 (eV 6) (eK (.str "held")) (eK (.int 0))) (aC (eV 7) aN)))))))))))))))
def phi_read_site : List C → Sto → Option (C × Sto) := fnD 8 2 G_read_site

def G_right_fault : GS :=
  (sSeq (sIf (DL.tB (eOp (inD true) (eOp ixD (eV 2) (eK (.int 1))) (eLc [3] (.n 3) (iV (eV 0)) gYes (eOp ixD (eV 3) (eK (.int 0)))))) (sRt (eK (.str "no such site"))) sNx)
    (sSeq (sIf (DL.tB (eOp (eqD false) (eCB lenD (aC (eV 1) aN)) (eK (.int 4)))) (sRt (eK (.str "too many rights"))) sNx)
    (sSeq (sIf (DL.tB (eOp (inD false) (eOp ixD (eV 2) (eK (.int 0))) (eLc [4] (.n 4) (iV (eV 1)) gYes (eOp ixD (eV 4) (eK (.int 0)))))) (sRt (eK (.str "name twice"))) sNx)
    (sRt (eK .non)))))
def phi_right_fault : List C → Sto → Option (C × Sto) := fnD 5 3 G_right_fault

def G_site_fault : GS :=
  (sSeq (sIf (tTr (eV 1)) (sRt (eK (.str "site behind a right"))) sNx)
    (sSeq (sIf (DL.tB (eOp (eqD false) (eCB lenD (aC (eV 0) aN)) (eK (.int 4)))) (sRt (eK (.str "too many sites"))) sNx)
    (sSeq (sIf (DL.tB (eOp (inD false) (eOp ixD (eV 2) (eK (.int 0))) (eLc [3] (.n 3) (iV (eV 0)) gYes (eOp ixD (eV 3) (eK (.int 0)))))) (sRt (eK (.str "name twice"))) sNx)
    (sSeq (sIf (DL.tB (eOp gtD (eOp ixD (eV 2) (eK (.int 5))) (eOp ixD (eV 2) (eK (.int 4))))) (sRt (eK (.str "held above room"))) sNx)
    (sRt (eK .non))))))
def phi_site_fault : List C → Sto → Option (C × Sto) := fnD 4 3 G_site_fault

def G_read_right : GS :=
  (sSeq (sUn (.t [2, 3, 4]) (eM1 rpartD (eV 0) (eK (.str " wants "))))
    (sSeq (sSet 5 (eM1 splitD (eV 2) (eK (.str " "))))
    (sSeq (sIf (gOr (DL.tB (eOp (eqD true) (eCB lenD (aC (eV 5) aN)) (eK (.int 4)))) (gOr (DL.tB (eOp (eqD true) (eOp ixD (eV 5) (eK (.int 0))) (eK (.str "right")))) (DL.tB (eOp (eqD true) (eOp ixD (eV 5) (eK (.int 2))) (eK (.str "at")))))) (sRt (eK .non)) sNx)
    (sSeq (sSet 6 (eCall phi_read_amounts (aC (eV 4) (aC (eV 1) aN))))
    (sSeq (sIf (gOr (gNot (DL.tB (eCall phi_is_name (aC (eOp ixD (eV 5) (eK (.int 1))) aN)))) (gOr (gNot (DL.tB (eCall phi_is_name (aC (eOp ixD (eV 5) (eK (.int 3))) aN)))) (DL.tB (eOp (isND false) (eV 6) (eK .non))))) (sRt (eK .non)) sNx)
    (sRt (eTup (aC (eOp ixD (eV 5) (eK (.int 1))) (aC (eOp ixD (eV 5) (eK (.int 3))) (aC (eV 6) aN))))))))))
def phi_read_right : List C → Sto → Option (C × Sto) := fnD 7 2 G_read_right

def G_add_line : GS :=
  (sSeq (sSet 3 (eIf (tTr (eV 0)) (eCB lenD (aC (eOp ixD (eOp ixD (eV 0) (eK (.int 0))) (eK (.int 6))) aN)) (eK .non)))
    (sSeq (sSet 4 (eCall phi_read_site (aC (eV 2) (aC (eV 3) aN))))
    (sSeq (sIf (DL.tB (eOp (isND true) (eV 4) (eK .non))) (sSeq (sSet 5 (eCall phi_site_fault (aC (eV 0) (aC (eV 1) (aC (eV 4) aN)))))
    (sSeq (sEx (eApp (eV 0) (eV 4)))
    (sRt (eV 5)))) sNx)
    (sSeq (sSet 6 (eIf (tTr (eV 0)) (eCall phi_read_right (aC (eV 2) (aC (eV 3) aN))) (eK .non)))
    (sSeq (sIf (DL.tB (eOp (isND false) (eV 6) (eK .non))) (sRt (eK (.str "not a line"))) sNx)
    (sSeq (sSet 5 (eCall phi_right_fault (aC (eV 0) (aC (eV 1) (aC (eV 6) aN)))))
    (sSeq (sEx (eApp (eV 1) (eV 6)))
    (sRt (eV 5)))))))))
def phi_add_line : List C → Sto → Option (C × Sto) := fnD 7 3 G_add_line

def G_next_fault : GS :=
  (sSeq (sIf (DL.tB (eOp (eqD false) (eV 1) (eOp subD (eCB lenD (aC (eV 0) aN)) (eK (.int 1))))) (sRt (eIf (DL.tB (eOp (isND false) (eOp ixD (eOp ixD (eV 0) (eV 1)) (eK (.int 1))) (eK .non))) (eK .non) (eK (.str "outlet leads on")))) sNx)
    (sSeq (sIf (DL.tB (eOp (inD true) (eOp ixD (eOp ixD (eV 0) (eV 1)) (eK (.int 1))) (eLc [2] (.n 2) (iV (eSl (eV 0) (oI (eOp addD (eV 1) (eK (.int 1)))) oN)) gYes (eOp ixD (eV 2) (eK (.int 0)))))) (sRt (eK (.str "next is not later"))) sNx)
    (sRt (eK .non))))
def phi_next_fault : List C → Sto → Option (C × Sto) := fnD 3 2 G_next_fault

def parse_basin_f1 : GS :=
  (sSeq (sSet 5 (eCall phi_add_line (aC (eV 1) (aC (eV 2) (aC (eV 4) aN)))))
    (sIf (DL.tB (eOp (isND true) (eV 5) (eK .non))) sNo sNx))
def parse_basin_f2 : GS :=
  (sSeq (sSet 5 (eCall phi_next_fault (aC (eV 1) (aC (eV 6) aN))))
    (sIf (DL.tB (eOp (isND true) (eV 5) (eK .non))) sNo sNx))
def G_parse_basin : GS :=
  (sSeq (sNew 1 (eLst aN))
    (sSeq (sNew 2 (eLst aN))
    (sSeq (sFor (.t [3, 4]) (iEn (aC (eM1 splitD (eV 0) (eK (.str "\n"))) aN)) parse_basin_f1)
    (sSeq (sFor (.n 6) (iR1 (aC (eCB lenD (aC (eV 1) aN)) aN)) parse_basin_f2)
    (sRt (eTup (aC (eTup (aC (eCB lenD (aC (eOp ixD (eOp ixD (eV 1) (eK (.int 0))) (eK (.int 6))) aN)) (aC (eCB tupleD (aC (eV 1) aN)) aN))) (aC (eCB tupleD (aC (eV 2) aN)) aN))))))))
def phi_parse_basin : List C → Sto → Option (C × Sto) := fnD 7 1 G_parse_basin

def route_w1 : GS :=
  (sSeq (sSet 5 (eOp ixD (eOp ixD (eV 0) (eK (.int 1))) (eV 4)))
    (sSeq (sEx (eApp (eV 2) (eTup (aC (eOp ixD (eV 5) (eK (.int 0))) (aC (eV 3) aN)))))
    (sSeq (sAug 3 (iiD fun i j => .int (i + j)) (eOp ixD (eV 5) (eK (.int 2))))
    (sSet 4 (eCall phi_site_number (aC (eV 0) (aC (eOp ixD (eV 5) (eK (.int 1))) aN)))))))
def G_route : GS :=
  (sSeq (sNew 2 (eLst aN))
    (sSeq (sSet 3 (eK (.int 0)))
    (sSeq (sSet 4 (eCall phi_site_number (aC (eV 0) (aC (eV 1) aN))))
    (sSeq (sWh 12 (DL.tB (eOp (isND true) (eV 4) (eK .non))) route_w1)
    (sRt (eCB tupleD (aC (eV 2) aN)))))))
def phi_route : List C → Sto → Option (C × Sto) := fnD 6 2 G_route

def upstream_f1 : GS :=
  (sIf (DL.tB (eOp (inD false) (eV 1) (eLc [4, 5] (.t [4, 5]) (iV (eCall phi_route (aC (eV 0) (aC (eOp ixD (eV 3) (eK (.int 0))) aN)))) gYes (eV 4)))) (sEx (eApp (eV 2) (eOp ixD (eV 3) (eK (.int 0))))) sNx)
def G_upstream : GS :=
  (sSeq (sNew 2 (eLst aN))
    (sSeq (sFor (.n 3) (iV (eOp ixD (eV 0) (eK (.int 1)))) upstream_f1)
    (sRt (eCB tupleD (aC (eV 2) aN)))))
def phi_upstream : List C → Sto → Option (C × Sto) := fnD 6 2 G_upstream

def G_claim_size : GS :=
  (sSeq (sIf (DL.tB (eOp (eqD false) (eOp ixD (eV 2) (eK (.int 0))) (eK (.str "room")))) (sRt (eOp ixD (eOp ixD (eOp ixD (eV 0) (eK (.int 1))) (eOp ixD (eV 2) (eK (.int 1)))) (eK (.int 4)))) sNx)
    (sRt (eOp ixD (eOp ixD (eOp ixD (eV 1) (eOp ixD (eV 2) (eK (.int 1)))) (eK (.int 2))) (eOp ixD (eV 2) (eK (.int 2))))))
def phi_claim_size : List C → Sto → Option (C × Sto) := fnD 3 3 G_claim_size

def G_claim_cell : GS :=
  (sSeq (sIf (DL.tB (eOp (eqD false) (eOp ixD (eV 2) (eK (.int 0))) (eK (.str "room")))) (sRt (eTup (aC (eOp ixD (eV 2) (eK (.int 1))) (aC (eOp subD (eOp ixD (eV 0) (eK (.int 0))) (eK (.int 1))) aN)))) sNx)
    (sRt (eTup (aC (eCall phi_site_number (aC (eV 0) (aC (eOp ixD (eOp ixD (eV 1) (eOp ixD (eV 2) (eK (.int 1)))) (eK (.int 1))) aN))) (aC (eOp ixD (eV 2) (eK (.int 2))) aN)))))
def phi_claim_cell : List C → Sto → Option (C × Sto) := fnD 3 3 G_claim_cell

def law_f1 : GS :=
  (sSeq (sPutD (eV 5) (eOp ixD (eV 6) (eK (.int 0))) (eCall phi_lw_route (aC (eV 2) (aC (eOp ixD (eV 6) (eK (.int 0))) aN))))
    (sIf (gOr (gNot (DL.tB (eCall phi_lw_same (aC (eCall phi_route (aC (eV 2) (aC (eOp ixD (eV 6) (eK (.int 0))) aN))) (aC (eGetD (eV 5) (eOp ixD (eV 6) (eK (.int 0)))) aN))))) (DL.tB (eOp (eqD true) (eCall phi_site_number (aC (eV 2) (aC (eOp ixD (eV 6) (eK (.int 0))) aN))) (eCall phi_lw_number (aC (eV 2) (aC (eOp ixD (eV 6) (eK (.int 0))) aN)))))) (sRt (eK (.bl false))) sNx))
def law_f2 : GS :=
  (sSeq (sSet 7 (eCB tupleD (aC (eLc [8] (.n 8) (iV (eOp ixD (eV 2) (eK (.int 1)))) (DL.tB (eOp (inD false) (eOp ixD (eV 6) (eK (.int 0))) (eLc [9] (.n 9) (iV (eGetD (eV 5) (eOp ixD (eV 8) (eK (.int 0))))) gYes (eOp ixD (eV 9) (eK (.int 0)))))) (eOp ixD (eV 8) (eK (.int 0)))) aN)))
    (sIf (gNot (DL.tB (eCall phi_lw_same (aC (eCall phi_upstream (aC (eV 2) (aC (eOp ixD (eV 6) (eK (.int 0))) aN))) (aC (eV 7) aN))))) (sRt (eK (.bl false))) sNx))
def law_f3 : GS :=
  (sSet 7 (eOp addD (eV 7) (eLc [12] (.n 12) (iR1 (aC (eOp ixD (eV 2) (eK (.int 0))) aN)) gYes (eTup (aC (eK (.str "right")) (aC (eCB intD (aC (eV 11) aN)) (aC (eCB intD (aC (eV 12) aN)) aN)))))))
def law_f4 : GS :=
  (sIf (gOr (gNot (DL.tB (eCall phi_lw_same (aC (eCall phi_claim_cell (aC (eV 2) (aC (eV 3) (aC (eOp ixD (eV 10) (eV 15)) aN)))) (aC (eOp ixD (eOp ixD (eV 14) (eV 15)) (eK (.int 0))) aN))))) (DL.tB (eOp (eqD true) (eCall phi_claim_size (aC (eV 2) (aC (eV 3) (aC (eOp ixD (eV 10) (eV 15)) aN)))) (eOp ixD (eOp ixD (eV 14) (eV 15)) (eK (.int 1)))))) (sRt (eK (.bl false))) sNx)
def G_law : GS :=
  (sSeq (sNew 1 (eLst (aC (eCall phi_lw_digits (aC (eV 0) (aC (eK (.int 0)) (aC (eK (.int 50)) aN)))) (aC (eK (.int 0)) aN))))
    (sSeq (sSet 2 (eCall phi_lw_basin (aC (eV 1) aN)))
    (sSeq (sSet 3 (eCall phi_lw_rights (aC (eV 1) (aC (eV 2) aN))))
    (sSeq (sSet 4 (eCall phi_lw_text (aC (eV 2) (aC (eV 3) aN))))
    (sSeq (sIf (gOr (DL.tB (eOp (eqD true) (eCall phi_basin_text (aC (eV 2) (aC (eV 3) aN))) (eV 4))) (gNot (DL.tB (eCall phi_lw_same (aC (eCall phi_parse_basin (aC (eV 4) aN)) (aC (eTup (aC (eV 2) (aC (eV 3) aN))) aN)))))) (sRt (eK (.bl false))) sNx)
    (sSeq (sNewD 5)
    (sSeq (sFor (.n 6) (iV (eOp ixD (eV 2) (eK (.int 1)))) law_f1)
    (sSeq (sFor (.n 6) (iV (eOp ixD (eV 2) (eK (.int 1)))) law_f2)
    (sSeq (sSet 10 (eCall phi_claims (aC (eV 2) (aC (eV 3) aN))))
    (sSeq (sSet 7 (eLst aN))
    (sSeq (sFor (.n 11) (iR1 (aC (eCB lenD (aC (eV 3) aN)) aN)) law_f3)
    (sSeq (sSet 7 (eOp addD (eV 7) (eLc [13] (.n 13) (iR1 (aC (eCB lenD (aC (eOp ixD (eV 2) (eK (.int 1))) aN)) aN)) gYes (eTup (aC (eK (.str "room")) (aC (eCB intD (aC (eV 13) aN)) aN))))))
    (sSeq (sIf (gOr (gNot (DL.tB (eCall phi_lw_same (aC (eV 10) (aC (eCB tupleD (aC (eV 7) aN)) aN))))) (DL.tB (eOp (isND true) (eCall phi_site_number (aC (eV 2) (aC (eK (.str "nix")) aN))) (eK .non)))) (sRt (eK (.bl false))) sNx)
    (sSeq (sSet 14 (eCall phi_lw_claims (aC (eV 2) (aC (eV 3) aN))))
    (sSeq (sFor (.n 15) (iR1 (aC (eCB lenD (aC (eV 10) aN)) aN)) law_f4)
    (sRt (eK (.bl true))))))))))))))))))
def phi_law : List C → Sto → Option (C × Sto) := fnD 16 1 G_law

def lw_basin_2_f1 : GS :=
  (sSeq (sSet 5 (eK .non))
    (sSeq (sSet 6 (eK (.int 0)))
    (sSeq (sSet 7 (eK .non))
    (sSeq (sIf (DL.tB (eOp ltD (eV 4) (eOp subD (eV 1) (eK (.int 1))))) (sSeq (sSet 5 (eOp addD (eK (.str "s")) (eOp ixD (eK (.str "abcd")) (eCB intD (aC (eOp addD (eOp addD (eV 4) (eK (.int 1))) (eCall phi_lw_draw (aC (eV 0) (aC (eOp subD (eOp subD (eV 1) (eV 4)) (eK (.int 1))) aN)))) aN)))))
    (sSeq (sSet 6 (eOp ixD (eLst (aC (eK (.int 0)) (aC (eK (.int 0)) (aC (eK (.int 1)) (aC (eK (.int 2)) aN))))) (eCall phi_lw_draw (aC (eV 0) (aC (eK (.int 4)) aN)))))
    (sSet 7 (eOp ixD (eLst (aC (eK .non) (aC (eK .non) (aC (eCall phi_lw_draw (aC (eV 0) (aC (eK (.int 6)) aN))) aN)))) (eCall phi_lw_draw (aC (eV 0) (aC (eK (.int 3)) aN))))))) sNx)
    (sSeq (sSet 8 (eOp ixD (eLst (aC (eK (.int 0)) (aC (eCall phi_lw_draw (aC (eV 0) (aC (eK (.int 5)) aN))) (aC (eCall phi_lw_draw (aC (eV 0) (aC (eK (.int 9)) aN))) aN)))) (eCall phi_lw_draw (aC (eV 0) (aC (eK (.int 3)) aN)))))
    (sSeq (sSet 9 (eOp mulD (eCall phi_lw_draw (aC (eV 0) (aC (eOp addD (eV 8) (eK (.int 1))) aN))) (eCall phi_lw_draw (aC (eV 0) (aC (eK (.int 2)) aN)))))
    (sEx (eApp (eV 3) (eTup (aC (eOp addD (eK (.str "s")) (eOp ixD (eK (.str "abcd")) (eCB intD (aC (eV 4) aN)))) (aC (eV 5) (aC (eV 6) (aC (eV 7) (aC (eV 8) (aC (eV 9) (aC (eCB tupleD (aC (eLc [10] (.n 10) (iR1 (aC (eV 2) aN)) gYes (eCall phi_lw_draw (aC (eV 0) (aC (eK (.int 8)) aN)))) aN)) aN))))))))))))))))
def G_lw_basin_2 : GS :=
  (sSeq (sSet 1 (eOp addD (eK (.int 1)) (eCall phi_lw_draw (aC (eV 0) (aC (eK (.int 3)) aN)))))
    (sSeq (sSet 2 (eOp ixD (eLst (aC (eOp addD (eK (.int 1)) (eCall phi_lw_draw (aC (eV 0) (aC (eK (.int 4)) aN)))) (aC (eOp addD (eK (.int 1)) (eCall phi_lw_draw (aC (eV 0) (aC (eK (.int 3)) aN)))) (aC (eOp addD (eK (.int 1)) (eCall phi_lw_draw (aC (eV 0) (aC (eK (.int 2)) aN)))) aN)))) (eOp subD (eCB intD (aC (eV 1) aN)) (eK (.int 1)))))
    (sSeq (sNew 3 (eLst aN))
    (sSeq (sFor (.n 4) (iR1 (aC (eV 1) aN)) lw_basin_2_f1)
    (sRt (eTup (aC (eV 2) (aC (eCB tupleD (aC (eV 3) aN)) aN))))))))
def phi_lw_basin_2 : List C → Sto → Option (C × Sto) := fnD 11 1 G_lw_basin_2

def G_lw_demands : GS :=
  (sRt (eCB tupleD (aC (eLc [2] (.n 2) (iR1 (aC (eV 1) aN)) gYes (eCall phi_lw_draw (aC (eV 0) (aC (eK (.int 7)) aN)))) aN)))
def phi_lw_demands : List C → Sto → Option (C × Sto) := fnD 3 2 G_lw_demands

def lw_more_rights_f1 : GS :=
  (sEx (eApp (eV 4) (eTup (aC (eOp addD (eK (.str "r")) (eOp ixD (eK (.str "abcd")) (eCB intD (aC (eV 5) aN)))) (aC (eOp ixD (eV 2) (eOp modD (eCB intD (aC (eCall phi_lw_draw (aC (eV 0) (aC (eK (.int 90)) aN))) aN)) (eCB lenD (aC (eV 2) aN)))) (aC (eCall phi_lw_demands (aC (eV 0) (aC (eOp ixD (eV 1) (eK (.int 0))) aN))) aN))))))
def G_lw_more_rights : GS :=
  (sSeq (sSet 2 (eLc [3] (.n 3) (iV (eOp ixD (eV 1) (eK (.int 1)))) gYes (eOp ixD (eV 3) (eK (.int 0)))))
    (sSeq (sNew 4 (eLst aN))
    (sSeq (sFor (.n 5) (iR1 (aC (eOp addD (eK (.int 2)) (eCall phi_lw_draw (aC (eV 0) (aC (eK (.int 3)) aN)))) aN)) lw_more_rights_f1)
    (sRt (eCB tupleD (aC (eV 4) aN))))))
def phi_lw_more_rights : List C → Sto → Option (C × Sto) := fnD 6 2 G_lw_more_rights

def lw_leases_f1 : GS :=
  (sSeq (sSet 6 (eOp ixD (eV 2) (eOp modD (eCB intD (aC (eCall phi_lw_draw (aC (eV 0) (aC (eK (.int 90)) aN))) aN)) (eCB lenD (aC (eV 2) aN)))))
    (sSeq (sSet 7 (eOp ixD (eV 2) (eOp modD (eCB intD (aC (eCall phi_lw_draw (aC (eV 0) (aC (eK (.int 90)) aN))) aN)) (eCB lenD (aC (eV 2) aN)))))
    (sSeq (sSet 8 (eOp modD (eCB intD (aC (eCall phi_lw_draw (aC (eV 0) (aC (eK (.int 90)) aN))) aN)) (eOp ixD (eV 1) (eK (.int 0)))))
    (sSeq (sSet 9 (eOp subD (eOp ixD (eOp ixD (eV 6) (eK (.int 2))) (eV 8)) (eCB sumD (aC (eLc [10] (.n 10) (iV (eV 4)) (gAnd (DL.tB (eOp (eqD false) (eOp ixD (eV 10) (eK (.int 0))) (eOp ixD (eV 6) (eK (.int 0))))) (DL.tB (eOp (eqD false) (eOp ixD (eV 10) (eK (.int 2))) (eV 8)))) (eOp ixD (eV 10) (eK (.int 3)))) aN))))
    (sIf (gAnd (DL.tB (eOp (eqD true) (eOp ixD (eV 6) (eK (.int 0))) (eOp ixD (eV 7) (eK (.int 0))))) (DL.tB (eOp gtD (eV 9) (eK (.int 0))))) (sEx (eApp (eV 4) (eTup (aC (eOp ixD (eV 6) (eK (.int 0))) (aC (eOp ixD (eV 7) (eK (.int 0))) (aC (eV 8) (aC (eOp addD (eK (.int 1)) (eOp modD (eCB intD (aC (eCall phi_lw_draw (aC (eV 0) (aC (eK (.int 90)) aN))) aN)) (eV 9))) aN))))))) sNx)))))
def G_lw_leases : GS :=
  (sSeq (sNew 4 (eLst aN))
    (sSeq (sFor (.n 5) (iR1 (aC (eCall phi_lw_draw (aC (eV 0) (aC (eOp addD (eV 3) (eK (.int 1))) aN))) aN)) lw_leases_f1)
    (sRt (eCB tupleD (aC (eV 4) aN)))))
def phi_lw_leases : List C → Sto → Option (C × Sto) := fnD 11 4 G_lw_leases

def right_called_f1 : GS :=
  (sIf (DL.tB (eOp (eqD false) (eOp ixD (eV 2) (eK (.int 0))) (eV 1))) (sRt (eV 2)) sNx)
def G_right_called : GS :=
  (sSeq (sFor (.n 2) (iV (eV 0)) right_called_f1)
    (sRt (eK .non)))
def phi_right_called : List C → Sto → Option (C × Sto) := fnD 3 2 G_right_called

def G_lent : GS :=
  (sRt (eCB sumD (aC (eLc [3, 4, 5, 6] (.t [3, 4, 5, 6]) (iV (eV 0)) (gAnd (DL.tB (eOp (eqD false) (eV 3) (eV 1))) (DL.tB (eOp (eqD false) (eV 5) (eV 2)))) (eV 6)) aN)))
def phi_lent : List C → Sto → Option (C × Sto) := fnD 7 3 G_lent

def G_lease_fault : GS :=
  (sSeq (sUn (.t [4, 5, 6, 7]) (eV 3))
    (sSeq (sIf (gOr (DL.tB (eOp (isND false) (eCall phi_right_called (aC (eV 1) (aC (eV 4) aN))) (eK .non))) (DL.tB (eOp (isND false) (eCall phi_right_called (aC (eV 1) (aC (eV 5) aN))) (eK .non)))) (sRt (eK (.str "no such right"))) sNx)
    (sSeq (sIf (DL.tB (eOp (eqD false) (eV 4) (eV 5))) (sRt (eK (.str "same right"))) sNx)
    (sSeq (sIf (gOr (DL.tB (eOp ltD (eV 6) (eK (.int 0)))) (DL.tB (eOp geD (eV 6) (eOp ixD (eV 0) (eK (.int 0)))))) (sRt (eK (.str "no such month"))) sNx)
    (sSeq (sIf (gOr (DL.tB (eOp ltD (eV 7) (eK (.int 1)))) (DL.tB (eOp gtD (eV 7) (eK (.int 99))))) (sRt (eK (.str "no such amount"))) sNx)
    (sSeq (sIf (DL.tB (eOp gtD (eOp addD (eCall phi_lent (aC (eV 2) (aC (eV 4) (aC (eV 6) aN)))) (eV 7)) (eOp ixD (eOp ixD (eCall phi_right_called (aC (eV 1) (aC (eV 4) aN))) (eK (.int 2))) (eV 6)))) (sRt (eK (.str "more than it has"))) sNx)
    (sRt (eK .non))))))))
def phi_lease_fault : List C → Sto → Option (C × Sto) := fnD 8 4 G_lease_fault

def refuse_bad_f1 : GS :=
  (sSeq (sSet 5 (eCall phi_lease_fault (aC (eV 0) (aC (eV 1) (aC (eSl (eV 2) oN (oI (eV 3))) (aC (eV 4) aN))))))
    (sIf (DL.tB (eOp (isND true) (eV 5) (eK .non))) sNo sNx))
def G_refuse_bad : GS :=
  (sSeq (sFor (.t [3, 4]) (iEn (aC (eV 2) aN)) refuse_bad_f1)
    (sIf (DL.tB (eOp gtD (eCB lenD (aC (eV 2) aN)) (eK (.int 4)))) sNo sNx))
def phi_refuse_bad : List C → Sto → Option (C × Sto) := fnD 6 3 G_refuse_bad

def holdings_f1 : GS :=
  (sIf (DL.tB (eOp (eqD false) (eV 11) (eV 4))) (sSeq (sSet 14 (eCB tupleD (aC (eLc [8] (.n 8) (iR1 (aC (eOp ixD (eV 0) (eK (.int 0))) aN)) gYes (eIf (DL.tB (eOp (eqD false) (eV 8) (eV 13))) (eV 9) (eK (.int 0)))) aN)))
    (sEx (eApp (eV 3) (eTup (aC (eV 12) (aC (eTup (aC (eOp addD (eK (.str "lease")) (eOp ixD (eK (.str "abcdefghijklmnopqrstuvwxyz")) (eV 10))) (aC (eOp ixD (eCall phi_right_called (aC (eV 1) (aC (eV 12) aN))) (eK (.int 1))) (aC (eV 14) aN)))) aN)))))) sNx)
def holdings_f2 : GS :=
  (sSeq (sSet 7 (eLc [8, 9] (.t [8, 9]) (iEn (aC (eV 6) aN)) gYes (eOp subD (eV 9) (eCall phi_lent (aC (eV 2) (aC (eV 4) (aC (eV 8) aN)))))))
    (sSeq (sEx (eApp (eV 3) (eTup (aC (eV 4) (aC (eTup (aC (eV 4) (aC (eV 5) (aC (eCB tupleD (aC (eV 7) aN)) aN)))) aN)))))
    (sFor (.g [.n 10, .t [11, 12, 13, 9]]) (iEn (aC (eV 2) aN)) holdings_f1)))
def G_holdings : GS :=
  (sSeq (sEx (eCall phi_refuse_bad (aC (eV 0) (aC (eV 1) (aC (eV 2) aN)))))
    (sSeq (sNew 3 (eLst aN))
    (sSeq (sFor (.t [4, 5, 6]) (iV (eV 1)) holdings_f2)
    (sRt (eV 3)))))
def phi_holdings : List C → Sto → Option (C × Sto) := fnD 15 3 G_holdings

def G_under : GS :=
  (sRt (eCB tupleD (aC (eLc [3, 4] (.t [3, 4]) (iV (eCall phi_holdings (aC (eV 0) (aC (eV 1) (aC (eV 2) aN))))) gYes (eV 4)) aN)))
def phi_under : List C → Sto → Option (C × Sto) := fnD 5 3 G_under

def lw_under_f1 : GS :=
  (sSeq (sUn (.t [9, 10, 11, 12]) (eOp ixD (eV 1) (eV 8)))
    (sIf (DL.tB (eOp (eqD false) (eV 9) (eV 3))) (sSeq (sPut (eV 6) (eV 11) (eOp subD (eOp ixD (eV 6) (eV 11)) (eV 12)))
    (sSeq (sNew 13 (eOp mulD (eLst (aC (eK (.int 0)) aN)) (eCB lenD (aC (eV 5) aN))))
    (sSeq (sPut (eV 13) (eV 11) (eV 12))
    (sSeq (sSet 14 (eOp ixD (eLc [15] (.n 15) (iV (eV 0)) (DL.tB (eOp (eqD false) (eOp ixD (eV 15) (eK (.int 0))) (eV 10))) (eOp ixD (eV 15) (eK (.int 1)))) (eK (.int 0))))
    (sEx (eApp (eV 7) (eTup (aC (eOp addD (eK (.str "lease")) (eOp ixD (eK (.str "abcd")) (eCB intD (aC (eV 8) aN)))) (aC (eV 14) (aC (eCB tupleD (aC (eV 13) aN)) aN)))))))))) sNx))
def lw_under_f2 : GS :=
  (sSeq (sNew 6 (eCB listD (aC (eV 5) aN)))
    (sSeq (sNew 7 (eLst aN))
    (sSeq (sFor (.n 8) (iR1 (aC (eCB lenD (aC (eV 1) aN)) aN)) lw_under_f1)
    (sSet 2 (eOp addD (eOp addD (eV 2) (eLst (aC (eTup (aC (eV 3) (aC (eV 4) (aC (eCB tupleD (aC (eV 6) aN)) aN)))) aN))) (eV 7))))))
def G_lw_under : GS :=
  (sSeq (sSet 2 (eLst aN))
    (sSeq (sFor (.t [3, 4, 5]) (iV (eV 0)) lw_under_f2)
    (sRt (eCB tupleD (aC (eV 2) aN)))))
def phi_lw_under : List C → Sto → Option (C × Sto) := fnD 16 2 G_lw_under

def law_2_f1 : GS :=
  (sSeq (sSet 6 (eCall phi_lw_leases (aC (eV 1) (aC (eV 2) (aC (eV 3) (aC (eK (.int 4)) aN))))))
    (sIf (gOr (gNot (DL.tB (eCall phi_lw_same (aC (eCall phi_under (aC (eV 2) (aC (eV 3) (aC (eV 6) aN)))) (aC (eCall phi_lw_under (aC (eV 3) (aC (eV 6) aN))) aN))))) (DL.tB (eOp (eqD true) (eCB reprD (aC (eV 3) aN)) (eV 4)))) (sRt (eK (.bl false))) sNx))
def G_law_2 : GS :=
  (sSeq (sNew 1 (eLst (aC (eCall phi_lw_digits (aC (eV 0) (aC (eK (.int 0)) (aC (eK (.int 60)) aN)))) (aC (eK (.int 0)) aN))))
    (sSeq (sSet 2 (eCall phi_lw_basin_2 (aC (eV 1) aN)))
    (sSeq (sSet 3 (eCall phi_lw_more_rights (aC (eV 1) (aC (eV 2) aN))))
    (sSeq (sSet 4 (eCB reprD (aC (eV 3) aN)))
    (sSeq (sFor (.n 5) (iR1 (aC (eK (.int 3)) aN)) law_2_f1)
    (sRt (eCall phi_lw_same (aC (eCall phi_under (aC (eV 2) (aC (eV 3) (aC (eTup aN) aN)))) (aC (eV 3) aN)))))))))
def phi_law_2 : List C → Sto → Option (C × Sto) := fnD 7 1 G_law_2

end Lw
/-! EV: the readings as equations, for simp. -/
namespace DL
open PySem PySem.Spec PyProof.Rows L2
theorem bind_first {α β : Type} {a b : Option α} {f : α → Option β} (h : a = b) : a.bind f = b.bind f := by rw [h]
theorem map_first {α β : Type} {a b : Option α} {f : α → β} (h : a = b) : a.map f = b.map f := by rw [h]
section
variable {ρ : Env} {st : Sto}
def vK : Option (Option C) → Sto → Option (C × Sto)
  | some (some c), st => some (c, st)
  | _, _ => none
@[simp] theorem vK_some (c : C) : vK (some (some c)) st = some (c, st) := (rfl)
@[simp] theorem eV_ev (i : Nat) : eV i ρ st = vK ρ[i]? st := by
  unfold eV
  rcases h : ρ[i]? with _ | _ | c <;> rfl
@[simp] theorem eK_ev (x : D) : eK x ρ st = some (.d x, st) := (rfl)
@[simp] theorem eOp_ev (g : D → D → Option D) (a b : GE) : eOp g a b ρ st = (a ρ st).bind fun p => (b ρ p.2).bind fun q => (deref q.2 p.1).bind fun x => (deref q.2 q.1).bind fun y => (g x y).bind fun z => some (.d z, q.2) := (rfl)
@[simp] theorem deref_d (x : D) : deref st (.d x) = some x := (rfl)
def derK : Option SO → Option D
  | some (.lst cs) => (allD cs).map .lst
  | some (.dct kvs) => (allD (kvs.map (·.2))).map fun ds => .dct ((kvs.map (·.1)).zip ds)
  | some (.fro x) => some x
  | none => none
@[simp] theorem derK_lst (cs : List C) : derK (some (.lst cs)) = (allD cs).map .lst := (rfl)
@[simp] theorem derK_fro (x : D) : derK (some (.fro x)) = some x := (rfl)
@[simp] theorem deref_p (k : Nat) : deref st (.p k) = derK st[k]? := by
  unfold deref
  dsimp only
  rcases h : st[k]? with _ | (_ | _ | _) <;> rfl
@[simp] theorem allD_nil : allD [] = some [] := (rfl)
@[simp] theorem allD_cons (x : D) (cs : List C) : allD (.d x :: cs) = (allD cs).map (x :: ·) := (rfl)
@[simp] theorem allD_app (x : D) : ∀ (ds : List D), allD (ds.map .d ++ [.d x]) = some (ds ++ [x])
  | [] => rfl
  | d :: ds => by
    show (allD (ds.map .d ++ [.d x])).map (d :: ·) = _
    rw [allD_app x ds]
    rfl
@[simp] theorem allD_map_ev (ds : List D) : allD (ds.map .d) = some ds := allD_map ds
@[simp] theorem add_ii (i j : Int) : addD (.int i) (.int j) = some (.int (i + j)) := (rfl)
@[simp] theorem add_ss (x y : Str) : addD (.str x) (.str y) = if x.length + y.length ≤ 1000000 then some (.str (x ++ y)) else none := (rfl)
@[simp] theorem add_ll (x y : List D) : addD (.lst x) (.lst y) = if x.length + y.length ≤ 1000000 then some (.lst (x ++ y)) else none := (rfl)
@[simp] theorem add_tt (x y : List D) : addD (.tup x) (.tup y) = if x.length + y.length ≤ 1000000 then some (.tup (x ++ y)) else none := (rfl)
@[simp] theorem mul_li (x : List D) (k : Int) : mulD (.lst x) (.int k) = if k.natAbs < 1000 ∧ x.length ≤ 1000 then some (.lst (List.replicate k.toNat x).flatten) else none := (rfl)
@[simp] theorem ii_ii (f : Int → Int → D) (i j : Int) : iiD f (.int i) (.int j) = some (f i j) := (rfl)
@[simp] theorem ci_ii (c : Int → Int → Bool) (f : Int → Int → D) (i j : Int) : ciD c f (.int i) (.int j) = if c i j then some (f i j) else none := (rfl)
@[simp] theorem mul_ii (i j : Int) : mulD (.int i) (.int j) = if (decide (i.natAbs < 18446744073709551616) || decide (j.natAbs < 18446744073709551616)) = true then some (.int (i * j)) else none := (rfl)
@[simp] theorem ix_tup (xs : List D) (i : Int) : ixD (.tup xs) (.int i) = atI xs i := (rfl)
@[simp] theorem ix_lst (xs : List D) (i : Int) : ixD (.lst xs) (.int i) = atI xs i := (rfl)
@[simp] theorem ix_wls (xs : List D) (i : Int) : ixD (.wls xs) (.int i) = atI xs i := (rfl)
@[simp] theorem atI_k {α : Type} (xs : List α) (k : Nat) : atI xs (k : Int) = xs[k]? := by
  unfold atI ixN
  rw [if_pos (Int.natCast_nonneg k)]
  by_cases h : (k : Int) < xs.length
  · rw [if_pos h]
    rfl
  · rw [if_neg h, List.getElem?_eq_none (by omega)]
    rfl
@[simp] theorem atI_lit {α : Type} (xs : List α) (k : Nat) : atI xs (no_index (OfNat.ofNat k)) = xs[k]? := atI_k xs k
@[simp] theorem atI_0 {α : Type} (xs : List α) : atI xs 0 = xs[0]? := atI_k xs 0
@[simp] theorem atI_1 {α : Type} (xs : List α) : atI xs 1 = xs[1]? := atI_k xs 1
theorem ixN_nat (n k : Nat) (h : k < n) : ixN n (k : Int) = some k := by
  unfold ixN
  rw [if_pos (Int.natCast_nonneg k), if_pos (by omega)]
  rfl
@[simp] theorem isND_non (neg : Bool) : isND neg .non .non = some (.bl (!neg)) := (rfl)
@[simp] theorem isND_int (neg : Bool) (i : Int) : isND neg (.int i) .non = some (.bl neg) := (rfl)
@[simp] theorem isND_str (neg : Bool) (x : Str) : isND neg (.str x) .non = some (.bl neg) := (rfl)
@[simp] theorem isND_tup (neg : Bool) (x : List D) : isND neg (.tup x) .non = some (.bl neg) := (rfl)
/-! ### tests -/
def tbK : C × Sto → Option (Bool × Sto)
  | (.d (.bl b), st) => some (b, st)
  | _ => none
@[simp] theorem tbK_b (b : Bool) : tbK (.d (.bl b), st) = some (b, st) := (rfl)
@[simp] theorem tB_ev (a : GE) : DL.tB a ρ st = (a ρ st).bind tbK := by
  unfold DL.tB
  congr 1
  funext p
  obtain ⟨c, s⟩ := p
  unfold tbK
  split <;> simp_all
@[simp] theorem tTr_ev (a : GE) : tTr a ρ st = (a ρ st).bind fun p => (deref p.2 p.1).bind fun x => (truD x).bind fun b => some (b, p.2) := (rfl)
@[simp] theorem truD_lst (ds : List D) : truD (.lst ds) = some !ds.isEmpty := (rfl)
@[simp] theorem truD_tup (ds : List D) : truD (.tup ds) = some !ds.isEmpty := (rfl)
@[simp] theorem truD_int (i : Int) : truD (.int i) = some (i != 0) := (rfl)
@[simp] theorem truD_bl (i : Bool) : truD (.bl i) = some i := (rfl)
@[simp] theorem gAnd_ev (a b : GT) : gAnd a b ρ st = (a ρ st).bind fun p => if p.1 = true then b ρ p.2 else some (false, p.2) := (rfl)
@[simp] theorem gOr_ev (a b : GT) : gOr a b ρ st = (a ρ st).bind fun p => if p.1 = true then some (true, p.2) else b ρ p.2 := (rfl)
@[simp] theorem gNot_ev (a : GT) : gNot a ρ st = (a ρ st).bind fun p => some (!p.1, p.2) := (rfl)
def andK (b : GE) (ρ : Env) : C × Sto → Option (C × Sto)
  | (.d (.bl true), st) => b ρ st
  | (.d (.bl false), st) => some (.d (.bl false), st)
  | _ => none
@[simp] theorem andK_t (b : GE) : andK b ρ (.d (.bl true), st) = b ρ st := (rfl)
@[simp] theorem andK_f (b : GE) : andK b ρ (.d (.bl false), st) = some (.d (.bl false), st) := (rfl)
@[simp] theorem eAnd_ev (a b : GE) : eAnd a b ρ st = (a ρ st).bind (andK b ρ) := by
  unfold eAnd
  congr 1
  funext p
  obtain ⟨c, s⟩ := p
  unfold andK
  dsimp only
  split <;> simp_all
def orK (b : GE) (ρ : Env) : C × Sto → Option (C × Sto)
  | (.d (.bl false), st) => b ρ st
  | (.d (.bl true), st) => some (.d (.bl true), st)
  | _ => none
@[simp] theorem orK_t (b : GE) : orK b ρ (.d (.bl false), st) = b ρ st := (rfl)
@[simp] theorem orK_f (b : GE) : orK b ρ (.d (.bl true), st) = some (.d (.bl true), st) := (rfl)
@[simp] theorem eOr_ev (a b : GE) : eOr a b ρ st = (a ρ st).bind (orK b ρ) := by
  unfold eOr
  congr 1
  funext p
  obtain ⟨c, s⟩ := p
  unfold orK
  dsimp only
  split <;> simp_all
def notK : C × Sto → Option (C × Sto)
  | (.d (.bl b), st) => some (.d (.bl (!b)), st)
  | _ => none
@[simp] theorem notK_b (b : Bool) : notK (.d (.bl b), st) = some (.d (.bl (!b)), st) := (rfl)
@[simp] theorem eNot_ev (a : GE) : eNot a ρ st = (a ρ st).bind notK := by
  unfold eNot
  congr 1
  funext p
  obtain ⟨c, s⟩ := p
  unfold notK
  dsimp only
  split <;> simp_all
def negK : C × Sto → Option (C × Sto)
  | (.d (.int i), st) => some (.d (.int (-i)), st)
  | _ => none
@[simp] theorem negK_b (b : Int) : negK (.d (.int b), st) = some (.d (.int (-b)), st) := (rfl)
@[simp] theorem eNeg_ev (a : GE) : eNeg a ρ st = (a ρ st).bind negK := by
  unfold eNeg
  congr 1
  funext p
  obtain ⟨c, s⟩ := p
  unfold negK
  dsimp only
  split <;> simp_all
@[simp] theorem eIf_ev (t : GT) (a b : GE) : eIf t a b ρ st = (t ρ st).bind fun p => if p.1 = true then a ρ p.2 else b ρ p.2 := (rfl)
@[simp] theorem gYes_ev : gYes ρ st = some (true, st) := (rfl)
/-! ### arguments, displays -/
@[simp] theorem aN_ev : aN ρ st = some ([], st) := (rfl)
@[simp] theorem aC_ev (a : GE) (r : GA) : aC a r ρ st = (a ρ st).bind fun p => (r ρ p.2).bind fun q => some (p.1 :: q.1, q.2) := (rfl)
@[simp] theorem frzL_nil (f : C → Sto → Option (D × Sto)) : frzL f [] st = some ([], st) := (rfl)
@[simp] theorem frzL_cons (f : C → Sto → Option (D × Sto)) (c : C) (cs : List C) : frzL f (c :: cs) st = (f c st).bind fun p => (frzL f cs p.2).bind fun q => some (p.1 :: q.1, q.2) := (rfl)
theorem frz_d (n : Nat) (x : D) : frz n (.d x) st = some (x, st) := by cases n <;> rfl
@[simp] theorem frz4_d (x : D) : frz 4 (.d x) st = some (x, st) := (rfl)
theorem frzL_d (n : Nat) : ∀ ds : List D, frzL (frz n) (ds.map .d) st = some (ds, st)
  | [] => rfl
  | d :: ds => by
    show (frz n (.d d) st).bind (fun p => (frzL (frz n) (ds.map .d) p.2).bind fun q => some (p.1 :: q.1, q.2)) = _
    rw [frz_d]
    show (frzL (frz n) (ds.map .d) st).bind _ = _
    rw [frzL_d n ds]
    rfl
/-- a list of data, frozen -/
theorem frz_lst {k : Nat} {ds : List D} (h : st[k]? = some (.lst (ds.map .d))) : frz 4 (.p k) st = some (.lst ds, st.set k (.fro (.lst ds))) := by
  unfold frz
  rw [h]
  show (frzL (frz 3) (ds.map .d) st).bind _ = _
  rw [frzL_d 3 ds]
  rfl
@[simp] theorem eTup_ev (a : GA) : eTup a ρ st = (a ρ st).bind fun p => (frzL (frz 4) p.1 p.2).bind fun q => if q.1.length ≤ 1000000 then some (.d (.tup q.1), q.2) else none := (rfl)
@[simp] theorem eLst_ev (a : GA) : eLst a ρ st = (a ρ st).bind fun p => (frzL (frz 4) p.1 p.2).bind fun q => if q.1.length ≤ 1000000 then some (.d (.lst q.1), q.2) else none := (rfl)
@[simp] theorem derefs_nil : derefs st [] = some [] := (rfl)
@[simp] theorem derefs_cons (c : C) (cs : List C) : derefs st (c :: cs) = (deref st c).bind fun x => (derefs st cs).map (x :: ·) := (rfl)
@[simp] theorem eCB_ev (g : List D → Option D) (a : GA) : eCB g a ρ st = (a ρ st).bind fun p => (derefs p.2 p.1).bind fun xs => (g xs).bind fun z => some (.d z, p.2) := (rfl)
@[simp] theorem len_tup (xs : List D) : lenD [.tup xs] = some (.int xs.length) := (rfl)
@[simp] theorem len_lst (xs : List D) : lenD [.lst xs] = some (.int xs.length) := (rfl)
@[simp] theorem len_wls (xs : List D) : lenD [.wls xs] = some (.int xs.length) := (rfl)
@[simp] theorem len_str (x : Str) : lenD [.str x] = if x.length ≤ 1000000 then some (.int x.length) else none := (rfl)
@[simp] theorem int_int (i : Int) : DL.intD [.int i] = some (.int i) := (rfl)
@[simp] theorem int_bl (b : Bool) : DL.intD [.bl b] = some (.int (if b then 1 else 0)) := (rfl)
@[simp] theorem str_int (i : Int) : strD [.int i] = if i.natAbs.log2 < 1920 then some (.str (toString i)) else none := (rfl)
@[simp] theorem tup_tup (xs : List D) : tupleD [.tup xs] = some (.tup xs) := (rfl)
@[simp] theorem tup_lst (xs : List D) : tupleD [.lst xs] = some (.tup xs) := (rfl)
def sliK (l h : Option Int) (st : Sto) (x : D) : Option (C × Sto) := (slD l h x).map fun z => (.d z, st)
@[simp] theorem sliK_l (l h : Option Int) (xs : List D) : sliK l h st (.lst xs) = some (.d (.lst (cutD xs l h)), st) := (rfl)
@[simp] theorem sliK_t (l h : Option Int) (xs : List D) : sliK l h st (.tup xs) = some (.d (.tup (cutD xs l h)), st) := (rfl)
@[simp] theorem eSl_ev (a : GE) (lo hi : GO) : eSl a lo hi ρ st = (a ρ st).bind fun p => (lo ρ p.2).bind fun l => (hi ρ l.2).bind fun h => (deref h.2 p.1).bind (sliK l.1 h.1 h.2) := (rfl)
@[simp] theorem oN_ev : oN ρ st = some (none, st) := (rfl)
def oiK : C × Sto → Option (Option Int × Sto)
  | (.d (.int i), st) => some (some i, st)
  | _ => none
@[simp] theorem oiK_i (i : Int) : oiK (.d (.int i), st) = some (some i, st) := (rfl)
@[simp] theorem oI_ev (a : GE) : oI a ρ st = (a ρ st).bind oiK := by
  unfold oI
  congr 1
  funext p
  obtain ⟨c, s⟩ := p
  unfold oiK
  dsimp only
  split <;> simp_all
/-! ### statements -/
@[simp] theorem sNx_ev : sNx ρ st = some (.nx ρ st) := (rfl)
def seqK (b : GS) : Res → Option Res
  | .nx ρ st => b ρ st
  | r => some r
@[simp] theorem seqK_nx (b : GS) : seqK b (.nx ρ st) = b ρ st := (rfl)
@[simp] theorem seqK_rt (b : GS) (c : C) : seqK b (.rt c st) = some (.rt c st) := (rfl)
@[simp] theorem seqK_ct (b : GS) : seqK b (.ct ρ st) = some (.ct ρ st) := (rfl)
@[simp] theorem seqK_bk (b : GS) : seqK b (.bk ρ st) = some (.bk ρ st) := (rfl)
@[simp] theorem sSeq_ev (a b : GS) : sSeq a b ρ st = (a ρ st).bind (seqK b) := by
  unfold sSeq
  congr 1
@[simp] theorem sBk_ev : sBk ρ st = some (.bk ρ st) := (rfl)
@[simp] theorem sCt_ev : sCt ρ st = some (.ct ρ st) := (rfl)
@[simp] theorem sEx_ev (a : GE) : sEx a ρ st = (a ρ st).map fun p => .nx ρ p.2 := (rfl)
@[simp] theorem sRt_ev (a : GE) : sRt a ρ st = (a ρ st).map fun p => .rt p.1 p.2 := (rfl)
@[simp] theorem sRn_ev : sRn ρ st = some (.rt (.d .non) st) := (rfl)
@[simp] theorem sIf_ev (t : GT) (a b : GS) : sIf t a b ρ st = (t ρ st).bind fun p => if p.1 = true then a ρ p.2 else b ρ p.2 := (rfl)
@[simp] theorem sSet_ev (i : Nat) (a : GE) : sSet i a ρ st = (a ρ st).map fun p => .nx (ρ.set i (some p.1)) p.2 := (rfl)
def newK (i : Nat) (ρ : Env) : C × Sto → Option Res
  | (.d (.lst ds), st) => some (.nx (ρ.set i (some (.p st.length))) (st ++ [.lst (ds.map .d)]))
  | _ => none
@[simp] theorem newK_l (i : Nat) (ds : List D) : newK i ρ (.d (.lst ds), st) = some (.nx (ρ.set i (some (.p st.length))) (st ++ [.lst (ds.map .d)])) := (rfl)
@[simp] theorem sNew_ev (i : Nat) (a : GE) : sNew i a ρ st = (a ρ st).bind (newK i ρ) := by
  unfold sNew
  congr 1
  funext p
  obtain ⟨c, s⟩ := p
  unfold newK
  dsimp only
  split <;> simp_all
def unK (t : Tg) (ρ : Env) : C × Sto → Option Res
  | (.d x, st) => (bindTg t x ρ).map fun ρ' => .nx ρ' st
  | _ => none
@[simp] theorem unK_d (t : Tg) (x : D) : unK t ρ (.d x, st) = (bindTg t x ρ).map fun ρ' => .nx ρ' st := (rfl)
@[simp] theorem sUn_ev (t : Tg) (a : GE) : sUn t a ρ st = (a ρ st).bind (unK t ρ) := by
  unfold sUn
  congr 1
  funext p
  obtain ⟨c, s⟩ := p
  unfold unK
  cases c <;> rfl
@[simp] theorem bind_n (i : Nat) (x : D) : bindTg (.n i) x ρ = some (ρ.set i (some (.d x))) := (rfl)
@[simp] theorem bind_t (is : List Nat) (xs : List D) : bindTg (.t is) (.tup xs) ρ = setAll is xs ρ := (rfl)
@[simp] theorem bind_g (ts : List T1) (xs : List D) : bindTg (.g ts) (.tup xs) ρ = setG ts xs ρ := (rfl)
@[simp] theorem setG_nil : setG [] [] ρ = some ρ := (rfl)
@[simp] theorem setG_n (i : Nat) (ts : List T1) (x : D) (xs : List D) : setG (.n i :: ts) (x :: xs) ρ = setG ts xs (ρ.set i (some (.d x))) := (rfl)
@[simp] theorem setG_t (is : List Nat) (ts : List T1) (ys xs : List D) : setG (.t is :: ts) (.tup ys :: xs) ρ = (setAll is ys ρ).bind (setG ts xs) := (rfl)
@[simp] theorem setAll_nil : setAll [] [] ρ = some ρ := (rfl)
@[simp] theorem setAll_cons (i : Nat) (is : List Nat) (x : D) (xs : List D) : setAll (i :: is) (x :: xs) ρ = setAll is xs (ρ.set i (some (.d x))) := (rfl)
def augK (i : Nat) (g : D → D → Option D) (a : GE) (ρ : Env) (st : Sto) : Option (Option C) → Option Res
  | some (some (.d x)) => (a ρ st).bind fun p => (deref p.2 p.1).bind fun y => (g x y).map fun z => .nx (ρ.set i (some (.d z))) p.2
  | _ => none
@[simp] theorem augK_d (i : Nat) (g : D → D → Option D) (a : GE) (x : D) : augK i g a ρ st (some (some (.d x))) = (a ρ st).bind fun p => (deref p.2 p.1).bind fun y => (g x y).map fun z => .nx (ρ.set i (some (.d z))) p.2 := (rfl)
@[simp] theorem sAug_ev (i : Nat) (g : D → D → Option D) (a : GE) : sAug i g a ρ st = augK i g a ρ st ρ[i]? := by
  unfold sAug
  rcases h : ρ[i]? with _ | _ | (_ | _) <;> rfl
/-! ### calls -/
@[simp] theorem ptrs_nil : ptrs [] = [] := (rfl)
@[simp] theorem ptrs_d (x : D) (r : List C) : ptrs (.d x :: r) = ptrs r := (rfl)
@[simp] theorem ptrs_p (k : Nat) (r : List C) : ptrs (.p k :: r) = k :: ptrs r := (rfl)
@[simp] theorem renum_nil (n : Nat) : renum n [] = [] := (rfl)
@[simp] theorem renum_d (n : Nat) (x : D) (r : List C) : renum n (.d x :: r) = .d x :: renum n r := (rfl)
@[simp] theorem renum_p (n k : Nat) (r : List C) : renum n (.p k :: r) = .p n :: renum (n + 1) r := (rfl)
def pickK (r : Option Sto) : Option SO → Option Sto
  | some o => if flatSO o = true then r.map (o :: ·) else none
  | none => none
@[simp] theorem pickK_some (r : Option Sto) (o : SO) : pickK r (some o) = if flatSO o = true then r.map (o :: ·) else none := (rfl)
@[simp] theorem pick_nil : DL.pick st [] = some [] := (rfl)
@[simp] theorem pick_cons (k : Nat) (ks : List Nat) : DL.pick st (k :: ks) = pickK (DL.pick st ks) st[k]? := by
  show (match st[k]? with | some o => _ | none => _) = _
  rcases h : st[k]? with _ | o <;> rfl
@[simp] theorem putBack_nil (os : Sto) : putBack st [] os = st := by cases os <;> rfl
@[simp] theorem putBack_cons (k : Nat) (ks : List Nat) (o : SO) (os : Sto) : putBack st (k :: ks) (o :: os) = putBack (st.set k o) ks os := (rfl)
@[simp] theorem backC_d (ks : List Nat) (x : D) : backC ks (.d x) = some (.d x) := (rfl)
@[simp] theorem eCall_ev (Φ : List C → Sto → Option (C × Sto)) (a : GA) : eCall Φ a ρ st = (a ρ st).bind fun p => if (ptrs p.1).Nodup then (DL.pick p.2 (ptrs p.1)).bind fun os => (Φ (renum 0 p.1) os).bind fun q => if q.2.all flatSO = true then (backC (ptrs p.1) q.1).map fun c => (c, putBack p.2 (ptrs p.1) q.2) else none else none := (rfl)
@[simp] theorem flat_lst (cs : List C) : flatSO (.lst cs) = cs.all (okC 0) := (rfl)
@[simp] theorem okC_d (n : Nat) (x : D) : okC n (.d x) = true := (rfl)
@[simp] theorem all_okC (n : Nat) (ds : List D) : (ds.map C.d).all (okC n) = true := by simp
@[simp] theorem okSO_lst (n : Nat) (cs : List C) : okSO n (.lst cs) = cs.all (okC n) := (rfl)
def retK (n : Nat) : Res → Option (C × Sto)
  | .rt c st' => fin n c st'
  | .nx _ st' => fin n (.d .non) st'
  | _ => none
@[simp] theorem retK_rt (n : Nat) (c : C) : retK n (.rt c st) = fin n c st := (rfl)
@[simp] theorem retK_nx (n : Nat) : retK n (.nx ρ st) = fin n (.d .non) st := (rfl)
theorem fnD_ev (N n : Nat) (G : GS) (cs : List C) (h : cs.length = n) : fnD N n G cs st = (G (cs.map some ++ List.replicate (N - n) none) st).bind (retK st.length) := by
  unfold fnD
  rw [if_pos h]
  congr 1
@[simp] theorem fin_d (n : Nat) (x : D) : fin n (.d x) st = cutSt n (.d x) st := (rfl)
theorem fin_p {n k : Nat} (h : n ≤ k) : fin n (.p k) st = (frz 4 (.p k) st).bind fun q => cutSt n (.d q.1) q.2 := by
  show (if k < n then _ else _) = _
  rw [if_neg (by omega)]
@[simp] theorem cut_nil (c : C) : cutSt 0 c st = some (c, []) := (rfl)
@[simp] theorem cut_ev (n : Nat) (c : C) : cutSt n c st = if (st.take n).all (okSO n) = true then some (c, st.take n) else none := (rfl)
/-! ### iteration -/
def ivK : C × Sto → Option (Src × Sto)
  | (.d (.tup ds), st) => some (.items ds, st)
  | (.d (.lst ds), st) => some (.items ds, st)
  | (.d (.wls ds), st) => some (.items ds, st)
  | (.p k, st) => match st[k]? with
    | some (.lst _) => some (.sto k, st)
    | _ => none
  | _ => none
@[simp] theorem ivK_tup (ds : List D) : ivK (.d (.tup ds), st) = some (.items ds, st) := (rfl)
@[simp] theorem ivK_lst (ds : List D) : ivK (.d (.lst ds), st) = some (.items ds, st) := (rfl)
@[simp] theorem ivK_wls (ds : List D) : ivK (.d (.wls ds), st) = some (.items ds, st) := (rfl)
@[simp] theorem iV_ev (a : GE) : iV a ρ st = (a ρ st).bind ivK := by
  unfold iV
  congr 1
  funext p
  obtain ⟨c, s⟩ := p
  unfold ivK
  cases c with
  | d x => cases x <;> rfl
  | p k => rfl
def ir1K : List C × Sto → Option (Src × Sto)
  | ([.d (.int j)], st) => if j.natAbs < 1000000 then some (.items (rngD 0 j.toNat), st) else none
  | _ => none
@[simp] theorem ir1K_i (j : Int) : ir1K ([.d (.int j)], st) = if j.natAbs < 1000000 then some (.items (rngD 0 j.toNat), st) else none := (rfl)
@[simp] theorem iR1_ev (a : GA) : iR1 a ρ st = (a ρ st).bind ir1K := by
  unfold iR1
  congr 1
  funext p
  obtain ⟨c, s⟩ := p
  unfold ir1K
  dsimp only
  split <;> simp_all
def ir2K : List C × Sto → Option (Src × Sto)
  | ([.d (.int i), .d (.int j)], st) => if i.natAbs < 1000000 ∧ j.natAbs < 1000000 then some (.items (rngD i (j - i).toNat), st) else none
  | _ => none
@[simp] theorem ir2K_i (i j : Int) : ir2K ([.d (.int i), .d (.int j)], st) = if i.natAbs < 1000000 ∧ j.natAbs < 1000000 then some (.items (rngD i (j - i).toNat), st) else none := (rfl)
@[simp] theorem iR2_ev (a : GA) : iR2 a ρ st = (a ρ st).bind ir2K := by
  unfold iR2
  congr 1
  funext p
  obtain ⟨c, s⟩ := p
  unfold ir2K
  dsimp only
  split <;> simp_all
/-- a for over data: by the list -/
def forL (t : Tg) (body : GS) : List D → Env → Sto → Option Res
  | [], ρ, st => some (.nx ρ st)
  | x :: xs, ρ, st => (bindTg t x ρ).bind fun ρ1 => (body ρ1 st).bind fun r => match r with
    | .nx ρ2 st2 => forL t body xs ρ2 st2
    | .ct ρ2 st2 => forL t body xs ρ2 st2
    | .bk ρ2 st2 => some (.nx ρ2 st2)
    | .rt c st2 => some (.rt c st2)
def stepK (t : Tg) (body : GS) (xs : List D) : Res → Option Res
  | .nx ρ2 st2 => forL t body xs ρ2 st2
  | .ct ρ2 st2 => forL t body xs ρ2 st2
  | .bk ρ2 st2 => some (.nx ρ2 st2)
  | .rt c st2 => some (.rt c st2)
@[simp] theorem stepK_nx (t : Tg) (body : GS) (xs : List D) : stepK t body xs (.nx ρ st) = forL t body xs ρ st := (rfl)
@[simp] theorem stepK_ct (t : Tg) (body : GS) (xs : List D) : stepK t body xs (.ct ρ st) = forL t body xs ρ st := (rfl)
@[simp] theorem stepK_bk (t : Tg) (body : GS) (xs : List D) : stepK t body xs (.bk ρ st) = some (.nx ρ st) := (rfl)
@[simp] theorem stepK_rt (t : Tg) (body : GS) (xs : List D) (c : C) : stepK t body xs (.rt c st) = some (.rt c st) := (rfl)
theorem forL_nil (t : Tg) (body : GS) : forL t body [] ρ st = some (.nx ρ st) := rfl
theorem forL_cons (t : Tg) (body : GS) (x : D) (xs : List D) : forL t body (x :: xs) ρ st = (bindTg t x ρ).bind fun ρ1 => (body ρ1 st).bind (stepK t body xs) := by
  show (bindTg t x ρ).bind (fun ρ1 => (body ρ1 st).bind _) = _
  congr 1
theorem forG_items (t : Tg) (body : GS) (ds : List D) : ∀ (m i : Nat) (ρ : Env) (st : Sto), i + m = ds.length → forG t body (.items ds) (m + 1) i ρ st = forL t body (ds.drop i) ρ st
  | 0, i, ρ, st, h => by
    rw [List.drop_of_length_le (by omega)]
    show ((some ds[i]?).bind _) = _
    rw [List.getElem?_eq_none (by omega)]
    rfl
  | m + 1, i, ρ, st, h => by
    have hi : i < ds.length := by omega
    rw [List.drop_eq_getElem_cons hi]
    show ((some ds[i]?).bind _) = _
    rw [List.getElem?_eq_getElem hi]
    show (bindTg t ds[i] ρ).bind _ = (bindTg t ds[i] ρ).bind _
    congr 1
    funext ρ1
    congr 1
    funext r
    cases r with
    | nx ρ2 st2 => exact forG_items t body ds m (i + 1) ρ2 st2 (by omega)
    | ct ρ2 st2 => exact forG_items t body ds m (i + 1) ρ2 st2 (by omega)
    | bk ρ2 st2 => rfl
    | rt c st2 => rfl
def forK (t : Tg) (body : GS) (ρ : Env) : Src × Sto → Option Res
  | (.items ds, st) => forL t body ds ρ st
  | (src, st) => forG t body src (srcLen st src + 1) 0 ρ st
@[simp] theorem forK_i (t : Tg) (body : GS) (ds : List D) : forK t body ρ (.items ds, st) = forL t body ds ρ st := (rfl)
@[simp] theorem sFor_ev (t : Tg) (gi : GI) (body : GS) : sFor t gi body ρ st = (gi ρ st).bind (forK t body ρ) := by
  unfold sFor
  congr 1
  funext p
  obtain ⟨src, s⟩ := p
  cases src with
  | items ds =>
    have := forG_items t body ds ds.length 0 ρ s (by omega)
    simpa [forK, srcLen] using this
  | sto k => rfl
/-- a comprehension over data: by the list -/
def lcL (t : Tg) (test : GT) (elt : GE) (ρ : Env) : List D → Sto → List D → Option (List D × Sto)
  | [], st, acc => some (acc, st)
  | x :: xs, st, acc => (bindTg t x ρ).bind fun ρ1 => (test ρ1 st).bind fun p => if p.1 = true then (elt ρ1 p.2).bind fun q => (frz 4 q.1 q.2).bind fun y => if acc.length < 1000000 then lcL t test elt ρ xs y.2 (acc ++ [y.1]) else none
      else lcL t test elt ρ xs p.2 acc
theorem lcG_items (t : Tg) (test : GT) (elt : GE) (ρ : Env) (ds : List D) : ∀ (m i : Nat) (st : Sto) (acc : List D), i + m = ds.length → lcG t test elt (.items ds) ρ (m + 1) i st acc = lcL t test elt ρ (ds.drop i) st acc
  | 0, i, st, acc, h => by
    rw [List.drop_of_length_le (by omega)]
    show ((some ds[i]?).bind _) = _
    rw [List.getElem?_eq_none (by omega)]
    rfl
  | m + 1, i, st, acc, h => by
    have hi : i < ds.length := by omega
    rw [List.drop_eq_getElem_cons hi]
    show ((some ds[i]?).bind _) = _
    rw [List.getElem?_eq_getElem hi]
    show (bindTg t ds[i] ρ).bind _ = (bindTg t ds[i] ρ).bind _
    congr 1
    funext ρ1
    congr 1
    funext p
    rw [lcG_items t test elt ρ ds m (i + 1) p.2 acc (by omega)]
    congr 1
    congr 1
    funext q
    congr 1
    funext y
    rw [lcG_items t test elt ρ ds m (i + 1) y.2 (acc ++ [y.1]) (by omega)]
def lcK (t : Tg) (test : GT) (elt : GE) (ρ : Env) : Src × Sto → Option (List D × Sto)
  | (.items ds, st) => lcL t test elt ρ ds st []
  | (src, st) => lcG t test elt src ρ (srcLen st src + 1) 0 st []
@[simp] theorem lcK_i (t : Tg) (test : GT) (elt : GE) (ds : List D) : lcK t test elt ρ (.items ds, st) = lcL t test elt ρ ds st [] := (rfl)
@[simp] theorem eLc_ev (vs : List Nat) (t : Tg) (gi : GI) (test : GT) (elt : GE) : eLc vs t gi test elt ρ st = ((gi ρ st).bind (lcK t test elt (wipeE ρ vs))).map fun q => (.d (.lst q.1), q.2) := by
  unfold eLc
  rw [Option.map_bind]
  congr 1
  funext p
  obtain ⟨src, s⟩ := p
  cases src with
  | items ds =>
    have := lcG_items t test elt (wipeE ρ vs) ds ds.length 0 s [] (by omega)
    show Option.map _ _ = Option.map _ _
    congr 1
  | sto k => rfl
@[simp] theorem wipe_nil : wipeE ρ [] = ρ := (rfl)
@[simp] theorem wipe_cons (v : Nat) (vs : List Nat) : wipeE ρ (v :: vs) = (wipeE ρ vs).set v none := (rfl)
def put3K (ρ : Env) (k : Nat) (cs : List C) (c : C) (st : Sto) : Option Nat → Option Res
  | some j => some (.nx ρ (st.set k (.lst (cs.set j c))))
  | none => none
@[simp] theorem put3K_s (k : Nat) (cs : List C) (c : C) (j : Nat) : put3K ρ k cs c st (some j) = some (.nx ρ (st.set k (.lst (cs.set j c)))) := (rfl)
def put2K (ρ : Env) (k : Nat) (c : C) (st : Sto) : C → Option SO → Option Res
  | .d (.int n), some (.lst cs) => put3K ρ k cs c st (ixN cs.length n)
  | _, _ => none
@[simp] theorem put2K_s (k : Nat) (c : C) (n : Int) (cs : List C) : put2K ρ k c st (.d (.int n)) (some (.lst cs)) = put3K ρ k cs c st (ixN cs.length n) := (rfl)
def put1K (i : GE) (ρ : Env) (c : C) : C × Sto → Option Res
  | (.p k, st) => (i ρ st).bind fun r => put2K ρ k c r.2 r.1 r.2[k]?
  | _ => none
@[simp] theorem put1K_p (i : GE) (c : C) (k : Nat) : put1K i ρ c (.p k, st) = (i ρ st).bind fun r => put2K ρ k c r.2 r.1 r.2[k]? := (rfl)
@[simp] theorem sPut_ev (o i v : GE) : sPut o i v ρ st = (v ρ st).bind fun p => (o ρ p.2).bind (put1K i ρ p.1) := by
  unfold sPut
  congr 1
  funext p
  congr 1
  funext q
  obtain ⟨c, s⟩ := q
  cases c with
  | d x => rfl
  | p k =>
    show (i ρ s).bind _ = (i ρ s).bind _
    rfl
@[simp] theorem ixN_k (n k : Nat) : ixN n (k : Int) = if k < n then some k else none := by
  by_cases h : k < n
  · rw [ixN_nat n k h, if_pos h]
  · unfold ixN
    rw [if_pos (Int.natCast_nonneg k), if_neg (by omega), if_neg h]
@[simp] theorem ixN_lit (n k : Nat) : ixN n (no_index (OfNat.ofNat k)) = if k < n then some k else none := ixN_k n k
@[simp] theorem ixN_0 (n : Nat) : ixN n 0 = if 0 < n then some 0 else none := ixN_k n 0
@[simp] theorem ixN_1 (n : Nat) : ixN n 1 = if 1 < n then some 1 else none := ixN_k n 1
/-! ### append, extend -/
def isLK : Option SO → Bool
  | some (.lst _) => true
  | _ => false
theorem isLst_K (s : Sto) (k : Nat) : isLst s k = isLK s[k]? := by
  unfold isLst
  rcases s[k]? with _ | (_ | _ | _) <;> rfl
@[simp] theorem isLK_l (cs : List C) : isLK (some (.lst cs)) = true := (rfl)
def app2K (k : Nat) (c : C) (st : Sto) : Option SO → Option (C × Sto)
  | some (.lst cs) => if cs.length < 1000000 then some (.d .non, st.set k (.lst (cs ++ [c]))) else none
  | _ => none
@[simp] theorem app2K_l (k : Nat) (c : C) (cs : List C) : app2K k c st (some (.lst cs)) = if cs.length < 1000000 then some (.d .non, st.set k (.lst (cs ++ [c]))) else none := (rfl)
def app1K (a : GE) (ρ : Env) : C × Sto → Option (C × Sto)
  | (.p k, st) => if isLK st[k]? = true then (a ρ st).bind fun q => app2K k q.1 q.2 q.2[k]? else none
  | _ => none
@[simp] theorem app1K_p (a : GE) (k : Nat) : app1K a ρ (.p k, st) = if isLK st[k]? = true then (a ρ st).bind fun q => app2K k q.1 q.2 q.2[k]? else none := (rfl)
@[simp] theorem eApp_ev (o a : GE) : eApp o a ρ st = (o ρ st).bind (app1K a ρ) := by
  unfold eApp
  congr 1
  funext p
  obtain ⟨c, s⟩ := p
  cases c with
  | d x => rfl
  | p k =>
    show (if isLst s k = true then _ else none) = (if isLK s[k]? = true then _ else none)
    rw [isLst_K]
    congr 1
def ext2K (k : Nat) (st : Sto) : Option SO → Option D → Option (C × Sto)
  | some (.lst cs), some (.lst ds) => if cs.length + ds.length < 1000000 then some (.d .non, st.set k (.lst (cs ++ ds.map .d))) else none
  | _, _ => none
@[simp] theorem ext2K_l (k : Nat) (cs : List C) (ds : List D) : ext2K k st (some (.lst cs)) (some (.lst ds)) = if cs.length + ds.length < 1000000 then some (.d .non, st.set k (.lst (cs ++ ds.map .d))) else none := (rfl)
def ext1K (a : GE) (ρ : Env) : C × Sto → Option (C × Sto)
  | (.p k, st) => if isLK st[k]? = true then (a ρ st).bind fun q => ext2K k q.2 q.2[k]? (deref q.2 q.1) else none
  | _ => none
@[simp] theorem ext1K_p (a : GE) (k : Nat) : ext1K a ρ (.p k, st) = if isLK st[k]? = true then (a ρ st).bind fun q => ext2K k q.2 q.2[k]? (deref q.2 q.1) else none := (rfl)
@[simp] theorem eExt_ev (o a : GE) : eExt o a ρ st = (o ρ st).bind (ext1K a ρ) := by
  unfold eExt
  congr 1
  funext p
  obtain ⟨c, s⟩ := p
  cases c with
  | d x => rfl
  | p k =>
    show (if isLst s k = true then _ else none) = (if isLK s[k]? = true then _ else none)
    rw [isLst_K]
    congr 1
@[simp] theorem eq_ii (i j : Int) : eqD false (.int i) (.int j) = some (.bl (i == j)) := (rfl)
@[simp] theorem eq_ss (i j : Str) : eqD false (.str i) (.str j) = some (.bl (i == j)) := (rfl)
@[simp] theorem eq_sn (i : Str) : eqD false (.str i) .non = some (.bl false) := (rfl)
@[simp] theorem eq_ns (i : Str) : eqD false .non (.str i) = some (.bl false) := (rfl)
@[simp] theorem eq_nn : eqD false .non .non = some (.bl true) := (rfl)
@[simp] theorem ne_ii (i j : Int) : eqD true (.int i) (.int j) = some (.bl (!(i == j))) := (rfl)
@[simp] theorem ne_ss (i j : Str) : eqD true (.str i) (.str j) = some (.bl (!(i == j))) := (rfl)
/-- a for over data that keeps what is said of what is left -/
theorem forL_inv {t : Tg} {body : GS} (P : List D → Env → Sto → Prop) (h : ∀ x xs ρ st, P (x :: xs) ρ st → ∃ ρ1 ρ2 st2, bindTg t x ρ = some ρ1 ∧ body ρ1 st = some (.nx ρ2 st2) ∧ P xs ρ2 st2) :
    ∀ (xs : List D) (ρ : Env) (st : Sto), P xs ρ st → ∃ ρ' st', forL t body xs ρ st = some (.nx ρ' st') ∧ P [] ρ' st'
  | [], ρ, st, q => ⟨ρ, st, rfl, q⟩
  | x :: xs, ρ, st, q => by
    obtain ⟨ρ1, ρ2, st2, h1, h2, h3⟩ := h x xs ρ st q
    obtain ⟨ρ', st', h4, h5⟩ := forL_inv P h xs ρ2 st2 h3
    exact ⟨ρ', st', by rw [forL_cons, h1, Option.bind_some, h2, Option.bind_some, stepK_nx, h4], h5⟩
theorem atI_in {α : Type} {xs : List α} {i : Int} (h : 0 ≤ i) (h2 : i < xs.length) : ∃ x, x ∈ xs ∧ xs[i.toNat]? = some x ∧ atI xs i = some x := by
  obtain ⟨k, rfl⟩ := Int.eq_ofNat_of_zero_le h
  have hk : k < xs.length := by omega
  exact ⟨xs[k], List.getElem_mem hk, by simp, by rw [atI_k, List.getElem?_eq_getElem hk]⟩
/-! ### methods of texts -/
def m1K (g : List D → Option D) (a : GE) (ρ : Env) : C × Sto → Option (C × Sto)
  | (.d (.str x), st) => (a ρ st).bind fun q => (deref q.2 q.1).bind fun y => (g [.str x, y]).map fun z => (.d z, q.2)
  | _ => none
@[simp] theorem m1K_s (g : List D → Option D) (a : GE) (x : Str) : m1K g a ρ (.d (.str x), st) = (a ρ st).bind fun q => (deref q.2 q.1).bind fun y => (g [.str x, y]).map fun z => (.d z, q.2) := (rfl)
@[simp] theorem eM1_ev (g : List D → Option D) (o a : GE) : eM1 g o a ρ st = (o ρ st).bind (m1K g a ρ) := by
  unfold eM1
  congr 1
  funext p
  obtain ⟨c, s⟩ := p
  cases c with
  | d x => cases x <;> rfl
  | p k => rfl
def m0K (g : List D → Option D) : C × Sto → Option (C × Sto)
  | (.d (.str x), st) => (g [.str x]).map fun z => (.d z, st)
  | _ => none
@[simp] theorem m0K_s (g : List D → Option D) (x : Str) : m0K g (.d (.str x), st) = (g [.str x]).map fun z => (.d z, st) := (rfl)
@[simp] theorem eM0_ev (g : List D → Option D) (o : GE) : eM0 g o ρ st = (o ρ st).bind (m0K g) := by
  unfold eM0
  congr 1
  funext p
  obtain ⟨c, s⟩ := p
  cases c with
  | d x => cases x <;> rfl
  | p k => rfl
@[simp] theorem sb_s (f : Str → Bool) (x : Str) : sbD f [.str x] = some (.bl (f x)) := (rfl)
theorem strsOf_map : ∀ ys : List Str, strsOf (ys.map .str) = some ys
  | [] => rfl
  | y :: ys => by
    show (strsOf (ys.map .str)).map (y :: ·) = _
    rw [strsOf_map ys]
    rfl
theorem sum_len : ∀ (ys : List Str), (∀ y ∈ ys, y.length ≤ 100) → (ys.map (·.length)).sum ≤ 100 * ys.length
  | [], _ => by simp
  | y :: ys, h => by
    have := sum_len ys fun z hz => h z (by simp [hz])
    have h2 := h y (by simp)
    simp only [List.map_cons, List.sum_cons, List.length_cons]
    omega
theorem join_ok {a : Str} {ys : List Str} (ha : a.length ≤ 1) (h : ∀ y ∈ ys, y.length ≤ 100) (hl : ys.length ≤ 1000) : joinD [.str a, .lst (ys.map .str)] = some (.str (Txt.join a ys)) := by
  show (strsOf (ys.map .str)).bind _ = _
  rw [strsOf_map]
  have := sum_len ys h
  have h3 : ys.length * a.length ≤ ys.length * 1 := Nat.mul_le_mul_left _ ha
  exact if_pos (by omega)
theorem allD_append : ∀ (a b : List C), allD (a ++ b) = (allD a).bind fun x => (allD b).map (x ++ ·)
  | [], b => by
    show allD b = (allD b).map fun z => [] ++ z
    simp
  | .d x :: a, b => by
    show (allD (a ++ b)).map (x :: ·) = ((allD a).map (x :: ·)).bind _
    rw [allD_append a b]
    rcases allD a with _ | y <;> rcases allD b with _ | z <;> rfl
  | .p _ :: a, b => rfl
/-! ### dicts, zip, enumerate, slices by a step -/
@[simp] theorem sNewD_ev (i : Nat) : sNewD i ρ st = some (.nx (ρ.set i (some (.p st.length))) (st ++ [.dct []])) := (rfl)
def putD3K (ρ : Env) (k : Nat) (c : C) (st : Sto) : Option Key → Option SO → Option Res
  | some ky, some (.dct kvs) => if kvs.length < 1000000 then some (.nx ρ (st.set k (.dct (putC kvs ky c)))) else none
  | _, _ => none
@[simp] theorem putD3K_s (k : Nat) (c : C) (ky : Key) (kvs : List (Key × C)) : putD3K ρ k c st (some ky) (some (.dct kvs)) = if kvs.length < 1000000 then some (.nx ρ (st.set k (.dct (putC kvs ky c)))) else none := (rfl)
def putD2K (ρ : Env) (k : Nat) (c : C) : C × Sto → Option Res
  | (.d y, st) => putD3K ρ k c st (keyD y) st[k]?
  | _ => none
@[simp] theorem putD2K_s (k : Nat) (c : C) (y : D) : putD2K ρ k c (.d y, st) = putD3K ρ k c st (keyD y) st[k]? := (rfl)
def putD1K (i : GE) (ρ : Env) (c : C) : C × Sto → Option Res
  | (.p k, st) => (i ρ st).bind (putD2K ρ k c)
  | _ => none
@[simp] theorem putD1K_s (i : GE) (k : Nat) (c : C) : putD1K i ρ c (.p k, st) = (i ρ st).bind (putD2K ρ k c) := (rfl)
@[simp] theorem sPutD_ev (o i v : GE) : sPutD o i v ρ st = (v ρ st).bind fun p => (o ρ p.2).bind (putD1K i ρ p.1) := by
  unfold sPutD
  congr 1
  funext p
  congr 1
  funext q
  obtain ⟨c, s⟩ := q
  cases c with
  | d x => rfl
  | p k =>
    show (i ρ s).bind _ = (i ρ s).bind _
    congr 1
    funext r
    obtain ⟨c, s2⟩ := r
    cases c with
    | p _ => rfl
    | d y =>
      show (match keyD y, s2[k]? with | some ky, some (.dct kvs) => _ | _, _ => none) = putD3K ρ k p.1 s2 (keyD y) s2[k]?
      rcases keyD y with _ | ky <;> rcases s2[k]? with _ | (_ | _ | _) <;> rfl
@[simp] theorem key_str (x : Str) : keyD (.str x) = some (.inr x) := (rfl)
@[simp] theorem key_int (x : Int) : keyD (.int x) = some (.inl x) := (rfl)
def dicK : Option SO → Option (List (Key × C))
  | some (.dct kvs) => some kvs
  | _ => none
@[simp] theorem dicK_d (kvs : List (Key × C)) : dicK (some (.dct kvs)) = some kvs := (rfl)
@[simp] theorem dictOf_p (k : Nat) : dictOf st (.p k) = dicK st[k]? := by
  unfold dictOf
  dsimp only
  rcases st[k]? with _ | (_ | _ | _) <;> rfl
@[simp] theorem dictOf_d (kvs : List (Key × D)) : dictOf st (.d (.dct kvs)) = some (kvs.map fun kv => (kv.1, .d kv.2)) := (rfl)
def getDK (d : C) : C × Sto → Option (C × Sto)
  | (.d y, st) => (keyD y).bind fun ky => (dictOf st d).bind fun kvs => (lookC kvs ky).map fun c => (c, st)
  | _ => none
@[simp] theorem getDK_d (d : C) (y : D) : getDK d (.d y, st) = (keyD y).bind fun ky => (dictOf st d).bind fun kvs => (lookC kvs ky).map fun c => (c, st) := (rfl)
@[simp] theorem eGetD_ev (o i : GE) : eGetD o i ρ st = (o ρ st).bind fun p => (i ρ p.2).bind (getDK p.1) := by
  unfold eGetD
  congr 1
  funext p
  congr 1
  funext q
  obtain ⟨c, s⟩ := q
  cases c <;> rfl
def orC (o : Option C) (d : C) : C := match o with
  | some c => c
  | none => d
@[simp] theorem orC_some (c d : C) : orC (some c) d = c := (rfl)
@[simp] theorem orC_none (d : C) : orC none d = d := (rfl)
def get1K (d : C) : C × Sto → Option (C × Sto)
  | (.d y, st) => (keyD y).bind fun ky => (dictOf st d).bind fun kvs => some (orC (lookC kvs ky) (.d .non), st)
  | _ => none
@[simp] theorem get1K_d (d : C) (y : D) : get1K d (.d y, st) = (keyD y).bind fun ky => (dictOf st d).bind fun kvs => some (orC (lookC kvs ky) (.d .non), st) := (rfl)
@[simp] theorem eGet1_ev (o i : GE) : eGet1 o i ρ st = (o ρ st).bind fun p => (dictOf p.2 p.1).bind fun _ => (i ρ p.2).bind (get1K p.1) := by
  unfold eGet1
  congr 1
  funext p
  congr 1
  funext _
  congr 1
  funext q
  obtain ⟨c, s⟩ := q
  cases c <;> rfl
def get2K (d e : C) (st : Sto) : C → Option (C × Sto)
  | .d y => (keyD y).bind fun ky => (dictOf st d).bind fun kvs => some (orC (lookC kvs ky) e, st)
  | _ => none
@[simp] theorem get2K_d (d e : C) (y : D) : get2K d e st (.d y) = (keyD y).bind fun ky => (dictOf st d).bind fun kvs => some (orC (lookC kvs ky) e, st) := (rfl)
@[simp] theorem eGet2_ev (o i e : GE) : eGet2 o i e ρ st = (o ρ st).bind fun p => (dictOf p.2 p.1).bind fun _ => (i ρ p.2).bind fun q => (e ρ q.2).bind fun r => get2K p.1 r.1 r.2 q.1 := by
  unfold eGet2
  congr 1
def zpK : List C × Sto → Option (Src × Sto)
  | ([.d (.tup ds), .d (.tup es)], st) => some (.items (zipD ds es), st)
  | ([.d (.lst ds), .d (.lst es)], st) => some (.items (zipD ds es), st)
  | _ => none
@[simp] theorem zpK_l (ds es : List D) : zpK ([.d (.lst ds), .d (.lst es)], st) = some (.items (zipD ds es), st) := (rfl)
@[simp] theorem zpK_t (ds es : List D) : zpK ([.d (.tup ds), .d (.tup es)], st) = some (.items (zipD ds es), st) := (rfl)
@[simp] theorem iZp_ev (a : GA) : iZp a ρ st = (a ρ st).bind zpK := by
  unfold iZp
  congr 1
  funext p
  obtain ⟨c, s⟩ := p
  unfold zpK
  dsimp only
  split <;> simp_all
@[simp] theorem zipD_nil : zipD [] [] = [] := (rfl)
@[simp] theorem zipD_cons (x y : D) (xs ys : List D) : zipD (x :: xs) (y :: ys) = .tup [x, y] :: zipD xs ys := (rfl)
def enK : List C × Sto → Option (Src × Sto)
  | ([.d (.tup ds)], st) => some (.items (enumD ds), st)
  | ([.d (.lst ds)], st) => some (.items (enumD ds), st)
  | _ => none
@[simp] theorem enK_l (ds : List D) : enK ([.d (.lst ds)], st) = some (.items (enumD ds), st) := (rfl)
@[simp] theorem enK_t (ds : List D) : enK ([.d (.tup ds)], st) = some (.items (enumD ds), st) := (rfl)
@[simp] theorem iEn_ev (a : GA) : iEn a ρ st = (a ρ st).bind enK := by
  unfold iEn
  congr 1
  funext p
  obtain ⟨c, s⟩ := p
  unfold enK
  dsimp only
  split <;> simp_all
def sl3K (l h k : Option Int) (st : Sto) : D → Option (C × Sto)
  | .lst xs => if k ≠ some 0 then some (.d (.lst (pickD xs l h k)), st) else none
  | _ => none
@[simp] theorem sl3K_l (l h k : Option Int) (xs : List D) : sl3K l h k st (.lst xs) = if k ≠ some 0 then some (.d (.lst (pickD xs l h k)), st) else none := (rfl)
@[simp] theorem eSl3_ev (a : GE) (lo hi k : GO) : eSl3 a lo hi k ρ st = (a ρ st).bind fun p => (lo ρ p.2).bind fun l => (hi ρ l.2).bind fun h => (k ρ h.2).bind fun m => (deref m.2 p.1).bind (sl3K l.1 h.1 m.1 m.2) := by
  unfold eSl3 sl3K
  rfl
theorem lcL_nil (t : Tg) (test : GT) (elt : GE) (acc : List D) : lcL t test elt ρ [] st acc = some (acc, st) := rfl
theorem lcL_cons (t : Tg) (test : GT) (elt : GE) (x : D) (xs acc : List D) : lcL t test elt ρ (x :: xs) st acc = (bindTg t x ρ).bind fun ρ1 => (test ρ1 st).bind fun p => if p.1 = true then (elt ρ1 p.2).bind fun q => (frz 4 q.1 q.2).bind fun y => if acc.length < 1000000 then lcL t test elt ρ xs y.2 (acc ++ [y.1]) else none
      else lcL t test elt ρ xs p.2 acc := rfl
/-- a comprehension over a list that lies in the store -/
theorem lcG_sto {k : Nat} {ds : List D} {t : Tg} {test : GT} {elt : GE} (hs : st[k]? = some (.lst (ds.map .d))) (pure : ∀ x ∈ ds, ∀ ρ1, bindTg t x ρ = some ρ1 → ∃ b, test ρ1 st = some (b, st) ∧ (b = true → ∃ c y, elt ρ1 st = some (c, st) ∧ frz 4 c st = some (y, st))) :
    ∀ (m i : Nat) (acc : List D), i + m = ds.length → lcG t test elt (.sto k) ρ (m + 1) i st acc = lcL t test elt ρ (ds.drop i) st acc
  | 0, i, acc, h => by
    rw [List.drop_of_length_le (by omega)]
    have e : itemAt st (.sto k) i = some none := by
      unfold itemAt
      dsimp only
      rw [hs]
      dsimp only
      rw [List.getElem?_eq_none (by rw [List.length_map]; omega)]
    show ((itemAt st (.sto k) i).bind _) = _
    rw [e]
    rfl
  | m + 1, i, acc, h => by
    have hi : i < ds.length := by omega
    have e : itemAt st (.sto k) i = some (some ds[i]) := by
      unfold itemAt
      dsimp only
      rw [hs]
      dsimp only
      rw [List.getElem?_map, List.getElem?_eq_getElem hi]
      rfl
    rw [List.drop_eq_getElem_cons hi, lcL_cons]
    show ((itemAt st (.sto k) i).bind _) = _
    rw [e]
    show (bindTg t ds[i] ρ).bind _ = (bindTg t ds[i] ρ).bind _
    cases hb : bindTg t ds[i] ρ with
    | none => rfl
    | some ρ1 =>
      obtain ⟨b, h1, h2⟩ := pure ds[i] (List.getElem_mem hi) ρ1 hb
      simp only [Option.bind_some]
      rw [h1]
      simp only [Option.bind_some]
      cases b with
      | false =>
        rw [if_neg (by simp), if_neg (by simp)]
        exact lcG_sto hs pure m (i + 1) acc (by omega)
      | true =>
        obtain ⟨c, y, h3, h4⟩ := h2 rfl
        rw [if_pos rfl, if_pos rfl, h3]
        simp only [Option.bind_some]
        rw [h4]
        simp only [Option.bind_some]
        rw [lcG_sto hs pure m (i + 1) (acc ++ [y]) (by omega)]
/-- the same over a mapped list -/
theorem lcL_mp {α : Type} (t : Tg) (elt : GE) (g f : α → D) : ∀ (as : List α) (acc : List D), (∀ a ∈ as, ∃ ρ1 c, bindTg t (g a) ρ = some ρ1 ∧ elt ρ1 st = some (c, st) ∧ frz 4 c st = some (f a, st)) → acc.length + as.length ≤ 1000000 →
    lcL t gYes elt ρ (as.map g) st acc = some (acc ++ as.map f, st)
  | [], acc, _, _ => by simp [lcL]
  | a :: as, acc, h, hl => by
    obtain ⟨ρ1, c, h1, h2, h3⟩ := h a (by simp)
    rw [List.length_cons] at hl
    have ih := lcL_mp t elt g f as (acc ++ [f a]) (fun b hb => h b (by simp [hb])) (by simp; omega)
    show (bindTg t (g a) ρ).bind _ = _
    rw [h1]
    show (elt ρ1 st).bind _ = _
    rw [h2]
    show (frz 4 c st).bind _ = _
    rw [h3]
    show (if acc.length < 1000000 then lcL t gYes elt ρ (as.map g) st (acc ++ [f a]) else none) = _
    rw [if_pos (by omega), ih]
    simp
theorem len_app (x y : Str) : (x ++ y).length = x.length + y.length := by
  rw [TL.len_tl, TL.tl_append, List.length_append, ← TL.len_tl, ← TL.len_tl]
theorem add_s {x y : Str} (h : x.length + y.length ≤ 1000000) : addD (.str x) (.str y) = some (.str (x ++ y)) := if_pos h
/-- pure elements, no test: a map -/
theorem lcL_map (t : Tg) (elt : GE) (f : D → D) (P : D → Prop) (h : ∀ x, P x → ∃ ρ1 c, bindTg t x ρ = some ρ1 ∧ elt ρ1 st = some (c, st) ∧ frz 4 c st = some (f x, st)) :
    ∀ (xs acc : List D), (∀ x ∈ xs, P x) → acc.length + xs.length ≤ 1000000 → lcL t gYes elt ρ xs st acc = some (acc ++ xs.map f, st)
  | [], acc, _, _ => by simp [lcL]
  | x :: xs, acc, hp, hl => by
    obtain ⟨ρ1, c, h1, h2, h3⟩ := h x (hp x (by simp))
    rw [List.length_cons] at hl
    have ih := lcL_map t elt f P h xs (acc ++ [f x]) (fun y hy => hp y (by simp [hy])) (by simp; omega)
    show (bindTg t x ρ).bind _ = _
    rw [h1]
    show (elt ρ1 st).bind _ = _
    rw [h2]
    show (frz 4 c st).bind _ = _
    rw [h3]
    show (if acc.length < 1000000 then lcL t gYes elt ρ xs st (acc ++ [f x]) else none) = _
    rw [if_pos (by omega), ih]
    simp
end
end DL
/-! LC: comprehensions with a test, loops that look for something. -/
namespace DL
open PySem PySem.Spec PyProof.Rows L2
section
variable {ρ : Env} {st : Sto}
theorem lcL_filter {α : Type} (t : Tg) (test : GT) (elt : GE) (g f : α → D) (p : α → Bool) : ∀ (as : List α) (acc : List D), (∀ a ∈ as, ∃ ρ1, bindTg t (g a) ρ = some ρ1 ∧ test ρ1 st = some (p a, st) ∧ (p a = true → ∃ c, elt ρ1 st = some (c, st) ∧ frz 4 c st = some (f a, st))) → acc.length + as.length ≤ 1000000 →
    lcL t test elt ρ (as.map g) st acc = some (acc ++ (as.filter p).map f, st)
  | [], acc, _, _ => by simp [lcL]
  | a :: as, acc, h, hl => by
    obtain ⟨ρ1, h1, h2, h3⟩ := h a (by simp)
    rw [List.length_cons] at hl
    rw [List.map_cons, lcL_cons, h1, Option.bind_some, h2, Option.bind_some]
    cases hp : p a with
    | false =>
      rw [if_neg (by simp), lcL_filter t test elt g f p as acc (fun b hb => h b (by simp [hb])) (by omega), List.filter_cons, hp]
      rfl
    | true =>
      obtain ⟨c, h4, h5⟩ := h3 hp
      rw [if_pos rfl, h4, Option.bind_some, h5, Option.bind_some, if_pos (by omega), lcL_filter t test elt g f p as (acc ++ [f a]) (fun b hb => h b (by simp [hb])) (by simp; omega), List.filter_cons, hp]
      simp
/-- over what gives its items -/
theorem eLc_it {α : Type} {vs : List Nat} {t : Tg} {gi : GI} {test : GT} {elt : GE} (as : List α) (g f : α → D) (p : α → Bool) (hgi : gi ρ st = some (.items (as.map g), st)) (hl : as.length ≤ 1000000)
    (h : ∀ a ∈ as, ∃ ρ1, bindTg t (g a) (wipeE ρ vs) = some ρ1 ∧ test ρ1 st = some (p a, st) ∧ (p a = true → ∃ c, elt ρ1 st = some (c, st) ∧ frz 4 c st = some (f a, st))) : eLc vs t gi test elt ρ st = some (.d (.lst ((as.filter p).map f)), st) := by
  rw [eLc_ev, hgi, Option.bind_some, lcK_i, lcL_filter t test elt g f p as [] h (by simpa using hl)]
  rfl
/-- over a list of the store -/
theorem eLc_st {α : Type} {vs : List Nat} {t : Tg} {gi : GI} {test : GT} {elt : GE} {k : Nat} (as : List α) (g f : α → D) (p : α → Bool) (hgi : gi ρ st = some (.sto k, st)) (hs : st[k]? = some (.lst ((as.map g).map .d))) (hl : as.length ≤ 1000000)
    (h : ∀ a ∈ as, ∃ ρ1, bindTg t (g a) (wipeE ρ vs) = some ρ1 ∧ test ρ1 st = some (p a, st) ∧ (p a = true → ∃ c, elt ρ1 st = some (c, st) ∧ frz 4 c st = some (f a, st))) : eLc vs t gi test elt ρ st = some (.d (.lst ((as.filter p).map f)), st) := by
  have hn : srcLen st (.sto k) = (as.map g).length := by
    unfold srcLen
    dsimp only
    rw [hs]
    simp
  rw [eLc_ev, hgi, Option.bind_some]
  show ((lcG t test elt (.sto k) (wipeE ρ vs) (srcLen st (.sto k) + 1) 0 st []).map _) = _
  rw [hn, lcG_sto (ds := as.map g) hs (fun x hx ρ1 hb => by
    obtain ⟨a, ha, rfl⟩ := List.mem_map.mp hx
    obtain ⟨ρ2, h1, h2, h3⟩ := h a ha
    rw [h1] at hb
    cases hb
    refine ⟨_, h2, fun hp => ?_⟩
    obtain ⟨c, h4, h5⟩ := h3 hp
    exact ⟨c, _, h4, h5⟩) (as.map g).length 0 [] (by omega), List.drop_zero, lcL_filter t test elt g f p as [] h (by simpa using hl)]
  rfl
/-- a loop that returns at the first that it looks for -/
theorem forL_find {α : Type} {t : Tg} {body : GS} (Inv : Env → Prop) (g : α → D) (p : α → Bool) (c : α → C) : ∀ (as : List α), (∀ a ∈ as, ∀ ρ, Inv ρ → ∃ ρ1, bindTg t (g a) ρ = some ρ1 ∧ (p a = true → body ρ1 st = some (.rt (c a) st)) ∧ (p a = false → ∃ ρ2, body ρ1 st = some (.nx ρ2 st) ∧ Inv ρ2)) →
    ∀ ρ, Inv ρ → (∀ a, as.find? p = some a → forL t body (as.map g) ρ st = some (.rt (c a) st)) ∧ (as.find? p = none → ∃ ρ', Inv ρ' ∧ forL t body (as.map g) ρ st = some (.nx ρ' st))
  | [], _, ρ, hi => ⟨fun a h => (nomatch h), fun _ => ⟨ρ, hi, rfl⟩⟩
  | a :: as, h, ρ, hi => by
    obtain ⟨ρ1, h1, h2, h3⟩ := h a (by simp) ρ hi
    cases hp : p a with
    | true =>
      refine ⟨fun b hb => ?_, fun hb => ?_⟩
      · rw [List.find?_cons, hp] at hb
        cases hb
        rw [List.map_cons, forL_cons, h1, Option.bind_some, h2 hp, Option.bind_some]
        rfl
      · rw [List.find?_cons, hp] at hb
        cases hb
    | false =>
      obtain ⟨ρ2, h4, h5⟩ := h3 hp
      obtain ⟨i1, i2⟩ := forL_find Inv g p c as (fun b hb => h b (by simp [hb])) ρ2 h5
      have e : forL t body ((a :: as).map g) ρ st = forL t body (as.map g) ρ2 st := by
        rw [List.map_cons, forL_cons, h1, Option.bind_some, h4, Option.bind_some]
        rfl
      rw [e]
      refine ⟨fun b hb => i1 b ?_, fun hb => i2 ?_⟩
      · rw [List.find?_cons, hp] at hb
        exact hb
      · rw [List.find?_cons, hp] at hb
        exact hb
end
end DL
namespace DL
open PySem PySem.Spec PyProof.Rows L2
/-- a loop of which each turn puts something behind a list: S tells the store of what was put there -/
theorem forL_apps {α : Type} {t : Tg} {body : GS} (Inv : Env → Prop) (S : List D → Sto) (g : α → D) (f : α → List D) : ∀ (as : List α), (∀ a ∈ as, ∀ ρ acc, Inv ρ → acc.length + (f a).length ≤ 1000000 → ∃ ρ1 ρ2, bindTg t (g a) ρ = some ρ1 ∧ body ρ1 (S acc) = some (.nx ρ2 (S (acc ++ f a))) ∧ Inv ρ2) →
    ∀ ρ acc, Inv ρ → acc.length + (as.flatMap f).length ≤ 1000000 → ∃ ρ', Inv ρ' ∧ forL t body (as.map g) ρ (S acc) = some (.nx ρ' (S (acc ++ as.flatMap f)))
  | [], _, ρ, acc, hi, _ => ⟨ρ, hi, by simp [forL]⟩
  | a :: as, h, ρ, acc, hi, hl => by
    rw [List.flatMap_cons, List.length_append] at hl
    obtain ⟨ρ1, ρ2, h1, h2, h3⟩ := h a (by simp) ρ acc hi (by omega)
    obtain ⟨ρ', i1, i2⟩ := forL_apps Inv S g f as (fun b hb => h b (by simp [hb])) ρ2 (acc ++ f a) h3 (by rw [List.length_append]; omega)
    refine ⟨ρ', i1, ?_⟩
    rw [List.map_cons, forL_cons, h1, Option.bind_some, h2, Option.bind_some, stepK_nx, i2, List.flatMap_cons, List.append_assoc]
theorem flatMap_if {α β : Type} (p : α → Bool) (f : α → β) : ∀ as : List α, (as.flatMap fun a => if p a = true then [f a] else []) = (as.filter p).map f
  | [] => rfl
  | a :: as => by
    rw [List.flatMap_cons, flatMap_if p f as, List.filter_cons]
    cases p a <;> rfl
end DL
namespace Lw
open PySem PySem.Spec PyProof.Rows L2 DL
/-- the box: what is drawn, and how far -/
def box (ds : List Int) (n : Nat) : SO := .lst [.d (.lst (ds.map .int)), .d (.int (n : Nat))]
def drw (ds : List Int) (n : Nat) (m : Int) : Int := if n < ds.length then (ds.getD n 0) % m else ((n : Int) * 7 + 3) % m
theorem drw_nn {ds : List Int} {n : Nat} {m : Int} (h : 0 < m) : 0 ≤ drw ds n m := by
  unfold drw
  split <;> exact Int.emod_nonneg _ (by omega)
theorem drw_lt {ds : List Int} {n : Nat} {m : Int} (h : 0 < m) : drw ds n m < m := by
  unfold drw
  split <;> exact Int.emod_lt_of_pos _ h
theorem G_draw_ok (ds : List Int) (n : Nat) (m : Int) (hm : 0 < m) : G_lw_draw [some (.p 0), some (.d (.int m)), none] [box ds n] = some (.rt (.d (.int (drw ds n m))) [box ds (n + 1)]) := by
  unfold G_lw_draw
  by_cases h : n < ds.length
  · simp [box, DL.tB, ltD, modD, drw, h, hm]
  · simp [box, DL.tB, ltD, modD, drw, h, hm]
@[simp] theorem draw_ok (ds : List Int) (n : Nat) (m : Int) (hm : 0 < m) : phi_lw_draw [.p 0, .d (.int m)] [box ds n] = some (.d (.int (drw ds n m)), [box ds (n + 1)]) := by
  unfold phi_lw_draw
  rw [fnD_ev 3 2 G_lw_draw [.p 0, .d (.int m)] rfl]
  simp [G_draw_ok ds n m hm]
  simp [box]
@[simp] theorem flat_box (ds : List Int) (n : Nat) : flatSO (box ds n) = true := rfl
@[simp] theorem ok_box (ds : List Int) (n k : Nat) : okSO k (box ds n) = true := rfl
def amt (ds : List Int) (n : Nat) : Int := ([0, 1, 2, 3, 5, 9, 99, drw ds n 20] : List Int).getD (drw ds (n + 1) 8).toNat 0
theorem cases8 {i : Int} (h : 0 ≤ i) (h8 : i < 8) : i = 0 ∨ i = 1 ∨ i = 2 ∨ i = 3 ∨ i = 4 ∨ i = 5 ∨ i = 6 ∨ i = 7 := by omega
theorem amt_in (ds : List Int) (n : Nat) : 0 ≤ amt ds n ∧ amt ds n ≤ 99 := by
  have a := drw_nn (ds := ds) (n := n) (m := 20) (by omega)
  have b := drw_lt (ds := ds) (n := n) (m := 20) (by omega)
  unfold amt
  rcases cases8 (drw_nn (ds := ds) (n := n + 1) (m := 8) (by omega)) (drw_lt (by omega)) with h | h | h | h | h | h | h | h <;> rw [h] <;> simp <;> omega
theorem G_amount_ok (ds : List Int) (n : Nat) : G_lw_amount [some (.p 0)] [box ds n] = some (.rt (.d (.int (amt ds n))) [box ds (n + 2)]) := by
  unfold G_lw_amount amt
  rcases cases8 (drw_nn (ds := ds) (n := n + 1) (m := 8) (by omega)) (drw_lt (by omega)) with h | h | h | h | h | h | h | h <;> simp [h]
@[simp] theorem amount_ok (ds : List Int) (n : Nat) : phi_lw_amount [.p 0] [box ds n] = some (.d (.int (amt ds n)), [box ds (n + 2)]) := by
  unfold phi_lw_amount
  rw [fnD_ev 1 1 G_lw_amount [.p 0] rfl]
  simp [G_amount_ok ds n]
def amts (ds : List Int) : Nat → Nat → List Int
  | _, 0 => []
  | n, k + 1 => amt ds n :: amts ds (n + 2) k
theorem amts_len (ds : List Int) : ∀ k n : Nat, (amts ds n k).length = k
  | 0, _ => rfl
  | k + 1, n => by rw [amts, List.length_cons, amts_len ds k]
theorem amts_in (ds : List Int) : ∀ k n : Nat, ∀ x ∈ amts ds n k, 0 ≤ x ∧ x ≤ 99
  | 0, _, x, h => by simp [amts] at h
  | k + 1, n, x, h => by
    rw [amts, List.mem_cons] at h
    rcases h with rfl | h
    · exact amt_in ds n
    · exact amts_in ds k (n + 2) x h
theorem lc_amt {ρ : DL.Env} {i : Nat} {ds : List Int} (h0 : ρ[0]? = some (some (C.p 0))) (hi : i ≠ 0) : ∀ (xs : List D) (st : Sto) (n : Nat) (acc : List D), st[0]? = some (box ds n) → acc.length + xs.length ≤ 1000000 →
    lcL (.n i) gYes (eCall phi_lw_amount (aC (eV 0) aN)) ρ xs st acc = some (acc ++ (amts ds n xs.length).map .int, st.set 0 (box ds (n + 2 * xs.length)))
  | [], st, n, acc, hs, _ => by
    have : st.set 0 (box ds n) = st := by
      apply List.ext_getElem?
      intro j
      by_cases e : j = 0
      · subst e
        rw [List.getElem?_set_self', hs]
        rfl
      · rw [List.getElem?_set_ne (fun e2 => e e2.symm)]
    simp [lcL, amts, this]
  | x :: xs, st, n, acc, hs, hl => by
    rw [List.length_cons] at hl
    have h1 : eCall phi_lw_amount (aC (eV 0) aN) (ρ.set i (some (.d x))) st = some (.d (.int (amt ds n)), st.set 0 (box ds (n + 2))) := by
      have : (ρ.set i (some (C.d x)))[0]? = some (some (.p 0)) := by rw [List.getElem?_set_ne hi, h0]
      simp [this, hs]
    have h2 : (st.set 0 (box ds (n + 2)))[0]? = some (box ds (n + 2)) := by
      rw [List.getElem?_set_self' , hs]
      rfl
    have ih := lc_amt h0 hi xs (st.set 0 (box ds (n + 2))) (n + 2) (acc ++ [.int (amt ds n)]) h2 (by simp; omega)
    have h3 : lcL (.n i) gYes (eCall phi_lw_amount (aC (eV 0) aN)) ρ (x :: xs) st acc = (eCall phi_lw_amount (aC (eV 0) aN) (ρ.set i (some (.d x))) st).bind fun q => (frz 4 q.1 q.2).bind fun y => if acc.length < 1000000 then lcL (.n i) gYes (eCall phi_lw_amount (aC (eV 0) aN)) ρ xs y.2 (acc ++ [y.1]) else none := rfl
    rw [h3, h1]
    show (if acc.length < 1000000 then _ else none) = _
    rw [if_pos (by omega), ih]
    simp [amts, Nat.mul_add, Nat.add_assoc, Nat.add_comm]
end Lw
namespace Lw
open PySem PySem.Spec PyProof.Rows L2 DL
structure Site where
  name : PySem.Str
  nxt : Option PySem.Str
  trav : Int
  reach : Option Int
  room : Int
  held : Int
  ins : List Int
structure Rgt where
  name : PySem.Str
  site : PySem.Str
  wants : List Int
def oS : Option PySem.Str → D
  | none => .non
  | some x => .str x
def oN' : Option Int → D
  | none => .non
  | some x => .int x
def siteD (s : Site) : D := .tup [.str s.name, oS s.nxt, .int s.trav, oN' s.reach, .int s.room, .int s.held, .tup (s.ins.map .int)]
def rgtD (r : Rgt) : D := .tup [.str r.name, .str r.site, .tup (r.wants.map .int)]
def basD (m : Nat) (ss : List Site) : D := .tup [.int (m : Nat), .tup (ss.map siteD)]
def names4 : List PySem.Str := ["up", "dale", "weir", "mouth"]
structure SiteOk (nms : List PySem.Str) (m : Nat) (s : Nat) (x : Site) : Prop where
  name : nms[s]? = some x.name
  nxt : (s + 1 = nms.length ∧ x.nxt = none) ∨ (∃ (j : Nat) (y : PySem.Str), s < j ∧ nms[j]? = some y ∧ x.nxt = some y)
  trav : 0 ≤ x.trav ∧ x.trav ≤ 2
  tr0 : x.nxt = none → x.trav = 0
  reach : ∀ r, x.reach = some r → 0 ≤ r ∧ r ≤ 99
  re0 : x.nxt = none → x.reach = none
  room : 0 ≤ x.room ∧ x.room ≤ 99
  held : 0 ≤ x.held ∧ x.held ≤ x.room
  ins : x.ins.length = m ∧ ∀ a ∈ x.ins, 0 ≤ a ∧ a ≤ 99
/-! ### the pieces of the loop's body -/
def B1 : GS := sIf (DL.tB (eOp ltD (eOp addD (eV 5) (eK (.int 1))) (eV 2))) (sSeq (sSet 6 (eOp ixD (eV 3) (eOp addD (eOp addD (eV 5) (eK (.int 1))) (eCall phi_lw_draw (aC (eV 0) (aC (eOp subD (eOp subD (eV 2) (eV 5)) (eK (.int 1))) aN))))))
    (sSeq (sSet 7 (eOp ixD (eLst (aC (eK (.int 0)) (aC (eK (.int 0)) (aC (eK (.int 1)) (aC (eK (.int 2)) aN))))) (eCall phi_lw_draw (aC (eV 0) (aC (eK (.int 4)) aN)))))
    (sSet 8 (eOp ixD (eLst (aC (eK .non) (aC (eK .non) (aC (eCall phi_lw_amount (aC (eV 0) aN)) (aC (eCall phi_lw_draw (aC (eV 0) (aC (eK (.int 6)) aN))) aN))))) (eCall phi_lw_draw (aC (eV 0) (aC (eK (.int 4)) aN))))))) sNx
def B2 : GS := sSeq (sSet 9 (eOp ixD (eLst (aC (eK (.int 0)) (aC (eCall phi_lw_amount (aC (eV 0) aN)) (aC (eCall phi_lw_draw (aC (eV 0) (aC (eK (.int 9)) aN))) aN)))) (eCall phi_lw_draw (aC (eV 0) (aC (eK (.int 3)) aN)))))
    (sSeq (sSet 10 (eOp mulD (eCall phi_lw_draw (aC (eV 0) (aC (eOp addD (eV 9) (eK (.int 1))) aN))) (eCB DL.intD (aC (eOp (eqD false) (eCall phi_lw_draw (aC (eV 0) (aC (eK (.int 3)) aN))) (eK (.int 0))) aN))))
    (sEx (eApp (eV 4) (eTup (aC (eOp ixD (eV 3) (eV 5)) (aC (eV 6) (aC (eV 7) (aC (eV 8) (aC (eV 9) (aC (eV 10) (aC (eCB tupleD (aC (eLc [11] (.n 11) (iR1 (aC (eV 1) aN)) gYes (eCall phi_lw_amount (aC (eV 0) aN))) aN)) aN)))))))))))
def B0 : GS := sSeq (sSet 6 (eK .non)) (sSeq (sSet 7 (eK (.int 0))) (sSeq (sSet 8 (eK .non)) (sSeq B1 B2)))
theorem G_basin_eq : G_lw_basin = (sSeq (sSet 1 (eOp addD (eK (.int 1)) (eCall phi_lw_draw (aC (eV 0) (aC (eK (.int 4)) aN)))))
    (sSeq (sSet 2 (eOp addD (eK (.int 1)) (eCall phi_lw_draw (aC (eV 0) (aC (eK (.int 4)) aN)))))
    (sSeq (sSet 3 (eSl (eLst (aC (eK (.str "up")) (aC (eK (.str "dale")) (aC (eK (.str "weir")) (aC (eK (.str "mouth")) aN))))) (oI (eOp subD (eK (.int 4)) (eV 2))) oN))
    (sSeq (sNew 4 (eLst aN))
    (sSeq (sFor (.n 5) (iR1 (aC (eV 2) aN)) B0)
    (sRt (eTup (aC (eV 1) (aC (eCB tupleD (aC (eV 4) aN)) aN)))))))) ) := rfl
theorem cases3 {i : Int} (h : 0 ≤ i) (h8 : i < 3) : i = 0 ∨ i = 1 ∨ i = 2 := by omega
theorem cases4 {i : Int} (h : 0 ≤ i) (h8 : i < 4) : i = 0 ∨ i = 1 ∨ i = 2 ∨ i = 3 := by omega
theorem room_ok (ds : List Int) (n : Nat) : ∃ r : Int, 0 ≤ r ∧ r ≤ 99 ∧ atI [D.int 0, D.int (amt ds n), D.int (drw ds (n + 2) 9)] (drw ds (n + 2 + 1) 3) = some (.int r) := by
  have a := amt_in ds n
  have b := drw_nn (ds := ds) (n := n + 2) (m := 9) (by omega)
  have c := drw_lt (ds := ds) (n := n + 2) (m := 9) (by omega)
  rcases cases3 (drw_nn (ds := ds) (n := n + 2 + 1) (m := 3) (by omega)) (drw_lt (by omega)) with h | h | h <;> rw [h]
  · exact ⟨0, by omega, by omega, by simp⟩
  · exact ⟨amt ds n, by omega, by omega, by simp⟩
  · exact ⟨drw ds (n + 2) 9, by omega, by omega, by simp⟩
theorem trav_ok (ds : List Int) (n : Nat) : ∃ r : Int, 0 ≤ r ∧ r ≤ 2 ∧ atI [D.int 0, D.int 0, D.int 1, D.int 2] (drw ds n 4) = some (.int r) := by
  rcases cases4 (drw_nn (ds := ds) (n := n) (m := 4) (by omega)) (drw_lt (by omega)) with h | h | h | h <;> rw [h]
  · exact ⟨0, by omega, by omega, by simp⟩
  · exact ⟨0, by omega, by omega, by simp⟩
  · exact ⟨1, by omega, by omega, by simp⟩
  · exact ⟨2, by omega, by omega, by simp⟩
theorem reach_ok (ds : List Int) (n : Nat) : ∃ r : Option Int, (∀ x, r = some x → 0 ≤ x ∧ x ≤ 99) ∧ atI [D.non, D.non, D.int (amt ds n), D.int (drw ds (n + 2) 6)] (drw ds (n + 2 + 1) 4) = some (oN' r) := by
  have a := amt_in ds n
  have b := drw_nn (ds := ds) (n := n + 2) (m := 6) (by omega)
  have c := drw_lt (ds := ds) (n := n + 2) (m := 6) (by omega)
  rcases cases4 (drw_nn (ds := ds) (n := n + 2 + 1) (m := 4) (by omega)) (drw_lt (by omega)) with h | h | h | h <;> rw [h]
  · exact ⟨none, (fun x h => nomatch h), by simp [oN']⟩
  · exact ⟨none, (fun x h => nomatch h), by simp [oN']⟩
  · exact ⟨some (amt ds n), (fun x h => by cases h; omega), by simp [oN']⟩
  · exact ⟨some (drw ds (n + 2) 6), (fun x h => by cases h; omega), by simp [oN']⟩
def stS (ds : List Int) (n : Nat) (ss : List Site) : Sto := [box ds n, .lst (ss.map fun x => .d (siteD x))]
theorem B1_last {ds : List Int} {n s many : Nat} {m : Int} {nl o9 o10 o11 : Option C} {st : Sto} (h : s + 1 = many) :
    B1 [some (.p 0), some (.d (.int m)), some (.d (.int (many : Nat))), nl, some (.p 1), some (.d (.int (s : Nat))), some (.d .non), some (.d (.int 0)), some (.d .non), o9, o10, o11] st
      = some (.nx [some (.p 0), some (.d (.int m)), some (.d (.int (many : Nat))), nl, some (.p 1), some (.d (.int (s : Nat))), some (.d .non), some (.d (.int 0)), some (.d .non), o9, o10, o11] st) := by
  have : ¬ ((s : Int) + 1 < (many : Int)) := by omega
  unfold B1
  simp [ltD, this]
theorem B1_more {ds : List Int} {n s many : Nat} {m : Int} {nms : List PySem.Str} {o9 o10 o11 : Option C} {r : SO} (h : s + 1 < many) (hl : nms.length = many) :
    ∃ (j : Nat) (y : PySem.Str) (t : Int) (re : Option Int) (n' : Nat), s < j ∧ nms[j]? = some y ∧ 0 ≤ t ∧ t ≤ 2 ∧ (∀ x, re = some x → 0 ≤ x ∧ x ≤ 99) ∧
    B1 [some (.p 0), some (.d (.int m)), some (.d (.int (many : Nat))), some (.d (.lst (nms.map .str))), some (.p 1), some (.d (.int (s : Nat))), some (.d .non), some (.d (.int 0)), some (.d .non), o9, o10, o11] [box ds n, r]
      = some (.nx [some (.p 0), some (.d (.int m)), some (.d (.int (many : Nat))), some (.d (.lst (nms.map .str))), some (.p 1), some (.d (.int (s : Nat))), some (.d (.str y)), some (.d (.int t)), some (.d (oN' re)), o9, o10, o11] [box ds n', r]) := by
  have q : ((s : Int) + 1 < (many : Int)) := by omega
  have pos : (0 : Int) < (many : Int) - s - 1 := by omega
  have a := drw_nn (ds := ds) (n := n) pos
  have b := drw_lt (ds := ds) (n := n) pos
  obtain ⟨k, hk⟩ := Int.eq_ofNat_of_zero_le a
  obtain ⟨t, t0, t1, ht⟩ := trav_ok ds (n + 1)
  obtain ⟨re, hre, hr⟩ := reach_ok ds (n + 1 + 1)
  have hj : s + 1 + k < nms.length := by omega
  refine ⟨s + 1 + k, nms[s + 1 + k], t, re, n + 1 + 1 + 2 + 1 + 1, by omega, List.getElem?_eq_getElem hj, t0, t1, hre, ?_⟩
  have e1 : atI (nms.map D.str) ((s : Int) + 1 + (k : Int)) = some (.str nms[s + 1 + k]) := by
    have : ((s : Int) + 1 + (k : Int)) = ((s + 1 + k : Nat) : Int) := by omega
    rw [this, atI_k, List.getElem?_map, List.getElem?_eq_getElem hj]
    rfl
  unfold B1
  simp [ltD, q, subD, draw_ok ds n _ pos, hk, e1, ht, hr]
end Lw
/-! B1: digits for any number of cells, rows of draws. -/
namespace Lw
open PySem PySem.Spec PyProof.Rows L2 DL
theorem pow1018 : powD (.int 10) (.int 18) = some (.int 1000000000000000000) := rfl
theorem cell_ok (ns : List Int) (k : Nat) : phi_lw_cell [.d (.wls (ns.map .int)), .d (.int (k : Nat))] [] = some (.d (.int (ns.getD k 0)), []) := by
  have hG : G_lw_cell [some (.d (.wls (ns.map .int))), some (.d (.int (k : Nat)))] [] = some (.rt (.d (.int (ns.getD k 0))) []) := by
    unfold G_lw_cell
    by_cases h : k < ns.length
    · simp [ltD, h]
    · have h2 : ns[k]? = none := List.getElem?_eq_none (by omega)
      simp [ltD, h]
  unfold phi_lw_cell
  rw [fnD_ev 2 2 G_lw_cell [.d (.wls (ns.map .int)), .d (.int (k : Nat))] rfl]
  simp [hG]
def dg (ds : List Int) : SO := .lst (ds.map fun i => .d (.int i))
def Q60 : GS := sIf (DL.tB (eOp gtD (eV 5) (eK (.int 0)))) (sSeq (sEx (eApp (eV 3) (eOp modD (eCB DL.intD (aC (eV 5) aN)) (eK (.int 1000)))))
    (sSet 5 (eOp divD (eV 5) (eK (.int 1000))))) sNx
def Q12 : GS := sSeq (sSet 7 (eOp modD (eCB DL.intD (aC (eOp addD (eOp addD (eOp mulD (eV 7) (eK (.int 16807))) (eOp mulD (eK (.int 7)) (eV 6))) (eK (.int 1))) aN)) (eK (.int 2147483647))))
    (sEx (eApp (eV 3) (eOp modD (eCB DL.intD (aC (eOp divD (eV 7) (eK (.int 997))) aN)) (eK (.int 1000)))))
def Q50 : GS := sSeq (sSet 5 (eCall phi_lw_cell (aC (eV 0) (aC (eV 4) aN))))
    (sSeq (sIf (DL.tB (eOp ltD (eV 5) (eK (.int 0)))) (sSet 5 (eOp subD (eK (.int 1)) (eOp mulD (eK (.int 2)) (eV 5)))) sNx)
    (sIf (DL.tB (eOp geD (eV 5) (eOp powD (eK (.int 10)) (eK (.int 18))))) (sFor (.n 6) (iR1 (aC (eK (.int 60)) aN)) Q60) (sSeq (sSet 7 (eOp modD (eCB DL.intD (aC (eOp addD (eOp addD (eOp mulD (eV 5) (eK (.int 48271))) (eOp mulD (eV 4) (eK (.int 69621)))) (eK (.int 11))) aN)) (eK (.int 2147483647))))
    (sFor (.n 6) (iR1 (aC (eK (.int 12)) aN)) Q12))))
theorem G_digits_eq : G_lw_digits = (sSeq (sNew 3 (eLst aN)) (sSeq (sFor (.n 4) (iR2 (aC (eV 1) (aC (eV 2) aN))) Q50) (sRt (eV 3)))) := rfl
theorem rng_int {n : Nat} : ∀ y ∈ rngD 0 n, ∃ k : Nat, y = .int (k : Nat) := fun y h => by
  simp only [rngD, List.mem_map, List.mem_range] at h
  obtain ⟨i, _, rfl⟩ := h
  exact ⟨i, by simp⟩
theorem loop60 {o0 o1 o2 o4 : Option C} (xs : List D) (c : Int) (o6 o7 : Option C) (ds : List Int) (h : ds.length + xs.length < 1000000) :
    ∃ (c' : Int) (o6' o7' : Option C) (ds' : List Int), ds'.length ≤ ds.length + xs.length ∧ forL (.n 6) Q60 xs [o0, o1, o2, some (.p 0), o4, some (.d (.int c)), o6, o7] [dg ds] = some (.nx [o0, o1, o2, some (.p 0), o4, some (.d (.int c')), o6', o7'] [dg ds']) := by
  obtain ⟨ρ', st', e, c', o6', o7', ds', rfl, rfl, hl⟩ := forL_inv (t := .n 6) (body := Q60) (fun rem ρ st => ∃ (c : Int) (o6 o7 : Option C) (ds' : List Int), ρ = [o0, o1, o2, some (.p 0), o4, some (.d (.int c)), o6, o7] ∧ st = [dg ds'] ∧ ds'.length + rem.length ≤ ds.length + xs.length) (fun x rem ρ st q => by
    obtain ⟨c, o6, o7, ds', rfl, rfl, hl⟩ := q
    rw [List.length_cons] at hl
    have hlt : ds'.length < 1000000 := by omega
    by_cases hc : 0 < c
    · refine ⟨_, _, _, rfl, ?_, c / 1000, some (.d x), o7, ds' ++ [c % 1000], rfl, rfl, by rw [List.length_append]; show ds'.length + 1 + _ ≤ _; omega⟩
      unfold Q60
      simp [gtD, modD, divD, hc, dg, hlt]
    · refine ⟨_, _, _, rfl, ?_, c, some (.d x), o7, ds', rfl, rfl, by omega⟩
      unfold Q60
      simp [gtD, hc]) xs _ [dg ds] ⟨c, o6, o7, ds, rfl, rfl, Nat.le_refl _⟩
  exact ⟨c', o6', o7', ds', by simpa using hl, e⟩
theorem loop12 {o0 o1 o2 o4 o5 : Option C} (xs : List D) (hi : ∀ y ∈ xs, ∃ k : Nat, y = .int (k : Nat)) (c : Int) (o6 : Option C) (ds : List Int) (h : ds.length + xs.length < 1000000) :
    ∃ (o6' o7' : Option C) (ds' : List Int), ds'.length ≤ ds.length + xs.length ∧ forL (.n 6) Q12 xs [o0, o1, o2, some (.p 0), o4, o5, o6, some (.d (.int c))] [dg ds] = some (.nx [o0, o1, o2, some (.p 0), o4, o5, o6', o7'] [dg ds']) := by
  obtain ⟨ρ', st', e, c', o6', ds', rfl, rfl, hl, _⟩ := forL_inv (t := .n 6) (body := Q12) (fun rem ρ st => ∃ (c : Int) (o6 : Option C) (ds' : List Int), ρ = [o0, o1, o2, some (.p 0), o4, o5, o6, some (.d (.int c))] ∧ st = [dg ds'] ∧ ds'.length + rem.length ≤ ds.length + xs.length ∧ ∀ y ∈ rem, ∃ k : Nat, y = .int (k : Nat)) (fun x rem ρ st q => by
    obtain ⟨c, o6, ds', rfl, rfl, hl, hy⟩ := q
    rw [List.length_cons] at hl
    obtain ⟨k, rfl⟩ := hy x (by simp)
    have hlt : ds'.length < 1000000 := by omega
    refine ⟨_, _, _, rfl, ?_, (c * 16807 + 7 * (k : Int) + 1) % 2147483647, some (.d (.int k)), ds' ++ [(c * 16807 + 7 * (k : Int) + 1) % 2147483647 / 997 % 1000], rfl, rfl, by rw [List.length_append]; show ds'.length + 1 + _ ≤ _; omega, fun y h => hy y (by simp [h])⟩
    unfold Q12
    simp [modD, divD, dg, hlt]) xs _ [dg ds] ⟨c, o6, ds, rfl, rfl, Nat.le_refl _, hi⟩
  exact ⟨o6', _, ds', by simpa using hl, e⟩
theorem Q50_ok {ns : List Int} {o1 o2 : Option C} (k : Nat) (o5 o6 o7 : Option C) (ds : List Int) (h : ds.length + 60 < 1000000) :
    ∃ (o5' o6' o7' : Option C) (ds' : List Int), ds'.length ≤ ds.length + 60 ∧ Q50 [some (.d (.wls (ns.map .int))), o1, o2, some (.p 0), some (.d (.int (k : Nat))), o5, o6, o7] [dg ds] = some (.nx [some (.d (.wls (ns.map .int))), o1, o2, some (.p 0), some (.d (.int (k : Nat))), o5', o6', o7'] [dg ds']) := by
  have hc := cell_ok ns k
  have l60 : (rngD 0 60).length = 60 := rfl
  have l12 : (rngD 0 12).length = 12 := rfl
  generalize ns.getD k 0 = c at hc
  obtain ⟨d, hd⟩ : ∃ d : Int, d = if c < 0 then 1 - 2 * c else c := ⟨_, rfl⟩
  have e0 : (sIf (DL.tB (eOp ltD (eV 5) (eK (.int 0)))) (sSet 5 (eOp subD (eK (.int 1)) (eOp mulD (eK (.int 2)) (eV 5)))) sNx) [some (.d (.wls (ns.map .int))), o1, o2, some (.p 0), some (.d (.int (k : Nat))), some (.d (.int c)), o6, o7] [dg ds] = some (.nx [some (.d (.wls (ns.map .int))), o1, o2, some (.p 0), some (.d (.int (k : Nat))), some (.d (.int d)), o6, o7] [dg ds]) := by
    by_cases h0 : c < 0
    · rw [if_pos h0] at hd
      simp [ltD, h0, subD, hd]
    · rw [if_neg h0] at hd
      simp [ltD, h0, hd]
  have ec : (sSet 5 (eCall phi_lw_cell (aC (eV 0) (aC (eV 4) aN)))) [some (.d (.wls (ns.map .int))), o1, o2, some (.p 0), some (.d (.int (k : Nat))), o5, o6, o7] [dg ds] = some (.nx [some (.d (.wls (ns.map .int))), o1, o2, some (.p 0), some (.d (.int (k : Nat))), some (.d (.int c)), o6, o7] [dg ds]) := by
    simp [hc]
  by_cases hb : 1000000000000000000 ≤ d
  · obtain ⟨c', o6', o7', ds', hl, e⟩ := loop60 (o0 := some (.d (.wls (ns.map .int)))) (o1 := o1) (o2 := o2) (o4 := some (.d (.int (k : Nat)))) (rngD 0 60) d o6 o7 ds (by omega)
    refine ⟨some (.d (.int c')), o6', o7', ds', by omega, ?_⟩
    unfold Q50
    rw [sSeq_ev, ec, Option.bind_some, seqK_nx, sSeq_ev, e0, Option.bind_some, seqK_nx]
    simp [geD, pow1018, hb, e]
  · obtain ⟨o6', o7', ds', hl, e⟩ := loop12 (o0 := some (.d (.wls (ns.map .int)))) (o1 := o1) (o2 := o2) (o4 := some (.d (.int (k : Nat)))) (o5 := some (.d (.int d))) (rngD 0 12) rng_int ((d * 48271 + (k : Int) * 69621 + 11) % 2147483647) o6 ds (by omega)
    refine ⟨some (.d (.int d)), o6', o7', ds', by omega, ?_⟩
    unfold Q50
    rw [sSeq_ev, ec, Option.bind_some, seqK_nx, sSeq_ev, e0, Option.bind_some, seqK_nx]
    simp [geD, pow1018, hb, modD, e]
theorem digits_any (ns : List Int) (q : Nat) (hq : q ≤ 100) : ∃ ds : List Int, phi_lw_digits [.d (.wls (ns.map .int)), .d (.int 0), .d (.int (q : Nat))] [] = some (.d (.lst (ds.map .int)), []) := by
  have l50 : (rngD 0 q).length = q := by simp [rngD]
  obtain ⟨ρ', st', e, o4, o5, o6, o7, ds', rfl, rfl, hl, _⟩ := forL_inv (t := .n 4) (body := Q50) (fun rem ρ st => ∃ (o4 o5 o6 o7 : Option C) (ds' : List Int), ρ = [some (.d (.wls (ns.map .int))), some (.d (.int 0)), some (.d (.int (q : Nat))), some (.p 0), o4, o5, o6, o7] ∧ st = [dg ds'] ∧ ds'.length + 60 * rem.length ≤ 6000 ∧ ∀ y ∈ rem, ∃ k : Nat, y = .int (k : Nat)) (fun x rem ρ st q => by
    obtain ⟨o4, o5, o6, o7, ds', rfl, rfl, hl, hy⟩ := q
    rw [List.length_cons] at hl
    obtain ⟨k, rfl⟩ := hy x (by simp)
    obtain ⟨o5', o6', o7', ds2, hl2, e⟩ := Q50_ok (ns := ns) (o1 := some (.d (.int 0))) (o2 := some (.d (.int (q : Nat)))) k o5 o6 o7 ds' (by omega)
    exact ⟨_, _, _, rfl, e, _, _, _, _, ds2, rfl, rfl, by omega, fun y h => hy y (by simp [h])⟩) (rngD 0 q) [some (.d (.wls (ns.map .int))), some (.d (.int 0)), some (.d (.int (q : Nat))), some (.p 0), none, none, none, none] [dg []] ⟨none, none, none, none, [], rfl, rfl, by rw [l50]; simp; omega, rng_int⟩
  refine ⟨ds', ?_⟩
  have hq6 : q < 1000000 := by omega
  have hG : G_lw_digits [some (.d (.wls (ns.map .int))), some (.d (.int 0)), some (.d (.int (q : Nat))), none, none, none, none, none] [] = some (.rt (.p 0) [dg ds']) := by
    rw [G_digits_eq]
    have e1 : (SO.lst []) = dg [] := rfl
    simp [e1, e, hq6]
  have hf : frz 4 (.p 0) [dg ds'] = some (.lst (ds'.map .int), [.fro (.lst (ds'.map .int))]) := by
    rw [frz_lst (ds := ds'.map .int) (by simp [dg])]
    rfl
  unfold phi_lw_digits
  rw [fnD_ev 8 3 G_lw_digits [.d (.wls (ns.map .int)), .d (.int 0), .d (.int (q : Nat))] rfl]
  simp [hG, fin_p, hf]
/-- a row of draws -/
def drws (ds : List Int) (m : Int) : Nat → Nat → List Int
  | _, 0 => []
  | n, k + 1 => drw ds n m :: drws ds m (n + 1) k
theorem drws_len (ds : List Int) (m : Int) : ∀ k n : Nat, (drws ds m n k).length = k
  | 0, _ => rfl
  | k + 1, n => by rw [drws, List.length_cons, drws_len ds m k]
theorem drws_in (ds : List Int) {m : Int} (hm : 0 < m) : ∀ k n : Nat, ∀ x ∈ drws ds m n k, 0 ≤ x ∧ x < m
  | 0, _, x, h => by simp [drws] at h
  | k + 1, n, x, h => by
    rw [drws, List.mem_cons] at h
    rcases h with rfl | h
    · exact ⟨drw_nn hm, drw_lt hm⟩
    · exact drws_in ds hm k (n + 1) x h
theorem set_same {α : Type} {st : List α} {k : Nat} {o : α} (h : st[k]? = some o) : st.set k o = st := by
  apply List.ext_getElem?
  intro j
  by_cases e : j = k
  · subst e
    rw [List.getElem?_set_self', h]
    rfl
  · rw [List.getElem?_set_ne (fun e2 => e e2.symm)]
theorem lc_drw {ρ : DL.Env} {i : Nat} {ds : List Int} {m : Int} (hm : 0 < m) (h0 : ρ[0]? = some (some (C.p 0))) (hi : i ≠ 0) : ∀ (xs : List D) (st : Sto) (n : Nat) (acc : List D), st[0]? = some (box ds n) → acc.length + xs.length ≤ 1000000 →
    lcL (.n i) gYes (eCall phi_lw_draw (aC (eV 0) (aC (eK (.int m)) aN))) ρ xs st acc = some (acc ++ (drws ds m n xs.length).map .int, st.set 0 (box ds (n + xs.length)))
  | [], st, n, acc, hs, _ => by
    simp [lcL, drws, set_same hs]
  | x :: xs, st, n, acc, hs, hl => by
    rw [List.length_cons] at hl
    have h1 : eCall phi_lw_draw (aC (eV 0) (aC (eK (.int m)) aN)) (ρ.set i (some (.d x))) st = some (.d (.int (drw ds n m)), st.set 0 (box ds (n + 1))) := by
      have : (ρ.set i (some (C.d x)))[0]? = some (some (.p 0)) := by rw [List.getElem?_set_ne hi, h0]
      simp [this, hs, draw_ok ds n m hm]
    have h2 : (st.set 0 (box ds (n + 1)))[0]? = some (box ds (n + 1)) := by
      rw [List.getElem?_set_self' , hs]
      rfl
    have ih := lc_drw hm h0 hi xs (st.set 0 (box ds (n + 1))) (n + 1) (acc ++ [.int (drw ds n m)]) h2 (by simp; omega)
    rw [lcL_cons, bind_n, Option.bind_some, gYes_ev, Option.bind_some, if_pos rfl, h1]
    show (if acc.length < 1000000 then _ else none) = _
    have e9 : n + 1 + xs.length = n + (xs.length + 1) := by omega
    rw [if_pos (by omega), ih, e9]
    simp [drws]
theorem rng_drop {n k : Nat} (h : k < n) : (rngD 0 n).drop k = .int (k : Nat) :: (rngD 0 n).drop (k + 1) := by
  have hl : (rngD 0 n).length = n := by simp [rngD]
  rw [List.drop_eq_getElem_cons (by rw [hl]; exact h)]
  congr 1
  simp [rngD]
/-- a for over range(n) that keeps what is said of the turn -/
theorem forR_inv {t : Tg} {body : GS} {n : Nat} (P : Nat → DL.Env → Sto → Prop) (h : ∀ k ρ st, k < n → P k ρ st → ∃ ρ1 ρ2 st2, bindTg t (.int (k : Nat)) ρ = some ρ1 ∧ body ρ1 st = some (.nx ρ2 st2) ∧ P (k + 1) ρ2 st2) :
    ∀ (ρ : DL.Env) (st : Sto), P 0 ρ st → ∃ ρ' st', forL t body (rngD 0 n) ρ st = some (.nx ρ' st') ∧ P n ρ' st' := fun ρ st h0 => by
  have hl : (rngD 0 n).length = n := by simp [rngD]
  obtain ⟨ρ', st', e, k, hk, hr, hp⟩ := forL_inv (t := t) (body := body) (fun rem ρ st => ∃ k, k ≤ n ∧ rem = (rngD 0 n).drop k ∧ P k ρ st) (fun x xs ρ st ⟨k, hk, hr, hp⟩ => by
    have hk2 : k < n := by
      rcases Nat.lt_or_ge k n with z | z
      · exact z
      · rw [List.drop_of_length_le (by omega)] at hr
        cases hr
    rw [rng_drop hk2] at hr
    cases hr
    obtain ⟨ρ1, ρ2, st2, h1, h2, h3⟩ := h k ρ st hk2 hp
    exact ⟨ρ1, ρ2, st2, h1, h2, k + 1, hk2, rfl, h3⟩) (rngD 0 n) ρ st ⟨0, Nat.zero_le _, rfl, h0⟩
  have hk3 : k = n := by
    have := congrArg List.length hr
    rw [List.length_drop, hl] at this
    simp at this
    omega
  subst hk3
  exact ⟨ρ', st', e, hp⟩
/-- a for over a list that keeps what is said of the turn -/
theorem forX_inv {t : Tg} {body : GS} {xs : List D} (P : Nat → DL.Env → Sto → Prop) (h : ∀ k x ρ st, xs[k]? = some x → P k ρ st → ∃ ρ1 ρ2 st2, bindTg t x ρ = some ρ1 ∧ body ρ1 st = some (.nx ρ2 st2) ∧ P (k + 1) ρ2 st2) :
    ∀ (ρ : DL.Env) (st : Sto), P 0 ρ st → ∃ ρ' st', forL t body xs ρ st = some (.nx ρ' st') ∧ P xs.length ρ' st' := fun ρ st h0 => by
  obtain ⟨ρ', st', e, k, hk, hr, hp⟩ := forL_inv (t := t) (body := body) (fun rem ρ st => ∃ k, k ≤ xs.length ∧ rem = xs.drop k ∧ P k ρ st) (fun x rem ρ st ⟨k, hk, hr, hp⟩ => by
    have hk2 : k < xs.length := by
      rcases Nat.lt_or_ge k xs.length with z | z
      · exact z
      · rw [List.drop_of_length_le (by omega)] at hr
        cases hr
    rw [List.drop_eq_getElem_cons hk2] at hr
    cases hr
    obtain ⟨ρ1, ρ2, st2, h1, h2, h3⟩ := h k _ ρ st (List.getElem?_eq_getElem hk2) hp
    exact ⟨ρ1, ρ2, st2, h1, h2, k + 1, hk2, rfl, h3⟩) xs ρ st ⟨0, Nat.zero_le _, rfl, h0⟩
  have hk3 : k = xs.length := by
    have := congrArg List.length hr
    rw [List.length_drop] at this
    simp at this
    omega
  subst hk3
  exact ⟨ρ', st', e, hp⟩
end Lw
/-! B2: the small basin (lw_basin_2). -/
namespace Lw
open PySem PySem.Spec PyProof.Rows L2 DL
def chS : List PySem.Str := ["a", "b", "c", "d"]
def namS : List PySem.Str := ["sa", "sb", "sc", "sd"]
def namR : List PySem.Str := ["ra", "rb", "rc", "rd"]
theorem abcd_at : ∀ k : Nat, k < 4 → ∃ c, chS[k]? = some c ∧ ixD (.str "abcd") (.int (k : Nat)) = some (.str c) ∧ (∃ z, namS[k]? = some z ∧ addD (.str "s") (.str c) = some (.str z)) ∧ (∃ z, namR[k]? = some z ∧ addD (.str "r") (.str c) = some (.str z))
  | 0, _ => ⟨_, rfl, rfl, ⟨_, rfl, rfl⟩, ⟨_, rfl, rfl⟩⟩
  | 1, _ => ⟨_, rfl, rfl, ⟨_, rfl, rfl⟩, ⟨_, rfl, rfl⟩⟩
  | 2, _ => ⟨_, rfl, rfl, ⟨_, rfl, rfl⟩, ⟨_, rfl, rfl⟩⟩
  | 3, _ => ⟨_, rfl, rfl, ⟨_, rfl, rfl⟩, ⟨_, rfl, rfl⟩⟩
  | k + 4, h => absurd h (by omega)
def C1 : GS := (sIf (DL.tB (eOp ltD (eV 4) (eOp subD (eV 1) (eK (.int 1))))) (sSeq (sSet 5 (eOp addD (eK (.str "s")) (eOp ixD (eK (.str "abcd")) (eCB DL.intD (aC (eOp addD (eOp addD (eV 4) (eK (.int 1))) (eCall phi_lw_draw (aC (eV 0) (aC (eOp subD (eOp subD (eV 1) (eV 4)) (eK (.int 1))) aN)))) aN)))))
    (sSeq (sSet 6 (eOp ixD (eLst (aC (eK (.int 0)) (aC (eK (.int 0)) (aC (eK (.int 1)) (aC (eK (.int 2)) aN))))) (eCall phi_lw_draw (aC (eV 0) (aC (eK (.int 4)) aN)))))
    (sSet 7 (eOp ixD (eLst (aC (eK .non) (aC (eK .non) (aC (eCall phi_lw_draw (aC (eV 0) (aC (eK (.int 6)) aN))) aN)))) (eCall phi_lw_draw (aC (eV 0) (aC (eK (.int 3)) aN))))))) sNx)
def C2 : GS := (sSeq (sSet 8 (eOp ixD (eLst (aC (eK (.int 0)) (aC (eCall phi_lw_draw (aC (eV 0) (aC (eK (.int 5)) aN))) (aC (eCall phi_lw_draw (aC (eV 0) (aC (eK (.int 9)) aN))) aN)))) (eCall phi_lw_draw (aC (eV 0) (aC (eK (.int 3)) aN)))))
    (sSeq (sSet 9 (eOp mulD (eCall phi_lw_draw (aC (eV 0) (aC (eOp addD (eV 8) (eK (.int 1))) aN))) (eCall phi_lw_draw (aC (eV 0) (aC (eK (.int 2)) aN)))))
    (sEx (eApp (eV 3) (eTup (aC (eOp addD (eK (.str "s")) (eOp ixD (eK (.str "abcd")) (eCB DL.intD (aC (eV 4) aN)))) (aC (eV 5) (aC (eV 6) (aC (eV 7) (aC (eV 8) (aC (eV 9) (aC (eCB tupleD (aC (eLc [10] (.n 10) (iR1 (aC (eV 2) aN)) gYes (eCall phi_lw_draw (aC (eV 0) (aC (eK (.int 8)) aN)))) aN)) aN))))))))))))
theorem basin_2_f1_eq : lw_basin_2_f1 = (sSeq (sSet 5 (eK .non)) (sSeq (sSet 6 (eK (.int 0))) (sSeq (sSet 7 (eK .non)) (sSeq C1 C2)))) := rfl
theorem room2_ok (ds : List Int) (n : Nat) : ∃ r : Int, 0 ≤ r ∧ r ≤ 8 ∧ atI [D.int 0, D.int (drw ds n 5), D.int (drw ds (n + 1) 9)] (drw ds (n + 1 + 1) 3) = some (.int r) := by
  have a := drw_nn (ds := ds) (n := n) (m := 5) (by omega)
  have a2 := drw_lt (ds := ds) (n := n) (m := 5) (by omega)
  have b := drw_nn (ds := ds) (n := n + 1) (m := 9) (by omega)
  have c := drw_lt (ds := ds) (n := n + 1) (m := 9) (by omega)
  rcases cases3 (drw_nn (ds := ds) (n := n + 1 + 1) (m := 3) (by omega)) (drw_lt (by omega)) with h | h | h <;> rw [h]
  · exact ⟨0, by omega, by omega, by simp⟩
  · exact ⟨drw ds n 5, by omega, by omega, by simp⟩
  · exact ⟨drw ds (n + 1) 9, by omega, by omega, by simp⟩
theorem reach2_ok (ds : List Int) (n : Nat) : ∃ r : Option Int, (∀ x, r = some x → 0 ≤ x ∧ x ≤ 5) ∧ atI [D.non, D.non, D.int (drw ds n 6)] (drw ds (n + 1) 3) = some (oN' r) := by
  have b := drw_nn (ds := ds) (n := n) (m := 6) (by omega)
  have c := drw_lt (ds := ds) (n := n) (m := 6) (by omega)
  rcases cases3 (drw_nn (ds := ds) (n := n + 1) (m := 3) (by omega)) (drw_lt (by omega)) with h | h | h <;> rw [h]
  · exact ⟨none, (fun x h => nomatch h), by simp [oN']⟩
  · exact ⟨none, (fun x h => nomatch h), by simp [oN']⟩
  · exact ⟨some (drw ds n 6), (fun x h => by cases h; omega), by simp [oN']⟩
theorem C1_last {k many : Nat} {m : Int} {o5 o6 o7 o8 o9 o10 : Option C} {st : Sto} (h : k + 1 = many) :
    C1 [some (.p 0), some (.d (.int (many : Nat))), some (.d (.int m)), some (.p 1), some (.d (.int (k : Nat))), o5, o6, o7, o8, o9, o10] st
      = some (.nx [some (.p 0), some (.d (.int (many : Nat))), some (.d (.int m)), some (.p 1), some (.d (.int (k : Nat))), o5, o6, o7, o8, o9, o10] st) := by
  have : ¬ ((k : Int) < (many : Int) - 1) := by omega
  unfold C1
  simp [ltD, subD, this]
theorem C1_more {ds : List Int} {n k many : Nat} {m : Int} {o5 o6 o7 o8 o9 o10 : Option C} {r : SO} (h : k + 1 < many) (h4 : many ≤ 4) :
    ∃ (j : Nat) (y : PySem.Str) (t : Int) (re : Option Int) (n' : Nat), k < j ∧ j < many ∧ namS[j]? = some y ∧ 0 ≤ t ∧ t ≤ 2 ∧ (∀ x, re = some x → 0 ≤ x ∧ x ≤ 5) ∧
    C1 [some (.p 0), some (.d (.int (many : Nat))), some (.d (.int m)), some (.p 1), some (.d (.int (k : Nat))), o5, o6, o7, o8, o9, o10] [box ds n, r]
      = some (.nx [some (.p 0), some (.d (.int (many : Nat))), some (.d (.int m)), some (.p 1), some (.d (.int (k : Nat))), some (.d (.str y)), some (.d (.int t)), some (.d (oN' re)), o8, o9, o10] [box ds n', r]) := by
  have q : ((k : Int) < (many : Int) - 1) := by omega
  have pos : (0 : Int) < (many : Int) - k - 1 := by omega
  have a := drw_nn (ds := ds) (n := n) pos
  have b := drw_lt (ds := ds) (n := n) pos
  obtain ⟨i, hi⟩ := Int.eq_ofNat_of_zero_le a
  obtain ⟨t, t0, t1, ht⟩ := trav_ok ds (n + 1)
  obtain ⟨re, hre, hr⟩ := reach2_ok ds (n + 1 + 1)
  obtain ⟨c, hc, hx, ⟨y, hy, hz⟩, _⟩ := abcd_at (k + 1 + i) (by omega)
  refine ⟨k + 1 + i, y, t, re, n + 1 + 1 + 1 + 1, by omega, by omega, hy, t0, t1, hre, ?_⟩
  have e1 : ((k : Int) + 1 + (i : Int)) = ((k + 1 + i : Nat) : Int) := by omega
  rw [← e1] at hx
  unfold C1
  simp [ltD, q, subD, draw_ok ds n _ pos, hi, hx, hz, ht, hr, -add_ss]
theorem C2_ok {ds : List Int} {n k many m : Nat} {x5 x6 x7 : D} {o8 o9 o10 : Option C} {r : List C} (hk : k < 4) (hm : m ≤ 4) (hr : r.length ≤ 10) :
    ∃ (nm : PySem.Str) (rm hd : Int) (is : List Int) (n' : Nat) (o8' o9' : Option C), namS[k]? = some nm ∧ 0 ≤ rm ∧ rm ≤ 8 ∧ 0 ≤ hd ∧ hd ≤ rm ∧ is.length = m ∧ (∀ a ∈ is, 0 ≤ a ∧ a ≤ 7) ∧
    C2 [some (.p 0), some (.d (.int (many : Nat))), some (.d (.int (m : Nat))), some (.p 1), some (.d (.int (k : Nat))), some (.d x5), some (.d x6), some (.d x7), o8, o9, o10] [box ds n, .lst r]
      = some (.nx [some (.p 0), some (.d (.int (many : Nat))), some (.d (.int (m : Nat))), some (.p 1), some (.d (.int (k : Nat))), some (.d x5), some (.d x6), some (.d x7), o8', o9', o10]
          [box ds n', .lst (r ++ [.d (.tup [.str nm, x5, x6, x7, .int rm, .int hd, .tup (is.map .int)])])]) := by
  obtain ⟨rm, r0, r1, hrm⟩ := room2_ok ds n
  have pos : (0 : Int) < rm + 1 := by omega
  have a := drw_nn (ds := ds) (n := n + 1 + 1 + 1) pos
  have b := drw_lt (ds := ds) (n := n + 1 + 1 + 1) pos
  have a2 := drw_nn (ds := ds) (n := n + 1 + 1 + 1 + 1) (m := 2) (by omega)
  have b2 := drw_lt (ds := ds) (n := n + 1 + 1 + 1 + 1) (m := 2) (by omega)
  obtain ⟨c, hc, hx, ⟨y, hy, hz⟩, _⟩ := abcd_at k hk
  obtain ⟨hd, hhd⟩ : ∃ hd : Int, hd = drw ds (n + 1 + 1 + 1) (rm + 1) * drw ds (n + 1 + 1 + 1 + 1) 2 := ⟨_, rfl⟩
  have hb : 0 ≤ hd ∧ hd ≤ rm := by
    rcases (by omega : drw ds (n + 1 + 1 + 1 + 1) 2 = 0 ∨ drw ds (n + 1 + 1 + 1 + 1) 2 = 1) with h | h
    · rw [h] at hhd; omega
    · rw [h] at hhd; omega
  have hl : (rngD 0 m).length = m := by simp [rngD]
  have hlt : r.length < 1000000 := by omega
  have hm4 : m < 1000000 := by omega
  have hm5 : m ≤ 1000000 := by omega
  let n' := n + 1 + 1 + 1 + 1 + 1
  have lc := lc_drw (ds := ds) (m := 8) (by omega) (ρ := [some (.p 0), some (.d (.int (many : Nat))), some (.d (.int (m : Nat))), some (.p 1), some (.d (.int (k : Nat))), some (.d x5), some (.d x6), some (.d x7), some (.d (.int rm)), some (.d (.int hd)), none]) (i := 10) rfl (by omega) (rngD 0 m) [box ds n', .lst r] n' [] rfl (by simp [hl]; omega)
  rw [hl] at lc
  have hmul : mulD (.int (drw ds (n + 1 + 1 + 1) (rm + 1))) (.int (drw ds (n + 1 + 1 + 1 + 1) 2)) = some (.int hd) := by
    have : (drw ds (n + 1 + 1 + 1 + 1) 2).natAbs < 18446744073709551616 := by omega
    rw [mul_ii, hhd]
    simp [this]
  refine ⟨y, rm, hd, drws ds 8 n' m, n' + m, some (.d (.int rm)), some (.d (.int hd)), hy, r0, r1, hb.1, hb.2, drws_len ds 8 m n', fun x hx => by have := drws_in ds (m := 8) (by omega) m n' x hx; omega, ?_⟩
  unfold C2
  simp [draw_ok ds _ _ pos, hrm, hx, hz, lc, n', hlt, hm4, hm5, drws_len, hmul, -add_ss, -mul_ii] at lc ⊢
theorem f1_ok {ds : List Int} {n k many m : Nat} {o5 o6 o7 o8 o9 o10 : Option C} {r : List C} (hk : k < many) (h4 : many ≤ 4) (hm : m ≤ 4) (hr : r.length ≤ 10) :
    ∃ (x : Site) (n' : Nat) (o5' o6' o7' o8' o9' : Option C), SiteOk (namS.take many) m k x ∧ x.room ≤ 8 ∧ (∀ q, x.reach = some q → q ≤ 5) ∧ (∀ a ∈ x.ins, a ≤ 7) ∧
    lw_basin_2_f1 [some (.p 0), some (.d (.int (many : Nat))), some (.d (.int (m : Nat))), some (.p 1), some (.d (.int (k : Nat))), o5, o6, o7, o8, o9, o10] [box ds n, .lst r]
      = some (.nx [some (.p 0), some (.d (.int (many : Nat))), some (.d (.int (m : Nat))), some (.p 1), some (.d (.int (k : Nat))), o5', o6', o7', o8', o9', o10]
          [box ds n', .lst (r ++ [.d (siteD x)])]) := by
  have hl : (namS.take many).length = many := by
    rw [List.length_take]
    show min many 4 = many
    omega
  have at_ : ∀ (j : Nat) (y : PySem.Str), j < many → namS[j]? = some y → (namS.take many)[j]? = some y := fun j y h e => by rw [List.getElem?_take_of_lt h]; exact e
  rw [basin_2_f1_eq]
  by_cases h : k + 1 = many
  · have e1 := C1_last (many := many) (k := k) (m := (m : Int)) (o5 := some (.d .non)) (o6 := some (.d (.int 0))) (o7 := some (.d .non)) (o8 := o8) (o9 := o9) (o10 := o10) (st := [box ds n, .lst r]) h
    obtain ⟨nm, rm, hd, is, n', o8', o9', h0, a1, a2, a3, a4, a5, a6, e2⟩ := C2_ok (ds := ds) (n := n) (k := k) (many := many) (m := m) (x5 := .non) (x6 := .int 0) (x7 := .non) (o8 := o8) (o9 := o9) (o10 := o10) (r := r) (by omega) hm hr
    refine ⟨⟨nm, none, 0, none, rm, hd, is⟩, n', some (.d .non), some (.d (.int 0)), some (.d .non), o8', o9', ⟨at_ k nm hk h0, .inl ⟨by rw [hl]; exact h, rfl⟩, by simp, (fun _ => rfl), (fun _ z => nomatch z), (fun _ => rfl), ⟨a1, by show rm ≤ 99; omega⟩, ⟨a3, a4⟩, a5, fun a ha => ?_⟩, a2, (fun _ z => nomatch z), (fun a ha => (a6 a ha).2), ?_⟩
    · have := a6 a ha; omega
    · simp [e1, e2]
      rfl
  · obtain ⟨j, y, t, re, n1, b1, b1', b2, b3, b4, b5, e1⟩ := C1_more (ds := ds) (n := n) (k := k) (many := many) (m := (m : Int)) (o5 := some (.d .non)) (o6 := some (.d (.int 0))) (o7 := some (.d .non)) (o8 := o8) (o9 := o9) (o10 := o10) (r := .lst r) (by omega) h4
    obtain ⟨nm, rm, hd, is, n', o8', o9', h0, a1, a2, a3, a4, a5, a6, e2⟩ := C2_ok (ds := ds) (n := n1) (k := k) (many := many) (m := m) (x5 := .str y) (x6 := .int t) (x7 := oN' re) (o8 := o8) (o9 := o9) (o10 := o10) (r := r) (by omega) hm hr
    refine ⟨⟨nm, some y, t, re, rm, hd, is⟩, n', some (.d (.str y)), some (.d (.int t)), some (.d (oN' re)), o8', o9', ⟨at_ k nm hk h0, .inr ⟨j, y, b1, at_ j y b1' b2, rfl⟩, ⟨b3, b4⟩, (fun z => nomatch z), (fun q hq => by have := b5 q hq; omega), (fun z => nomatch z), ⟨a1, by show rm ≤ 99; omega⟩, ⟨a3, a4⟩, a5, fun a ha => ?_⟩, a2, (fun q hq => (b5 q hq).2), (fun a ha => (a6 a ha).2), ?_⟩
    · have := a6 a ha; omega
    · simp [e1, e2]
      rfl
/-- the small basins -/
structure BasB (m : Nat) (ss : List Site) : Prop where
  mo : 1 ≤ m ∧ m ≤ 4
  nu : 1 ≤ ss.length ∧ ss.length ≤ 3
  ce : m * ss.length ≤ 6
  all : ∀ i x, ss[i]? = some x → SiteOk (namS.take ss.length) m i x
  sm : ∀ x ∈ ss, x.room ≤ 8 ∧ (∀ q, x.reach = some q → q ≤ 5) ∧ ∀ a ∈ x.ins, a ≤ 7
theorem basin_2_ok (ds : List Int) (n : Nat) : ∃ (m : Nat) (ss : List Site) (n' : Nat), BasB m ss ∧ phi_lw_basin_2 [.p 0] [box ds n] = some (.d (basD m ss), [box ds n']) := by
  have a := drw_nn (ds := ds) (n := n) (m := 3) (by omega)
  have b := drw_lt (ds := ds) (n := n) (m := 3) (by omega)
  obtain ⟨q, hq⟩ : ∃ q : Nat, 1 + drw ds n 3 = (q : Int) := ⟨(1 + drw ds n 3).toNat, by omega⟩
  have hq4 : 1 ≤ q ∧ q ≤ 3 := by omega
  obtain ⟨m, hm, hm4, hmq⟩ : ∃ m : Nat, atI [D.int (1 + drw ds (n + 1) 4), D.int (1 + drw ds (n + 1 + 1) 3), D.int (1 + drw ds (n + 1 + 1 + 1) 2)] ((q : Int) - 1) = some (.int (m : Nat)) ∧ (1 ≤ m ∧ m ≤ 4) ∧ m * q ≤ 6 := by
    have c1 := drw_nn (ds := ds) (n := n + 1) (m := 4) (by omega)
    have d1 := drw_lt (ds := ds) (n := n + 1) (m := 4) (by omega)
    have c2 := drw_nn (ds := ds) (n := n + 1 + 1) (m := 3) (by omega)
    have d2 := drw_lt (ds := ds) (n := n + 1 + 1) (m := 3) (by omega)
    have c3 := drw_nn (ds := ds) (n := n + 1 + 1 + 1) (m := 2) (by omega)
    have d3 := drw_lt (ds := ds) (n := n + 1 + 1 + 1) (m := 2) (by omega)
    rcases (by omega : q = 1 ∨ q = 2 ∨ q = 3) with rfl | rfl | rfl
    · refine ⟨(1 + drw ds (n + 1) 4).toNat, ?_, by omega, by omega⟩
      have : (1 + drw ds (n + 1) 4) = (((1 + drw ds (n + 1) 4).toNat : Nat) : Int) := by omega
      rw [← this]
      rfl
    · refine ⟨(1 + drw ds (n + 1 + 1) 3).toNat, ?_, by omega, by omega⟩
      have : (1 + drw ds (n + 1 + 1) 3) = (((1 + drw ds (n + 1 + 1) 3).toNat : Nat) : Int) := by omega
      rw [← this]
      rfl
    · refine ⟨(1 + drw ds (n + 1 + 1 + 1) 2).toNat, ?_, by omega, by omega⟩
      have : (1 + drw ds (n + 1 + 1 + 1) 2) = (((1 + drw ds (n + 1 + 1 + 1) 2).toNat : Nat) : Int) := by omega
      rw [← this]
      rfl
  let P : Nat → DL.Env → Sto → Prop := fun k ρ st => ∃ (ss : List Site) (n : Nat) (o4 o5 o6 o7 o8 o9 o10 : Option C), ρ = [some (.p 0), some (.d (.int (q : Nat))), some (.d (.int (m : Nat))), some (.p 1), o4, o5, o6, o7, o8, o9, o10] ∧
    st = [box ds n, .lst (ss.map fun x => .d (siteD x))] ∧ ss.length = k ∧ (∀ i x, ss[i]? = some x → SiteOk (namS.take q) m i x) ∧ ∀ x ∈ ss, x.room ≤ 8 ∧ (∀ q, x.reach = some q → q ≤ 5) ∧ ∀ a ∈ x.ins, a ≤ 7
  obtain ⟨ρ', st', e, ss, n', o4, o5, o6, o7, o8, o9, o10, rfl, rfl, hlen, hall, hsm⟩ := forR_inv (t := .n 4) (body := lw_basin_2_f1) (n := q) P (fun k ρ st hk h => by
    obtain ⟨ss, n, o4, o5, o6, o7, o8, o9, o10, rfl, rfl, hlen, hall, hsm⟩ := h
    obtain ⟨x, n', o5', o6', o7', o8', o9', hx, s1, s2, s3, e⟩ := f1_ok (ds := ds) (n := n) (k := k) (many := q) (m := m) (o5 := o5) (o6 := o6) (o7 := o7) (o8 := o8) (o9 := o9) (o10 := o10) (r := ss.map fun x => .d (siteD x)) hk (by omega) (by omega) (by rw [List.length_map]; omega)
    refine ⟨_, _, _, rfl, e, ss ++ [x], n', _, _, _, _, _, _, _, rfl, by rw [List.map_append]; rfl, by rw [List.length_append, hlen]; rfl, fun i y hy => ?_, fun y hy => ?_⟩
    · rcases Nat.lt_or_ge i ss.length with h | h
      · rw [List.getElem?_append_left h] at hy
        exact hall i y hy
      · rw [List.getElem?_append_right h] at hy
        rcases Nat.lt_or_ge ss.length i with h2 | h2
        · rw [List.getElem?_eq_none (by simp; omega)] at hy
          cases hy
        · have : i = ss.length := by omega
          subst this
          simp at hy
          subst hy
          rw [hlen]
          exact hx
    · rcases List.mem_append.mp hy with h | h
      · exact hsm y h
      · rw [List.mem_singleton] at h
        subst h
        exact ⟨s1, s2, s3⟩) [some (.p 0), some (.d (.int (q : Nat))), some (.d (.int (m : Nat))), some (.p 1), none, none, none, none, none, none, none] [box ds (n + 1 + 1 + 1 + 1), .lst []] ⟨[], n + 1 + 1 + 1 + 1, none, none, none, none, none, none, none, rfl, rfl, rfl, (fun i x h => by simp at h), fun x h => by simp at h⟩
  refine ⟨m, ss, n', ⟨hm4, by omega, by rw [hlen]; exact hmq, by rw [hlen]; exact hall, hsm⟩, ?_⟩
  have hG : G_lw_basin_2 [some (.p 0), none, none, none, none, none, none, none, none, none, none] [box ds n] = some (.rt (.d (basD m ss)) [box ds n', .lst (ss.map fun x => .d (siteD x))]) := by
    have hall2 : allD (ss.map fun x => C.d (siteD x)) = some (ss.map siteD) := by
      have := allD_map (ss.map siteD)
      rwa [List.map_map] at this
    have hq5 : q < 1000000 := by omega
    have hq6 : ss.length ≤ 1000000 := by omega
    unfold G_lw_basin_2
    simp [hm, hq, subD, hq5, e, hall2, hq6, basD]
  unfold phi_lw_basin_2
  rw [fnD_ev 11 1 G_lw_basin_2 [.p 0] rfl]
  simp [hG]
end Lw
/-! B3: rights beside a small basin. -/
namespace Lw
open PySem PySem.Spec PyProof.Rows L2 DL
theorem demands_ok (ds : List Int) (n m : Nat) (hm : m ≤ 4) : phi_lw_demands [.p 0, .d (.int (m : Nat))] [box ds n] = some (.d (.tup ((drws ds 7 n m).map .int)), [box ds (n + m)]) := by
  have hl : (rngD 0 m).length = m := by simp [rngD]
  have hm4 : m < 1000000 := by omega
  have lc := lc_drw (ds := ds) (m := 7) (by omega) (ρ := [some (.p 0), some (.d (.int (m : Nat))), none]) (i := 2) rfl (by omega) (rngD 0 m) [box ds n] n [] rfl (by simp [hl]; omega)
  rw [hl] at lc
  have hG : G_lw_demands [some (.p 0), some (.d (.int (m : Nat))), none] [box ds n] = some (.rt (.d (.tup ((drws ds 7 n m).map .int))) [box ds (n + m)]) := by
    unfold G_lw_demands
    simp at lc
    simp [hm4, lc]
  unfold phi_lw_demands
  rw [fnD_ev 3 2 G_lw_demands [.p 0, .d (.int (m : Nat))] rfl]
  simp [hG]
structure RgtB (ss : List Site) (m : Nat) (r : Nat) (x : Rgt) : Prop where
  name : namR[r]? = some x.name
  site : ∃ (s : Nat) (y : Site), ss[s]? = some y ∧ x.site = y.name
  wants : x.wants.length = m ∧ ∀ a ∈ x.wants, 0 ≤ a ∧ a ≤ 6
structure RgsB (ss : List Site) (m : Nat) (rs : List Rgt) : Prop where
  nu : rs.length ≤ 4
  all : ∀ i x, rs[i]? = some x → RgtB ss m i x
theorem names_lc {ρ : DL.Env} {st : Sto} {ss : List Site} {i : Nat} (hi : i < ρ.length) (hl : ss.length ≤ 100) : lcL (.n i) gYes (eOp ixD (eV i) (eK (.int 0))) ρ (ss.map siteD) st [] = some ((ss.map (·.name)).map .str, st) := by
  have := lcL_mp (ρ := ρ) (st := st) (.n i) (eOp ixD (eV i) (eK (.int 0))) siteD (fun s => D.str s.name) ss [] (fun s _ => ⟨_, .d (.str s.name), rfl, by simp [hi, siteD], rfl⟩) (by simp; omega)
  rw [this]
  simp [Function.comp_def]
theorem name_at {ss : List Site} (hs : 0 < ss.length) (i : Int) : ∃ (s : Nat) (y : Site), ss[s]? = some y ∧ atI ((ss.map (·.name)).map D.str) (i % ss.length) = some (.str y.name) := by
  have p : (0 : Int) < ss.length := by omega
  obtain ⟨k, hk⟩ := Int.eq_ofNat_of_zero_le (Int.emod_nonneg i (by omega : (ss.length : Int) ≠ 0))
  have hlt := Int.emod_lt_of_pos i p
  have hk2 : k < ss.length := by omega
  exact ⟨k, ss[k], List.getElem?_eq_getElem hk2, by rw [hk, atI_k]; simp [hk2]⟩
theorem mr_f1_ok {ds : List Int} {n m k : Nat} {ss : List Site} {o3 : Option C} {r : List C} (hk : k < 4) (hm : m ≤ 4) (hs : 0 < ss.length) (hr : r.length ≤ 10) :
    ∃ (x : Rgt) (n' : Nat), RgtB ss m k x ∧ lw_more_rights_f1 [some (.p 0), some (.d (basD m ss)), some (.d (.lst ((ss.map (·.name)).map .str))), o3, some (.p 1), some (.d (.int (k : Nat)))] [box ds n, .lst r]
      = some (.nx [some (.p 0), some (.d (basD m ss)), some (.d (.lst ((ss.map (·.name)).map .str))), o3, some (.p 1), some (.d (.int (k : Nat)))] [box ds n', .lst (r ++ [.d (rgtD x)])]) := by
  obtain ⟨c, hc, hx, _, ⟨z, hz, hz2⟩⟩ := abcd_at k hk
  obtain ⟨s, y, hy, ha⟩ := name_at hs (drw ds n 90)
  have hlt : r.length < 1000000 := by omega
  have p : (0 : Int) < ss.length := by omega
  refine ⟨⟨z, y.name, drws ds 7 (n + 1) m⟩, n + 1 + m, ⟨hz, ⟨s, y, hy, rfl⟩, drws_len ds 7 m _, fun a ha => by have := drws_in ds (m := 7) (by omega) m (n + 1) a ha; omega⟩, ?_⟩
  have hd := demands_ok ds (n + 1) m hm
  unfold lw_more_rights_f1
  simp [hx, hz2, ha, p, hs, modD, hd, hlt, rgtD, basD, -add_ss, -List.map_map]
theorem more_rights_ok (ds : List Int) (n : Nat) {m : Nat} {ss : List Site} (hm : m ≤ 4) (hs : 0 < ss.length) (hs4 : ss.length ≤ 4) :
    ∃ (rs : List Rgt) (n' : Nat), RgsB ss m rs ∧ 2 ≤ rs.length ∧ phi_lw_more_rights [.p 0, .d (basD m ss)] [box ds n] = some (.d (.tup (rs.map rgtD)), [box ds n']) := by
  have a := drw_nn (ds := ds) (n := n) (m := 3) (by omega)
  have b := drw_lt (ds := ds) (n := n) (m := 3) (by omega)
  obtain ⟨q, hq⟩ : ∃ q : Nat, 2 + drw ds n 3 = (q : Int) := ⟨(2 + drw ds n 3).toNat, by omega⟩
  let P : Nat → DL.Env → Sto → Prop := fun k ρ st => ∃ (rs : List Rgt) (n : Nat) (o3 o5 : Option C), ρ = [some (.p 0), some (.d (basD m ss)), some (.d (.lst ((ss.map (·.name)).map .str))), o3, some (.p 1), o5] ∧
    st = [box ds n, .lst (rs.map fun x => .d (rgtD x))] ∧ rs.length = k ∧ ∀ i x, rs[i]? = some x → RgtB ss m i x
  obtain ⟨ρ', st', e, rs, n', o3, o5, rfl, rfl, hlen, hall⟩ := forR_inv (t := .n 5) (body := lw_more_rights_f1) (n := q) P (fun k ρ st hk h => by
    obtain ⟨rs, n, o3, o5, rfl, rfl, hlen, hall⟩ := h
    obtain ⟨x, n', hx, e⟩ := mr_f1_ok (ds := ds) (n := n) (m := m) (k := k) (ss := ss) (o3 := o3) (r := rs.map fun x => .d (rgtD x)) (by omega) hm hs (by rw [List.length_map]; omega)
    refine ⟨_, _, _, rfl, e, rs ++ [x], n', _, _, rfl, by rw [List.map_append]; rfl, by rw [List.length_append, hlen]; rfl, fun i y hy => ?_⟩
    rcases Nat.lt_or_ge i rs.length with h | h
    · rw [List.getElem?_append_left h] at hy
      exact hall i y hy
    · rw [List.getElem?_append_right h] at hy
      rcases Nat.lt_or_ge rs.length i with h2 | h2
      · rw [List.getElem?_eq_none (by simp; omega)] at hy
        cases hy
      · have : i = rs.length := by omega
        subst this
        simp at hy
        subst hy
        rw [hlen]
        exact hx) [some (.p 0), some (.d (basD m ss)), some (.d (.lst ((ss.map (·.name)).map .str))), none, some (.p 1), none] [box ds (n + 1), .lst []] ⟨[], n + 1, none, none, rfl, rfl, rfl, fun i x h => by simp at h⟩
  refine ⟨rs, n', ⟨by omega, hall⟩, by omega, ?_⟩
  have hG : G_lw_more_rights [some (.p 0), some (.d (basD m ss)), none, none, none, none] [box ds n] = some (.rt (.d (.tup (rs.map rgtD))) [box ds n', .lst (rs.map fun x => .d (rgtD x))]) := by
    have hall2 : allD (rs.map fun x => C.d (rgtD x)) = some (rs.map rgtD) := by
      have := allD_map (rs.map rgtD)
      rwa [List.map_map] at this
    have hq5 : q < 1000000 := by omega
    have hn := names_lc (ρ := [some (.p 0), some (.d (basD m ss)), none, none, none, none]) (st := [box ds n]) (ss := ss) (i := 3) (show 3 < 6 by decide) (by omega)
    have hb1 : ixD (basD m ss) (.int 1) = some (.tup (ss.map siteD)) := rfl
    unfold G_lw_more_rights
    simp [hq, hq5, hb1, hn, e, hall2, -List.map_map]
  unfold phi_lw_more_rights
  rw [fnD_ev 6 2 G_lw_more_rights [.p 0, .d (basD m ss)] rfl]
  simp [hG]
end Lw
/-! RP: what repr takes, for small data. -/
namespace Lw
open PySem PySem.Spec PyProof.Rows L2 DL
theorem log_small {n : Nat} (h : n < 100) : n.log2 < 1920 := by
  have : ∀ j < 100, Nat.log2 j < 1920 := by decide +kernel
  exact this n h
def Shw (d b : Nat) (x : D) : Prop := ∃ p, toPy x = some p ∧ p.showable = true ∧ p.hasDict = false ∧ p.shown.length ≤ b ∧ p.depth ≤ d
theorem Shw.mono {d b d' b' : Nat} {x : D} (h : Shw d b x) (hd : d ≤ d') (hb : b ≤ b') : Shw d' b' x := by
  obtain ⟨p, h1, h2, h3, h4, h5⟩ := h
  exact ⟨p, h1, h2, h3, by omega, by omega⟩
theorem shw_non : Shw 0 100 .non := ⟨.none, rfl, by simp [PyData.showable], by simp [PyData.hasDict], by simp [PyData.shown]; decide +kernel, by simp [PyData.depth]⟩
theorem shw_int {i : Int} (h : 0 ≤ i ∧ i ≤ 99) : Shw 0 100 (.int i) := by
  refine ⟨.int i, rfl, ?_, by simp [PyData.hasDict], ?_, by simp [PyData.depth]⟩
  · simp only [PyData.showable, decide_eq_true_eq]
    exact log_small (by omega)
  · simp only [PyData.shown]
    obtain ⟨k, rfl⟩ := Int.eq_ofNat_of_zero_le h.1
    have : ∀ j < 100, (toString ((j : Nat) : Int) : PySem.Str).length ≤ 100 := by decide +kernel
    exact this k (by omega)
def strs10 : List PySem.Str := namS ++ namR ++ (["leasea", "leaseb", "leasec", "leased"] : List PySem.Str)
theorem shown_all : ∀ y ∈ strs10, (PyData.shown (.str y)).length ≤ 100 := by decide +kernel
theorem shw_str {y : PySem.Str} (h : y ∈ strs10) : Shw 0 100 (.str y) := ⟨.str y, rfl, by simp [PyData.showable], by simp [PyData.hasDict], shown_all y h, by simp [PyData.depth]⟩
theorem shw_list {d b : Nat} : ∀ {xs : List D}, (∀ x ∈ xs, Shw d b x) → ∃ ps, toPys xs = some ps ∧ PyData.showableAll ps = true ∧ PyData.hasDictAll ps = false ∧ (∀ s ∈ PyData.shownAll ps, s.length ≤ b) ∧ PyData.depthAll ps ≤ d ∧ (PyData.shownAll ps).length = xs.length
  | [], _ => ⟨[], rfl, by simp [PyData.showableAll], by simp [PyData.hasDictAll], by simp [PyData.shownAll], by simp [PyData.depthAll], by simp [PyData.shownAll]⟩
  | x :: xs, h => by
    obtain ⟨p, h1, h2, h3, h4, h5⟩ := h x (by simp)
    obtain ⟨ps, g1, g2, g3, g4, g5, g6⟩ := shw_list (xs := xs) fun y hy => h y (by simp [hy])
    refine ⟨p :: ps, ?_, by simp [PyData.showableAll, h2, g2], by simp [PyData.hasDictAll, h3, g3], ?_, ?_, by simp [PyData.shownAll, g6]⟩
    · show (toPy x).bind (fun p => (toPys xs).bind fun ps => some (p :: ps)) = _
      rw [h1, g1]
      rfl
    · intro s hs
      rw [PyData.shownAll, List.mem_cons] at hs
      rcases hs with rfl | hs
      · exact h4
      · exact g4 s hs
    · rw [PyData.depthAll]
      exact Nat.max_le.mpr ⟨h5, g5⟩
theorem join_len_le {b : Nat} {sep : PySem.Str} : ∀ {ys : List PySem.Str}, (∀ y ∈ ys, y.length ≤ b) → (Str.join sep ys).length ≤ ys.length * (b + sep.length)
  | [], _ => by
    show Str.empty.length ≤ _
    exact Nat.zero_le _
  | [x], h => by
    have := h x (by simp)
    show x.length ≤ 1 * (b + sep.length)
    omega
  | x :: y :: r, h => by
    have ih := join_len_le (sep := sep) (ys := y :: r) fun z hz => h z (by simp [hz])
    have h1 := h x (by simp)
    show (x ++ sep ++ Str.join sep (y :: r)).length ≤ (r.length + 1 + 1) * (b + sep.length)
    rw [len_app, len_app]
    rw [List.length_cons] at ih
    have : (r.length + 1 + 1) * (b + sep.length) = (r.length + 1) * (b + sep.length) + (b + sep.length) := by rw [Nat.add_mul (r.length + 1) 1, Nat.one_mul]
    omega
theorem shw_tup {d b n : Nat} {xs : List D} (h : ∀ x ∈ xs, Shw d b x) (hn : xs.length ≤ n) : Shw (d + 1) (n * (b + 2) + 3) (.tup xs) := by
  obtain ⟨ps, g1, g2, g3, g4, g5, g6⟩ := shw_list h
  refine ⟨.tuple ps, ?_, by simpa [PyData.showable] using g2, by simpa [PyData.hasDict] using g3, ?_, by rw [PyData.depth]; omega⟩
  · show (toPys xs).map PyData.tuple = _
    rw [g1]
    rfl
  · rw [PyData.shown]
    unfold tupleText
    rw [len_app, len_app]
    have j := join_len_le (sep := ((", " : String) : PySem.Str)) g4
    have e2 : (((", " : String) : PySem.Str)).length = 2 := rfl
    have e1 : (("(" : PySem.Str)).length = 1 := rfl
    have e3 : (((if ((PyData.shownAll ps).length == 1) = true then ",)" else ")" : String) : PySem.Str)).length ≤ 2 := by split <;> decide
    rw [e2, g6] at j
    have : xs.length * (b + 2) ≤ n * (b + 2) := Nat.mul_le_mul_right _ hn
    omega
theorem repr_ok {d b : Nat} {x : D} (h : Shw d b x) (hd : d ≤ 40) (hb : b ≤ 1000000) : ∃ s, reprD [x] = some (.str s) := by
  obtain ⟨p, h1, h2, h3, h4, h5⟩ := h
  refine ⟨p.shown, ?_⟩
  show (toPy x).bind _ = _
  rw [h1]
  exact if_pos ⟨h2, h3, by omega, by omega⟩
theorem same_ok {d b : Nat} {x : D} (h : Shw d b x) (hd : d ≤ 40) (hb : b ≤ 1000000) : phi_lw_same [.d x, .d x] [] = some (.d (.bl true), []) := by
  obtain ⟨s, e⟩ := repr_ok h hd hb
  have hG : G_lw_same [some (.d x), some (.d x)] [] = some (.rt (.d (.bl true)) []) := by
    unfold G_lw_same
    simp [e]
  unfold phi_lw_same
  rw [fnD_ev 2 2 G_lw_same [.d x, .d x] rfl]
  simp [hG]
end Lw
/-! L1: leases. -/
namespace Lw
open PySem PySem.Spec PyProof.Rows L2 DL
structure Lea where
  lender : PySem.Str
  borrower : PySem.Str
  month : Int
  amount : Int
def leaD (l : Lea) : D := .tup [.str l.lender, .str l.borrower, .int l.month, .int l.amount]
def lentN (ls : List Lea) (name : PySem.Str) (m : Int) : Int := ((ls.filter fun l => l.lender == name && l.month == m).map (·.amount)).sum
theorem lent_ok (ls : List Lea) (name : PySem.Str) (m : Int) (hl : ls.length ≤ 1000) : phi_lent [.d (.tup (ls.map leaD)), .d (.str name), .d (.int m)] [] = some (.d (.int (lentN ls name m)), []) := by
  have hG : G_lent [some (.d (.tup (ls.map leaD))), some (.d (.str name)), some (.d (.int m)), none, none, none, none] [] = some (.rt (.d (.int (lentN ls name m))) []) := by
    unfold G_lent
    have e := eLc_it (ρ := [some (.d (.tup (ls.map leaD))), some (.d (.str name)), some (.d (.int m)), none, none, none, none]) (st := []) (vs := [3, 4, 5, 6]) (t := .t [3, 4, 5, 6]) (gi := iV (eV 0))
      (test := gAnd (DL.tB (eOp (eqD false) (eV 3) (eV 1))) (DL.tB (eOp (eqD false) (eV 5) (eV 2)))) (elt := eV 6) ls leaD (fun l => .int l.amount) (fun l => l.lender == name && l.month == m) (by simp) (by omega) (fun l _ => ⟨_, rfl, by
        cases h1 : (l.lender == name) <;> simp [h1], fun _ => ⟨_, rfl, rfl⟩⟩)
    have hs : sumD [.lst ((ls.filter fun l => l.lender == name && l.month == m).map fun l => .int l.amount)] = some (.int (lentN ls name m)) := by
      have e2 : ((ls.filter fun l => l.lender == name && l.month == m).map fun l => D.int l.amount) = (((ls.filter fun l => l.lender == name && l.month == m).map (·.amount)).map .int) := by rw [List.map_map]; rfl
      show (intsOf _).map _ = _
      rw [e2, intsOf_map]
      rfl
    rw [sRt_ev, eCB_ev, aC_ev, e]
    simp [hs]
  unfold phi_lent
  rw [fnD_ev 7 3 G_lent [.d (.tup (ls.map leaD)), .d (.str name), .d (.int m)] rfl]
  simp [hG]
def oRgt : Option Rgt → D
  | none => .non
  | some r => rgtD r
theorem right_called_ok (rs : List Rgt) (name : PySem.Str) : phi_right_called [.d (.tup (rs.map rgtD)), .d (.str name)] [] = some (.d (oRgt (rs.find? fun r => r.name == name)), []) := by
  have hG : G_right_called [some (.d (.tup (rs.map rgtD))), some (.d (.str name)), none] [] = some (.rt (.d (oRgt (rs.find? fun r => r.name == name))) []) := by
    obtain ⟨i1, i2⟩ := forL_find (st := []) (t := .n 2) (body := right_called_f1) (fun ρ => ∃ o, ρ = [some (.d (.tup (rs.map rgtD))), some (.d (.str name)), o]) rgtD (fun r => r.name == name) (fun r => .d (rgtD r)) rs (fun r _ ρ ⟨o, hρ⟩ => by
      subst hρ
      refine ⟨_, rfl, fun h => ?_, fun h => ⟨_, ?_, some (.d (rgtD r)), rfl⟩⟩
      · unfold right_called_f1
        simp [rgtD, h]
      · unfold right_called_f1
        simp [rgtD, h]) [some (.d (.tup (rs.map rgtD))), some (.d (.str name)), none] ⟨none, rfl⟩
    unfold G_right_called
    rw [sSeq_ev, sFor_ev]
    have e0 : iV (eV 0) [some (.d (.tup (rs.map rgtD))), some (.d (.str name)), none] [] = some (.items (rs.map rgtD), []) := by simp
    rw [e0, Option.bind_some, forK_i]
    cases h : rs.find? fun r => r.name == name with
    | none =>
      obtain ⟨ρ', ⟨o, rfl⟩, e⟩ := i2 h
      rw [e]
      simp [oRgt]
    | some r =>
      rw [i1 r h]
      simp [oRgt]
  unfold phi_right_called
  rw [fnD_ev 3 2 G_right_called [.d (.tup (rs.map rgtD)), .d (.str name)] rfl]
  simp [hG]
/-- a lease that can be made behind earlier ones -/
structure LeaOk (m : Nat) (rs : List Rgt) (earlier : List Lea) (l : Lea) : Prop where
  len : ∃ r, rs.find? (fun r => r.name == l.lender) = some r ∧ ∃ (k : Nat) (w : Int), l.month = (k : Nat) ∧ k < m ∧ r.wants[k]? = some w ∧ lentN earlier l.lender l.month + l.amount ≤ w
  bor : ∃ r, rs.find? (fun r => r.name == l.borrower) = some r
  ne : (l.lender == l.borrower) = false
  am : 1 ≤ l.amount ∧ l.amount ≤ 99
theorem lease_fault_ok {m : Nat} {ss : List Site} {rs : List Rgt} {earlier : List Lea} {l : Lea} (h : LeaOk m rs earlier l) (hl : earlier.length ≤ 1000) :
    phi_lease_fault [.d (basD m ss), .d (.tup (rs.map rgtD)), .d (.tup (earlier.map leaD)), .d (leaD l)] [] = some (.d .non, []) := by
  obtain ⟨⟨r, hr, k, w, hk, hkm, hw, hle⟩, ⟨r2, hr2⟩, hne, a1, a2⟩ := h
  have c1 := right_called_ok rs l.lender
  have c2 := right_called_ok rs l.borrower
  rw [hr] at c1
  rw [hr2] at c2
  have c3 := lent_ok earlier l.lender l.month hl
  have b0 : ixD (basD m ss) (.int 0) = some (.int (m : Nat)) := rfl
  have w2 : ixD (rgtD r) (.int 2) = some (.tup (r.wants.map .int)) := rfl
  have n1 : ∀ r : Rgt, isND false (rgtD r) .non = some (.bl false) := fun _ => rfl
  have t1 : ¬ l.month < 0 := by omega
  have t2 : ¬ ((m : Int) ≤ l.month) := by omega
  have t3 : ¬ (l.amount < 1) := by omega
  have t4 : ¬ (99 < l.amount) := by omega
  have t5 : ¬ (w < lentN earlier l.lender l.month + l.amount) := by omega
  have hw2 : atI (r.wants.map D.int) l.month = some (.int w) := by rw [hk, atI_k, List.getElem?_map, hw]; rfl
  have hG : G_lease_fault [some (.d (basD m ss)), some (.d (.tup (rs.map rgtD))), some (.d (.tup (earlier.map leaD))), some (.d (leaD l)), none, none, none, none] [] = some (.rt (.d .non) []) := by
    unfold G_lease_fault
    simp [leaD, c1, c2, c3, oRgt, n1, hne, b0, w2, hw2, ltD, geD, gtD, t1, t2, t3, t4, t5]
  unfold phi_lease_fault
  rw [fnD_ev 8 4 G_lease_fault [.d (basD m ss), .d (.tup (rs.map rgtD)), .d (.tup (earlier.map leaD)), .d (leaD l)] rfl]
  simp [hG]
structure LeasOk (m : Nat) (rs : List Rgt) (ls : List Lea) : Prop where
  nu : ls.length ≤ 4
  all : ∀ k l, ls[k]? = some l → LeaOk m rs (ls.take k) l
theorem enum_at {xs : List D} {k : Nat} {x : D} (h : (enumD xs)[k]? = some x) : ∃ y, xs[k]? = some y ∧ x = .tup [.int (k : Nat), y] := by
  unfold enumD at h
  rw [List.getElem?_mapIdx] at h
  cases e : xs[k]? with
  | none => rw [e] at h; cases h
  | some y => rw [e] at h; cases h; exact ⟨y, rfl, rfl⟩
theorem cut_to (xs : List D) (i : Nat) (h : i ≤ xs.length) : DL.cutD xs none (some (i : Int)) = xs.take i := by
  unfold DL.cutD
  rw [HT.sIx_nat xs.length xs.length i, HT.sIx_none, Nat.min_eq_left h]
  rfl
theorem refuse_bad_ok {m : Nat} {ss : List Site} {rs : List Rgt} {ls : List Lea} (h : LeasOk m rs ls) : phi_refuse_bad [.d (basD m ss), .d (.tup (rs.map rgtD)), .d (.tup (ls.map leaD))] [] = some (.d .non, []) := by
  have h4 := h.nu
  obtain ⟨ρ', st', e, rfl, o3, o4, o5, rfl⟩ := forX_inv (t := .t [3, 4]) (body := refuse_bad_f1) (xs := enumD (ls.map leaD)) (fun k ρ st => st = [] ∧ ∃ o3 o4 o5, ρ = [some (.d (basD m ss)), some (.d (.tup (rs.map rgtD))), some (.d (.tup (ls.map leaD))), o3, o4, o5]) (fun k x ρ st hx hp => by
    obtain ⟨rfl, o3, o4, o5, rfl⟩ := hp
    obtain ⟨y, hy, rfl⟩ := enum_at hx
    rw [List.getElem?_map] at hy
    cases hl : ls[k]? with
    | none => rw [hl] at hy; cases hy
    | some l =>
      rw [hl] at hy
      cases hy
      have hk : k < ls.length := (List.getElem?_eq_some_iff.mp hl).1
      have c := lease_fault_ok (ss := ss) (h.all k l hl) (by rw [List.length_take]; omega)
      have e0 : DL.cutD (ls.map leaD) none (some (k : Int)) = (ls.map leaD).take k := cut_to _ _ (by rw [List.length_map]; omega)
      rw [List.map_take] at c
      refine ⟨_, _, _, rfl, ?_, rfl, some (.d (.int (k : Nat))), some (.d (leaD l)), some (.d .non), rfl⟩
      unfold refuse_bad_f1
      simp [e0, c]) [some (.d (basD m ss)), some (.d (.tup (rs.map rgtD))), some (.d (.tup (ls.map leaD))), none, none, none] [] ⟨rfl, none, none, none, rfl⟩
  have hG : G_refuse_bad [some (.d (basD m ss)), some (.d (.tup (rs.map rgtD))), some (.d (.tup (ls.map leaD))), none, none, none] [] = some (.nx [some (.d (basD m ss)), some (.d (.tup (rs.map rgtD))), some (.d (.tup (ls.map leaD))), o3, o4, o5] []) := by
    unfold G_refuse_bad
    have t : ¬ (4 < (ls.length : Int)) := by omega
    simp [e, gtD, t]
  unfold phi_refuse_bad
  rw [fnD_ev 6 3 G_refuse_bad [.d (basD m ss), .d (.tup (rs.map rgtD)), .d (.tup (ls.map leaD))] rfl]
  simp [hG]
end Lw
/-! L2a: the rights under leases, by the program. -/
namespace Lw
open PySem PySem.Spec PyProof.Rows L2 DL
def en (ls : List Lea) : List (Nat × Lea) := ls.mapIdx fun k l => (k, l)
def enD (p : Nat × Lea) : D := .tup [.int (p.1 : Nat), leaD p.2]
theorem enum_en (ls : List Lea) : enumD (ls.map leaD) = (en ls).map enD := by
  unfold enumD en
  apply List.ext_getElem?
  intro i
  rw [List.getElem?_mapIdx, List.getElem?_map, List.getElem?_map, List.getElem?_mapIdx]
  cases ls[i]? <;> rfl
theorem en_mem {ls : List Lea} {p : Nat × Lea} (h : p ∈ en ls) : ls[p.1]? = some p.2 := by
  obtain ⟨i, hi⟩ := List.getElem?_of_mem h
  unfold en at hi
  rw [List.getElem?_mapIdx] at hi
  cases e : ls[i]? with
  | none => rw [e] at hi; cases hi
  | some l => rw [e] at hi; cases hi; exact e
def namL : List PySem.Str := ["leasea", "leaseb", "leasec", "leased"]
theorem lea_at : ∀ k : Nat, k < 4 → ∃ c z, namL[k]? = some z ∧ ixD (.str "abcd") (.int (k : Nat)) = some (.str c) ∧ ixD (.str "abcdefghijklmnopqrstuvwxyz") (.int (k : Nat)) = some (.str c) ∧ addD (.str "lease") (.str c) = some (.str z)
  | 0, _ => ⟨_, _, rfl, rfl, rfl, rfl⟩
  | 1, _ => ⟨_, _, rfl, rfl, rfl, rfl⟩
  | 2, _ => ⟨_, _, rfl, rfl, rfl, rfl⟩
  | 3, _ => ⟨_, _, rfl, rfl, rfl, rfl⟩
  | k + 4, h => absurd h (by omega)
def leftL (ls : List Lea) (r : Rgt) : List Int := r.wants.mapIdx fun m a => a - lentN ls r.name (m : Nat)
def rowL (m : Nat) (l : Lea) : List Int := (List.range m).map fun (j : Nat) => if ((j : Nat) : Int) == l.month then l.amount else 0
def siteOf (rs : List Rgt) (b : PySem.Str) : PySem.Str := ((rs.find? fun r => r.name == b).map (·.site)).getD ""
def newR (ls : List Lea) (r : Rgt) : D := rgtD ⟨r.name, r.site, leftL ls r⟩
def lrD (m : Nat) (rs : List Rgt) (p : Nat × Lea) : D := rgtD ⟨(namL[p.1]?).getD "", siteOf rs p.2.borrower, rowL m p.2⟩
def of_ (ls : List Lea) (r : Rgt) : List (Nat × Lea) := (en ls).filter fun p => p.2.lender == r.name
def hold1 (m : Nat) (rs : List Rgt) (ls : List Lea) (r : Rgt) : List D := .tup [.str r.name, newR ls r] :: (of_ ls r).map fun p => .tup [.str p.2.borrower, lrD m rs p]
theorem left_lc {ρ : DL.Env} {m : Nat} {ls : List Lea} {nm : PySem.Str} {is : List Int} (hρ : ∃ o0 o1 o3 o5 o6 o7 o10 o11 o12 o13 o14 o8 o9, ρ = [o0, o1, some (.d (.tup (ls.map leaD))), o3, some (.d (.str nm)), o5, o6, o7, o8, o9, o10, o11, o12, o13, o14]) (h4 : ls.length ≤ 1000) (hi : is.length ≤ 1000) {st : Sto}
    (hgi : iEn (aC (eV 6) aN) ρ st = some (.items (enumD (is.map .int)), st)) :
    eLc [8, 9] (.t [8, 9]) (iEn (aC (eV 6) aN)) gYes (eOp subD (eV 9) (eCall phi_lent (aC (eV 2) (aC (eV 4) (aC (eV 8) aN))))) ρ st = some (.d (.lst ((is.mapIdx fun m a => a - lentN ls nm (m : Nat)).map .int)), st) := by
  obtain ⟨o0, o1, o3, o5, o6, o7, o10, o11, o12, o13, o14, o8, o9, rfl⟩ := hρ
  have e1 : enumD (is.map .int) = (is.mapIdx fun k a => (k, a)).map fun q : Nat × Int => D.tup [.int (q.1 : Nat), .int q.2] := by
    unfold enumD
    apply List.ext_getElem?
    intro i
    rw [List.getElem?_mapIdx, List.getElem?_map, List.getElem?_map, List.getElem?_mapIdx]
    cases is[i]? <;> rfl
  rw [e1] at hgi
  rw [eLc_it (is.mapIdx fun k a => (k, a)) (fun q : Nat × Int => D.tup [.int (q.1 : Nat), .int q.2]) (fun q => .int (q.2 - lentN ls nm (q.1 : Nat))) (fun _ => true) hgi (by rw [List.length_mapIdx]; omega) (fun q _ => ⟨_, rfl, rfl, fun _ => ⟨.d (.int (q.2 - lentN ls nm (q.1 : Nat))), by
    have c := lent_ok ls nm (q.1 : Nat) h4
    simp [c, subD], rfl⟩⟩)]
  have e2 : ((is.mapIdx fun k a => (k, a)).filter fun _ => true).map (fun q : Nat × Int => D.int (q.2 - lentN ls nm (q.1 : Nat))) = (is.mapIdx fun m a => a - lentN ls nm (m : Nat)).map .int := by
    rw [List.filter_eq_self.mpr (by simp)]
    apply List.ext_getElem?
    intro i
    rw [List.getElem?_map, List.getElem?_mapIdx, List.getElem?_map, List.getElem?_mapIdx]
    cases is[i]? <;> rfl
  rw [e2]
end Lw
/-! L2b: holdings, under. -/
namespace Lw
open PySem PySem.Spec PyProof.Rows L2 DL
theorem rng_map (n : Nat) : rngD 0 n = (List.range n).map fun j : Nat => D.int (j : Nat) := by
  unfold rngD
  apply List.map_congr_left
  intro a _
  simp
theorem row_lc {ρ : DL.Env} {m : Nat} {l : Lea} {st : Sto} (hm : m ≤ 1000) (hgi : ∀ ga, iR1 ga ρ st = some (.items (rngD 0 m), st) → True) {ga : GA} (hg : iR1 ga ρ st = some (.items (rngD 0 m), st))
    (h8 : 8 < ρ.length) (h13 : ρ[13]? = some (some (.d (.int l.month)))) (h9 : ρ[9]? = some (some (.d (.int l.amount)))) :
    eLc [8] (.n 8) (iR1 ga) gYes (eIf (DL.tB (eOp (eqD false) (eV 8) (eV 13))) (eV 9) (eK (.int 0))) ρ st = some (.d (.lst ((rowL m l).map .int)), st) := by
  rw [rng_map] at hg
  rw [eLc_it (List.range m) (fun j : Nat => D.int (j : Nat)) (fun j : Nat => .int (if ((j : Nat) : Int) == l.month then l.amount else 0)) (fun _ => true) hg (by rw [List.length_range]; omega) (fun j _ => ⟨_, rfl, rfl, fun _ => ⟨.d (.int (if ((j : Nat) : Int) == l.month then l.amount else 0)), by
    have a13 : ((wipeE ρ [8]).set 8 (some (.d (.int (j : Nat)))))[13]? = some (some (.d (.int l.month))) := by
      rw [List.getElem?_set_ne (by decide)]
      show ((ρ.set 8 none))[13]? = _
      rw [List.getElem?_set_ne (by decide), h13]
    have a9 : ((wipeE ρ [8]).set 8 (some (.d (.int (j : Nat)))))[9]? = some (some (.d (.int l.amount))) := by
      rw [List.getElem?_set_ne (by decide)]
      show ((ρ.set 8 none))[9]? = _
      rw [List.getElem?_set_ne (by decide), h9]
    have a8 : ((wipeE ρ [8]).set 8 (some (.d (.int (j : Nat)))))[8]? = some (some (.d (.int (j : Nat)))) := by
      rw [List.getElem?_set_self (by show 8 < (ρ.set 8 none).length; rw [List.length_set]; exact h8)]
    generalize (wipeE ρ [8]).set 8 (some (C.d (.int (j : Nat)))) = ρ2 at a13 a9 a8 ⊢
    cases c : ((j : Nat) : Int) == l.month <;> simp [a8, a9, a13, c], rfl⟩⟩)]
  have e2 : ((List.range m).filter fun _ => true).map (fun j : Nat => D.int (if ((j : Nat) : Int) == l.month then l.amount else 0)) = (rowL m l).map .int := by
    rw [List.filter_eq_self.mpr (by simp)]
    unfold rowL
    rw [List.map_map]
    rfl
  rw [e2]
def hEnv (m : Nat) (ss : List Site) (rs : List Rgt) (ls : List Lea) (nm : PySem.Str) (ρ : DL.Env) : Prop := ∃ o5 o6 o7 o8 o9 o10 o11 o12 o13 o14, ρ = [some (.d (basD m ss)), some (.d (.tup (rs.map rgtD))), some (.d (.tup (ls.map leaD))), some (.p 0), some (.d (.str nm)), o5, o6, o7, o8, o9, o10, o11, o12, o13, o14]
theorem holdings_f1_ok {m : Nat} {ss : List Site} {rs : List Rgt} {ls : List Lea} (h : LeasOk m rs ls) (hm : m ≤ 4) {nm : PySem.Str} {p : Nat × Lea} (hp : p ∈ en ls) {acc : List D} {ρ : DL.Env} (hi : hEnv m ss rs ls nm ρ) (hl : acc.length + (if (p.2.lender == nm) = true then [D.tup [.str p.2.borrower, lrD m rs p]] else []).length ≤ 1000000) :
    ∃ ρ1 ρ2, bindTg (.g [.n 10, .t [11, 12, 13, 9]]) (enD p) ρ = some ρ1 ∧ holdings_f1 ρ1 [.lst (acc.map .d)] = some (.nx ρ2 [.lst ((acc ++ (if (p.2.lender == nm) = true then [D.tup [.str p.2.borrower, lrD m rs p]] else [])).map .d)]) ∧ hEnv m ss rs ls nm ρ2 := by
  obtain ⟨o5, o6, o7, o8, o9, o10, o11, o12, o13, o14, rfl⟩ := hi
  have hk := en_mem hp
  have ok := h.all p.1 p.2 hk
  have hk4 : p.1 < 4 := by
    have := (List.getElem?_eq_some_iff.mp hk).1
    have := h.nu
    omega
  obtain ⟨c, z, n1, n2, n3, n4⟩ := lea_at p.1 hk4
  obtain ⟨r2, hr2⟩ := ok.bor
  have c2 := right_called_ok rs p.2.borrower
  rw [hr2] at c2
  have w1 : ixD (oRgt (some r2)) (.int 1) = some (.str r2.site) := rfl
  have es : siteOf rs p.2.borrower = r2.site := by unfold siteOf; rw [hr2]; rfl
  have el : lrD m rs p = .tup [.str z, .str r2.site, .tup ((rowL m p.2).map .int)] := by unfold lrD rgtD; rw [n1, es]; rfl
  by_cases e : (p.2.lender == nm) = true
  · rw [if_pos e] at hl ⊢
    have hlt : acc.length < 1000000 := by
      rw [List.length_singleton] at hl
      omega
    have hrow := row_lc (ρ := [some (.d (basD m ss)), some (.d (.tup (rs.map rgtD))), some (.d (.tup (ls.map leaD))), some (.p 0), some (.d (.str nm)), o5, o6, o7, o8, some (.d (.int p.2.amount)), some (.d (.int (p.1 : Nat))), some (.d (.str p.2.lender)), some (.d (.str p.2.borrower)), some (.d (.int p.2.month)), o14]) (m := m) (l := p.2) (st := [.lst (acc.map .d)]) (by omega) (fun _ _ => trivial) (ga := aC (eOp ixD (eV 0) (eK (.int 0))) aN) (by
        have b0 : ixD (basD m ss) (.int 0) = some (.int (m : Nat)) := rfl
        have hm6 : m < 1000000 := by omega
        simp [b0, hm6]) (show 8 < 15 by decide) rfl rfl
    refine ⟨_, [some (.d (basD m ss)), some (.d (.tup (rs.map rgtD))), some (.d (.tup (ls.map leaD))), some (.p 0), some (.d (.str nm)), o5, o6, o7, o8, some (.d (.int p.2.amount)), some (.d (.int (p.1 : Nat))), some (.d (.str p.2.lender)), some (.d (.str p.2.borrower)), some (.d (.int p.2.month)), some (.d (.tup ((rowL m p.2).map .int)))], rfl, ?_, _, _, _, _, _, _, _, _, _, _, rfl⟩
    show holdings_f1 [some (.d (basD m ss)), some (.d (.tup (rs.map rgtD))), some (.d (.tup (ls.map leaD))), some (.p 0), some (.d (.str nm)), o5, o6, o7, o8, some (.d (.int p.2.amount)), some (.d (.int (p.1 : Nat))), some (.d (.str p.2.lender)), some (.d (.str p.2.borrower)), some (.d (.int p.2.month)), o14] _ = _
    unfold holdings_f1
    rw [sIf_ev]
    have t : DL.tB (eOp (eqD false) (eV 11) (eV 4)) [some (.d (basD m ss)), some (.d (.tup (rs.map rgtD))), some (.d (.tup (ls.map leaD))), some (.p 0), some (.d (.str nm)), o5, o6, o7, o8, some (.d (.int p.2.amount)), some (.d (.int (p.1 : Nat))), some (.d (.str p.2.lender)), some (.d (.str p.2.borrower)), some (.d (.int p.2.month)), o14] [.lst (acc.map .d)] = some (true, [.lst (acc.map .d)]) := by simp [e]
    rw [t, Option.bind_some, if_pos rfl, sSeq_ev, sSet_ev, eCB_ev, aC_ev, hrow]
    simp [n3, n4, c2, w1, el, hlt, -add_ss, -List.map_map]
  · rw [if_neg e] at hl ⊢
    refine ⟨_, _, rfl, ?_, o5, o6, o7, o8, some (.d (.int p.2.amount)), some (.d (.int (p.1 : Nat))), some (.d (.str p.2.lender)), some (.d (.str p.2.borrower)), some (.d (.int p.2.month)), o14, rfl⟩
    show holdings_f1 [some (.d (basD m ss)), some (.d (.tup (rs.map rgtD))), some (.d (.tup (ls.map leaD))), some (.p 0), some (.d (.str nm)), o5, o6, o7, o8, some (.d (.int p.2.amount)), some (.d (.int (p.1 : Nat))), some (.d (.str p.2.lender)), some (.d (.str p.2.borrower)), some (.d (.int p.2.month)), o14] _ = _
    unfold holdings_f1
    have e' : (p.2.lender == nm) = false := by simpa using e
    simp [e']
end Lw
/-! L2c: holdings, under. -/
namespace Lw
open PySem PySem.Spec PyProof.Rows L2 DL
theorem hold1_len {m : Nat} {rs : List Rgt} {ls : List Lea} {r : Rgt} : (hold1 m rs ls r).length ≤ 1 + ls.length := by
  unfold hold1 of_ en
  rw [List.length_cons, List.length_map]
  have := List.length_filter_le (fun p : Nat × Lea => p.2.lender == r.name) (ls.mapIdx fun k l => (k, l))
  rw [List.length_mapIdx] at this
  omega
theorem holdings_f2_ok {m : Nat} {ss : List Site} {rs : List Rgt} {ls : List Lea} (h : LeasOk m rs ls) (hm : m ≤ 4) {r : Rgt} (hw : r.wants.length ≤ 4) {acc : List D} {ρ : DL.Env} (hi : ∃ nm : Option C, ∃ o5 o6 o7 o8 o9 o10 o11 o12 o13 o14, ρ = [some (.d (basD m ss)), some (.d (.tup (rs.map rgtD))), some (.d (.tup (ls.map leaD))), some (.p 0), nm, o5, o6, o7, o8, o9, o10, o11, o12, o13, o14]) (hl : acc.length + (hold1 m rs ls r).length ≤ 1000000) :
    ∃ ρ1 ρ2, bindTg (.t [4, 5, 6]) (rgtD r) ρ = some ρ1 ∧ holdings_f2 ρ1 [.lst (acc.map .d)] = some (.nx ρ2 [.lst ((acc ++ hold1 m rs ls r).map .d)]) ∧ (∃ nm : Option C, ∃ o5 o6 o7 o8 o9 o10 o11 o12 o13 o14, ρ2 = [some (.d (basD m ss)), some (.d (.tup (rs.map rgtD))), some (.d (.tup (ls.map leaD))), some (.p 0), nm, o5, o6, o7, o8, o9, o10, o11, o12, o13, o14]) := by
  obtain ⟨nm, o5, o6, o7, o8, o9, o10, o11, o12, o13, o14, rfl⟩ := hi
  have h4 := h.nu
  have e1 := left_lc (ρ := [some (.d (basD m ss)), some (.d (.tup (rs.map rgtD))), some (.d (.tup (ls.map leaD))), some (.p 0), some (.d (.str r.name)), some (.d (.str r.site)), some (.d (.tup (r.wants.map .int))), o7, o8, o9, o10, o11, o12, o13, o14]) (m := m) (ls := ls) (nm := r.name) (is := r.wants) ⟨_, _, _, _, _, _, _, _, _, _, _, _, _, rfl⟩ (by omega) (by omega) (st := [.lst (acc.map .d)]) (by simp)
  have hl2 : acc.length < 1000000 := by
    unfold hold1 at hl
    rw [List.length_cons] at hl
    omega
  obtain ⟨ρ', hi', e2⟩ := forL_apps (t := .g [.n 10, .t [11, 12, 13, 9]]) (body := holdings_f1) (hEnv m ss rs ls r.name) (fun acc => [.lst (acc.map .d)]) enD (fun p => if (p.2.lender == r.name) = true then [D.tup [.str p.2.borrower, lrD m rs p]] else []) (en ls) (fun p hp ρ acc hi hl => holdings_f1_ok h hm hp hi hl)
    [some (.d (basD m ss)), some (.d (.tup (rs.map rgtD))), some (.d (.tup (ls.map leaD))), some (.p 0), some (.d (.str r.name)), some (.d (.str r.site)), some (.d (.tup (r.wants.map .int))), some (.d (.lst ((leftL ls r).map .int))), o8, o9, o10, o11, o12, o13, o14] (acc ++ [.tup [.str r.name, newR ls r]]) ⟨_, _, _, _, _, _, _, _, _, _, rfl⟩ (by
      rw [flatMap_if, List.length_append, List.length_singleton]
      unfold hold1 of_ at hl
      rw [List.length_cons] at hl
      omega)
  rw [flatMap_if] at e2
  have e3 : acc ++ [D.tup [.str r.name, newR ls r]] ++ ((en ls).filter fun p => p.2.lender == r.name).map (fun p => D.tup [.str p.2.borrower, lrD m rs p]) = acc ++ hold1 m rs ls r := by
    unfold hold1 of_
    simp
  rw [e3] at e2
  obtain ⟨p5, p6, p7, p8, p9, p10, p11, p12, p13, p14, rfl⟩ := hi'
  refine ⟨_, _, rfl, ?_, some (.d (.str r.name)), p5, p6, p7, p8, p9, p10, p11, p12, p13, p14, rfl⟩
  show holdings_f2 [some (.d (basD m ss)), some (.d (.tup (rs.map rgtD))), some (.d (.tup (ls.map leaD))), some (.p 0), some (.d (.str r.name)), some (.d (.str r.site)), some (.d (.tup (r.wants.map .int))), o7, o8, o9, o10, o11, o12, o13, o14] _ = _
  unfold holdings_f2
  rw [sSeq_ev, sSet_ev, e1]
  have e4 : (r.wants.mapIdx fun m a => a - lentN ls r.name (m : Nat)) = leftL ls r := rfl
  rw [e4]
  have e5 : newR ls r = .tup [.str r.name, .str r.site, .tup ((leftL ls r).map .int)] := rfl
  rw [e5, List.map_append] at e2
  simp [hl2, enum_en, -List.map_append] at e2 ⊢
  simp [e2]
def holdL (m : Nat) (rs : List Rgt) (ls : List Lea) : List D := rs.flatMap (hold1 m rs ls)
theorem flat_len {α : Type} {f : α → List D} {b : Nat} : ∀ (as : List α), (∀ a ∈ as, (f a).length ≤ b) → (as.flatMap f).length ≤ as.length * b
  | [], _ => by simp
  | a :: as, h => by
    have := flat_len as fun x hx => h x (by simp [hx])
    have h1 := h a (by simp)
    rw [List.flatMap_cons, List.length_append, List.length_cons, Nat.add_mul]
    omega
theorem holdings_ok {m : Nat} {ss : List Site} {rs : List Rgt} {ls : List Lea} (h : LeasOk m rs ls) (hm : m ≤ 4) (hr : rs.length ≤ 4) (hw : ∀ r ∈ rs, r.wants.length ≤ 4) :
    phi_holdings [.d (basD m ss), .d (.tup (rs.map rgtD)), .d (.tup (ls.map leaD))] [] = some (.d (.lst (holdL m rs ls)), []) := by
  have hb := refuse_bad_ok (ss := ss) h
  have h4 := h.nu
  have hlen : (holdL m rs ls).length ≤ 20 := by
    have := flat_len (f := hold1 m rs ls) (b := 5) rs fun a _ => by have := hold1_len (m := m) (rs := rs) (ls := ls) (r := a); omega
    unfold holdL
    omega
  obtain ⟨ρ', hi', e2⟩ := forL_apps (t := .t [4, 5, 6]) (body := holdings_f2) (fun ρ => ∃ nm : Option C, ∃ o5 o6 o7 o8 o9 o10 o11 o12 o13 o14, ρ = [some (.d (basD m ss)), some (.d (.tup (rs.map rgtD))), some (.d (.tup (ls.map leaD))), some (.p 0), nm, o5, o6, o7, o8, o9, o10, o11, o12, o13, o14]) (fun acc => [.lst (acc.map .d)]) rgtD (hold1 m rs ls) rs (fun r hr ρ acc hi hl => holdings_f2_ok h hm (hw r hr) hi hl)
    [some (.d (basD m ss)), some (.d (.tup (rs.map rgtD))), some (.d (.tup (ls.map leaD))), some (.p 0), none, none, none, none, none, none, none, none, none, none, none] [] ⟨_, _, _, _, _, _, _, _, _, _, _, rfl⟩ (by
      show 0 + (holdL m rs ls).length ≤ _
      omega)
  rw [List.nil_append] at e2
  have e3 : rs.flatMap (hold1 m rs ls) = holdL m rs ls := rfl
  rw [e3] at e2
  obtain ⟨nm, p5, p6, p7, p8, p9, p10, p11, p12, p13, p14, rfl⟩ := hi'
  have hG : G_holdings [some (.d (basD m ss)), some (.d (.tup (rs.map rgtD))), some (.d (.tup (ls.map leaD))), none, none, none, none, none, none, none, none, none, none, none, none] [] = some (.rt (.p 0) [.lst ((holdL m rs ls).map .d)]) := by
    unfold G_holdings
    simp [hb] at e2 ⊢
    simp [e2]
  have hf : frz 4 (.p 0) [.lst ((holdL m rs ls).map .d)] = some (.lst (holdL m rs ls), [.fro (.lst (holdL m rs ls))]) := by
    rw [frz_lst (ds := holdL m rs ls) (by simp)]
    rfl
  unfold phi_holdings
  rw [fnD_ev 15 3 G_holdings [.d (basD m ss), .d (.tup (rs.map rgtD)), .d (.tup (ls.map leaD))] rfl]
  simp [hG, fin_p, hf]
/-- the rights under leases -/
def undL (m : Nat) (rs : List Rgt) (ls : List Lea) : List D := rs.flatMap fun r => newR ls r :: (of_ ls r).map (lrD m rs)
theorem holdL_snd (m : Nat) (rs : List Rgt) (ls : List Lea) : ∃ ps : List (PySem.Str × D), holdL m rs ls = ps.map (fun p => D.tup [.str p.1, p.2]) ∧ undL m rs ls = ps.map (·.2) := by
  refine ⟨rs.flatMap fun r => (r.name, newR ls r) :: (of_ ls r).map fun p => (p.2.borrower, lrD m rs p), ?_, ?_⟩
  · unfold holdL hold1
    rw [List.map_flatMap]
    congr 1
    funext r
    simp
  · unfold undL
    rw [List.map_flatMap]
    congr 1
    funext r
    simp
theorem under_ok {m : Nat} {ss : List Site} {rs : List Rgt} {ls : List Lea} (h : LeasOk m rs ls) (hm : m ≤ 4) (hr : rs.length ≤ 4) (hw : ∀ r ∈ rs, r.wants.length ≤ 4) :
    phi_under [.d (basD m ss), .d (.tup (rs.map rgtD)), .d (.tup (ls.map leaD))] [] = some (.d (.tup (undL m rs ls)), []) := by
  have c := holdings_ok (ss := ss) h hm hr hw
  obtain ⟨ps, e1, e2⟩ := holdL_snd m rs ls
  have hlen : ps.length ≤ 20 := by
    have := flat_len (f := hold1 m rs ls) (b := 5) rs fun a _ => by have := hold1_len (m := m) (rs := rs) (ls := ls) (r := a); have := h.nu; omega
    have e3 := congrArg List.length e1
    rw [List.length_map] at e3
    unfold holdL at e3
    omega
  have hG : G_under [some (.d (basD m ss)), some (.d (.tup (rs.map rgtD))), some (.d (.tup (ls.map leaD))), none, none] [] = some (.rt (.d (.tup (undL m rs ls))) []) := by
    unfold G_under
    have e := eLc_it (ρ := [some (.d (basD m ss)), some (.d (.tup (rs.map rgtD))), some (.d (.tup (ls.map leaD))), none, none]) (st := []) (vs := [3, 4]) (t := .t [3, 4]) (gi := iV (eCall phi_holdings (aC (eV 0) (aC (eV 1) (aC (eV 2) aN)))))
      (test := gYes) (elt := eV 4) ps (fun p => D.tup [.str p.1, p.2]) (·.2) (fun _ => true) (by simp [c, e1]) (by omega) (fun p _ => ⟨_, rfl, rfl, fun _ => ⟨_, rfl, rfl⟩⟩)
    rw [List.filter_eq_self.mpr (by simp), ← e2] at e
    rw [sRt_ev, eCB_ev, aC_ev, e]
    simp
  unfold phi_under
  rw [fnD_ev 5 3 G_under [.d (basD m ss), .d (.tup (rs.map rgtD)), .d (.tup (ls.map leaD))] rfl]
  simp [hG]
end Lw
/-! L3: the rights under leases, by the law. -/
namespace Lw
open PySem PySem.Spec PyProof.Rows L2 DL
theorem at_z {α : Type} (st : List α) (a : α) (r : List α) : (st ++ a :: r)[st.length]? = some a := by simp
theorem at_s {α : Type} (st : List α) (a b : α) (r : List α) : (st ++ a :: b :: r)[st.length + 1]? = some b := by
  rw [List.getElem?_append_right (by omega)]
  have : st.length + 1 - st.length = 1 := by omega
  rw [this]
  rfl
theorem set_z {α : Type} (st : List α) (a x : α) (r : List α) : (st ++ a :: r).set st.length x = st ++ x :: r := by
  rw [List.set_append_right _ _ (by omega)]
  simp
theorem set_s {α : Type} (st : List α) (a b x : α) (r : List α) : (st ++ a :: b :: r).set (st.length + 1) x = st ++ a :: x :: r := by
  rw [List.set_append_right _ _ (by omega)]
  have : st.length + 1 - st.length = 1 := by omega
  rw [this]
  rfl
theorem lentN_step {ls : List Lea} {k : Nat} {l : Lea} (h : ls[k]? = some l) (nm : PySem.Str) (j : Int) : lentN (ls.take (k + 1)) nm j = lentN (ls.take k) nm j + (if (l.lender == nm && l.month == j) = true then l.amount else 0) := by
  have hk := (List.getElem?_eq_some_iff.mp h)
  obtain ⟨hk, e⟩ := hk
  rw [List.take_succ_eq_append_getElem hk, e]
  unfold lentN
  rw [List.filter_append, List.map_append, List.sum_append]
  congr 1
  by_cases c : (l.lender == nm && l.month == j) = true
  · rw [if_pos c, List.filter_cons, if_pos c]
    simp
  · rw [if_neg c, List.filter_cons, if_neg c]
    simp
def leftK (ls : List Lea) (nm : PySem.Str) (k : Nat) (w : List Int) : List Int := w.mapIdx fun j a => a - lentN (ls.take k) nm (j : Nat)
theorem leftK_zero (ls : List Lea) (nm : PySem.Str) (w : List Int) : leftK ls nm 0 w = w := by
  unfold leftK
  apply List.ext_getElem?
  intro i
  rw [List.getElem?_mapIdx]
  cases w[i]? <;> simp [lentN]
theorem leftK_no {ls : List Lea} {k : Nat} {l : Lea} (h : ls[k]? = some l) {nm : PySem.Str} (c : (l.lender == nm) = false) (w : List Int) : leftK ls nm (k + 1) w = leftK ls nm k w := by
  unfold leftK
  apply List.ext_getElem?
  intro i
  rw [List.getElem?_mapIdx, List.getElem?_mapIdx, lentN_step h]
  simp [c]
theorem leftK_yes {ls : List Lea} {k : Nat} {l : Lea} (h : ls[k]? = some l) {nm : PySem.Str} (c : (l.lender == nm) = true) {w : List Int} {j : Nat} (hj : l.month = (j : Nat)) {x : Int} (hx : (leftK ls nm k w)[j]? = some x) : leftK ls nm (k + 1) w = (leftK ls nm k w).set j (x - l.amount) := by
  apply List.ext_getElem?
  intro i
  by_cases e : j = i
  · subst e
    have hlt := (List.getElem?_eq_some_iff.mp hx).1
    rw [List.getElem?_set_self hlt]
    unfold leftK at hx ⊢
    rw [List.getElem?_mapIdx] at hx ⊢
    cases hw : w[j]? with
    | none => rw [hw] at hx; cases hx
    | some a =>
      rw [hw] at hx
      cases hx
      rw [lentN_step h]
      simp only [c, hj, Bool.true_and, beq_self_eq_true, if_true, Option.map_some]
      congr 1
      omega
  · rw [List.getElem?_set_ne e]
    unfold leftK
    rw [List.getElem?_mapIdx, List.getElem?_mapIdx, lentN_step h]
    have : (l.month == ((i : Nat) : Int)) = false := by
      rw [hj]
      simp
      omega
    simp [this]
theorem row_set {m : Nat} {l : Lea} {j : Nat} (hj : l.month = (j : Nat)) : (List.replicate m (0 : Int)).set j l.amount = rowL m l := by
  apply List.ext_getElem?
  intro i
  unfold rowL
  rw [List.getElem?_map]
  by_cases hi : i < m
  · rw [List.getElem?_range hi]
    by_cases e : j = i
    · subst e
      rw [List.getElem?_set_self (by simpa using hi)]
      simp [hj]
    · rw [List.getElem?_set_ne e]
      have : (((i : Nat) : Int) == l.month) = false := by
        rw [hj]
        simp
        omega
      rw [List.getElem?_replicate, if_pos hi, Option.map_some, this]
      rfl
  · rw [List.getElem?_eq_none (by simp; omega), List.getElem?_eq_none (by simp; omega)]
    rfl
theorem place_at {rs : List Rgt} {b : PySem.Str} {r : Rgt} (h : rs.find? (fun r => r.name == b) = some r) : ((rs.filter fun r => r.name == b).map fun r => D.str r.site)[0]? = some (.str (siteOf rs b)) := by
  have e : siteOf rs b = r.site := by unfold siteOf; rw [h]; rfl
  rw [e, List.getElem?_map, ← List.head?_eq_getElem?, List.head?_filter, h]
  rfl
def uEnv (m : Nat) (rs : List Rgt) (ls : List Lea) (fnd : D) (r : Rgt) (n : Nat) (ρ : DL.Env) : Prop := ∃ o8 o9 o10 o11 o12 o13 o14 o15, ρ = [some (.d (.tup (rs.map rgtD))), some (.d (.tup (ls.map leaD))), some (.d fnd), some (.d (.str r.name)), some (.d (.str r.site)), some (.d (.tup (r.wants.map .int))), some (.p n), some (.p (n + 1)), o8, o9, o10, o11, o12, o13, o14, o15]
def moreK (m : Nat) (rs : List Rgt) (ls : List Lea) (r : Rgt) (k : Nat) : List D := ((en (ls.take k)).filter fun p => p.2.lender == r.name).map (lrD m rs)
theorem en_take_succ {ls : List Lea} {k : Nat} {l : Lea} (h : ls[k]? = some l) : en (ls.take (k + 1)) = en (ls.take k) ++ [(k, l)] := by
  obtain ⟨hk, e⟩ := List.getElem?_eq_some_iff.mp h
  rw [List.take_succ_eq_append_getElem hk, e]
  unfold en
  rw [List.mapIdx_append]
  simp
  omega
theorem lw_under_f1_ok {m : Nat} {rs : List Rgt} {ls : List Lea} (h : LeasOk m rs ls) (hm : m ≤ 4) {r : Rgt} (hr : rs.length ≤ 4) (hw : r.wants.length = m) (hf : ∀ l : Lea, ∀ r2 : Rgt, (l.lender == r.name) = true → rs.find? (fun r => r.name == l.lender) = some r2 → r2 = r) {fnd : D} {st0 : Sto} {k : Nat} {ρ : DL.Env} {st : Sto} (hk : k < ls.length)
    (hi : uEnv m rs ls fnd r st0.length ρ) (hst : ∃ junk, st = st0 ++ .lst (((leftK ls r.name k r.wants).map .int).map .d) :: .lst ((moreK m rs ls r k).map .d) :: junk) (hml : (moreK m rs ls r k).length ≤ 4) :
    ∃ ρ1 ρ2 st2, bindTg (.n 8) (.int (k : Nat)) ρ = some ρ1 ∧ lw_under_f1 ρ1 st = some (.nx ρ2 st2) ∧ uEnv m rs ls fnd r st0.length ρ2 ∧ ∃ junk, st2 = st0 ++ .lst (((leftK ls r.name (k + 1) r.wants).map .int).map .d) :: .lst ((moreK m rs ls r (k + 1)).map .d) :: junk := by
  obtain ⟨o8, o9, o10, o11, o12, o13, o14, o15, rfl⟩ := hi
  obtain ⟨junk, rfl⟩ := hst
  have hl : ls[k]? = some ls[k] := List.getElem?_eq_getElem hk
  generalize ls[k] = l at hl
  have h4 := h.nu
  have ok := h.all k l hl
  have a1 : atI (ls.map leaD) (k : Int) = some (leaD l) := by rw [atI_k, List.getElem?_map, hl]; rfl
  by_cases c : (l.lender == r.name) = true
  · obtain ⟨⟨r1, hr1, j, w, hj, hjm, hwj, hle⟩, ⟨r2, hr2⟩, hne, am⟩ := ok
    have e1 := hf l r1 c hr1
    subst e1
    have hjl : j < (leftK ls r1.name k r1.wants).length := by unfold leftK; rw [List.length_mapIdx, hw]; exact hjm
    have hx : (leftK ls r1.name k r1.wants)[j]? = some (leftK ls r1.name k r1.wants)[j] := List.getElem?_eq_getElem hjl
    generalize (leftK ls r1.name k r1.wants)[j] = x at hx
    have s1 := leftK_yes hl c hj hx
    have s2 : moreK m rs ls r1 (k + 1) = moreK m rs ls r1 k ++ [lrD m rs (k, l)] := by
      unfold moreK
      rw [en_take_succ hl, List.filter_append, List.map_append, List.filter_cons, if_pos c]
      rfl
    obtain ⟨cc, z, n1, n2, n3, n4⟩ := lea_at k (by omega)
    have el : lrD m rs (k, l) = .tup [.str z, .str (siteOf rs l.borrower), .tup ((rowL m l).map .int)] := by unfold lrD rgtD; rw [n1]; rfl
    have hrow := row_set (m := m) hj
    have hpl := place_at hr2
    let A : List C := ((leftK ls r1.name k r1.wants).map .int).map .d
    let A' : List C := ((leftK ls r1.name (k + 1) r1.wants).map .int).map .d
    let M : List C := (moreK m rs ls r1 k).map .d
    let Z : List C := ((List.replicate m (0 : Int)).map .int).map .d
    let W : List C := ((rowL m l).map .int).map .d
    let E (o8 o9 o10 o11 o12 o13 o14 : Option C) : DL.Env := [some (.d (.tup (rs.map rgtD))), some (.d (.tup (ls.map leaD))), some (.d fnd), some (.d (.str r1.name)), some (.d (.str r1.site)), some (.d (.tup (r1.wants.map .int))), some (.p st0.length), some (.p (st0.length + 1)), o8, o9, o10, o11, o12, o13, o14, o15]
    let k8 : Option C := some (.d (.int (k : Nat)))
    let k9 : Option C := some (.d (.str l.lender))
    let k10 : Option C := some (.d (.str l.borrower))
    let k11 : Option C := some (.d (.int l.month))
    let k12 : Option C := some (.d (.int l.amount))
    let k13 : Option C := some (.p (st0.length + 2 + junk.length))
    let k14 : Option C := some (.d (.str (siteOf rs l.borrower)))
    have dA : derK (some (.lst A)) = some (.lst ((leftK ls r1.name k r1.wants).map .int)) := by simp only [A, derK_lst, allD_map_ev]; rfl
    have iA : atI ((leftK ls r1.name k r1.wants).map D.int) l.month = some (.int x) := by rw [hj, atI_k, List.getElem?_map, hx]; rfl
    have nA : ixN A.length l.month = some j := by
      rw [hj, ixN_k, if_pos]
      simp only [A, List.length_map]
      exact hjl
    have sA : A.set j (.d (.int (x - l.amount))) = A' := by
      simp only [A, A']
      rw [s1, List.map_set, List.map_set]
    have t1 : (sUn (.t [9, 10, 11, 12]) (eOp ixD (eV 1) (eV 8))) (E k8 o9 o10 o11 o12 o13 o14) (st0 ++ .lst A :: .lst M :: junk) = some (.nx (E k8 k9 k10 k11 k12 o13 o14) (st0 ++ .lst A :: .lst M :: junk)) := by
      simp [E, k8, k9, k10, k11, k12, a1, leaD]
    have t2 : (sPut (eV 6) (eV 11) (eOp subD (eOp ixD (eV 6) (eV 11)) (eV 12))) (E k8 k9 k10 k11 k12 o13 o14) (st0 ++ .lst A :: .lst M :: junk) = some (.nx (E k8 k9 k10 k11 k12 o13 o14) (st0 ++ .lst A' :: .lst M :: junk)) := by
      clear_value A A' M
      simp [E, k8, k9, k10, k11, k12, at_z, set_z, dA, iA, nA, sA, subD]
    have t3 : (sNew 13 (eOp mulD (eLst (aC (eK (.int 0)) aN)) (eCB lenD (aC (eV 5) aN)))) (E k8 k9 k10 k11 k12 o13 o14) (st0 ++ .lst A' :: .lst M :: junk) = some (.nx (E k8 k9 k10 k11 k12 k13 o14) (st0 ++ .lst A' :: .lst M :: (junk ++ [.lst Z]))) := by
      have q1 : m < 1000 := by omega
      have q2 : (List.replicate m [D.int 0]).flatten = (List.replicate m (0 : Int)).map .int := by
        rw [List.map_replicate]
        exact List.flatten_replicate_singleton
      clear_value A A' M
      simp [E, k8, k9, k10, k11, k12, k13, hw, q1, q2, Z]
      omega
    have nZ : ixN Z.length l.month = some j := by
      rw [hj, ixN_k, if_pos]
      simp only [Z, List.length_map, List.length_replicate]
      exact hjm
    have sZ : Z.set j (.d (.int l.amount)) = W := by
      simp only [Z, W]
      rw [← hrow, List.map_set, List.map_set]
    have atE : ∀ (o : SO), (st0 ++ .lst A' :: .lst M :: (junk ++ [o]))[st0.length + 2 + junk.length]? = some o := fun o => by
      rw [List.getElem?_append_right (by omega)]
      have : st0.length + 2 + junk.length - st0.length = junk.length + 1 + 1 := by omega
      rw [this]
      simp
    have setE : ∀ (o x : SO), (st0 ++ .lst A' :: .lst M :: (junk ++ [o])).set (st0.length + 2 + junk.length) x = st0 ++ .lst A' :: .lst M :: (junk ++ [x]) := fun o x => by
      rw [List.set_append_right _ _ (by omega)]
      have : st0.length + 2 + junk.length - st0.length = junk.length + 1 + 1 := by omega
      rw [this]
      simp
    have t4 : (sPut (eV 13) (eV 11) (eV 12)) (E k8 k9 k10 k11 k12 k13 o14) (st0 ++ .lst A' :: .lst M :: (junk ++ [.lst Z])) = some (.nx (E k8 k9 k10 k11 k12 k13 o14) (st0 ++ .lst A' :: .lst M :: (junk ++ [.lst W]))) := by
      clear_value A A' M Z W
      simp [E, k8, k9, k10, k11, k12, k13, atE, setE, nZ, sZ]
    have hlc := eLc_it (ρ := E k8 k9 k10 k11 k12 k13 o14) (st := st0 ++ .lst A' :: .lst M :: (junk ++ [.lst W])) (vs := [15]) (t := .n 15) (gi := iV (eV 0)) (test := DL.tB (eOp (eqD false) (eOp ixD (eV 15) (eK (.int 0))) (eV 10))) (elt := eOp ixD (eV 15) (eK (.int 1))) rs rgtD (fun r => .str r.site) (fun r => r.name == l.borrower) (by simp [E]) (by omega) (fun r _ => ⟨_, rfl, by simp [E, k10, rgtD], fun _ => ⟨.d (.str r.site), by simp [E, rgtD], rfl⟩⟩)
    have t5 : (sSet 14 (eOp ixD (eLc [15] (.n 15) (iV (eV 0)) (DL.tB (eOp (eqD false) (eOp ixD (eV 15) (eK (.int 0))) (eV 10))) (eOp ixD (eV 15) (eK (.int 1)))) (eK (.int 0)))) (E k8 k9 k10 k11 k12 k13 o14) (st0 ++ .lst A' :: .lst M :: (junk ++ [.lst W])) = some (.nx (E k8 k9 k10 k11 k12 k13 k14) (st0 ++ .lst A' :: .lst M :: (junk ++ [.lst W]))) := by
      rw [sSet_ev, eOp_ev, hlc]
      clear_value A A' M Z W
      simp only [Option.bind_some, eK_ev, deref_d, ix_lst, atI_0, hpl, Option.map_some]
      rfl
    have hM : M.length < 1000000 := by
      simp only [M, List.length_map]
      omega
    have dW : derK (some (.lst W)) = some (.lst ((rowL m l).map .int)) := by simp only [W, derK_lst, allD_map_ev]; rfl
    have sM : M ++ [.d (lrD m rs (k, l))] = (moreK m rs ls r1 (k + 1)).map .d := by rw [s2, List.map_append]; rfl
    have t6 : (sEx (eApp (eV 7) (eTup (aC (eOp addD (eK (.str "lease")) (eOp ixD (eK (.str "abcd")) (eCB DL.intD (aC (eV 8) aN)))) (aC (eV 14) (aC (eCB tupleD (aC (eV 13) aN)) aN)))))) (E k8 k9 k10 k11 k12 k13 k14) (st0 ++ .lst A' :: .lst M :: (junk ++ [.lst W])) = some (.nx (E k8 k9 k10 k11 k12 k13 k14) (st0 ++ .lst A' :: .lst ((moreK m rs ls r1 (k + 1)).map .d) :: (junk ++ [.lst W]))) := by
      rw [← sM, el]
      clear_value A A' M Z W
      simp [E, k8, k9, k10, k11, k12, k13, k14, at_s, set_s, atE, dW, n2, n4, hM, -add_ss]
    have tt : (DL.tB (eOp (eqD false) (eV 9) (eV 3))) (E k8 k9 k10 k11 k12 o13 o14) (st0 ++ .lst A :: .lst M :: junk) = some (true, st0 ++ .lst A :: .lst M :: junk) := by
      simp [E, k9, c]
    refine ⟨_, E k8 k9 k10 k11 k12 k13 k14, st0 ++ .lst A' :: .lst ((moreK m rs ls r1 (k + 1)).map .d) :: (junk ++ [.lst W]), rfl, ?_, ⟨_, _, _, _, _, _, _, _, rfl⟩, _, rfl⟩
    show lw_under_f1 (E k8 o9 o10 o11 o12 o13 o14) (st0 ++ .lst A :: .lst M :: junk) = _
    unfold lw_under_f1
    rw [sSeq_ev, t1, Option.bind_some, seqK_nx, sIf_ev, tt, Option.bind_some, if_pos rfl, sSeq_ev, t2, Option.bind_some, seqK_nx, sSeq_ev, t3, Option.bind_some, seqK_nx, sSeq_ev, t4, Option.bind_some, seqK_nx, sSeq_ev, t5, Option.bind_some, seqK_nx, t6]
  · have c' : (l.lender == r.name) = false := by simpa using c
    have s1 := leftK_no hl c' r.wants
    have s2 : moreK m rs ls r (k + 1) = moreK m rs ls r k := by
      unfold moreK
      rw [en_take_succ hl, List.filter_append, List.map_append, List.filter_cons, if_neg c]
      simp
    refine ⟨_, _, _, rfl, ?_, ⟨some (.d (.int (k : Nat))), some (.d (.str l.lender)), some (.d (.str l.borrower)), some (.d (.int l.month)), some (.d (.int l.amount)), o13, o14, o15, rfl⟩, junk, rfl⟩
    rw [s1, s2]
    show lw_under_f1 [some (.d (.tup (rs.map rgtD))), some (.d (.tup (ls.map leaD))), some (.d fnd), some (.d (.str r.name)), some (.d (.str r.site)), some (.d (.tup (r.wants.map .int))), some (.p st0.length), some (.p (st0.length + 1)), some (.d (.int (k : Nat))), o9, o10, o11, o12, o13, o14, o15] _ = _
    unfold lw_under_f1
    simp [a1, leaD, c']
end Lw
/-! L4: the law's own rights under leases; the same. -/
namespace Lw
open PySem PySem.Spec PyProof.Rows L2 DL
def und1 (m : Nat) (rs : List Rgt) (ls : List Lea) (r : Rgt) : List D := newR ls r :: (of_ ls r).map (lrD m rs)
theorem en_len (ls : List Lea) : (en ls).length = ls.length := by unfold en; rw [List.length_mapIdx]
theorem lw_under_f2_ok {m : Nat} {rs : List Rgt} {ls : List Lea} (h : LeasOk m rs ls) (hm : m ≤ 4) {r : Rgt} (hr : rs.length ≤ 4) (hw : r.wants.length = m) (hf : ∀ l : Lea, ∀ r2 : Rgt, (l.lender == r.name) = true → rs.find? (fun r => r.name == l.lender) = some r2 → r2 = r) {acc : List D} (hacc : acc.length ≤ 100) {st0 : Sto} {o3 o4 o5 o6 o7 o8 o9 o10 o11 o12 o13 o14 o15 : Option C} :
    ∃ (ρ1 : DL.Env) (st2 : Sto) (p3 p4 p5 p6 p7 p8 p9 p10 p11 p12 p13 p14 p15 : Option C), bindTg (.t [3, 4, 5]) (rgtD r) [some (.d (.tup (rs.map rgtD))), some (.d (.tup (ls.map leaD))), some (.d (.lst acc)), o3, o4, o5, o6, o7, o8, o9, o10, o11, o12, o13, o14, o15] = some ρ1 ∧
      lw_under_f2 ρ1 st0 = some (.nx [some (.d (.tup (rs.map rgtD))), some (.d (.tup (ls.map leaD))), some (.d (.lst (acc ++ und1 m rs ls r))), p3, p4, p5, p6, p7, p8, p9, p10, p11, p12, p13, p14, p15] st2) := by
  have h4 := h.nu
  have ml : ∀ k, (moreK m rs ls r k).length ≤ 4 := fun k => by
    unfold moreK
    rw [List.length_map]
    have := List.length_filter_le (fun p : Nat × Lea => p.2.lender == r.name) (en (ls.take k))
    rw [en_len, List.length_take] at this
    omega
  obtain ⟨ρ', st', e, ⟨p8, p9, p10, p11, p12, p13, p14, p15, rfl⟩, junk, rfl⟩ := forR_inv (t := .n 8) (body := lw_under_f1) (n := ls.length) (fun k ρ st => uEnv m rs ls (.lst acc) r st0.length ρ ∧ ∃ junk, st = st0 ++ .lst (((leftK ls r.name k r.wants).map .int).map .d) :: .lst ((moreK m rs ls r k).map .d) :: junk) (fun k ρ st hk ⟨hi, hst⟩ => by
    obtain ⟨ρ1, ρ2, st2, h1, h2, h3, h5⟩ := lw_under_f1_ok h hm hr hw hf hk hi hst (ml k)
    exact ⟨ρ1, ρ2, st2, h1, h2, h3, h5⟩) [some (.d (.tup (rs.map rgtD))), some (.d (.tup (ls.map leaD))), some (.d (.lst acc)), some (.d (.str r.name)), some (.d (.str r.site)), some (.d (.tup (r.wants.map .int))), some (.p st0.length), some (.p (st0.length + 1)), o8, o9, o10, o11, o12, o13, o14, o15] (st0 ++ [.lst ((r.wants.map .int).map .d), .lst []]) ⟨⟨_, _, _, _, _, _, _, _, rfl⟩, [], by
      rw [leftK_zero]
      have : moreK m rs ls r 0 = [] := by unfold moreK en; simp
      rw [this]
      rfl⟩
  have e1 : leftK ls r.name ls.length r.wants = leftL ls r := by unfold leftK leftL; rw [List.take_length]
  have e2 : moreK m rs ls r ls.length = (of_ ls r).map (lrD m rs) := by unfold moreK of_; rw [List.take_length]
  have hml := ml ls.length
  rw [e1, e2] at e
  rw [e2] at hml
  have hL : ls.length < 1000000 := by omega
  refine ⟨_, st0 ++ .lst (((leftL ls r).map .int).map .d) :: .lst (((of_ ls r).map (lrD m rs)).map .d) :: junk, some (.d (.str r.name)), some (.d (.str r.site)), some (.d (.tup (r.wants.map .int))), some (.p st0.length), some (.p (st0.length + 1)), p8, p9, p10, p11, p12, p13, p14, p15, rfl, ?_⟩
  show lw_under_f2 [some (.d (.tup (rs.map rgtD))), some (.d (.tup (ls.map leaD))), some (.d (.lst acc)), some (.d (.str r.name)), some (.d (.str r.site)), some (.d (.tup (r.wants.map .int))), o6, o7, o8, o9, o10, o11, o12, o13, o14, o15] st0 = _
  have t1 : (sNew 6 (eCB listD (aC (eV 5) aN))) [some (.d (.tup (rs.map rgtD))), some (.d (.tup (ls.map leaD))), some (.d (.lst acc)), some (.d (.str r.name)), some (.d (.str r.site)), some (.d (.tup (r.wants.map .int))), o6, o7, o8, o9, o10, o11, o12, o13, o14, o15] st0 = some (.nx [some (.d (.tup (rs.map rgtD))), some (.d (.tup (ls.map leaD))), some (.d (.lst acc)), some (.d (.str r.name)), some (.d (.str r.site)), some (.d (.tup (r.wants.map .int))), some (.p st0.length), o7, o8, o9, o10, o11, o12, o13, o14, o15] (st0 ++ [.lst ((r.wants.map .int).map .d)])) := by
    have : ∀ xs : List D, listD [.tup xs] = some (.lst xs) := fun _ => rfl
    simp [this, -List.map_map]
  have t2 : (sNew 7 (eLst aN)) [some (.d (.tup (rs.map rgtD))), some (.d (.tup (ls.map leaD))), some (.d (.lst acc)), some (.d (.str r.name)), some (.d (.str r.site)), some (.d (.tup (r.wants.map .int))), some (.p st0.length), o7, o8, o9, o10, o11, o12, o13, o14, o15] (st0 ++ [.lst ((r.wants.map .int).map .d)]) = some (.nx [some (.d (.tup (rs.map rgtD))), some (.d (.tup (ls.map leaD))), some (.d (.lst acc)), some (.d (.str r.name)), some (.d (.str r.site)), some (.d (.tup (r.wants.map .int))), some (.p st0.length), some (.p (st0.length + 1)), o8, o9, o10, o11, o12, o13, o14, o15] (st0 ++ [.lst ((r.wants.map .int).map .d), .lst []])) := by
    generalize (r.wants.map D.int).map C.d = q
    simp
  have t3 : (sFor (.n 8) (iR1 (aC (eCB lenD (aC (eV 1) aN)) aN)) lw_under_f1) [some (.d (.tup (rs.map rgtD))), some (.d (.tup (ls.map leaD))), some (.d (.lst acc)), some (.d (.str r.name)), some (.d (.str r.site)), some (.d (.tup (r.wants.map .int))), some (.p st0.length), some (.p (st0.length + 1)), o8, o9, o10, o11, o12, o13, o14, o15] (st0 ++ [.lst ((r.wants.map .int).map .d), .lst []]) = some (.nx [some (.d (.tup (rs.map rgtD))), some (.d (.tup (ls.map leaD))), some (.d (.lst acc)), some (.d (.str r.name)), some (.d (.str r.site)), some (.d (.tup (r.wants.map .int))), some (.p st0.length), some (.p (st0.length + 1)), p8, p9, p10, p11, p12, p13, p14, p15] (st0 ++ .lst (((leftL ls r).map .int).map .d) :: .lst (((of_ ls r).map (lrD m rs)).map .d) :: junk)) := by
    rw [← e]
    simp [hL]
  unfold lw_under_f2
  rw [sSeq_ev, t1, Option.bind_some, seqK_nx, sSeq_ev, t2, Option.bind_some, seqK_nx, sSeq_ev, t3, Option.bind_some, seqK_nx]
  have dA : derK (some (.lst (((leftL ls r).map .int).map .d))) = some (.lst ((leftL ls r).map .int)) := by simp only [derK_lst, allD_map_ev]; rfl
  have dB : derK (some (.lst (((of_ ls r).map (lrD m rs)).map .d))) = some (.lst ((of_ ls r).map (lrD m rs))) := by simp only [derK_lst, allD_map_ev]; rfl
  have e3 : acc ++ und1 m rs ls r = acc ++ [.tup [.str r.name, .str r.site, .tup ((leftL ls r).map .int)]] ++ (of_ ls r).map (lrD m rs) := by
    unfold und1 newR rgtD
    simp
  rw [List.length_map] at hml
  have hz1 : acc.length + 1 ≤ 1000000 := by omega
  have hz2 : acc.length + 1 + (of_ ls r).length ≤ 1000000 := by omega
  rw [e3]
  generalize ((leftL ls r).map D.int).map C.d = A at *
  generalize hB : ((of_ ls r).map (lrD m rs)).map C.d = B at *
  simp [at_z, at_s, dA, dB, hz1, hz2]
theorem lw_under_ok {m : Nat} {rs : List Rgt} {ls : List Lea} (h : LeasOk m rs ls) (hm : m ≤ 4) (hr : rs.length ≤ 4) (hw : ∀ r ∈ rs, r.wants.length = m) (hf : ∀ r ∈ rs, ∀ l : Lea, ∀ r2 : Rgt, (l.lender == r.name) = true → rs.find? (fun r => r.name == l.lender) = some r2 → r2 = r) :
    phi_lw_under [.d (.tup (rs.map rgtD)), .d (.tup (ls.map leaD))] [] = some (.d (.tup (undL m rs ls)), []) := by
  have h4 := h.nu
  have l1 : ∀ r, (und1 m rs ls r).length ≤ 5 := fun r => by
    unfold und1 of_
    rw [List.length_cons, List.length_map]
    have := List.length_filter_le (fun p : Nat × Lea => p.2.lender == r.name) (en ls)
    rw [en_len] at this
    omega
  obtain ⟨ρ', st', e, p3, p4, p5, p6, p7, p8, p9, p10, p11, p12, p13, p14, p15, rfl⟩ := forX_inv (t := .t [3, 4, 5]) (body := lw_under_f2) (xs := rs.map rgtD) (fun k ρ st => ∃ p3 p4 p5 p6 p7 p8 p9 p10 p11 p12 p13 p14 p15, ρ = [some (.d (.tup (rs.map rgtD))), some (.d (.tup (ls.map leaD))), some (.d (.lst ((rs.take k).flatMap (und1 m rs ls)))), p3, p4, p5, p6, p7, p8, p9, p10, p11, p12, p13, p14, p15]) (fun k x ρ st hx hp => by
    obtain ⟨p3, p4, p5, p6, p7, p8, p9, p10, p11, p12, p13, p14, p15, rfl⟩ := hp
    rw [List.getElem?_map] at hx
    cases hq : rs[k]? with
    | none => rw [hq] at hx; cases hx
    | some r =>
      rw [hq] at hx
      cases hx
      have hmem := List.mem_of_getElem? hq
      have hl := flat_len (f := und1 m rs ls) (b := 5) (rs.take k) fun a _ => l1 a
      have hl2 : (rs.take k).length ≤ 4 := by rw [List.length_take]; omega
      obtain ⟨ρ1, st2, q3, q4, q5, q6, q7, q8, q9, q10, q11, q12, q13, q14, q15, h1, h2⟩ := lw_under_f2_ok h hm hr (hw r hmem) (hf r hmem) (acc := (rs.take k).flatMap (und1 m rs ls)) (by omega) (st0 := st) (o3 := p3) (o4 := p4) (o5 := p5) (o6 := p6) (o7 := p7) (o8 := p8) (o9 := p9) (o10 := p10) (o11 := p11) (o12 := p12) (o13 := p13) (o14 := p14) (o15 := p15)
      refine ⟨ρ1, _, st2, h1, h2, q3, q4, q5, q6, q7, q8, q9, q10, q11, q12, q13, q14, q15, ?_⟩
      obtain ⟨hk, e5⟩ := List.getElem?_eq_some_iff.mp hq
      rw [List.take_succ_eq_append_getElem hk, e5, List.flatMap_append]
      simp) [some (.d (.tup (rs.map rgtD))), some (.d (.tup (ls.map leaD))), some (.d (.lst [])), none, none, none, none, none, none, none, none, none, none, none, none, none] [] ⟨_, _, _, _, _, _, _, _, _, _, _, _, _, rfl⟩
  have e6 : (rs.take (rs.map rgtD).length).flatMap (und1 m rs ls) = undL m rs ls := by
    rw [List.length_map, List.take_length]
    rfl
  rw [e6] at e
  have hG : G_lw_under [some (.d (.tup (rs.map rgtD))), some (.d (.tup (ls.map leaD))), none, none, none, none, none, none, none, none, none, none, none, none, none, none] [] = some (.rt (.d (.tup (undL m rs ls))) st') := by
    unfold G_lw_under
    simp [e]
  unfold phi_lw_under
  rw [fnD_ev 16 2 G_lw_under [.d (.tup (rs.map rgtD)), .d (.tup (ls.map leaD))] rfl]
  simp [hG]
end Lw
/-! L5: leases drawn. -/
namespace Lw
open PySem PySem.Spec PyProof.Rows L2 DL
theorem sum_nn : ∀ (xs : List Int), (∀ x ∈ xs, 0 ≤ x) → 0 ≤ xs.sum
  | [], _ => by simp
  | x :: xs, h => by
    have := sum_nn xs fun y hy => h y (by simp [hy])
    have h1 := h x (by simp)
    rw [List.sum_cons]
    omega
theorem lentN_nn {ls : List Lea} (h : ∀ l ∈ ls, 0 ≤ l.amount) (nm : PySem.Str) (j : Int) : 0 ≤ lentN ls nm j := by
  unfold lentN
  refine sum_nn _ fun x hx => ?_
  obtain ⟨l, hl, rfl⟩ := List.mem_map.mp hx
  exact h l (List.mem_filter.mp hl).1
theorem leas_am {m : Nat} {rs : List Rgt} {ls : List Lea} (h : LeasOk m rs ls) : ∀ l ∈ ls, 0 ≤ l.amount := fun l hl => by
  obtain ⟨k, hk⟩ := List.getElem?_of_mem hl
  have := (h.all k l hk).am
  omega
theorem leas_app {m : Nat} {rs : List Rgt} {ls : List Lea} {l : Lea} (h : LeasOk m rs ls) (hl : LeaOk m rs ls l) (hn : ls.length < 4) : LeasOk m rs (ls ++ [l]) := by
  refine ⟨by rw [List.length_append]; show ls.length + 1 ≤ 4; omega, fun k x hx => ?_⟩
  rcases Nat.lt_or_ge k ls.length with c | c
  · rw [List.getElem?_append_left c] at hx
    rw [List.take_append_of_le_length (by omega)]
    exact h.all k x hx
  · rw [List.getElem?_append_right c] at hx
    rcases Nat.lt_or_ge ls.length k with c2 | c2
    · rw [List.getElem?_eq_none (by simp; omega)] at hx
      cases hx
    · have : k = ls.length := by omega
      subst this
      simp at hx
      subst hx
      rw [List.take_left]
      exact hl
/-- the names of rights are unlike -/
theorem rgt_uni {ss : List Site} {m : Nat} {rs : List Rgt} (h : RgsB ss m rs) {i j : Nat} {x y : Rgt} (hx : rs[i]? = some x) (hy : rs[j]? = some y) (e : x.name = y.name) : i = j := by
  have a := (h.all i x hx).name
  have b := (h.all j y hy).name
  rw [e] at a
  have hi : i < namR.length := (List.getElem?_eq_some_iff.mp a).1
  have hj : j < namR.length := (List.getElem?_eq_some_iff.mp b).1
  have dec : ∀ i < 4, ∀ j < 4, namR[i]? = namR[j]? → i = j := by decide +kernel
  exact dec i hi j hj (a.trans b.symm)
theorem rgt_find {ss : List Site} {m : Nat} {rs : List Rgt} (h : RgsB ss m rs) {r : Rgt} (hr : r ∈ rs) : rs.find? (fun x => x.name == r.name) = some r := by
  obtain ⟨i, hi⟩ := List.getElem?_of_mem hr
  cases e : rs.find? fun x => x.name == r.name with
  | none =>
    have := List.find?_eq_none.mp e r hr
    simp at this
  | some x =>
    have h1 := List.find?_some e
    obtain ⟨j, hj⟩ := List.getElem?_of_mem (List.mem_of_find?_eq_some e)
    have h2 := rgt_uni h hi hj (eq_of_beq h1).symm
    subst h2
    rw [hi] at hj
    exact hj.symm ▸ rfl
theorem rgt_same {ss : List Site} {m : Nat} {rs : List Rgt} (h : RgsB ss m rs) : ∀ r ∈ rs, ∀ l : Lea, ∀ r2 : Rgt, (l.lender == r.name) = true → rs.find? (fun r => r.name == l.lender) = some r2 → r2 = r := fun r hr l r2 e f => by
  rw [eq_of_beq e, rgt_find h hr] at f
  cases f
  rfl
theorem right_at {ss : List Site} {m : Nat} {rs : List Rgt} (h0 : 0 < rs.length) (i : Int) : ∃ r ∈ rs, atI (rs.map rgtD) (i % rs.length) = some (rgtD r) := by
  have p : (0 : Int) < rs.length := by omega
  obtain ⟨k, hk⟩ := Int.eq_ofNat_of_zero_le (Int.emod_nonneg i (by omega : (rs.length : Int) ≠ 0))
  have hlt := Int.emod_lt_of_pos i p
  have hk2 : k < rs.length := by omega
  exact ⟨rs[k], List.getElem_mem hk2, by rw [hk, atI_k]; simp [hk2]⟩
theorem leases_f1_ok {ss : List Site} {m : Nat} {rs : List Rgt} (R : RgsB ss m rs) (h0 : 0 < rs.length) (hm : 1 ≤ m ∧ m ≤ 4) {ds : List Int} {n : Nat} {ls : List Lea} (h : LeasOk m rs ls) (h4 : ls.length < 4) {t : Nat} {o6 o7 o8 o9 o10 : Option C} :
    ∃ (ls' : List Lea) (n' : Nat) (p6 p7 p8 p9 : Option C), LeasOk m rs ls' ∧ ls'.length ≤ ls.length + 1 ∧ lw_leases_f1 [some (.p 0), some (.d (basD m ss)), some (.d (.tup (rs.map rgtD))), some (.d (.int 4)), some (.p 1), some (.d (.int (t : Nat))), o6, o7, o8, o9, o10] [box ds n, .lst ((ls.map leaD).map .d)]
      = some (.nx [some (.p 0), some (.d (basD m ss)), some (.d (.tup (rs.map rgtD))), some (.d (.int 4)), some (.p 1), some (.d (.int (t : Nat))), p6, p7, p8, p9, o10] [box ds n', .lst ((ls'.map leaD).map .d)]) := by
  obtain ⟨one, h1, a1⟩ := right_at (ss := ss) (m := m) h0 (drw ds n 90)
  obtain ⟨two, h2, a2⟩ := right_at (ss := ss) (m := m) h0 (drw ds (n + 1) 90)
  have p : (0 : Int) < rs.length := by omega
  have pm : (0 : Int) < m := by omega
  obtain ⟨j, hj⟩ := Int.eq_ofNat_of_zero_le (Int.emod_nonneg (drw ds (n + 1 + 1) 90) (by omega : (m : Int) ≠ 0))
  have hjm := Int.emod_lt_of_pos (drw ds (n + 1 + 1) 90) pm
  have hj4 : j < m := by omega
  obtain ⟨i1, hi1⟩ := List.getElem?_of_mem h1
  have w1 := (R.all i1 one hi1).wants
  have hjw : j < one.wants.length := by omega
  have hw : one.wants[j]? = some one.wants[j] := List.getElem?_eq_getElem hjw
  have hwb := w1.2 _ (List.getElem_mem hjw)
  generalize one.wants[j] = w at hw hwb
  have b0 : ixD (basD m ss) (.int 0) = some (.int (m : Nat)) := rfl
  have rn : ∀ r : Rgt, ixD (rgtD r) (.int 0) = some (.str r.name) := fun _ => rfl
  have rw2 : ∀ r : Rgt, ixD (rgtD r) (.int 2) = some (.tup (r.wants.map .int)) := fun _ => rfl
  have aw : atI (one.wants.map D.int) (j : Int) = some (.int w) := by rw [atI_k, List.getElem?_map, hw]; rfl
  let has := w - lentN ls one.name j
  have k6 : Option C := none
  let E (o6 o7 o8 o9 : Option C) : DL.Env := [some (.p 0), some (.d (basD m ss)), some (.d (.tup (rs.map rgtD))), some (.d (.int 4)), some (.p 1), some (.d (.int (t : Nat))), o6, o7, o8, o9, o10]
  let A : List C := (ls.map leaD).map .d
  have t6 : (sSet 6 (eOp ixD (eV 2) (eOp modD (eCB DL.intD (aC (eCall phi_lw_draw (aC (eV 0) (aC (eK (.int 90)) aN))) aN)) (eCB lenD (aC (eV 2) aN))))) (E o6 o7 o8 o9) [box ds n, .lst A] = some (.nx (E (some (.d (rgtD one))) o7 o8 o9) [box ds (n + 1), .lst A]) := by
    clear_value A
    simp [E, modD, p, h0, a1, -List.map_map]
  have t7 : (sSet 7 (eOp ixD (eV 2) (eOp modD (eCB DL.intD (aC (eCall phi_lw_draw (aC (eV 0) (aC (eK (.int 90)) aN))) aN)) (eCB lenD (aC (eV 2) aN))))) (E (some (.d (rgtD one))) o7 o8 o9) [box ds (n + 1), .lst A] = some (.nx (E (some (.d (rgtD one))) (some (.d (rgtD two))) o8 o9) [box ds (n + 1 + 1), .lst A]) := by
    clear_value A
    simp [E, modD, p, h0, a2, -List.map_map]
  have t8 : (sSet 8 (eOp modD (eCB DL.intD (aC (eCall phi_lw_draw (aC (eV 0) (aC (eK (.int 90)) aN))) aN)) (eOp ixD (eV 1) (eK (.int 0))))) (E (some (.d (rgtD one))) (some (.d (rgtD two))) o8 o9) [box ds (n + 1 + 1), .lst A] = some (.nx (E (some (.d (rgtD one))) (some (.d (rgtD two))) (some (.d (.int (j : Nat)))) o9) [box ds (n + 1 + 1 + 1), .lst A]) := by
    clear_value A
    have pm2 : 0 < m := hm.1
    simp [E, modD, pm, pm2, b0, hj]
  have hlc := eLc_st (ρ := E (some (.d (rgtD one))) (some (.d (rgtD two))) (some (.d (.int (j : Nat)))) o9) (st := [box ds (n + 1 + 1 + 1), .lst A]) (vs := [10]) (t := .n 10) (gi := iV (eV 4)) (test := gAnd (DL.tB (eOp (eqD false) (eOp ixD (eV 10) (eK (.int 0))) (eOp ixD (eV 6) (eK (.int 0))))) (DL.tB (eOp (eqD false) (eOp ixD (eV 10) (eK (.int 2))) (eV 8)))) (elt := eOp ixD (eV 10) (eK (.int 3))) (k := 1) ls leaD (fun l => .int l.amount) (fun l => l.lender == one.name && l.month == ((j : Nat) : Int)) (by simp [E]; rfl) rfl (by omega) (fun l _ => ⟨_, rfl, by
    cases c : (l.lender == one.name) <;> simp [E, leaD, rn, c], fun _ => ⟨.d (.int l.amount), by simp [E, leaD], rfl⟩⟩)
  have hs : sumD [.lst ((ls.filter fun l => l.lender == one.name && l.month == ((j : Nat) : Int)).map fun l => .int l.amount)] = some (.int (lentN ls one.name j)) := by
    have e2 : ((ls.filter fun l => l.lender == one.name && l.month == ((j : Nat) : Int)).map fun l => D.int l.amount) = (((ls.filter fun l => l.lender == one.name && l.month == ((j : Nat) : Int)).map (·.amount)).map .int) := by rw [List.map_map]; rfl
    show (intsOf _).map _ = _
    rw [e2, intsOf_map]
    rfl
  have t9 : (sSet 9 (eOp subD (eOp ixD (eOp ixD (eV 6) (eK (.int 2))) (eV 8)) (eCB sumD (aC (eLc [10] (.n 10) (iV (eV 4)) (gAnd (DL.tB (eOp (eqD false) (eOp ixD (eV 10) (eK (.int 0))) (eOp ixD (eV 6) (eK (.int 0))))) (DL.tB (eOp (eqD false) (eOp ixD (eV 10) (eK (.int 2))) (eV 8)))) (eOp ixD (eV 10) (eK (.int 3)))) aN)))) (E (some (.d (rgtD one))) (some (.d (rgtD two))) (some (.d (.int (j : Nat)))) o9) [box ds (n + 1 + 1 + 1), .lst A] = some (.nx (E (some (.d (rgtD one))) (some (.d (rgtD two))) (some (.d (.int (j : Nat)))) (some (.d (.int has)))) [box ds (n + 1 + 1 + 1), .lst A]) := by
    rw [sSet_ev, eOp_ev]
    have e1 : (eOp ixD (eOp ixD (eV 6) (eK (.int 2))) (eV 8)) (E (some (.d (rgtD one))) (some (.d (rgtD two))) (some (.d (.int (j : Nat)))) o9) [box ds (n + 1 + 1 + 1), .lst A] = some (.d (.int w), [box ds (n + 1 + 1 + 1), .lst A]) := by
      clear_value A
      simp [E, rw2, aw]
    rw [e1, Option.bind_some, eCB_ev, aC_ev, hlc]
    simp [hs, subD, has]
    rfl
  have hl2 : ls.length < 1000000 := by omega
  by_cases c : (one.name == two.name) = false ∧ 0 < has
  · obtain ⟨c1, c2⟩ := c
    let am := 1 + drw ds (n + 1 + 1 + 1) 90 % has
    have hnn := lentN_nn (leas_am h) one.name j
    have ham : 1 ≤ am ∧ am ≤ has := by
      have x1 := Int.emod_nonneg (drw ds (n + 1 + 1 + 1) 90) (by omega : has ≠ 0)
      have x2 := Int.emod_lt_of_pos (drw ds (n + 1 + 1 + 1) 90) c2
      simp only [am]
      omega
    let l : Lea := ⟨one.name, two.name, (j : Nat), am⟩
    have hl : LeaOk m rs ls l := ⟨⟨one, rgt_find R h1, j, w, rfl, hj4, hw, by show lentN ls one.name j + am ≤ w; simp only [has] at ham; omega⟩, ⟨two, rgt_find R h2⟩, c1, by show 1 ≤ am ∧ am ≤ 99; simp only [has] at ham; omega⟩
    refine ⟨ls ++ [l], n + 1 + 1 + 1 + 1, some (.d (rgtD one)), some (.d (rgtD two)), some (.d (.int (j : Nat))), some (.d (.int has)), leas_app h hl h4, by rw [List.length_append]; exact Nat.le_refl _, ?_⟩
    show lw_leases_f1 (E o6 o7 o8 o9) [box ds n, .lst A] = _
    unfold lw_leases_f1
    have t10 : (sIf (gAnd (DL.tB (eOp (eqD true) (eOp ixD (eV 6) (eK (.int 0))) (eOp ixD (eV 7) (eK (.int 0))))) (DL.tB (eOp gtD (eV 9) (eK (.int 0))))) (sEx (eApp (eV 4) (eTup (aC (eOp ixD (eV 6) (eK (.int 0))) (aC (eOp ixD (eV 7) (eK (.int 0))) (aC (eV 8) (aC (eOp addD (eK (.int 1)) (eOp modD (eCB DL.intD (aC (eCall phi_lw_draw (aC (eV 0) (aC (eK (.int 90)) aN))) aN)) (eV 9))) aN))))))) sNx) (E (some (.d (rgtD one))) (some (.d (rgtD two))) (some (.d (.int (j : Nat)))) (some (.d (.int has)))) [box ds (n + 1 + 1 + 1), .lst A] = some (.nx (E (some (.d (rgtD one))) (some (.d (rgtD two))) (some (.d (.int (j : Nat)))) (some (.d (.int has)))) [box ds (n + 1 + 1 + 1 + 1), .lst (((ls ++ [l]).map leaD).map .d)]) := by
      have eA : ((ls ++ [l]).map leaD).map C.d = A ++ [.d (leaD l)] := by simp [A]
      have hA : A.length < 1000000 := by simp [A]; omega
      have el : leaD l = .tup [.str one.name, .str two.name, .int (j : Nat), .int am] := rfl
      rw [eA, el]
      clear_value A has
      simp [E, rn, c1, c2, gtD, modD, hA, am]
    rw [sSeq_ev, t6, Option.bind_some, seqK_nx, sSeq_ev, t7, Option.bind_some, seqK_nx, sSeq_ev, t8, Option.bind_some, seqK_nx, sSeq_ev, t9, Option.bind_some, seqK_nx, t10]
  · refine ⟨ls, n + 1 + 1 + 1, some (.d (rgtD one)), some (.d (rgtD two)), some (.d (.int (j : Nat))), some (.d (.int has)), h, by omega, ?_⟩
    show lw_leases_f1 (E o6 o7 o8 o9) [box ds n, .lst A] = _
    unfold lw_leases_f1
    have t10 : (sIf (gAnd (DL.tB (eOp (eqD true) (eOp ixD (eV 6) (eK (.int 0))) (eOp ixD (eV 7) (eK (.int 0))))) (DL.tB (eOp gtD (eV 9) (eK (.int 0))))) (sEx (eApp (eV 4) (eTup (aC (eOp ixD (eV 6) (eK (.int 0))) (aC (eOp ixD (eV 7) (eK (.int 0))) (aC (eV 8) (aC (eOp addD (eK (.int 1)) (eOp modD (eCB DL.intD (aC (eCall phi_lw_draw (aC (eV 0) (aC (eK (.int 90)) aN))) aN)) (eV 9))) aN))))))) sNx) (E (some (.d (rgtD one))) (some (.d (rgtD two))) (some (.d (.int (j : Nat)))) (some (.d (.int has)))) [box ds (n + 1 + 1 + 1), .lst A] = some (.nx (E (some (.d (rgtD one))) (some (.d (rgtD two))) (some (.d (.int (j : Nat)))) (some (.d (.int has)))) [box ds (n + 1 + 1 + 1), .lst A]) := by
      clear_value A has
      cases c1 : (one.name == two.name) with
      | true => simp [E, rn, c1]
      | false =>
        have c2 : ¬ (0 < has) := fun z => c ⟨c1, z⟩
        simp [E, rn, c1, c2, gtD]
    rw [sSeq_ev, t6, Option.bind_some, seqK_nx, sSeq_ev, t7, Option.bind_some, seqK_nx, sSeq_ev, t8, Option.bind_some, seqK_nx, sSeq_ev, t9, Option.bind_some, seqK_nx, t10]
theorem leases_ok {ss : List Site} {m : Nat} {rs : List Rgt} (R : RgsB ss m rs) (h0 : 0 < rs.length) (hm : 1 ≤ m ∧ m ≤ 4) (ds : List Int) (n : Nat) :
    ∃ (ls : List Lea) (n' : Nat), LeasOk m rs ls ∧ phi_lw_leases [.p 0, .d (basD m ss), .d (.tup (rs.map rgtD)), .d (.int 4)] [box ds n] = some (.d (.tup (ls.map leaD)), [box ds n']) := by
  have a := drw_nn (ds := ds) (n := n) (m := 5) (by omega)
  have b := drw_lt (ds := ds) (n := n) (m := 5) (by omega)
  obtain ⟨q, hq⟩ := Int.eq_ofNat_of_zero_le a
  obtain ⟨ρ', st', e, ls, n', o5, o6, o7, o8, o9, o10, rfl, rfl, ok, _⟩ := forR_inv (t := .n 5) (body := lw_leases_f1) (n := q) (fun k ρ st => ∃ (ls : List Lea) (n : Nat) (o5 o6 o7 o8 o9 o10 : Option C), ρ = [some (.p 0), some (.d (basD m ss)), some (.d (.tup (rs.map rgtD))), some (.d (.int 4)), some (.p 1), o5, o6, o7, o8, o9, o10] ∧ st = [box ds n, .lst ((ls.map leaD).map .d)] ∧ LeasOk m rs ls ∧ ls.length ≤ k) (fun k ρ st hk h => by
    obtain ⟨ls, n, o5, o6, o7, o8, o9, o10, rfl, rfl, ok, hl⟩ := h
    obtain ⟨ls', n', p6, p7, p8, p9, ok', hl', e⟩ := leases_f1_ok R h0 hm ok (by omega) (ds := ds) (n := n) (t := k) (o6 := o6) (o7 := o7) (o8 := o8) (o9 := o9) (o10 := o10)
    exact ⟨_, _, _, rfl, e, ls', n', _, _, _, _, _, _, rfl, rfl, ok', by omega⟩) [some (.p 0), some (.d (basD m ss)), some (.d (.tup (rs.map rgtD))), some (.d (.int 4)), some (.p 1), none, none, none, none, none, none] [box ds (n + 1), .lst []] ⟨[], n + 1, none, none, none, none, none, none, rfl, rfl, ⟨by simp, fun k l h => by simp at h⟩, by simp⟩
  refine ⟨ls, n', ok, ?_⟩
  have hG : G_lw_leases [some (.p 0), some (.d (basD m ss)), some (.d (.tup (rs.map rgtD))), some (.d (.int 4)), none, none, none, none, none, none, none] [box ds n] = some (.rt (.d (.tup (ls.map leaD))) [box ds n', .lst ((ls.map leaD).map .d)]) := by
    have hq5 : q < 1000000 := by omega
    have dA : derK (some (.lst ((ls.map leaD).map .d))) = some (.lst (ls.map leaD)) := by simp only [derK_lst, allD_map_ev]; rfl
    unfold G_lw_leases
    generalize (ls.map leaD).map C.d = A at *
    simp [hq, hq5, e, dA]
  unfold phi_lw_leases
  rw [fnD_ev 11 4 G_lw_leases [.p 0, .d (basD m ss), .d (.tup (rs.map rgtD)), .d (.int 4)] rfl]
  simp [hG]
end Lw
/-! L6: the law of k23. -/
namespace Lw
open PySem PySem.Spec PyProof.Rows L2 DL
theorem mem_strs_S {y : PySem.Str} (h : y ∈ namS) : y ∈ strs10 := by
  unfold strs10
  simp [h]
theorem mem_strs_R {y : PySem.Str} (h : y ∈ namR) : y ∈ strs10 := by
  unfold strs10
  simp [h]
theorem mem_strs_L {y : PySem.Str} (h : y ∈ namL) : y ∈ strs10 := by
  unfold strs10
  unfold namL at h
  simp only [List.mem_append]
  exact .inr h
theorem shw_right {nm si : PySem.Str} {is : List Int} (h1 : nm ∈ strs10) (h2 : si ∈ strs10) (h3 : is.length ≤ 8) (h4 : ∀ i ∈ is, 0 ≤ i ∧ i ≤ 99) : Shw 2 6571 (rgtD ⟨nm, si, is⟩) := by
  refine (shw_tup (n := 8) (b := 819) (d := 1) (fun y hy => ?_) (by simp)).mono (by decide) (by decide)
  simp only [List.mem_cons, List.not_mem_nil, or_false] at hy
  rcases hy with rfl | rfl | rfl
  · exact (shw_str h1).mono (by decide) (by decide)
  · exact (shw_str h2).mono (by decide) (by decide)
  · refine (shw_tup (n := 8) (b := 100) (d := 0) (fun z hz => ?_) (by rw [List.length_map]; exact h3)).mono (by decide) (by decide)
    obtain ⟨i, hi, rfl⟩ := List.mem_map.mp hz
    exact shw_int (h4 i hi)
theorem site_name {m : Nat} {ss : List Site} (B : BasB m ss) {s : Nat} {y : Site} (h : ss[s]? = some y) : y.name ∈ namS := by
  have := (B.all s y h).name
  exact List.mem_of_mem_take (List.mem_of_getElem? this)
theorem rgt_site {m : Nat} {ss : List Site} {rs : List Rgt} (B : BasB m ss) (R : RgsB ss m rs) {r : Rgt} (h : r ∈ rs) : r.site ∈ namS := by
  obtain ⟨i, hi⟩ := List.getElem?_of_mem h
  obtain ⟨s, y, h1, h2⟩ := (R.all i r hi).site
  rw [h2]
  exact site_name B h1
theorem rgt_name {m : Nat} {ss : List Site} {rs : List Rgt} (R : RgsB ss m rs) {r : Rgt} (h : r ∈ rs) : r.name ∈ namR := by
  obtain ⟨i, hi⟩ := List.getElem?_of_mem h
  exact List.mem_of_getElem? (R.all i r hi).name
theorem rgt_wants {m : Nat} {ss : List Site} {rs : List Rgt} (R : RgsB ss m rs) {r : Rgt} (h : r ∈ rs) : r.wants.length = m ∧ ∀ a ∈ r.wants, 0 ≤ a ∧ a ≤ 6 := by
  obtain ⟨i, hi⟩ := List.getElem?_of_mem h
  exact (R.all i r hi).wants
theorem lent_le {m : Nat} {ss : List Site} {rs : List Rgt} (R : RgsB ss m rs) {ls : List Lea} (h : LeasOk m rs ls) {r : Rgt} (hr : r ∈ rs) {j : Nat} {w : Int} (hw : r.wants[j]? = some w) (h0 : 0 ≤ w) : ∀ k, k ≤ ls.length → lentN (ls.take k) r.name j ≤ w
  | 0, _ => by simpa [lentN] using h0
  | k + 1, hk => by
    have hl : ls[k]? = some ls[k] := List.getElem?_eq_getElem hk
    generalize ls[k] = l at hl
    rw [lentN_step hl]
    have ih := lent_le R h hr hw h0 k (by omega)
    by_cases c : (l.lender == r.name && l.month == ((j : Nat) : Int)) = true
    · rw [if_pos c]
      rw [Bool.and_eq_true] at c
      obtain ⟨⟨r1, h1, j1, w1, h2, h3, h4, h5⟩, _⟩ := h.all k l hl
      have e1 := rgt_same R r hr l r1 c.1 h1
      subst e1
      have e2 : j1 = j := by
        have := eq_of_beq c.2
        omega
      subst e2
      rw [hw] at h4
      cases h4
      rw [eq_of_beq c.1, h2] at h5
      exact h5
    · rw [if_neg c]
      omega
theorem left_in {m : Nat} {ss : List Site} {rs : List Rgt} (R : RgsB ss m rs) {ls : List Lea} (h : LeasOk m rs ls) {r : Rgt} (hr : r ∈ rs) : ∀ i ∈ leftL ls r, 0 ≤ i ∧ i ≤ 99 := fun i hi => by
  obtain ⟨j, hj⟩ := List.getElem?_of_mem hi
  unfold leftL at hj
  rw [List.getElem?_mapIdx] at hj
  cases hw : r.wants[j]? with
  | none => rw [hw] at hj; cases hj
  | some w =>
    rw [hw] at hj
    cases hj
    have b := (rgt_wants R hr).2 w (List.mem_of_getElem? hw)
    have := lent_le R h hr hw b.1 ls.length (Nat.le_refl _)
    rw [List.take_length] at this
    have := lentN_nn (leas_am h) r.name j
    show 0 ≤ w - lentN ls r.name j ∧ w - lentN ls r.name j ≤ 99
    omega
theorem shw_und {m : Nat} {ss : List Site} {rs : List Rgt} (B : BasB m ss) (R : RgsB ss m rs) {ls : List Lea} (h : LeasOk m rs ls) : ∀ x ∈ undL m rs ls, Shw 2 6571 x := fun x hx => by
  unfold undL at hx
  rw [List.mem_flatMap] at hx
  obtain ⟨r, hr, hx⟩ := hx
  have hm := B.mo
  rcases List.mem_cons.mp hx with rfl | hx
  · refine shw_right (mem_strs_R (rgt_name R hr)) (mem_strs_S (rgt_site B R hr)) ?_ (left_in R h hr)
    unfold leftL
    rw [List.length_mapIdx, (rgt_wants R hr).1]
    omega
  · obtain ⟨p, hp, rfl⟩ := List.mem_map.mp hx
    have hp := en_mem (List.mem_filter.mp hp).1
    have ok := h.all p.1 p.2 hp
    obtain ⟨r2, hr2⟩ := ok.bor
    have hk : p.1 < 4 := by
      have := (List.getElem?_eq_some_iff.mp hp).1
      have := h.nu
      omega
    obtain ⟨c, z, n1, _⟩ := lea_at p.1 hk
    have es : siteOf rs p.2.borrower = r2.site := by unfold siteOf; rw [hr2]; rfl
    unfold lrD
    rw [n1, es]
    refine shw_right (mem_strs_L (List.mem_of_getElem? n1)) (mem_strs_S (rgt_site B R (List.mem_of_find?_eq_some hr2))) ?_ fun i hi => ?_
    · unfold rowL
      rw [List.length_map, List.length_range]
      omega
    · unfold rowL at hi
      obtain ⟨j, _, rfl⟩ := List.mem_map.mp hi
      have := ok.am
      split <;> omega
theorem und_len {m : Nat} {rs : List Rgt} {ls : List Lea} (h : LeasOk m rs ls) (hr : rs.length ≤ 4) : (undL m rs ls).length ≤ 20 := by
  have := flat_len (f := und1 m rs ls) (b := 5) rs fun r _ => by
    unfold und1 of_
    rw [List.length_cons, List.length_map]
    have := List.length_filter_le (fun p : Nat × Lea => p.2.lender == r.name) (en ls)
    rw [en_len] at this
    have := h.nu
    omega
  have e : undL m rs ls = rs.flatMap (und1 m rs ls) := rfl
  rw [e]
  omega
theorem und_nil (m : Nat) (rs : List Rgt) : undL m rs [] = rs.map rgtD := by
  have e : ∀ r : Rgt, newR [] r :: (of_ [] r).map (lrD m rs) = [rgtD r] := fun r => by
    have e1 : leftL [] r = r.wants := by
      unfold leftL
      apply List.ext_getElem?
      intro i
      rw [List.getElem?_mapIdx]
      cases r.wants[i]? <;> simp [lentN]
    unfold newR of_ en
    rw [e1]
    rfl
  have e2 : undL m rs [] = rs.flatMap fun r => [rgtD r] := by
    unfold undL
    congr 1
    funext r
    exact e r
  rw [e2]
  clear e2
  induction rs with
  | nil => rfl
  | cons r rs ih => rw [List.flatMap_cons, ih (fun r => by unfold newR of_ en; rw [show leftL [] r = r.wants by (unfold leftL; apply List.ext_getElem?; intro i; rw [List.getElem?_mapIdx]; cases r.wants[i]? <;> simp [lentN])]; rfl)]; rfl
theorem same_und {m : Nat} {ss : List Site} {rs : List Rgt} (B : BasB m ss) (R : RgsB ss m rs) {ls : List Lea} (h : LeasOk m rs ls) : phi_lw_same [.d (.tup (undL m rs ls)), .d (.tup (undL m rs ls))] [] = some (.d (.bl true), []) :=
  same_ok (d := 3) (b := 20 * (6571 + 2) + 3) (shw_tup (n := 20) (shw_und B R h) (und_len h R.nu)) (by decide) (by decide)
theorem law_2_ok (ns : List Int) : phi_law_2 [.d (.wls (ns.map .int))] [] = some (.d (.bl true), []) := by
  obtain ⟨ds, hd⟩ := digits_any ns 60 (by decide)
  obtain ⟨m, ss, n1, B, hb⟩ := basin_2_ok ds 0
  obtain ⟨rs, n2, R, r2, hr⟩ := more_rights_ok ds n1 (m := m) (ss := ss) B.mo.2 (by have := B.nu; omega) (by have := B.nu; omega)
  have hnil : LeasOk m rs [] := ⟨by simp, fun k l h => by simp at h⟩
  have hw : ∀ r ∈ rs, r.wants.length ≤ 4 := fun r hr => by rw [(rgt_wants R hr).1]; exact B.mo.2
  obtain ⟨kp, hk⟩ := repr_ok (d := 3) (b := 20 * (6571 + 2) + 3) (shw_tup (n := 20) (fun x hx => shw_und B R hnil x (by rw [und_nil]; exact hx)) (by rw [List.length_map]; have := R.nu; omega) : Shw 3 (20 * (6571 + 2) + 3) (.tup (rs.map rgtD))) (by decide) (by decide)
  let sc : Option C := some (.d (.wls (ns.map .int)))
  let bs : Option C := some (.d (basD m ss))
  let rg : Option C := some (.d (.tup (rs.map rgtD)))
  let kc : Option C := some (.d (.str kp))
  have turn : ∀ (n : Nat) (o5 o6 : Option C), ∃ (n' : Nat) (p6 : Option C), law_2_f1 [sc, some (.p 0), bs, rg, kc, o5, o6] [box ds n] = some (.nx [sc, some (.p 0), bs, rg, kc, o5, p6] [box ds n']) := fun n o5 o6 => by
    obtain ⟨ls, n', ok, e⟩ := leases_ok R (by omega) B.mo ds n
    have c1 := under_ok (ss := ss) ok B.mo.2 R.nu hw
    have c2 := lw_under_ok ok B.mo.2 R.nu (fun r hr => (rgt_wants R hr).1) (rgt_same R)
    have c3 := same_und B R ok
    refine ⟨n', some (.d (.tup (ls.map leaD))), ?_⟩
    unfold law_2_f1
    simp [sc, bs, rg, kc, e, c1, c2, c3, hk]
  obtain ⟨ρ', st', e, n', o5, o6, rfl, rfl⟩ := forR_inv (t := .n 5) (body := law_2_f1) (n := 3) (fun k ρ st => ∃ (n : Nat) (o5 o6 : Option C), ρ = [sc, some (.p 0), bs, rg, kc, o5, o6] ∧ st = [box ds n]) (fun k ρ st hk h => by
    obtain ⟨n, o5, o6, rfl, rfl⟩ := h
    obtain ⟨n', p6, e⟩ := turn n (some (.d (.int (k : Nat)))) o6
    exact ⟨_, _, _, rfl, e, n', _, _, rfl, rfl⟩) [sc, some (.p 0), bs, rg, kc, none, none] [box ds n2] ⟨n2, none, none, rfl, rfl⟩
  have s1 : (sNew 1 (eLst (aC (eCall phi_lw_digits (aC (eV 0) (aC (eK (.int 0)) (aC (eK (.int 60)) aN)))) (aC (eK (.int 0)) aN)))) [sc, none, none, none, none, none, none] [] = some (.nx [sc, some (.p 0), none, none, none, none, none] [box ds 0]) := by
    have hd' : phi_lw_digits [.d (.wls (ns.map .int)), .d (.int 0), .d (.int 60)] [] = some (.d (.lst (ds.map .int)), []) := hd
    simp [sc, hd', box]
  have s2 : (sSet 2 (eCall phi_lw_basin_2 (aC (eV 1) aN))) [sc, some (.p 0), none, none, none, none, none] [box ds 0] = some (.nx [sc, some (.p 0), bs, none, none, none, none] [box ds n1]) := by
    simp [sc, bs, hb]
  have s3 : (sSet 3 (eCall phi_lw_more_rights (aC (eV 1) (aC (eV 2) aN)))) [sc, some (.p 0), bs, none, none, none, none] [box ds n1] = some (.nx [sc, some (.p 0), bs, rg, none, none, none] [box ds n2]) := by
    simp [sc, bs, rg, hr]
  have s4 : (sSet 4 (eCB reprD (aC (eV 3) aN))) [sc, some (.p 0), bs, rg, none, none, none] [box ds n2] = some (.nx [sc, some (.p 0), bs, rg, kc, none, none] [box ds n2]) := by
    simp [sc, bs, rg, kc, hk]
  have s5 : (sFor (.n 5) (iR1 (aC (eK (.int 3)) aN)) law_2_f1) [sc, some (.p 0), bs, rg, kc, none, none] [box ds n2] = some (.nx [sc, some (.p 0), bs, rg, kc, o5, o6] [box ds n']) := by
    rw [← e]
    simp
  have s6 : (sRt (eCall phi_lw_same (aC (eCall phi_under (aC (eV 2) (aC (eV 3) (aC (eTup aN) aN)))) (aC (eV 3) aN)))) [sc, some (.p 0), bs, rg, kc, o5, o6] [box ds n'] = some (.rt (.d (.bl true)) [box ds n']) := by
    have c1 := under_ok (ss := ss) hnil B.mo.2 R.nu hw
    have c3 := same_und B R hnil
    rw [und_nil] at c1 c3
    have e0 : ([] : List Lea).map leaD = [] := rfl
    rw [e0] at c1
    simp [sc, bs, rg, kc, c1, c3]
  have hG : G_law_2 [sc, none, none, none, none, none, none] [] = some (.rt (.d (.bl true)) [box ds n']) := by
    unfold G_law_2
    rw [sSeq_ev, s1, Option.bind_some, seqK_nx, sSeq_ev, s2, Option.bind_some, seqK_nx, sSeq_ev, s3, Option.bind_some, seqK_nx, sSeq_ev, s4, Option.bind_some, seqK_nx, sSeq_ev, s5, Option.bind_some, seqK_nx, s6]
  unfold phi_law_2
  rw [fnD_ev 7 1 G_law_2 [.d (.wls (ns.map .int))] rfl]
  show (G_law_2 [sc, none, none, none, none, none, none] []).bind (retK 0) = _
  rw [hG]
  rfl
end Lw
namespace Lw
open PySem PySem.Spec PyProof.Rows L2 DL
def top (i : Nat) : Stmt := PySem.Challenge.pw_heldwater_k23_lea_rights_under_leases.main.body.getD i (.Pass ⟨0, 0, 0, 0⟩)
structure Df (K : PySem.W.Frag) (mg : PySem.Str → Option Value) (x : PySem.Str) (st : Stmt) (ps : List PySem.Str) where
  f : Addr
  fd : FuncData
  F : Fun K x x st f fd
  b : Binds K fd ps []
  g : mg x = some (.ref f)
structure Txt (K : PySem.W.Frag) (mg : PySem.Str → Option Value) : Prop where
  b_len : mg "len" = none
  b_int : mg "int" = none
  b_range : mg "range" = none
  b_tuple : mg "tuple" = none
  b_repr : mg "repr" = none
  b_sum : mg "sum" = none
  b_enumerate : mg "enumerate" = none
  b_list : mg "list" = none
  c_RIGHT_NAME : ∃ t, mg "RIGHT_NAME" = some (.int 0 t)
  c_MOST_AMOUNT : ∃ t, mg "MOST_AMOUNT" = some (.int 99 t)
  c_DEMANDS : ∃ t, mg "DEMANDS" = some (.int 2 t)
  c_TOO_MUCH : ∃ t, mg "TOO_MUCH" = some (.str "more than it has" t)
  c_MOST_LEASES : ∃ t, mg "MOST_LEASES" = some (.int 4 t)
  c_RIGHT_SITE : ∃ t, mg "RIGHT_SITE" = some (.int 1 t)
  c_LETTERS : ∃ t, mg "LETTERS" = some (.str "abcdefghijklmnopqrstuvwxyz" t)

abbrev s_lw_draw : Stmt := top 20
theorem sc_lw_draw : FnScope ["box", "many", "at"] ["box", "many"] (defScope s_lw_draw) := ⟨rfl, rfl, rfl, by decide +kernel, rfl, by decide +kernel, by decide +kernel⟩
theorem ok_lw_draw {P : Program} {w : World} {K : PySem.W.Frag} {mg : PySem.Str → Option Value} {base : Heap} (T : Txt K mg) (D_lw_draw : Df K mg "_law_draw" s_lw_draw ["box", "many"]) : FnG P w K mg base 1 D_lw_draw.f D_lw_draw.fd ["box", "many"] phi_lw_draw :=
  fn_D (N := ["box", "many", "at"]) (k := 0) D_lw_draw.F sc_lw_draw fun cdv A outer s H hr hq => by
    have hu := hu_of hr
    have hu64 := hr.units
    exact (dss_c (ds_set (i := 2) sc_lw_draw.nd rfl (by first | exact .inl rfl | exact .inr rfl) (de_ix ix_D (de_v 0) de_int))
    (dss_c (ds_put (de_v 0) de_int (de_op op_addD (de_v 2) de_int))
    (dss_c (ds_if (dt_cmp op_ltD (de_v 2) (de_b call_lenD rfl T.b_len (by decide +kernel) (da_c (de_ix ix_D (de_v 0) de_int) da_n)) (by rfl)) (dss_1 (ds_rt (de_op op_modD (de_ty call_intD rfl T.b_int (by decide +kernel) (da_c (de_ix ix_D (de_ix ix_D (de_v 0) de_int) (de_v 2)) da_n)) (de_v 1)))) dss_n)
    (dss_1 (ds_rt (de_op op_modD (de_ty call_intD rfl T.b_int (by decide +kernel) (da_c (de_op op_addD (de_op op_mulD (de_v 2) de_int) de_int) da_n)) (de_v 1)))))))

abbrev s_lw_basin_2 : Stmt := top 22
theorem sc_lw_basin_2 : FnScope ["box", "many", "months", "sites", "k", "other", "travel", "reach", "room", "held", "m"] ["box"] (defScope s_lw_basin_2) := ⟨rfl, rfl, rfl, by decide +kernel, rfl, by decide +kernel, by decide +kernel⟩
theorem ok_lw_basin_2 {P : Program} {w : World} {K : PySem.W.Frag} {mg : PySem.Str → Option Value} {base : Heap} (T : Txt K mg) (D_lw_draw : Df K mg "_law_draw" s_lw_draw ["box", "many"]) (k_lw_draw : FnG P w K mg base 1 D_lw_draw.f D_lw_draw.fd ["box", "many"] phi_lw_draw) (D_lw_basin_2 : Df K mg "_law_basin" s_lw_basin_2 ["box"]) : FnG P w K mg base 2 D_lw_basin_2.f D_lw_basin_2.fd ["box"] phi_lw_basin_2 :=
  fn_D (N := ["box", "many", "months", "sites", "k", "other", "travel", "reach", "room", "held", "m"]) (k := 1) D_lw_basin_2.F sc_lw_basin_2 fun cdv A outer s H hr hq => by
    have hu := hu_of hr
    have hu64 := hr.units
    exact (dss_c (ds_set (i := 1) sc_lw_basin_2.nd rfl (by first | exact .inl rfl | exact .inr rfl) (de_op op_addD de_int (de_call k_lw_draw hr (by decide) hq rfl D_lw_draw.g D_lw_draw.F.kp D_lw_draw.b fnD_len (da_c (de_v 0) (da_c de_int da_n)))))
    (dss_c (ds_set (i := 2) sc_lw_basin_2.nd rfl (by first | exact .inl rfl | exact .inr rfl) (de_ix ix_D (de_lst (da_c (de_op op_addD de_int (de_call k_lw_draw hr (by decide) hq rfl D_lw_draw.g D_lw_draw.F.kp D_lw_draw.b fnD_len (da_c (de_v 0) (da_c de_int da_n)))) (da_c (de_op op_addD de_int (de_call k_lw_draw hr (by decide) hq rfl D_lw_draw.g D_lw_draw.F.kp D_lw_draw.b fnD_len (da_c (de_v 0) (da_c de_int da_n)))) (da_c (de_op op_addD de_int (de_call k_lw_draw hr (by decide) hq rfl D_lw_draw.g D_lw_draw.F.kp D_lw_draw.b fnD_len (da_c (de_v 0) (da_c de_int da_n)))) da_n)))) (de_op op_subD (de_ty call_intD rfl T.b_int (by decide +kernel) (da_c (de_v 1) da_n)) de_int)))
    (dss_c (ds_new (i := 3) sc_lw_basin_2.nd rfl (by first | exact .inl rfl | exact .inr rfl) (dn_lst da_n))
    (dss_c (ds_for PassesOwn.never rfl (di_r1 rfl T.b_range (da_c (de_v 1) da_n)) tg_n (pg_name (i := 4) sc_lw_basin_2.nd rfl (by first | exact .inl rfl | exact .inr rfl)) (dss_c (ds_set (i := 5) sc_lw_basin_2.nd rfl (by first | exact .inl rfl | exact .inr rfl) de_non)
    (dss_c (ds_set (i := 6) sc_lw_basin_2.nd rfl (by first | exact .inl rfl | exact .inr rfl) de_int)
    (dss_c (ds_set (i := 7) sc_lw_basin_2.nd rfl (by first | exact .inl rfl | exact .inr rfl) de_non)
    (dss_c (ds_if (dt_cmp op_ltD (de_v 4) (de_op op_subD (de_v 1) de_int) (by rfl)) (dss_c (ds_set (i := 5) sc_lw_basin_2.nd rfl (by first | exact .inl rfl | exact .inr rfl) (de_op op_addD de_str (de_ix ix_D de_str (de_ty call_intD rfl T.b_int (by decide +kernel) (da_c (de_op op_addD (de_op op_addD (de_v 4) de_int) (de_call k_lw_draw hr (by decide) hq rfl D_lw_draw.g D_lw_draw.F.kp D_lw_draw.b fnD_len (da_c (de_v 0) (da_c (de_op op_subD (de_op op_subD (de_v 1) (de_v 4)) de_int) da_n)))) da_n)))))
    (dss_c (ds_set (i := 6) sc_lw_basin_2.nd rfl (by first | exact .inl rfl | exact .inr rfl) (de_ix ix_D (de_lst (da_c de_int (da_c de_int (da_c de_int (da_c de_int da_n))))) (de_call k_lw_draw hr (by decide) hq rfl D_lw_draw.g D_lw_draw.F.kp D_lw_draw.b fnD_len (da_c (de_v 0) (da_c de_int da_n)))))
    (dss_1 (ds_set (i := 7) sc_lw_basin_2.nd rfl (by first | exact .inl rfl | exact .inr rfl) (de_ix ix_D (de_lst (da_c de_non (da_c de_non (da_c (de_call k_lw_draw hr (by decide) hq rfl D_lw_draw.g D_lw_draw.F.kp D_lw_draw.b fnD_len (da_c (de_v 0) (da_c de_int da_n))) da_n)))) (de_call k_lw_draw hr (by decide) hq rfl D_lw_draw.g D_lw_draw.F.kp D_lw_draw.b fnD_len (da_c (de_v 0) (da_c de_int da_n)))))))) dss_n)
    (dss_c (ds_set (i := 8) sc_lw_basin_2.nd rfl (by first | exact .inl rfl | exact .inr rfl) (de_ix ix_D (de_lst (da_c de_int (da_c (de_call k_lw_draw hr (by decide) hq rfl D_lw_draw.g D_lw_draw.F.kp D_lw_draw.b fnD_len (da_c (de_v 0) (da_c de_int da_n))) (da_c (de_call k_lw_draw hr (by decide) hq rfl D_lw_draw.g D_lw_draw.F.kp D_lw_draw.b fnD_len (da_c (de_v 0) (da_c de_int da_n))) da_n)))) (de_call k_lw_draw hr (by decide) hq rfl D_lw_draw.g D_lw_draw.F.kp D_lw_draw.b fnD_len (da_c (de_v 0) (da_c de_int da_n)))))
    (dss_c (ds_set (i := 9) sc_lw_basin_2.nd rfl (by first | exact .inl rfl | exact .inr rfl) (de_op op_mulD (de_call k_lw_draw hr (by decide) hq rfl D_lw_draw.g D_lw_draw.F.kp D_lw_draw.b fnD_len (da_c (de_v 0) (da_c (de_op op_addD (de_v 8) de_int) da_n))) (de_call k_lw_draw hr (by decide) hq rfl D_lw_draw.g D_lw_draw.F.kp D_lw_draw.b fnD_len (da_c (de_v 0) (da_c de_int da_n)))))
    (dss_1 (ds_ex (de_app (de_v 3) (de_tup (da_c (de_op op_addD de_str (de_ix ix_D de_str (de_ty call_intD rfl T.b_int (by decide +kernel) (da_c (de_v 4) da_n)))) (da_c (de_v 5) (da_c (de_v 6) (da_c (de_v 7) (da_c (de_v 8) (da_c (de_v 9) (da_c (de_ty call_tupleD rfl T.b_tuple (by decide +kernel) (da_c (de_lc (own := [("m", 10)]) rfl sc_lw_basin_2.nd (di_r1 rfl T.b_range (da_c (de_v 2) da_n)) (by first | exact blkOk_by (N := ["box", "many", "months", "sites", "k", "other", "travel", "reach", "room", "held", "m"]) (sc := defScope s_lw_basin_2) (by decide +kernel) | exact blkOk_by (by rfl)) tg_n (by decide) (fun _ _ _ _ _ => (pg_name (i := 10) sc_lw_basin_2.nd rfl (by first | exact .inl rfl | exact .inr rfl))) (fun _ _ _ _ _ => dts_n) (fun _ _ _ _ _ => (de_call k_lw_draw hr (by decide) hq rfl D_lw_draw.g D_lw_draw.F.kp D_lw_draw.b fnD_len (da_c (de_v 0) (da_c de_int da_n))))) da_n)) da_n))))))))))))))))))
    (dss_1 (ds_rt (de_tup (da_c (de_v 2) (da_c (de_ty call_tupleD rfl T.b_tuple (by decide +kernel) (da_c (de_v 3) da_n)) da_n)))))))))

abbrev s_lw_demands : Stmt := top 23
theorem sc_lw_demands : FnScope ["box", "months", "m"] ["box", "months"] (defScope s_lw_demands) := ⟨rfl, rfl, rfl, by decide +kernel, rfl, by decide +kernel, by decide +kernel⟩
theorem ok_lw_demands {P : Program} {w : World} {K : PySem.W.Frag} {mg : PySem.Str → Option Value} {base : Heap} (T : Txt K mg) (D_lw_draw : Df K mg "_law_draw" s_lw_draw ["box", "many"]) (k_lw_draw : FnG P w K mg base 1 D_lw_draw.f D_lw_draw.fd ["box", "many"] phi_lw_draw) (D_lw_demands : Df K mg "_law_demands" s_lw_demands ["box", "months"]) : FnG P w K mg base 2 D_lw_demands.f D_lw_demands.fd ["box", "months"] phi_lw_demands :=
  fn_D (N := ["box", "months", "m"]) (k := 1) D_lw_demands.F sc_lw_demands fun cdv A outer s H hr hq => by
    have hu := hu_of hr
    have hu64 := hr.units
    exact (dss_1 (ds_rt (de_ty call_tupleD rfl T.b_tuple (by decide +kernel) (da_c (de_lc (own := [("m", 2)]) rfl sc_lw_demands.nd (di_r1 rfl T.b_range (da_c (de_v 1) da_n)) (by first | exact blkOk_by (N := ["box", "months", "m"]) (sc := defScope s_lw_demands) (by decide +kernel) | exact blkOk_by (by rfl)) tg_n (by decide) (fun _ _ _ _ _ => (pg_name (i := 2) sc_lw_demands.nd rfl (by first | exact .inl rfl | exact .inr rfl))) (fun _ _ _ _ _ => dts_n) (fun _ _ _ _ _ => (de_call k_lw_draw hr (by decide) hq rfl D_lw_draw.g D_lw_draw.F.kp D_lw_draw.b fnD_len (da_c (de_v 0) (da_c de_int da_n))))) da_n))))

abbrev s_lw_more_rights : Stmt := top 24
theorem sc_lw_more_rights : FnScope ["box", "basin", "names", "site", "found", "k"] ["box", "basin"] (defScope s_lw_more_rights) := ⟨rfl, rfl, rfl, by decide +kernel, rfl, by decide +kernel, by decide +kernel⟩
theorem ok_lw_more_rights {P : Program} {w : World} {K : PySem.W.Frag} {mg : PySem.Str → Option Value} {base : Heap} (T : Txt K mg) (D_lw_draw : Df K mg "_law_draw" s_lw_draw ["box", "many"]) (k_lw_draw : FnG P w K mg base 1 D_lw_draw.f D_lw_draw.fd ["box", "many"] phi_lw_draw) (D_lw_demands : Df K mg "_law_demands" s_lw_demands ["box", "months"]) (k_lw_demands : FnG P w K mg base 2 D_lw_demands.f D_lw_demands.fd ["box", "months"] phi_lw_demands) (D_lw_more_rights : Df K mg "_law_more_rights" s_lw_more_rights ["box", "basin"]) : FnG P w K mg base 3 D_lw_more_rights.f D_lw_more_rights.fd ["box", "basin"] phi_lw_more_rights :=
  fn_D (N := ["box", "basin", "names", "site", "found", "k"]) (k := 2) D_lw_more_rights.F sc_lw_more_rights fun cdv A outer s H hr hq => by
    have hu := hu_of hr
    have hu64 := hr.units
    exact (dss_c (ds_lc (i := 2) (own := [("site", 3)]) rfl sc_lw_more_rights.nd rfl rfl (sw_true rfl rfl rfl (by decide +kernel)) (di_v (de_ix ix_D (de_v 1) de_int)) (by first | exact blkOk_by (N := ["box", "basin", "names", "site", "found", "k"]) (sc := defScope s_lw_more_rights) (by decide +kernel) | exact blkOk_by (by rfl)) tg_n (by decide) (fun _ _ _ _ _ => (pg_name (i := 3) sc_lw_more_rights.nd rfl (by first | exact .inl rfl | exact .inr rfl))) (fun _ _ _ _ _ => dts_n) (fun _ _ _ _ _ => (de_ix ix_D (de_v 3) de_int)))
    (dss_c (ds_new (i := 4) sc_lw_more_rights.nd rfl (by first | exact .inl rfl | exact .inr rfl) (dn_lst da_n))
    (dss_c (ds_for PassesOwn.never rfl (di_r1 rfl T.b_range (da_c (de_op op_addD de_int (de_call k_lw_draw hr (by decide) hq rfl D_lw_draw.g D_lw_draw.F.kp D_lw_draw.b fnD_len (da_c (de_v 0) (da_c de_int da_n)))) da_n)) tg_n (pg_name (i := 5) sc_lw_more_rights.nd rfl (by first | exact .inl rfl | exact .inr rfl)) (dss_1 (ds_ex (de_app (de_v 4) (de_tup (da_c (de_op op_addD de_str (de_ix ix_D de_str (de_ty call_intD rfl T.b_int (by decide +kernel) (da_c (de_v 5) da_n)))) (da_c (de_ix ix_D (de_v 2) (de_op op_modD (de_ty call_intD rfl T.b_int (by decide +kernel) (da_c (de_call k_lw_draw hr (by decide) hq rfl D_lw_draw.g D_lw_draw.F.kp D_lw_draw.b fnD_len (da_c (de_v 0) (da_c de_int da_n))) da_n)) (de_b call_lenD rfl T.b_len (by decide +kernel) (da_c (de_v 2) da_n)))) (da_c (de_call k_lw_demands hr (by decide) hq rfl D_lw_demands.g D_lw_demands.F.kp D_lw_demands.b fnD_len (da_c (de_v 0) (da_c (de_ix ix_D (de_v 1) de_int) da_n))) da_n))))))))
    (dss_1 (ds_rt (de_ty call_tupleD rfl T.b_tuple (by decide +kernel) (da_c (de_v 4) da_n)))))))

abbrev s_lw_same : Stmt := top 21
theorem sc_lw_same : FnScope ["actual", "due"] ["actual", "due"] (defScope s_lw_same) := ⟨rfl, rfl, rfl, by decide +kernel, rfl, by decide +kernel, by decide +kernel⟩
theorem ok_lw_same {P : Program} {w : World} {K : PySem.W.Frag} {mg : PySem.Str → Option Value} {base : Heap} (T : Txt K mg) (D_lw_same : Df K mg "_law_same" s_lw_same ["actual", "due"]) : FnG P w K mg base 1 D_lw_same.f D_lw_same.fd ["actual", "due"] phi_lw_same :=
  fn_D (N := ["actual", "due"]) (k := 0) D_lw_same.F sc_lw_same fun cdv A outer s H hr hq => by
    have hu := hu_of hr
    have hu64 := hr.units
    exact (dss_1 (ds_rt (de_cmp (op_eqDD hu64) (de_b (call_reprD hq hu64) rfl T.b_repr (by decide +kernel) (da_c (de_v 0) da_n)) (de_b (call_reprD hq hu64) rfl T.b_repr (by decide +kernel) (da_c (de_v 1) da_n)) (by rfl))))

abbrev s_lw_cell : Stmt := top 18
theorem sc_lw_cell : FnScope ["script", "k"] ["script", "k"] (defScope s_lw_cell) := ⟨rfl, rfl, rfl, by decide +kernel, rfl, by decide +kernel, by decide +kernel⟩
theorem ok_lw_cell {P : Program} {w : World} {K : PySem.W.Frag} {mg : PySem.Str → Option Value} {base : Heap} (T : Txt K mg) (D_lw_cell : Df K mg "_law_cell" s_lw_cell ["script", "k"]) : FnG P w K mg base 1 D_lw_cell.f D_lw_cell.fd ["script", "k"] phi_lw_cell :=
  fn_D (N := ["script", "k"]) (k := 0) D_lw_cell.F sc_lw_cell fun cdv A outer s H hr hq => by
    have hu := hu_of hr
    have hu64 := hr.units
    exact (dss_c (ds_if (dt_cmp op_ltD (de_v 1) (de_b call_lenD rfl T.b_len (by decide +kernel) (da_c (de_v 0) da_n)) (by rfl)) (dss_1 (ds_rt (de_ix ix_D (de_v 0) (de_v 1)))) dss_n)
    (dss_1 (ds_rt de_int)))

abbrev s_lw_digits : Stmt := top 19
theorem sc_lw_digits : FnScope ["script", "first", "last", "digits", "k", "cell", "place", "seed"] ["script", "first", "last"] (defScope s_lw_digits) := ⟨rfl, rfl, rfl, by decide +kernel, rfl, by decide +kernel, by decide +kernel⟩
theorem ok_lw_digits {P : Program} {w : World} {K : PySem.W.Frag} {mg : PySem.Str → Option Value} {base : Heap} (T : Txt K mg) (D_lw_cell : Df K mg "_law_cell" s_lw_cell ["script", "k"]) (k_lw_cell : FnG P w K mg base 1 D_lw_cell.f D_lw_cell.fd ["script", "k"] phi_lw_cell) (D_lw_digits : Df K mg "_law_digits" s_lw_digits ["script", "first", "last"]) : FnG P w K mg base 2 D_lw_digits.f D_lw_digits.fd ["script", "first", "last"] phi_lw_digits :=
  fn_D (N := ["script", "first", "last", "digits", "k", "cell", "place", "seed"]) (k := 1) D_lw_digits.F sc_lw_digits fun cdv A outer s H hr hq => by
    have hu := hu_of hr
    have hu64 := hr.units
    exact (dss_c (ds_new (i := 3) sc_lw_digits.nd rfl (by first | exact .inl rfl | exact .inr rfl) (dn_lst da_n))
    (dss_c (ds_for PassesOwn.never rfl (di_r2 rfl T.b_range (da_c (de_v 1) (da_c (de_v 2) da_n))) tg_n (pg_name (i := 4) sc_lw_digits.nd rfl (by first | exact .inl rfl | exact .inr rfl)) (dss_c (ds_set (i := 5) sc_lw_digits.nd rfl (by first | exact .inl rfl | exact .inr rfl) (de_call k_lw_cell hr (by decide) hq rfl D_lw_cell.g D_lw_cell.F.kp D_lw_cell.b fnD_len (da_c (de_v 0) (da_c (de_v 4) da_n))))
    (dss_c (ds_if (dt_cmp op_ltD (de_v 5) de_int (by rfl)) (dss_1 (ds_set (i := 5) sc_lw_digits.nd rfl (by first | exact .inl rfl | exact .inr rfl) (de_op op_subD de_int (de_op op_mulD de_int (de_v 5))))) dss_n)
    (dss_1 (ds_if (dt_cmp op_geD (de_v 5) (de_op op_powD de_int de_int) (by rfl)) (dss_1 (ds_for PassesOwn.never rfl (di_r1 rfl T.b_range (da_c de_int da_n)) tg_n (pg_name (i := 6) sc_lw_digits.nd rfl (by first | exact .inl rfl | exact .inr rfl)) (dss_1 (ds_if (dt_cmp op_gtD (de_v 5) de_int (by rfl)) (dss_c (ds_ex (de_app (de_v 3) (de_op op_modD (de_ty call_intD rfl T.b_int (by decide +kernel) (da_c (de_v 5) da_n)) de_int)))
    (dss_1 (ds_set (i := 5) sc_lw_digits.nd rfl (by first | exact .inl rfl | exact .inr rfl) (de_op op_divD (de_v 5) de_int)))) dss_n)))) (dss_c (ds_set (i := 7) sc_lw_digits.nd rfl (by first | exact .inl rfl | exact .inr rfl) (de_op op_modD (de_ty call_intD rfl T.b_int (by decide +kernel) (da_c (de_op op_addD (de_op op_addD (de_op op_mulD (de_v 5) de_int) (de_op op_mulD (de_v 4) de_int)) de_int) da_n)) de_int))
    (dss_1 (ds_for PassesOwn.never rfl (di_r1 rfl T.b_range (da_c de_int da_n)) tg_n (pg_name (i := 6) sc_lw_digits.nd rfl (by first | exact .inl rfl | exact .inr rfl)) (dss_c (ds_set (i := 7) sc_lw_digits.nd rfl (by first | exact .inl rfl | exact .inr rfl) (de_op op_modD (de_ty call_intD rfl T.b_int (by decide +kernel) (da_c (de_op op_addD (de_op op_addD (de_op op_mulD (de_v 7) de_int) (de_op op_mulD de_int (de_v 6))) de_int) da_n)) de_int))
    (dss_1 (ds_ex (de_app (de_v 3) (de_op op_modD (de_ty call_intD rfl T.b_int (by decide +kernel) (da_c (de_op op_divD (de_v 7) de_int) da_n)) de_int)))))))))))))
    (dss_1 (ds_rt (de_v 3)))))

abbrev s_lw_leases : Stmt := top 26
theorem sc_lw_leases : FnScope ["box", "basin", "rights", "most", "found", "turn", "one", "other", "month", "has", "lease"] ["box", "basin", "rights", "most"] (defScope s_lw_leases) := ⟨rfl, rfl, rfl, by decide +kernel, rfl, by decide +kernel, by decide +kernel⟩
theorem ok_lw_leases {P : Program} {w : World} {K : PySem.W.Frag} {mg : PySem.Str → Option Value} {base : Heap} (T : Txt K mg) (D_lw_draw : Df K mg "_law_draw" s_lw_draw ["box", "many"]) (k_lw_draw : FnG P w K mg base 1 D_lw_draw.f D_lw_draw.fd ["box", "many"] phi_lw_draw) (D_lw_leases : Df K mg "_law_leases" s_lw_leases ["box", "basin", "rights", "most"]) : FnG P w K mg base 2 D_lw_leases.f D_lw_leases.fd ["box", "basin", "rights", "most"] phi_lw_leases :=
  fn_D (N := ["box", "basin", "rights", "most", "found", "turn", "one", "other", "month", "has", "lease"]) (k := 1) D_lw_leases.F sc_lw_leases fun cdv A outer s H hr hq => by
    have hu := hu_of hr
    have hu64 := hr.units
    exact (dss_c (ds_new (i := 4) sc_lw_leases.nd rfl (by first | exact .inl rfl | exact .inr rfl) (dn_lst da_n))
    (dss_c (ds_for PassesOwn.never rfl (di_r1 rfl T.b_range (da_c (de_call k_lw_draw hr (by decide) hq rfl D_lw_draw.g D_lw_draw.F.kp D_lw_draw.b fnD_len (da_c (de_v 0) (da_c (de_op op_addD (de_v 3) de_int) da_n))) da_n)) tg_n (pg_name (i := 5) sc_lw_leases.nd rfl (by first | exact .inl rfl | exact .inr rfl)) (dss_c (ds_set (i := 6) sc_lw_leases.nd rfl (by first | exact .inl rfl | exact .inr rfl) (de_ix ix_D (de_v 2) (de_op op_modD (de_ty call_intD rfl T.b_int (by decide +kernel) (da_c (de_call k_lw_draw hr (by decide) hq rfl D_lw_draw.g D_lw_draw.F.kp D_lw_draw.b fnD_len (da_c (de_v 0) (da_c de_int da_n))) da_n)) (de_b call_lenD rfl T.b_len (by decide +kernel) (da_c (de_v 2) da_n)))))
    (dss_c (ds_set (i := 7) sc_lw_leases.nd rfl (by first | exact .inl rfl | exact .inr rfl) (de_ix ix_D (de_v 2) (de_op op_modD (de_ty call_intD rfl T.b_int (by decide +kernel) (da_c (de_call k_lw_draw hr (by decide) hq rfl D_lw_draw.g D_lw_draw.F.kp D_lw_draw.b fnD_len (da_c (de_v 0) (da_c de_int da_n))) da_n)) (de_b call_lenD rfl T.b_len (by decide +kernel) (da_c (de_v 2) da_n)))))
    (dss_c (ds_set (i := 8) sc_lw_leases.nd rfl (by first | exact .inl rfl | exact .inr rfl) (de_op op_modD (de_ty call_intD rfl T.b_int (by decide +kernel) (da_c (de_call k_lw_draw hr (by decide) hq rfl D_lw_draw.g D_lw_draw.F.kp D_lw_draw.b fnD_len (da_c (de_v 0) (da_c de_int da_n))) da_n)) (de_ix ix_D (de_v 1) de_int)))
    (dss_c (ds_set (i := 9) sc_lw_leases.nd rfl (by first | exact .inl rfl | exact .inr rfl) (de_op op_subD (de_ix ix_D (de_ix ix_D (de_v 6) de_int) (de_v 8)) (de_b (call_sumD rfl) rfl T.b_sum (by decide +kernel) (da_c (de_lc (own := [("lease", 10)]) rfl sc_lw_leases.nd (di_v (de_v 4)) (by first | exact blkOk_by (N := ["box", "basin", "rights", "most", "found", "turn", "one", "other", "month", "has", "lease"]) (sc := defScope s_lw_leases) (by decide +kernel) | exact blkOk_by (by rfl)) tg_n (by decide) (fun _ _ _ _ _ => (pg_name (i := 10) sc_lw_leases.nd rfl (by first | exact .inl rfl | exact .inr rfl))) (fun _ _ _ _ _ => (dts_1 (PW.pt (dw_and (dt_cmp (op_eqDD hu64) (de_ix ix_D (de_v 10) de_int) (de_ix ix_D (de_v 6) de_int) (by rfl)) (pw_and1 (dt_cmp (op_eqDD hu64) (de_ix ix_D (de_v 10) de_int) (de_v 8) (by rfl))))))) (fun _ _ _ _ _ => (de_ix ix_D (de_v 10) de_int))) da_n))))
    (dss_1 (ds_if (PW.pt (dw_and (dt_cmp (op_neDD hu64) (de_ix ix_D (de_v 6) de_int) (de_ix ix_D (de_v 7) de_int) (by rfl)) (pw_and1 (dt_cmp op_gtD (de_v 9) de_int (by rfl))))) (dss_1 (ds_ex (de_app (de_v 4) (de_tup (da_c (de_ix ix_D (de_v 6) de_int) (da_c (de_ix ix_D (de_v 7) de_int) (da_c (de_v 8) (da_c (de_op op_addD de_int (de_op op_modD (de_ty call_intD rfl T.b_int (by decide +kernel) (da_c (de_call k_lw_draw hr (by decide) hq rfl D_lw_draw.g D_lw_draw.F.kp D_lw_draw.b fnD_len (da_c (de_v 0) (da_c de_int da_n))) da_n)) (de_v 9))) da_n)))))))) dss_n)))))))
    (dss_1 (ds_rt (de_ty call_tupleD rfl T.b_tuple (by decide +kernel) (da_c (de_v 4) da_n))))))

abbrev s_right_called : Stmt := top 12
theorem sc_right_called : FnScope ["rights", "name", "right"] ["rights", "name"] (defScope s_right_called) := ⟨rfl, rfl, rfl, by decide +kernel, rfl, by decide +kernel, by decide +kernel⟩
theorem ok_right_called {P : Program} {w : World} {K : PySem.W.Frag} {mg : PySem.Str → Option Value} {base : Heap} (T : Txt K mg) (D_right_called : Df K mg "right_called" s_right_called ["rights", "name"]) : FnG P w K mg base 1 D_right_called.f D_right_called.fd ["rights", "name"] phi_right_called :=
  fn_D (N := ["rights", "name", "right"]) (k := 0) D_right_called.F sc_right_called fun cdv A outer s H hr hq => by
    have hu := hu_of hr
    have hu64 := hr.units
    exact (dss_c (ds_for PassesOwn.never rfl (di_v (de_v 0)) tg_n (pg_name (i := 2) sc_right_called.nd rfl (by first | exact .inl rfl | exact .inr rfl)) (dss_1 (ds_if (dt_cmp (op_eqDD hu64) (de_ix ix_D (de_v 2) (de_gi rfl T.c_RIGHT_NAME)) (de_v 1) (by rfl)) (dss_1 (ds_rt (de_v 2))) dss_n)))
    (dss_1 (ds_rt de_non)))

abbrev s_lent : Stmt := top 13
theorem sc_lent : FnScope ["leases", "name", "month", "lender", "_", "m", "amount"] ["leases", "name", "month"] (defScope s_lent) := ⟨rfl, rfl, rfl, by decide +kernel, rfl, by decide +kernel, by decide +kernel⟩
theorem ok_lent {P : Program} {w : World} {K : PySem.W.Frag} {mg : PySem.Str → Option Value} {base : Heap} (T : Txt K mg) (D_lent : Df K mg "lent" s_lent ["leases", "name", "month"]) : FnG P w K mg base 1 D_lent.f D_lent.fd ["leases", "name", "month"] phi_lent :=
  fn_D (N := ["leases", "name", "month", "lender", "_", "m", "amount"]) (k := 0) D_lent.F sc_lent fun cdv A outer s H hr hq => by
    have hu := hu_of hr
    have hu64 := hr.units
    exact (dss_1 (ds_rt (de_b (call_sumD rfl) rfl T.b_sum (by decide +kernel) (da_c (de_lc (own := [("lender", 3), ("_", 4), ("m", 5), ("amount", 6)]) rfl sc_lent.nd (di_v (de_v 0)) (by first | exact blkOk_by (N := ["leases", "name", "month", "lender", "_", "m", "amount"]) (sc := defScope s_lent) (by decide +kernel) | exact blkOk_by (by rfl)) (tg_t (is := [3, 4, 5, 6]) rfl) (by decide) (fun _ _ _ _ _ => (pg_tup rfl (pgs_cons (pg_name (i := 3) sc_lent.nd rfl (by first | exact .inl rfl | exact .inr rfl)) (pgs_cons (pg_name (i := 4) sc_lent.nd rfl (by first | exact .inl rfl | exact .inr rfl)) (pgs_cons (pg_name (i := 5) sc_lent.nd rfl (by first | exact .inl rfl | exact .inr rfl)) (pgs_cons (pg_name (i := 6) sc_lent.nd rfl (by first | exact .inl rfl | exact .inr rfl)) pgs_nil)))))) (fun _ _ _ _ _ => (dts_1 (PW.pt (dw_and (dt_cmp (op_eqDD hu64) (de_v 3) (de_v 1) (by rfl)) (pw_and1 (dt_cmp (op_eqDD hu64) (de_v 5) (de_v 2) (by rfl))))))) (fun _ _ _ _ _ => (de_v 6))) da_n))))

abbrev s_lease_fault : Stmt := top 15
theorem sc_lease_fault : FnScope ["basin", "rights", "earlier", "lease", "lender", "borrower", "month", "amount"] ["basin", "rights", "earlier", "lease"] (defScope s_lease_fault) := ⟨rfl, rfl, rfl, by decide +kernel, rfl, by decide +kernel, by decide +kernel⟩
theorem ok_lease_fault {P : Program} {w : World} {K : PySem.W.Frag} {mg : PySem.Str → Option Value} {base : Heap} (T : Txt K mg) (D_right_called : Df K mg "right_called" s_right_called ["rights", "name"]) (k_right_called : FnG P w K mg base 1 D_right_called.f D_right_called.fd ["rights", "name"] phi_right_called) (D_lent : Df K mg "lent" s_lent ["leases", "name", "month"]) (k_lent : FnG P w K mg base 1 D_lent.f D_lent.fd ["leases", "name", "month"] phi_lent) (D_lease_fault : Df K mg "lease_fault" s_lease_fault ["basin", "rights", "earlier", "lease"]) : FnG P w K mg base 2 D_lease_fault.f D_lease_fault.fd ["basin", "rights", "earlier", "lease"] phi_lease_fault :=
  fn_D (N := ["basin", "rights", "earlier", "lease", "lender", "borrower", "month", "amount"]) (k := 1) D_lease_fault.F sc_lease_fault fun cdv A outer s H hr hq => by
    have hu := hu_of hr
    have hu64 := hr.units
    exact (dss_c (ds_un (tg_t (is := [4, 5, 6, 7]) rfl) (pg_tup rfl (pgs_cons (pg_name (i := 4) sc_lease_fault.nd rfl (by first | exact .inl rfl | exact .inr rfl)) (pgs_cons (pg_name (i := 5) sc_lease_fault.nd rfl (by first | exact .inl rfl | exact .inr rfl)) (pgs_cons (pg_name (i := 6) sc_lease_fault.nd rfl (by first | exact .inl rfl | exact .inr rfl)) (pgs_cons (pg_name (i := 7) sc_lease_fault.nd rfl (by first | exact .inl rfl | exact .inr rfl)) pgs_nil))))) (de_v 3))
    (dss_c (ds_if (PW.pt (dw_or (dt_cmp op_isND (de_call k_right_called hr (by decide) hq rfl D_right_called.g D_right_called.F.kp D_right_called.b fnD_len (da_c (de_v 1) (da_c (de_v 4) da_n))) de_non (by rfl)) (pw_or1 (dt_cmp op_isND (de_call k_right_called hr (by decide) hq rfl D_right_called.g D_right_called.F.kp D_right_called.b fnD_len (da_c (de_v 1) (da_c (de_v 5) da_n))) de_non (by rfl))))) (dss_1 (ds_rt de_str)) dss_n)
    (dss_c (ds_if (dt_cmp (op_eqDD hu64) (de_v 4) (de_v 5) (by rfl)) (dss_1 (ds_rt de_str)) dss_n)
    (dss_c (ds_if (PW.pt (dw_or (dt_cmp op_ltD (de_v 6) de_int (by rfl)) (pw_or1 (dt_cmp op_geD (de_v 6) (de_ix ix_D (de_v 0) de_int) (by rfl))))) (dss_1 (ds_rt de_str)) dss_n)
    (dss_c (ds_if (PW.pt (dw_or (dt_cmp op_ltD (de_v 7) de_int (by rfl)) (pw_or1 (dt_cmp op_gtD (de_v 7) (de_gi rfl T.c_MOST_AMOUNT) (by rfl))))) (dss_1 (ds_rt de_str)) dss_n)
    (dss_c (ds_if (dt_cmp op_gtD (de_op op_addD (de_call k_lent hr (by decide) hq rfl D_lent.g D_lent.F.kp D_lent.b fnD_len (da_c (de_v 2) (da_c (de_v 4) (da_c (de_v 6) da_n)))) (de_v 7)) (de_ix ix_D (de_ix ix_D (de_call k_right_called hr (by decide) hq rfl D_right_called.g D_right_called.F.kp D_right_called.b fnD_len (da_c (de_v 1) (da_c (de_v 4) da_n))) (de_gi rfl T.c_DEMANDS)) (de_v 6)) (by rfl)) (dss_1 (ds_rt (de_gs rfl T.c_TOO_MUCH))) dss_n)
    (dss_1 (ds_rt de_non))))))))

abbrev s_refuse_bad : Stmt := top 14
theorem sc_refuse_bad : FnScope ["basin", "rights", "leases", "k", "lease", "wrong"] ["basin", "rights", "leases"] (defScope s_refuse_bad) := ⟨rfl, rfl, rfl, by decide +kernel, rfl, by decide +kernel, by decide +kernel⟩
theorem ok_refuse_bad {P : Program} {w : World} {K : PySem.W.Frag} {mg : PySem.Str → Option Value} {base : Heap} (T : Txt K mg) (D_lease_fault : Df K mg "lease_fault" s_lease_fault ["basin", "rights", "earlier", "lease"]) (k_lease_fault : FnG P w K mg base 2 D_lease_fault.f D_lease_fault.fd ["basin", "rights", "earlier", "lease"] phi_lease_fault) (D_refuse_bad : Df K mg "refuse_bad" s_refuse_bad ["basin", "rights", "leases"]) : FnG P w K mg base 3 D_refuse_bad.f D_refuse_bad.fd ["basin", "rights", "leases"] phi_refuse_bad :=
  fn_D (N := ["basin", "rights", "leases", "k", "lease", "wrong"]) (k := 2) D_refuse_bad.F sc_refuse_bad fun cdv A outer s H hr hq => by
    have hu := hu_of hr
    have hu64 := hr.units
    exact (dss_c (ds_for PassesOwn.never rfl (di_en rfl T.b_enumerate (da_c (de_v 2) da_n)) (tg_t (is := [3, 4]) rfl) (pg_tup rfl (pgs_cons (pg_name (i := 3) sc_refuse_bad.nd rfl (by first | exact .inl rfl | exact .inr rfl)) (pgs_cons (pg_name (i := 4) sc_refuse_bad.nd rfl (by first | exact .inl rfl | exact .inr rfl)) pgs_nil))) (dss_c (ds_set (i := 5) sc_refuse_bad.nd rfl (by first | exact .inl rfl | exact .inr rfl) (de_call k_lease_fault hr (by decide) hq rfl D_lease_fault.g D_lease_fault.F.kp D_lease_fault.b fnD_len (da_c (de_v 0) (da_c (de_v 1) (da_c (de_sl (de_v 2) do_n (do_i (de_v 3))) (da_c (de_v 4) da_n))))))
    (dss_1 (ds_if (dt_cmp op_notND (de_v 5) de_non (by rfl)) (dss_1 ds_no) dss_n))))
    (dss_1 (ds_if (dt_cmp op_gtD (de_b call_lenD rfl T.b_len (by decide +kernel) (da_c (de_v 2) da_n)) (de_gi rfl T.c_MOST_LEASES) (by rfl)) (dss_1 ds_no) dss_n)))

abbrev s_holdings : Stmt := top 16
theorem sc_holdings : FnScope ["basin", "rights", "leases", "found", "name", "place", "demands", "left", "m", "amount", "k", "lender", "borrower", "month", "wants"] ["basin", "rights", "leases"] (defScope s_holdings) := ⟨rfl, rfl, rfl, by decide +kernel, rfl, by decide +kernel, by decide +kernel⟩
theorem ok_holdings {P : Program} {w : World} {K : PySem.W.Frag} {mg : PySem.Str → Option Value} {base : Heap} (T : Txt K mg) (D_refuse_bad : Df K mg "refuse_bad" s_refuse_bad ["basin", "rights", "leases"]) (k_refuse_bad : FnG P w K mg base 3 D_refuse_bad.f D_refuse_bad.fd ["basin", "rights", "leases"] phi_refuse_bad) (D_lent : Df K mg "lent" s_lent ["leases", "name", "month"]) (k_lent : FnG P w K mg base 1 D_lent.f D_lent.fd ["leases", "name", "month"] phi_lent) (D_right_called : Df K mg "right_called" s_right_called ["rights", "name"]) (k_right_called : FnG P w K mg base 1 D_right_called.f D_right_called.fd ["rights", "name"] phi_right_called) (D_holdings : Df K mg "holdings" s_holdings ["basin", "rights", "leases"]) : FnG P w K mg base 4 D_holdings.f D_holdings.fd ["basin", "rights", "leases"] phi_holdings :=
  fn_D (N := ["basin", "rights", "leases", "found", "name", "place", "demands", "left", "m", "amount", "k", "lender", "borrower", "month", "wants"]) (k := 3) D_holdings.F sc_holdings fun cdv A outer s H hr hq => by
    have hu := hu_of hr
    have hu64 := hr.units
    exact (dss_c (ds_ex (de_call k_refuse_bad hr (by decide) hq rfl D_refuse_bad.g D_refuse_bad.F.kp D_refuse_bad.b fnD_len (da_c (de_v 0) (da_c (de_v 1) (da_c (de_v 2) da_n)))))
    (dss_c (ds_new (i := 3) sc_holdings.nd rfl (by first | exact .inl rfl | exact .inr rfl) (dn_lst da_n))
    (dss_c (ds_for PassesOwn.never rfl (di_v (de_v 1)) (tg_t (is := [4, 5, 6]) rfl) (pg_tup rfl (pgs_cons (pg_name (i := 4) sc_holdings.nd rfl (by first | exact .inl rfl | exact .inr rfl)) (pgs_cons (pg_name (i := 5) sc_holdings.nd rfl (by first | exact .inl rfl | exact .inr rfl)) (pgs_cons (pg_name (i := 6) sc_holdings.nd rfl (by first | exact .inl rfl | exact .inr rfl)) pgs_nil)))) (dss_c (ds_lc (i := 7) (own := [("m", 8), ("amount", 9)]) rfl sc_holdings.nd rfl rfl (sw_true rfl rfl rfl (by decide +kernel)) (di_en rfl T.b_enumerate (da_c (de_v 6) da_n)) (by first | exact blkOk_by (N := ["basin", "rights", "leases", "found", "name", "place", "demands", "left", "m", "amount", "k", "lender", "borrower", "month", "wants"]) (sc := defScope s_holdings) (by decide +kernel) | exact blkOk_by (by rfl)) (tg_t (is := [8, 9]) rfl) (by decide) (fun _ _ _ _ _ => (pg_tup rfl (pgs_cons (pg_name (i := 8) sc_holdings.nd rfl (by first | exact .inl rfl | exact .inr rfl)) (pgs_cons (pg_name (i := 9) sc_holdings.nd rfl (by first | exact .inl rfl | exact .inr rfl)) pgs_nil)))) (fun _ _ _ _ _ => dts_n) (fun _ _ _ _ _ => (de_op op_subD (de_v 9) (de_call k_lent hr (by decide) hq rfl D_lent.g D_lent.F.kp D_lent.b fnD_len (da_c (de_v 2) (da_c (de_v 4) (da_c (de_v 8) da_n)))))))
    (dss_c (ds_ex (de_app (de_v 3) (de_tup (da_c (de_v 4) (da_c (de_tup (da_c (de_v 4) (da_c (de_v 5) (da_c (de_ty call_tupleD rfl T.b_tuple (by decide +kernel) (da_c (de_v 7) da_n)) da_n)))) da_n)))))
    (dss_1 (ds_for PassesOwn.never rfl (di_en rfl T.b_enumerate (da_c (de_v 2) da_n)) (tg_g (ts := [.n 10, .t [11, 12, 13, 9]]) rfl) (pg_tup rfl (pgs_cons (pg_name (i := 10) sc_holdings.nd rfl (by first | exact .inl rfl | exact .inr rfl)) (pgs_cons (pg_tup rfl (pgs_cons (pg_name (i := 11) sc_holdings.nd rfl (by first | exact .inl rfl | exact .inr rfl)) (pgs_cons (pg_name (i := 12) sc_holdings.nd rfl (by first | exact .inl rfl | exact .inr rfl)) (pgs_cons (pg_name (i := 13) sc_holdings.nd rfl (by first | exact .inl rfl | exact .inr rfl)) (pgs_cons (pg_name (i := 9) sc_holdings.nd rfl (by first | exact .inl rfl | exact .inr rfl)) pgs_nil))))) pgs_nil))) (dss_1 (ds_if (dt_cmp (op_eqDD hu64) (de_v 11) (de_v 4) (by rfl)) (dss_c (ds_set (i := 14) sc_holdings.nd rfl (by first | exact .inl rfl | exact .inr rfl) (de_ty call_tupleD rfl T.b_tuple (by decide +kernel) (da_c (de_lc (own := [("m", 8)]) rfl sc_holdings.nd (di_r1 rfl T.b_range (da_c (de_ix ix_D (de_v 0) de_int) da_n)) (by first | exact blkOk_by (N := ["basin", "rights", "leases", "found", "name", "place", "demands", "left", "m", "amount", "k", "lender", "borrower", "month", "wants"]) (sc := defScope s_holdings) (by decide +kernel) | exact blkOk_by (by rfl)) tg_n (by decide) (fun _ _ _ _ _ => (pg_name (i := 8) sc_holdings.nd rfl (by first | exact .inl rfl | exact .inr rfl))) (fun _ _ _ _ _ => dts_n) (fun _ _ _ _ _ => (de_if (dt_cmp (op_eqDD hu64) (de_v 8) (de_v 13) (by rfl)) (de_v 9) de_int))) da_n)))
    (dss_1 (ds_ex (de_app (de_v 3) (de_tup (da_c (de_v 12) (da_c (de_tup (da_c (de_op op_addD de_str (de_ix ix_D (de_gs rfl T.c_LETTERS) (de_v 10))) (da_c (de_ix ix_D (de_call k_right_called hr (by decide) hq rfl D_right_called.g D_right_called.F.kp D_right_called.b fnD_len (da_c (de_v 1) (da_c (de_v 12) da_n))) (de_gi rfl T.c_RIGHT_SITE)) (da_c (de_v 14) da_n)))) da_n))))))) dss_n)))))))
    (dss_1 (ds_rt (de_v 3))))))

abbrev s_under : Stmt := top 11
theorem sc_under : FnScope ["basin", "rights", "leases", "_", "right"] ["basin", "rights", "leases"] (defScope s_under) := ⟨rfl, rfl, rfl, by decide +kernel, rfl, by decide +kernel, by decide +kernel⟩
theorem ok_under {P : Program} {w : World} {K : PySem.W.Frag} {mg : PySem.Str → Option Value} {base : Heap} (T : Txt K mg) (D_holdings : Df K mg "holdings" s_holdings ["basin", "rights", "leases"]) (k_holdings : FnG P w K mg base 4 D_holdings.f D_holdings.fd ["basin", "rights", "leases"] phi_holdings) (D_under : Df K mg "under" s_under ["basin", "rights", "leases"]) : FnG P w K mg base 5 D_under.f D_under.fd ["basin", "rights", "leases"] phi_under :=
  fn_D (N := ["basin", "rights", "leases", "_", "right"]) (k := 4) D_under.F sc_under fun cdv A outer s H hr hq => by
    have hu := hu_of hr
    have hu64 := hr.units
    exact (dss_1 (ds_rt (de_ty call_tupleD rfl T.b_tuple (by decide +kernel) (da_c (de_lc (own := [("_", 3), ("right", 4)]) rfl sc_under.nd (di_v (de_call k_holdings hr (by decide) hq rfl D_holdings.g D_holdings.F.kp D_holdings.b fnD_len (da_c (de_v 0) (da_c (de_v 1) (da_c (de_v 2) da_n))))) (by first | exact blkOk_by (N := ["basin", "rights", "leases", "_", "right"]) (sc := defScope s_under) (by decide +kernel) | exact blkOk_by (by rfl)) (tg_t (is := [3, 4]) rfl) (by decide) (fun _ _ _ _ _ => (pg_tup rfl (pgs_cons (pg_name (i := 3) sc_under.nd rfl (by first | exact .inl rfl | exact .inr rfl)) (pgs_cons (pg_name (i := 4) sc_under.nd rfl (by first | exact .inl rfl | exact .inr rfl)) pgs_nil)))) (fun _ _ _ _ _ => dts_n) (fun _ _ _ _ _ => (de_v 4))) da_n))))

abbrev s_lw_under : Stmt := top 25
theorem sc_lw_under : FnScope ["rights", "leases", "found", "name", "site", "demands", "left", "more", "at", "lender", "borrower", "month", "amount", "row", "place", "right"] ["rights", "leases"] (defScope s_lw_under) := ⟨rfl, rfl, rfl, by decide +kernel, rfl, by decide +kernel, by decide +kernel⟩
theorem ok_lw_under {P : Program} {w : World} {K : PySem.W.Frag} {mg : PySem.Str → Option Value} {base : Heap} (T : Txt K mg) (D_lw_under : Df K mg "_law_under" s_lw_under ["rights", "leases"]) : FnG P w K mg base 1 D_lw_under.f D_lw_under.fd ["rights", "leases"] phi_lw_under :=
  fn_D (N := ["rights", "leases", "found", "name", "site", "demands", "left", "more", "at", "lender", "borrower", "month", "amount", "row", "place", "right"]) (k := 0) D_lw_under.F sc_lw_under fun cdv A outer s H hr hq => by
    have hu := hu_of hr
    have hu64 := hr.units
    exact (dss_c (ds_set (i := 2) sc_lw_under.nd rfl (by first | exact .inl rfl | exact .inr rfl) (de_lst da_n))
    (dss_c (ds_for PassesOwn.never rfl (di_v (de_v 0)) (tg_t (is := [3, 4, 5]) rfl) (pg_tup rfl (pgs_cons (pg_name (i := 3) sc_lw_under.nd rfl (by first | exact .inl rfl | exact .inr rfl)) (pgs_cons (pg_name (i := 4) sc_lw_under.nd rfl (by first | exact .inl rfl | exact .inr rfl)) (pgs_cons (pg_name (i := 5) sc_lw_under.nd rfl (by first | exact .inl rfl | exact .inr rfl)) pgs_nil)))) (dss_c (ds_new (i := 6) sc_lw_under.nd rfl (by first | exact .inl rfl | exact .inr rfl) (dn_list rfl T.b_list (da_c (de_v 5) da_n)))
    (dss_c (ds_new (i := 7) sc_lw_under.nd rfl (by first | exact .inl rfl | exact .inr rfl) (dn_lst da_n))
    (dss_c (ds_for PassesOwn.never rfl (di_r1 rfl T.b_range (da_c (de_b call_lenD rfl T.b_len (by decide +kernel) (da_c (de_v 1) da_n)) da_n)) tg_n (pg_name (i := 8) sc_lw_under.nd rfl (by first | exact .inl rfl | exact .inr rfl)) (dss_c (ds_un (tg_t (is := [9, 10, 11, 12]) rfl) (pg_tup rfl (pgs_cons (pg_name (i := 9) sc_lw_under.nd rfl (by first | exact .inl rfl | exact .inr rfl)) (pgs_cons (pg_name (i := 10) sc_lw_under.nd rfl (by first | exact .inl rfl | exact .inr rfl)) (pgs_cons (pg_name (i := 11) sc_lw_under.nd rfl (by first | exact .inl rfl | exact .inr rfl)) (pgs_cons (pg_name (i := 12) sc_lw_under.nd rfl (by first | exact .inl rfl | exact .inr rfl)) pgs_nil))))) (de_ix ix_D (de_v 1) (de_v 8)))
    (dss_1 (ds_if (dt_cmp (op_eqDD hu64) (de_v 9) (de_v 3) (by rfl)) (dss_c (ds_put (de_v 6) (de_v 11) (de_op op_subD (de_ix ix_D (de_v 6) (de_v 11)) (de_v 12)))
    (dss_c (ds_new (i := 13) sc_lw_under.nd rfl (by first | exact .inl rfl | exact .inr rfl) (dn_rep (de_lst (da_c de_int da_n)) (de_b call_lenD rfl T.b_len (by decide +kernel) (da_c (de_v 5) da_n))))
    (dss_c (ds_put (de_v 13) (de_v 11) (de_v 12))
    (dss_c (ds_set (i := 14) sc_lw_under.nd rfl (by first | exact .inl rfl | exact .inr rfl) (de_ix ix_D (de_lc (own := [("right", 15)]) rfl sc_lw_under.nd (di_v (de_v 0)) (by first | exact blkOk_by (N := ["rights", "leases", "found", "name", "site", "demands", "left", "more", "at", "lender", "borrower", "month", "amount", "row", "place", "right"]) (sc := defScope s_lw_under) (by decide +kernel) | exact blkOk_by (by rfl)) tg_n (by decide) (fun _ _ _ _ _ => (pg_name (i := 15) sc_lw_under.nd rfl (by first | exact .inl rfl | exact .inr rfl))) (fun _ _ _ _ _ => (dts_1 (dt_cmp (op_eqDD hu64) (de_ix ix_D (de_v 15) de_int) (de_v 10) (by rfl)))) (fun _ _ _ _ _ => (de_ix ix_D (de_v 15) de_int))) de_int))
    (dss_1 (ds_ex (de_app (de_v 7) (de_tup (da_c (de_op op_addD de_str (de_ix ix_D de_str (de_ty call_intD rfl T.b_int (by decide +kernel) (da_c (de_v 8) da_n)))) (da_c (de_v 14) (da_c (de_ty call_tupleD rfl T.b_tuple (by decide +kernel) (da_c (de_v 13) da_n)) da_n))))))))))) dss_n))))
    (dss_1 (ds_set (i := 2) sc_lw_under.nd rfl (by first | exact .inl rfl | exact .inr rfl) (de_op op_addD (de_op op_addD (de_v 2) (de_lst (da_c (de_tup (da_c (de_v 3) (da_c (de_v 4) (da_c (de_ty call_tupleD rfl T.b_tuple (by decide +kernel) (da_c (de_v 6) da_n)) da_n)))) da_n))) (de_v 7))))))))
    (dss_1 (ds_rt (de_ty call_tupleD rfl T.b_tuple (by decide +kernel) (da_c (de_v 2) da_n))))))

abbrev s_law_2 : Stmt := top 27
theorem sc_law_2 : FnScope ["script", "box", "basin", "rights", "kept", "turn", "leases"] ["script"] (defScope s_law_2) := ⟨rfl, rfl, rfl, by decide +kernel, rfl, by decide +kernel, by decide +kernel⟩
theorem ok_law_2 {P : Program} {w : World} {K : PySem.W.Frag} {mg : PySem.Str → Option Value} {base : Heap} (T : Txt K mg) (D_lw_digits : Df K mg "_law_digits" s_lw_digits ["script", "first", "last"]) (k_lw_digits : FnG P w K mg base 2 D_lw_digits.f D_lw_digits.fd ["script", "first", "last"] phi_lw_digits) (D_lw_basin_2 : Df K mg "_law_basin" s_lw_basin_2 ["box"]) (k_lw_basin_2 : FnG P w K mg base 2 D_lw_basin_2.f D_lw_basin_2.fd ["box"] phi_lw_basin_2) (D_lw_more_rights : Df K mg "_law_more_rights" s_lw_more_rights ["box", "basin"]) (k_lw_more_rights : FnG P w K mg base 3 D_lw_more_rights.f D_lw_more_rights.fd ["box", "basin"] phi_lw_more_rights) (D_lw_leases : Df K mg "_law_leases" s_lw_leases ["box", "basin", "rights", "most"]) (k_lw_leases : FnG P w K mg base 2 D_lw_leases.f D_lw_leases.fd ["box", "basin", "rights", "most"] phi_lw_leases) (D_lw_same : Df K mg "_law_same" s_lw_same ["actual", "due"]) (k_lw_same : FnG P w K mg base 1 D_lw_same.f D_lw_same.fd ["actual", "due"] phi_lw_same) (D_lw_under : Df K mg "_law_under" s_lw_under ["rights", "leases"]) (k_lw_under : FnG P w K mg base 1 D_lw_under.f D_lw_under.fd ["rights", "leases"] phi_lw_under) (D_under : Df K mg "under" s_under ["basin", "rights", "leases"]) (k_under : FnG P w K mg base 5 D_under.f D_under.fd ["basin", "rights", "leases"] phi_under) (D_law_2 : Df K mg "law" s_law_2 ["script"]) : FnG P w K mg base 6 D_law_2.f D_law_2.fd ["script"] phi_law_2 :=
  fn_D (N := ["script", "box", "basin", "rights", "kept", "turn", "leases"]) (k := 5) D_law_2.F sc_law_2 fun cdv A outer s H hr hq => by
    have hu := hu_of hr
    have hu64 := hr.units
    exact (dss_c (ds_new (i := 1) sc_law_2.nd rfl (by first | exact .inl rfl | exact .inr rfl) (dn_lst (da_c (de_call k_lw_digits hr (by decide) hq rfl D_lw_digits.g D_lw_digits.F.kp D_lw_digits.b fnD_len (da_c (de_v 0) (da_c de_int (da_c de_int da_n)))) (da_c de_int da_n))))
    (dss_c (ds_set (i := 2) sc_law_2.nd rfl (by first | exact .inl rfl | exact .inr rfl) (de_call k_lw_basin_2 hr (by decide) hq rfl D_lw_basin_2.g D_lw_basin_2.F.kp D_lw_basin_2.b fnD_len (da_c (de_v 1) da_n)))
    (dss_c (ds_set (i := 3) sc_law_2.nd rfl (by first | exact .inl rfl | exact .inr rfl) (de_call k_lw_more_rights hr (by decide) hq rfl D_lw_more_rights.g D_lw_more_rights.F.kp D_lw_more_rights.b fnD_len (da_c (de_v 1) (da_c (de_v 2) da_n))))
    (dss_c (ds_set (i := 4) sc_law_2.nd rfl (by first | exact .inl rfl | exact .inr rfl) (de_b (call_reprD hq hu64) rfl T.b_repr (by decide +kernel) (da_c (de_v 3) da_n)))
    (dss_c (ds_for PassesOwn.never rfl (di_r1 rfl T.b_range (da_c de_int da_n)) tg_n (pg_name (i := 5) sc_law_2.nd rfl (by first | exact .inl rfl | exact .inr rfl)) (dss_c (ds_set (i := 6) sc_law_2.nd rfl (by first | exact .inl rfl | exact .inr rfl) (de_call k_lw_leases hr (by decide) hq rfl D_lw_leases.g D_lw_leases.F.kp D_lw_leases.b fnD_len (da_c (de_v 1) (da_c (de_v 2) (da_c (de_v 3) (da_c de_int da_n))))))
    (dss_1 (ds_if (PW.pt (dw_or (dt_not (dt_val (de_call k_lw_same hr (by decide) hq rfl D_lw_same.g D_lw_same.F.kp D_lw_same.b fnD_len (da_c (de_call k_under hr (by decide) hq rfl D_under.g D_under.F.kp D_under.b fnD_len (da_c (de_v 2) (da_c (de_v 3) (da_c (de_v 6) da_n)))) (da_c (de_call k_lw_under hr (by decide) hq rfl D_lw_under.g D_lw_under.F.kp D_lw_under.b fnD_len (da_c (de_v 3) (da_c (de_v 6) da_n))) da_n))) (fun h => pt_val h))) (pw_or1 (dt_cmp (op_neDD hu64) (de_b (call_reprD hq hu64) rfl T.b_repr (by decide +kernel) (da_c (de_v 3) da_n)) (de_v 4) (by rfl))))) (dss_1 (ds_rt de_bl)) dss_n))))
    (dss_1 (ds_rt (de_call k_lw_same hr (by decide) hq rfl D_lw_same.g D_lw_same.F.kp D_lw_same.b fnD_len (da_c (de_call k_under hr (by decide) hq rfl D_under.g D_under.F.kp D_under.b fnD_len (da_c (de_v 2) (da_c (de_v 3) (da_c (de_tup da_n) da_n)))) (da_c (de_v 3) da_n))))))))))

end Lw
namespace Lw
open PySem PySem.Spec PyProof.Rows L2 DL
set_option maxHeartbeats 0 in
theorem all_mk {l : PySem.W.OpenLaw} {w : World} {K : PySem.W.Frag} {h : Heap} {mg : PySem.Str → Option Value} {fa f_lw_draw f_lw_basin_2 f_lw_demands f_lw_more_rights f_lw_same f_lw_cell f_lw_digits f_lw_leases f_right_called f_lent f_lease_fault f_refuse_bad f_holdings f_under f_lw_under f_law_2 : Addr} (X : K.In h) (G : h.Ns mainGlobals mg) (hfa : mg "law" = some (.ref fa))
    {od_lw_draw an_lw_draw : Option Addr} {sl_lw_draw : Array (Option Value)} {oc_lw_draw kV_lw_draw dc_lw_draw pm_lw_draw cd_lw_draw ct_lw_draw : Value}
    {od_lw_basin_2 an_lw_basin_2 : Option Addr} {sl_lw_basin_2 : Array (Option Value)} {oc_lw_basin_2 kV_lw_basin_2 dc_lw_basin_2 pm_lw_basin_2 cd_lw_basin_2 ct_lw_basin_2 : Value}
    {od_lw_demands an_lw_demands : Option Addr} {sl_lw_demands : Array (Option Value)} {oc_lw_demands kV_lw_demands dc_lw_demands pm_lw_demands cd_lw_demands ct_lw_demands : Value}
    {od_lw_more_rights an_lw_more_rights : Option Addr} {sl_lw_more_rights : Array (Option Value)} {oc_lw_more_rights kV_lw_more_rights dc_lw_more_rights pm_lw_more_rights cd_lw_more_rights ct_lw_more_rights : Value}
    {od_lw_same an_lw_same : Option Addr} {sl_lw_same : Array (Option Value)} {oc_lw_same kV_lw_same dc_lw_same pm_lw_same cd_lw_same ct_lw_same : Value}
    {od_lw_cell an_lw_cell : Option Addr} {sl_lw_cell : Array (Option Value)} {oc_lw_cell kV_lw_cell dc_lw_cell pm_lw_cell cd_lw_cell ct_lw_cell : Value}
    {od_lw_digits an_lw_digits : Option Addr} {sl_lw_digits : Array (Option Value)} {oc_lw_digits kV_lw_digits dc_lw_digits pm_lw_digits cd_lw_digits ct_lw_digits : Value}
    {od_lw_leases an_lw_leases : Option Addr} {sl_lw_leases : Array (Option Value)} {oc_lw_leases kV_lw_leases dc_lw_leases pm_lw_leases cd_lw_leases ct_lw_leases : Value}
    {od_right_called an_right_called : Option Addr} {sl_right_called : Array (Option Value)} {oc_right_called kV_right_called dc_right_called pm_right_called cd_right_called ct_right_called : Value}
    {od_lent an_lent : Option Addr} {sl_lent : Array (Option Value)} {oc_lent kV_lent dc_lent pm_lent cd_lent ct_lent : Value}
    {od_lease_fault an_lease_fault : Option Addr} {sl_lease_fault : Array (Option Value)} {oc_lease_fault kV_lease_fault dc_lease_fault pm_lease_fault cd_lease_fault ct_lease_fault : Value}
    {od_refuse_bad an_refuse_bad : Option Addr} {sl_refuse_bad : Array (Option Value)} {oc_refuse_bad kV_refuse_bad dc_refuse_bad pm_refuse_bad cd_refuse_bad ct_refuse_bad : Value}
    {od_holdings an_holdings : Option Addr} {sl_holdings : Array (Option Value)} {oc_holdings kV_holdings dc_holdings pm_holdings cd_holdings ct_holdings : Value}
    {od_under an_under : Option Addr} {sl_under : Array (Option Value)} {oc_under kV_under dc_under pm_under cd_under ct_under : Value}
    {od_lw_under an_lw_under : Option Addr} {sl_lw_under : Array (Option Value)} {oc_lw_under kV_lw_under dc_lw_under pm_lw_under cd_lw_under ct_lw_under : Value}
    {od_law_2 an_law_2 : Option Addr} {sl_law_2 : Array (Option Value)} {oc_law_2 kV_law_2 dc_law_2 pm_law_2 cd_law_2 ct_law_2 : Value}
    {tc_RIGHT_NAME tc_MOST_AMOUNT tc_DEMANDS tc_MOST_LEASES tc_RIGHT_SITE tc_TOO_MUCH tc_LETTERS : Tok}
    (a_lw_draw : PySem.W.nsIn K mainGlobals "_law_draw" = some (some (.ref f_lw_draw)))
    (l_lw_draw : K.lookup f_lw_draw = some ⟨oc_lw_draw, od_lw_draw, .func (PySem.W.fnOf "_law_draw" "_law_draw" (defArgs s_lw_draw) (defBody s_lw_draw) (defScope s_lw_draw) .none kV_lw_draw dc_lw_draw pm_lw_draw an_lw_draw cd_lw_draw ct_lw_draw), sl_lw_draw⟩)
    (c_lw_draw : PySem.W.codeIn K cd_lw_draw "_law_draw" = true) (k_lw_draw : PySem.W.keepIn K (.ref f_lw_draw) = true)
    (a_lw_basin_2 : PySem.W.nsIn K mainGlobals "_law_basin" = some (some (.ref f_lw_basin_2)))
    (l_lw_basin_2 : K.lookup f_lw_basin_2 = some ⟨oc_lw_basin_2, od_lw_basin_2, .func (PySem.W.fnOf "_law_basin" "_law_basin" (defArgs s_lw_basin_2) (defBody s_lw_basin_2) (defScope s_lw_basin_2) .none kV_lw_basin_2 dc_lw_basin_2 pm_lw_basin_2 an_lw_basin_2 cd_lw_basin_2 ct_lw_basin_2), sl_lw_basin_2⟩)
    (c_lw_basin_2 : PySem.W.codeIn K cd_lw_basin_2 "_law_basin" = true) (k_lw_basin_2 : PySem.W.keepIn K (.ref f_lw_basin_2) = true)
    (a_lw_demands : PySem.W.nsIn K mainGlobals "_law_demands" = some (some (.ref f_lw_demands)))
    (l_lw_demands : K.lookup f_lw_demands = some ⟨oc_lw_demands, od_lw_demands, .func (PySem.W.fnOf "_law_demands" "_law_demands" (defArgs s_lw_demands) (defBody s_lw_demands) (defScope s_lw_demands) .none kV_lw_demands dc_lw_demands pm_lw_demands an_lw_demands cd_lw_demands ct_lw_demands), sl_lw_demands⟩)
    (c_lw_demands : PySem.W.codeIn K cd_lw_demands "_law_demands" = true) (k_lw_demands : PySem.W.keepIn K (.ref f_lw_demands) = true)
    (a_lw_more_rights : PySem.W.nsIn K mainGlobals "_law_more_rights" = some (some (.ref f_lw_more_rights)))
    (l_lw_more_rights : K.lookup f_lw_more_rights = some ⟨oc_lw_more_rights, od_lw_more_rights, .func (PySem.W.fnOf "_law_more_rights" "_law_more_rights" (defArgs s_lw_more_rights) (defBody s_lw_more_rights) (defScope s_lw_more_rights) .none kV_lw_more_rights dc_lw_more_rights pm_lw_more_rights an_lw_more_rights cd_lw_more_rights ct_lw_more_rights), sl_lw_more_rights⟩)
    (c_lw_more_rights : PySem.W.codeIn K cd_lw_more_rights "_law_more_rights" = true) (k_lw_more_rights : PySem.W.keepIn K (.ref f_lw_more_rights) = true)
    (a_lw_same : PySem.W.nsIn K mainGlobals "_law_same" = some (some (.ref f_lw_same)))
    (l_lw_same : K.lookup f_lw_same = some ⟨oc_lw_same, od_lw_same, .func (PySem.W.fnOf "_law_same" "_law_same" (defArgs s_lw_same) (defBody s_lw_same) (defScope s_lw_same) .none kV_lw_same dc_lw_same pm_lw_same an_lw_same cd_lw_same ct_lw_same), sl_lw_same⟩)
    (c_lw_same : PySem.W.codeIn K cd_lw_same "_law_same" = true) (k_lw_same : PySem.W.keepIn K (.ref f_lw_same) = true)
    (a_lw_cell : PySem.W.nsIn K mainGlobals "_law_cell" = some (some (.ref f_lw_cell)))
    (l_lw_cell : K.lookup f_lw_cell = some ⟨oc_lw_cell, od_lw_cell, .func (PySem.W.fnOf "_law_cell" "_law_cell" (defArgs s_lw_cell) (defBody s_lw_cell) (defScope s_lw_cell) .none kV_lw_cell dc_lw_cell pm_lw_cell an_lw_cell cd_lw_cell ct_lw_cell), sl_lw_cell⟩)
    (c_lw_cell : PySem.W.codeIn K cd_lw_cell "_law_cell" = true) (k_lw_cell : PySem.W.keepIn K (.ref f_lw_cell) = true)
    (a_lw_digits : PySem.W.nsIn K mainGlobals "_law_digits" = some (some (.ref f_lw_digits)))
    (l_lw_digits : K.lookup f_lw_digits = some ⟨oc_lw_digits, od_lw_digits, .func (PySem.W.fnOf "_law_digits" "_law_digits" (defArgs s_lw_digits) (defBody s_lw_digits) (defScope s_lw_digits) .none kV_lw_digits dc_lw_digits pm_lw_digits an_lw_digits cd_lw_digits ct_lw_digits), sl_lw_digits⟩)
    (c_lw_digits : PySem.W.codeIn K cd_lw_digits "_law_digits" = true) (k_lw_digits : PySem.W.keepIn K (.ref f_lw_digits) = true)
    (a_lw_leases : PySem.W.nsIn K mainGlobals "_law_leases" = some (some (.ref f_lw_leases)))
    (l_lw_leases : K.lookup f_lw_leases = some ⟨oc_lw_leases, od_lw_leases, .func (PySem.W.fnOf "_law_leases" "_law_leases" (defArgs s_lw_leases) (defBody s_lw_leases) (defScope s_lw_leases) .none kV_lw_leases dc_lw_leases pm_lw_leases an_lw_leases cd_lw_leases ct_lw_leases), sl_lw_leases⟩)
    (c_lw_leases : PySem.W.codeIn K cd_lw_leases "_law_leases" = true) (k_lw_leases : PySem.W.keepIn K (.ref f_lw_leases) = true)
    (a_right_called : PySem.W.nsIn K mainGlobals "right_called" = some (some (.ref f_right_called)))
    (l_right_called : K.lookup f_right_called = some ⟨oc_right_called, od_right_called, .func (PySem.W.fnOf "right_called" "right_called" (defArgs s_right_called) (defBody s_right_called) (defScope s_right_called) .none kV_right_called dc_right_called pm_right_called an_right_called cd_right_called ct_right_called), sl_right_called⟩)
    (c_right_called : PySem.W.codeIn K cd_right_called "right_called" = true) (k_right_called : PySem.W.keepIn K (.ref f_right_called) = true)
    (a_lent : PySem.W.nsIn K mainGlobals "lent" = some (some (.ref f_lent)))
    (l_lent : K.lookup f_lent = some ⟨oc_lent, od_lent, .func (PySem.W.fnOf "lent" "lent" (defArgs s_lent) (defBody s_lent) (defScope s_lent) .none kV_lent dc_lent pm_lent an_lent cd_lent ct_lent), sl_lent⟩)
    (c_lent : PySem.W.codeIn K cd_lent "lent" = true) (k_lent : PySem.W.keepIn K (.ref f_lent) = true)
    (a_lease_fault : PySem.W.nsIn K mainGlobals "lease_fault" = some (some (.ref f_lease_fault)))
    (l_lease_fault : K.lookup f_lease_fault = some ⟨oc_lease_fault, od_lease_fault, .func (PySem.W.fnOf "lease_fault" "lease_fault" (defArgs s_lease_fault) (defBody s_lease_fault) (defScope s_lease_fault) .none kV_lease_fault dc_lease_fault pm_lease_fault an_lease_fault cd_lease_fault ct_lease_fault), sl_lease_fault⟩)
    (c_lease_fault : PySem.W.codeIn K cd_lease_fault "lease_fault" = true) (k_lease_fault : PySem.W.keepIn K (.ref f_lease_fault) = true)
    (a_refuse_bad : PySem.W.nsIn K mainGlobals "refuse_bad" = some (some (.ref f_refuse_bad)))
    (l_refuse_bad : K.lookup f_refuse_bad = some ⟨oc_refuse_bad, od_refuse_bad, .func (PySem.W.fnOf "refuse_bad" "refuse_bad" (defArgs s_refuse_bad) (defBody s_refuse_bad) (defScope s_refuse_bad) .none kV_refuse_bad dc_refuse_bad pm_refuse_bad an_refuse_bad cd_refuse_bad ct_refuse_bad), sl_refuse_bad⟩)
    (c_refuse_bad : PySem.W.codeIn K cd_refuse_bad "refuse_bad" = true) (k_refuse_bad : PySem.W.keepIn K (.ref f_refuse_bad) = true)
    (a_holdings : PySem.W.nsIn K mainGlobals "holdings" = some (some (.ref f_holdings)))
    (l_holdings : K.lookup f_holdings = some ⟨oc_holdings, od_holdings, .func (PySem.W.fnOf "holdings" "holdings" (defArgs s_holdings) (defBody s_holdings) (defScope s_holdings) .none kV_holdings dc_holdings pm_holdings an_holdings cd_holdings ct_holdings), sl_holdings⟩)
    (c_holdings : PySem.W.codeIn K cd_holdings "holdings" = true) (k_holdings : PySem.W.keepIn K (.ref f_holdings) = true)
    (a_under : PySem.W.nsIn K mainGlobals "under" = some (some (.ref f_under)))
    (l_under : K.lookup f_under = some ⟨oc_under, od_under, .func (PySem.W.fnOf "under" "under" (defArgs s_under) (defBody s_under) (defScope s_under) .none kV_under dc_under pm_under an_under cd_under ct_under), sl_under⟩)
    (c_under : PySem.W.codeIn K cd_under "under" = true) (k_under : PySem.W.keepIn K (.ref f_under) = true)
    (a_lw_under : PySem.W.nsIn K mainGlobals "_law_under" = some (some (.ref f_lw_under)))
    (l_lw_under : K.lookup f_lw_under = some ⟨oc_lw_under, od_lw_under, .func (PySem.W.fnOf "_law_under" "_law_under" (defArgs s_lw_under) (defBody s_lw_under) (defScope s_lw_under) .none kV_lw_under dc_lw_under pm_lw_under an_lw_under cd_lw_under ct_lw_under), sl_lw_under⟩)
    (c_lw_under : PySem.W.codeIn K cd_lw_under "_law_under" = true) (k_lw_under : PySem.W.keepIn K (.ref f_lw_under) = true)
    (a_law_2 : PySem.W.nsIn K mainGlobals "law" = some (some (.ref f_law_2)))
    (l_law_2 : K.lookup f_law_2 = some ⟨oc_law_2, od_law_2, .func (PySem.W.fnOf "law" "law" (defArgs s_law_2) (defBody s_law_2) (defScope s_law_2) .none kV_law_2 dc_law_2 pm_law_2 an_law_2 cd_law_2 ct_law_2), sl_law_2⟩)
    (c_law_2 : PySem.W.codeIn K cd_law_2 "law" = true) (k_law_2 : PySem.W.keepIn K (.ref f_law_2) = true)
    (zb_len : PySem.W.nsIn K mainGlobals "len" = some none)
    (zb_int : PySem.W.nsIn K mainGlobals "int" = some none)
    (zb_range : PySem.W.nsIn K mainGlobals "range" = some none)
    (zb_tuple : PySem.W.nsIn K mainGlobals "tuple" = some none)
    (zb_repr : PySem.W.nsIn K mainGlobals "repr" = some none)
    (zb_sum : PySem.W.nsIn K mainGlobals "sum" = some none)
    (zb_enumerate : PySem.W.nsIn K mainGlobals "enumerate" = some none)
    (zb_list : PySem.W.nsIn K mainGlobals "list" = some none)
    (zc_RIGHT_NAME : PySem.W.nsIn K mainGlobals "RIGHT_NAME" = some (some (.int 0 tc_RIGHT_NAME)))
    (zc_MOST_AMOUNT : PySem.W.nsIn K mainGlobals "MOST_AMOUNT" = some (some (.int 99 tc_MOST_AMOUNT)))
    (zc_DEMANDS : PySem.W.nsIn K mainGlobals "DEMANDS" = some (some (.int 2 tc_DEMANDS)))
    (zc_MOST_LEASES : PySem.W.nsIn K mainGlobals "MOST_LEASES" = some (some (.int 4 tc_MOST_LEASES)))
    (zc_RIGHT_SITE : PySem.W.nsIn K mainGlobals "RIGHT_SITE" = some (some (.int 1 tc_RIGHT_SITE)))
    (zc_TOO_MUCH : PySem.W.nsIn K mainGlobals "TOO_MUCH" = some (some (.str "more than it has" tc_TOO_MUCH)))
    (zc_LETTERS : PySem.W.nsIn K mainGlobals "LETTERS" = some (some (.str "abcdefghijklmnopqrstuvwxyz" tc_LETTERS)))
    : ∃ fd : FuncData, (∀ (s : Shared) (v : Value), BindsTo s fd ⟨[v], []⟩ [("script", v)]) ∧ ∀ base : Heap, K.In base → base.Ns mainGlobals mg → FnG l.prog w K mg base 6 fa fd ["script"] phi_law_2 := by
  have e := hfa.symm.trans (PySem.W.mg_of X G a_law_2)
  cases e
  have F_lw_draw := fun_mk (st := s_lw_draw) l_lw_draw c_lw_draw k_lw_draw
  have b_lw_draw := F_lw_draw.binds (ps := ["box", "many"]) fun _ _ _ _ _ _ us hl => match us, hl with | [_, _], _ => rfl
  have D_lw_draw : Df K mg "_law_draw" s_lw_draw ["box", "many"] := ⟨_, _, F_lw_draw, b_lw_draw, PySem.W.mg_of X G a_lw_draw⟩
  have F_lw_basin_2 := fun_mk (st := s_lw_basin_2) l_lw_basin_2 c_lw_basin_2 k_lw_basin_2
  have b_lw_basin_2 := F_lw_basin_2.binds (ps := ["box"]) fun _ _ _ _ _ _ us hl => match us, hl with | [_], _ => rfl
  have D_lw_basin_2 : Df K mg "_law_basin" s_lw_basin_2 ["box"] := ⟨_, _, F_lw_basin_2, b_lw_basin_2, PySem.W.mg_of X G a_lw_basin_2⟩
  have F_lw_demands := fun_mk (st := s_lw_demands) l_lw_demands c_lw_demands k_lw_demands
  have b_lw_demands := F_lw_demands.binds (ps := ["box", "months"]) fun _ _ _ _ _ _ us hl => match us, hl with | [_, _], _ => rfl
  have D_lw_demands : Df K mg "_law_demands" s_lw_demands ["box", "months"] := ⟨_, _, F_lw_demands, b_lw_demands, PySem.W.mg_of X G a_lw_demands⟩
  have F_lw_more_rights := fun_mk (st := s_lw_more_rights) l_lw_more_rights c_lw_more_rights k_lw_more_rights
  have b_lw_more_rights := F_lw_more_rights.binds (ps := ["box", "basin"]) fun _ _ _ _ _ _ us hl => match us, hl with | [_, _], _ => rfl
  have D_lw_more_rights : Df K mg "_law_more_rights" s_lw_more_rights ["box", "basin"] := ⟨_, _, F_lw_more_rights, b_lw_more_rights, PySem.W.mg_of X G a_lw_more_rights⟩
  have F_lw_same := fun_mk (st := s_lw_same) l_lw_same c_lw_same k_lw_same
  have b_lw_same := F_lw_same.binds (ps := ["actual", "due"]) fun _ _ _ _ _ _ us hl => match us, hl with | [_, _], _ => rfl
  have D_lw_same : Df K mg "_law_same" s_lw_same ["actual", "due"] := ⟨_, _, F_lw_same, b_lw_same, PySem.W.mg_of X G a_lw_same⟩
  have F_lw_cell := fun_mk (st := s_lw_cell) l_lw_cell c_lw_cell k_lw_cell
  have b_lw_cell := F_lw_cell.binds (ps := ["script", "k"]) fun _ _ _ _ _ _ us hl => match us, hl with | [_, _], _ => rfl
  have D_lw_cell : Df K mg "_law_cell" s_lw_cell ["script", "k"] := ⟨_, _, F_lw_cell, b_lw_cell, PySem.W.mg_of X G a_lw_cell⟩
  have F_lw_digits := fun_mk (st := s_lw_digits) l_lw_digits c_lw_digits k_lw_digits
  have b_lw_digits := F_lw_digits.binds (ps := ["script", "first", "last"]) fun _ _ _ _ _ _ us hl => match us, hl with | [_, _, _], _ => rfl
  have D_lw_digits : Df K mg "_law_digits" s_lw_digits ["script", "first", "last"] := ⟨_, _, F_lw_digits, b_lw_digits, PySem.W.mg_of X G a_lw_digits⟩
  have F_lw_leases := fun_mk (st := s_lw_leases) l_lw_leases c_lw_leases k_lw_leases
  have b_lw_leases := F_lw_leases.binds (ps := ["box", "basin", "rights", "most"]) fun _ _ _ _ _ _ us hl => match us, hl with | [_, _, _, _], _ => rfl
  have D_lw_leases : Df K mg "_law_leases" s_lw_leases ["box", "basin", "rights", "most"] := ⟨_, _, F_lw_leases, b_lw_leases, PySem.W.mg_of X G a_lw_leases⟩
  have F_right_called := fun_mk (st := s_right_called) l_right_called c_right_called k_right_called
  have b_right_called := F_right_called.binds (ps := ["rights", "name"]) fun _ _ _ _ _ _ us hl => match us, hl with | [_, _], _ => rfl
  have D_right_called : Df K mg "right_called" s_right_called ["rights", "name"] := ⟨_, _, F_right_called, b_right_called, PySem.W.mg_of X G a_right_called⟩
  have F_lent := fun_mk (st := s_lent) l_lent c_lent k_lent
  have b_lent := F_lent.binds (ps := ["leases", "name", "month"]) fun _ _ _ _ _ _ us hl => match us, hl with | [_, _, _], _ => rfl
  have D_lent : Df K mg "lent" s_lent ["leases", "name", "month"] := ⟨_, _, F_lent, b_lent, PySem.W.mg_of X G a_lent⟩
  have F_lease_fault := fun_mk (st := s_lease_fault) l_lease_fault c_lease_fault k_lease_fault
  have b_lease_fault := F_lease_fault.binds (ps := ["basin", "rights", "earlier", "lease"]) fun _ _ _ _ _ _ us hl => match us, hl with | [_, _, _, _], _ => rfl
  have D_lease_fault : Df K mg "lease_fault" s_lease_fault ["basin", "rights", "earlier", "lease"] := ⟨_, _, F_lease_fault, b_lease_fault, PySem.W.mg_of X G a_lease_fault⟩
  have F_refuse_bad := fun_mk (st := s_refuse_bad) l_refuse_bad c_refuse_bad k_refuse_bad
  have b_refuse_bad := F_refuse_bad.binds (ps := ["basin", "rights", "leases"]) fun _ _ _ _ _ _ us hl => match us, hl with | [_, _, _], _ => rfl
  have D_refuse_bad : Df K mg "refuse_bad" s_refuse_bad ["basin", "rights", "leases"] := ⟨_, _, F_refuse_bad, b_refuse_bad, PySem.W.mg_of X G a_refuse_bad⟩
  have F_holdings := fun_mk (st := s_holdings) l_holdings c_holdings k_holdings
  have b_holdings := F_holdings.binds (ps := ["basin", "rights", "leases"]) fun _ _ _ _ _ _ us hl => match us, hl with | [_, _, _], _ => rfl
  have D_holdings : Df K mg "holdings" s_holdings ["basin", "rights", "leases"] := ⟨_, _, F_holdings, b_holdings, PySem.W.mg_of X G a_holdings⟩
  have F_under := fun_mk (st := s_under) l_under c_under k_under
  have b_under := F_under.binds (ps := ["basin", "rights", "leases"]) fun _ _ _ _ _ _ us hl => match us, hl with | [_, _, _], _ => rfl
  have D_under : Df K mg "under" s_under ["basin", "rights", "leases"] := ⟨_, _, F_under, b_under, PySem.W.mg_of X G a_under⟩
  have F_lw_under := fun_mk (st := s_lw_under) l_lw_under c_lw_under k_lw_under
  have b_lw_under := F_lw_under.binds (ps := ["rights", "leases"]) fun _ _ _ _ _ _ us hl => match us, hl with | [_, _], _ => rfl
  have D_lw_under : Df K mg "_law_under" s_lw_under ["rights", "leases"] := ⟨_, _, F_lw_under, b_lw_under, PySem.W.mg_of X G a_lw_under⟩
  have F_law_2 := fun_mk (st := s_law_2) l_law_2 c_law_2 k_law_2
  have b_law_2 := F_law_2.binds (ps := ["script"]) fun _ _ _ _ _ _ us hl => match us, hl with | [_], _ => rfl
  let D_law_2 : Df K mg "law" s_law_2 ["script"] := ⟨_, _, F_law_2, b_law_2, PySem.W.mg_of X G a_law_2⟩
  have T : Txt K mg := ⟨PySem.W.mg_none_of X G zb_len, PySem.W.mg_none_of X G zb_int, PySem.W.mg_none_of X G zb_range, PySem.W.mg_none_of X G zb_tuple, PySem.W.mg_none_of X G zb_repr, PySem.W.mg_none_of X G zb_sum, PySem.W.mg_none_of X G zb_enumerate, PySem.W.mg_none_of X G zb_list, ⟨_, PySem.W.mg_of X G zc_RIGHT_NAME⟩, ⟨_, PySem.W.mg_of X G zc_MOST_AMOUNT⟩, ⟨_, PySem.W.mg_of X G zc_DEMANDS⟩, ⟨_, PySem.W.mg_of X G zc_TOO_MUCH⟩, ⟨_, PySem.W.mg_of X G zc_MOST_LEASES⟩, ⟨_, PySem.W.mg_of X G zc_RIGHT_SITE⟩, ⟨_, PySem.W.mg_of X G zc_LETTERS⟩⟩
  refine ⟨PySem.W.fnOf "law" "law" (defArgs s_law_2) (defBody s_law_2) (defScope s_law_2) .none kV_law_2 dc_law_2 pm_law_2 an_law_2 cd_law_2 ct_law_2, fun s v => ?_, fun base _ _ => ?_⟩
  · exact .of_eq rfl
  · have klw_draw := ok_lw_draw (P := l.prog) (w := w) (base := base) T  D_lw_draw
    have klw_basin_2 := ok_lw_basin_2 (P := l.prog) (w := w) (base := base) T D_lw_draw klw_draw D_lw_basin_2
    have klw_demands := ok_lw_demands (P := l.prog) (w := w) (base := base) T D_lw_draw klw_draw D_lw_demands
    have klw_more_rights := ok_lw_more_rights (P := l.prog) (w := w) (base := base) T D_lw_draw klw_draw D_lw_demands klw_demands D_lw_more_rights
    have klw_same := ok_lw_same (P := l.prog) (w := w) (base := base) T  D_lw_same
    have klw_cell := ok_lw_cell (P := l.prog) (w := w) (base := base) T  D_lw_cell
    have klw_digits := ok_lw_digits (P := l.prog) (w := w) (base := base) T D_lw_cell klw_cell D_lw_digits
    have klw_leases := ok_lw_leases (P := l.prog) (w := w) (base := base) T D_lw_draw klw_draw D_lw_leases
    have kright_called := ok_right_called (P := l.prog) (w := w) (base := base) T  D_right_called
    have klent := ok_lent (P := l.prog) (w := w) (base := base) T  D_lent
    have klease_fault := ok_lease_fault (P := l.prog) (w := w) (base := base) T D_right_called kright_called D_lent klent D_lease_fault
    have krefuse_bad := ok_refuse_bad (P := l.prog) (w := w) (base := base) T D_lease_fault klease_fault D_refuse_bad
    have kholdings := ok_holdings (P := l.prog) (w := w) (base := base) T D_refuse_bad krefuse_bad D_lent klent D_right_called kright_called D_holdings
    have kunder := ok_under (P := l.prog) (w := w) (base := base) T D_holdings kholdings D_under
    have klw_under := ok_lw_under (P := l.prog) (w := w) (base := base) T  D_lw_under
    have klaw_2 := ok_law_2 (P := l.prog) (w := w) (base := base) T D_lw_digits klw_digits D_lw_basin_2 klw_basin_2 D_lw_more_rights klw_more_rights D_lw_leases klw_leases D_lw_same klw_same D_lw_under klw_under D_under kunder D_law_2
    exact klaw_2
end Lw

open PySem PySem.W PyProof.Rows in
set_option maxRecDepth 100000 in
set_option maxHeartbeats 0 in
theorem PySem.Challenge.cw_heldwater_k23_lea_rights_under_leases_holds : PySem.Challenge.rw_heldwater_k23_lea_rights_under_leases.Holds := by
  w_on; o_law; k_head; (case hw => w_witness2)
  k_fill
  refine DL.walk_G (l := PySem.Challenge.rw_heldwater_k23_lea_rights_under_leases) (n := 63) (k := 6) (x := "script") (Φ := Lw.phi_law_2) rfl (by decide) rfl ⟨rfl, by decide, by decide⟩ (fun w h Y => PySem.W.kIn_of Y) ?F (fun ns _ => Lw.law_2_ok ns)
  case F =>
    intro w mg fa h KX G hmg
    refine' Lw.all_mk KX G hmg ?a_lw_draw ?l_lw_draw ?c_lw_draw ?k_lw_draw ?a_lw_basin_2 ?l_lw_basin_2 ?c_lw_basin_2 ?k_lw_basin_2 ?a_lw_demands ?l_lw_demands ?c_lw_demands ?k_lw_demands ?a_lw_more_rights ?l_lw_more_rights ?c_lw_more_rights ?k_lw_more_rights ?a_lw_same ?l_lw_same ?c_lw_same ?k_lw_same ?a_lw_cell ?l_lw_cell ?c_lw_cell ?k_lw_cell ?a_lw_digits ?l_lw_digits ?c_lw_digits ?k_lw_digits ?a_lw_leases ?l_lw_leases ?c_lw_leases ?k_lw_leases ?a_right_called ?l_right_called ?c_right_called ?k_right_called ?a_lent ?l_lent ?c_lent ?k_lent ?a_lease_fault ?l_lease_fault ?c_lease_fault ?k_lease_fault ?a_refuse_bad ?l_refuse_bad ?c_refuse_bad ?k_refuse_bad ?a_holdings ?l_holdings ?c_holdings ?k_holdings ?a_under ?l_under ?c_under ?k_under ?a_lw_under ?l_lw_under ?c_lw_under ?k_lw_under ?a_law_2 ?l_law_2 ?c_law_2 ?k_law_2 ?zb_len ?zb_int ?zb_range ?zb_tuple ?zb_repr ?zb_sum ?zb_enumerate ?zb_list ?zc_RIGHT_NAME ?zc_MOST_AMOUNT ?zc_DEMANDS ?zc_MOST_LEASES ?zc_RIGHT_SITE ?zc_TOO_MUCH ?zc_LETTERS
    (case a_lw_draw => k_is)
    (case l_lw_draw => k_is)
    (case c_lw_draw => k_is)
    (case k_lw_draw => k_is)
    (case a_lw_basin_2 => k_is)
    (case l_lw_basin_2 => k_is)
    (case c_lw_basin_2 => k_is)
    (case k_lw_basin_2 => k_is)
    (case a_lw_demands => k_is)
    (case l_lw_demands => k_is)
    (case c_lw_demands => k_is)
    (case k_lw_demands => k_is)
    (case a_lw_more_rights => k_is)
    (case l_lw_more_rights => k_is)
    (case c_lw_more_rights => k_is)
    (case k_lw_more_rights => k_is)
    (case a_lw_same => k_is)
    (case l_lw_same => k_is)
    (case c_lw_same => k_is)
    (case k_lw_same => k_is)
    (case a_lw_cell => k_is)
    (case l_lw_cell => k_is)
    (case c_lw_cell => k_is)
    (case k_lw_cell => k_is)
    (case a_lw_digits => k_is)
    (case l_lw_digits => k_is)
    (case c_lw_digits => k_is)
    (case k_lw_digits => k_is)
    (case a_lw_leases => k_is)
    (case l_lw_leases => k_is)
    (case c_lw_leases => k_is)
    (case k_lw_leases => k_is)
    (case a_right_called => k_is)
    (case l_right_called => k_is)
    (case c_right_called => k_is)
    (case k_right_called => k_is)
    (case a_lent => k_is)
    (case l_lent => k_is)
    (case c_lent => k_is)
    (case k_lent => k_is)
    (case a_lease_fault => k_is)
    (case l_lease_fault => k_is)
    (case c_lease_fault => k_is)
    (case k_lease_fault => k_is)
    (case a_refuse_bad => k_is)
    (case l_refuse_bad => k_is)
    (case c_refuse_bad => k_is)
    (case k_refuse_bad => k_is)
    (case a_holdings => k_is)
    (case l_holdings => k_is)
    (case c_holdings => k_is)
    (case k_holdings => k_is)
    (case a_under => k_is)
    (case l_under => k_is)
    (case c_under => k_is)
    (case k_under => k_is)
    (case a_lw_under => k_is)
    (case l_lw_under => k_is)
    (case c_lw_under => k_is)
    (case k_lw_under => k_is)
    (case a_law_2 => k_is)
    (case l_law_2 => k_is)
    (case c_law_2 => k_is)
    (case k_law_2 => k_is)
    (case zb_len => k_is)
    (case zb_int => k_is)
    (case zb_range => k_is)
    (case zb_tuple => k_is)
    (case zb_repr => k_is)
    (case zb_sum => k_is)
    (case zb_enumerate => k_is)
    (case zb_list => k_is)
    (case zc_RIGHT_NAME => k_is)
    (case zc_MOST_AMOUNT => k_is)
    (case zc_DEMANDS => k_is)
    (case zc_MOST_LEASES => k_is)
    (case zc_RIGHT_SITE => k_is)
    (case zc_TOO_MUCH => k_is)
    (case zc_LETTERS => k_is)
