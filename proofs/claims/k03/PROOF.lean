import PyProof.Rows.All
import HandS.ForMost
import HandS.ForExc
import HandS.TupAny
import HandS.TupMul
import HandS.Wide
import HandS.IsInst
import HandS.Deep
import HandS.Rev
import HandS.Defaults
import HandS.Conv
import KE.DataFind
import KE.SortData
import KE.DataMinMax
import KE.DataEq
import HandS.Style
import HandS.SortKw
import HandS.EndBits
import HandS.Replace
import PySem.Challenge.RW_holedeck_k03_pockets
set_option Elab.async false
set_option linter.all false
set_option maxRecDepth 100000
/-! Mi: a small layer of values over HandS: data (D), a store of lists and dicts (Sto), what a piece of the text reckons as a plain function. -/
namespace Mi
open PySem PySem.Spec PyProof.Rows L2

/-- a value: tuples are data, a list that may change is a place in the store; rol: a list that never changes -/
inductive D where
  | non | bl (b : Bool) | int (i : Int) | str (x : Str) | tup (xs : List D) | loc (n : Nat) | rol (xs : List D) | ty (n : String) | adr (a : Addr)
/-- what stands at a place -/
inductive Ob where
  | lst (xs : List D) | dct (kvs : List (Key × D))
abbrev Sto := List Ob
inductive R (α : Type) where
  | ok (a : α) (st : Sto) | err (c : Addr) (fs : List (Str × D)) (st : Sto) | bad
@[inline] def R.bind {α β : Type} (r : R α) (f : α → Sto → R β) : R β := match r with
  | .ok a st => f a st
  | .err c fs st => .err c fs st
  | .bad => .bad
abbrev Sl := List (Option D)
abbrev E := Sl → Sto → R D
abbrev As := Sl → Sto → R (List D)

/-! ### what a value stands for -/
/-- a list that stands still: frozen, or of the written part -/
def Frz (K : PySem.W.Frag) (H : Hp) (a : Addr) (xs : List V) : Prop :=
  (∃ o, H a = some (.frz o (.lst xs))) ∨
    ∃ (o : Obj) (its : Array Value) (n : Nat), K.lookup a = some o ∧ o.cls = .type "list" ∧ o.dict = none ∧ o.data = .seq its n ∧ its.size ≤ sizeLine ∧ Vals xs its.toList
theorem Frz.sq {K : PySem.W.Frag} {H : Hp} {a : Addr} {xs : List V} (h : Frz K H a xs) : SqL K H a xs := by
  rcases h with ⟨o, h⟩ | h
  · exact .inl (.inr ⟨o, h⟩)
  · exact .inr h
mutual
inductive RV (K : PySem.W.Frag) (μ : List Addr) (H : Hp) : D → V → Prop
  | non : RV K μ H .non .non
  | bl (b : Bool) : RV K μ H (.bl b) (.bl b)
  | int (i : Int) : RV K μ H (.int i) (.int i)
  | str (x : Str) : RV K μ H (.str x) (.str x)
  | tup {a : Addr} {xs : List D} {vs : List V} : SqT K H a vs → RVs K μ H xs vs → RV K μ H (.tup xs) (.ref a)
  | loc {n : Nat} {a : Addr} : μ[n]? = some a → RV K μ H (.loc n) (.ref a)
  | rol {a : Addr} {xs : List D} {vs : List V} : Frz K H a vs → RVs K μ H xs vs → RV K μ H (.rol xs) (.ref a)
  | ty (n : String) : RV K μ H (.ty n) (.ty n)
  | adr (a : Addr) : RV K μ H (.adr a) (.ref a)
inductive RVs (K : PySem.W.Frag) (μ : List Addr) (H : Hp) : List D → List V → Prop
  | nil : RVs K μ H [] []
  | cons {d : D} {v : V} {ds : List D} {vs : List V} : RV K μ H d v → RVs K μ H ds vs → RVs K μ H (d :: ds) (v :: vs)
end

/-- later: the places grow by new objects; tuples, frozen things and all that is not a place of the store stay -/
structure Le (μ : List Addr) (H : Hp) (μ' : List Addr) (H' : Hp) : Prop where
  ext : ∃ ν, μ' = μ ++ ν
  new : ∀ a, a ∈ μ' → a ∉ μ → H a = none
  tup : ∀ a xs, H a = some (.tup xs) → H' a = some (.tup xs)
  frz : ∀ a o u, H a = some (.frz o u) → H' a = some (.frz o u)
  keep : ∀ a o, a ∉ μ → H a = some o → H' a = some o
theorem Le.refl (μ : List Addr) (H : Hp) : Le μ H μ H := ⟨⟨[], by simp⟩, fun _ h h' => absurd h h', fun _ _ h => h, fun _ _ _ h => h, fun _ _ _ h => h⟩
theorem Le.trans {μ μ1 μ2 : List Addr} {H H1 H2 : Hp} (a : Le μ H μ1 H1) (b : Le μ1 H1 μ2 H2) : Le μ H μ2 H2 where
  ext := by
    obtain ⟨n, e⟩ := a.ext
    obtain ⟨m, e'⟩ := b.ext
    exact ⟨n ++ m, by rw [e', e, List.append_assoc]⟩
  new := fun x hx hn => by
    by_cases h : x ∈ μ1
    · exact a.new x h hn
    · have h1 := b.new x hx h
      cases q : H x with
      | none => rfl
      | some o =>
        have := a.keep x o hn q
        rw [h1] at this; cases this
  tup := fun x xs h => b.tup x xs (a.tup x xs h)
  frz := fun x o u h => b.frz x o u (a.frz x o u h)
  keep := fun x o hn h => by
    have h1 := a.keep x o hn h
    by_cases hx : x ∈ μ1
    · have := a.new x hx hn
      rw [h] at this; cases this
    · exact b.keep x o hx h1
theorem Le.at {μ μ' : List Addr} {H H' : Hp} (l : Le μ H μ' H') {n : Nat} {a : Addr} (h : μ[n]? = some a) : μ'[n]? = some a := by
  obtain ⟨ν, e⟩ := l.ext
  rw [e, List.getElem?_append_left]
  · exact h
  · exact (List.getElem?_eq_some_iff.mp h).1
theorem Le.sqT {K : PySem.W.Frag} {μ μ' : List Addr} {H H' : Hp} (l : Le μ H μ' H') {a : Addr} {xs : List V} (h : SqT K H a xs) : SqT K H' a xs := by
  rcases h with (h | ⟨o, h⟩) | h
  · exact .inl (.inl (l.tup a xs h))
  · exact .inl (.inr ⟨o, l.frz a o _ h⟩)
  · exact .inr h
theorem Le.frzd {K : PySem.W.Frag} {μ μ' : List Addr} {H H' : Hp} (l : Le μ H μ' H') {a : Addr} {xs : List V} (h : Frz K H a xs) : Frz K H' a xs := by
  rcases h with ⟨o, h⟩ | h
  · exact .inl ⟨o, l.frz a o _ h⟩
  · exact .inr h
section
variable {K : PySem.W.Frag} {μ μ' : List Addr} {H H' : Hp}
/-- tuples and frozen things stay, places too -/
structure TF (μ : List Addr) (H : Hp) (μ' : List Addr) (H' : Hp) : Prop where
  at_ : ∀ (n : Nat) (a : Addr), μ[n]? = some a → μ'[n]? = some a
  tup : ∀ a xs, H a = some (.tup xs) → H' a = some (.tup xs)
  frz : ∀ a o u, H a = some (.frz o u) → H' a = some (.frz o u)
theorem TF.sqT (l : TF μ H μ' H') {a : Addr} {xs : List V} (h : SqT K H a xs) : SqT K H' a xs := by
  rcases h with (h | ⟨o, h⟩) | h
  · exact .inl (.inl (l.tup a xs h))
  · exact .inl (.inr ⟨o, l.frz a o _ h⟩)
  · exact .inr h
theorem TF.frzd (l : TF μ H μ' H') {a : Addr} {xs : List V} (h : Frz K H a xs) : Frz K H' a xs := by
  rcases h with ⟨o, h⟩ | h
  · exact .inl ⟨o, l.frz a o _ h⟩
  · exact .inr h
theorem Le.tf (l : Le μ H μ' H') : TF μ H μ' H' := ⟨fun _ _ h => l.at h, l.tup, l.frz⟩
mutual
theorem RV.tf (l : TF μ H μ' H') : ∀ {d : D} {v : V}, RV K μ H d v → RV K μ' H' d v
  | _, _, .non => .non
  | _, _, .bl b => .bl b
  | _, _, .int i => .int i
  | _, _, .str x => .str x
  | _, _, .tup h r => .tup (l.sqT h) (RVs.tf l r)
  | _, _, .loc h => .loc (l.at_ _ _ h)
  | _, _, .rol h r => .rol (l.frzd h) (RVs.tf l r)
  | _, _, .ty n => .ty n
  | _, _, .adr a => .adr a
theorem RVs.tf (l : TF μ H μ' H') : ∀ {ds : List D} {vs : List V}, RVs K μ H ds vs → RVs K μ' H' ds vs
  | _, _, .nil => .nil
  | _, _, .cons r rs => .cons (RV.tf l r) (RVs.tf l rs)
end
theorem RV.mono (l : Le μ H μ' H') {d : D} {v : V} (r : RV K μ H d v) : RV K μ' H' d v := r.tf l.tf
theorem RVs.mono (l : Le μ H μ' H') {ds : List D} {vs : List V} (r : RVs K μ H ds vs) : RVs K μ' H' ds vs := r.tf l.tf
theorem RVs.length : ∀ {ds : List D} {vs : List V}, RVs K μ H ds vs → ds.length = vs.length
  | _, _, .nil => rfl
  | _, _, .cons _ rs => by simp [RVs.length rs]
theorem RVs.get : ∀ {ds : List D} {vs : List V} {i : Nat} {d : D}, RVs K μ H ds vs → ds[i]? = some d → ∃ v, vs[i]? = some v ∧ RV K μ H d v
  | _, _, _, _, .nil, e => by simp at e
  | _, _, 0, _, .cons r _, e => by simp at e; subst e; exact ⟨_, rfl, r⟩
  | _, _, i + 1, _, .cons _ rs, e => by
    obtain ⟨v, h, r⟩ := RVs.get (i := i) rs (by simpa using e)
    exact ⟨v, by simpa using h, r⟩
theorem RVs.append : ∀ {ds es : List D} {vs us : List V}, RVs K μ H ds vs → RVs K μ H es us → RVs K μ H (ds ++ es) (vs ++ us)
  | _, _, _, _, .nil, h => h
  | _, _, _, _, .cons r rs, h => .cons r (RVs.append rs h)
theorem RVs.set {d : D} {v : V} (r : RV K μ H d v) : ∀ {ds : List D} {vs : List V} (i : Nat), RVs K μ H ds vs → RVs K μ H (ds.set i d) (vs.set i v)
  | _, _, _, .nil => .nil
  | _, _, 0, .cons _ t => .cons r t
  | _, _, i + 1, .cons q t => .cons q (RVs.set r i t)
theorem RVs.take : ∀ {ds : List D} {vs : List V} (n : Nat), RVs K μ H ds vs → RVs K μ H (ds.take n) (vs.take n)
  | _, _, 0, _ => by simp; exact .nil
  | _, _, _ + 1, .nil => .nil
  | _, _, n + 1, .cons r t => .cons r (RVs.take n t)
theorem RVs.drop : ∀ {ds : List D} {vs : List V} (n : Nat), RVs K μ H ds vs → RVs K μ H (ds.drop n) (vs.drop n)
  | _, _, 0, r => r
  | _, _, _ + 1, .nil => .nil
  | _, _, n + 1, .cons _ t => RVs.drop n t
theorem RVs.reverse : ∀ {ds : List D} {vs : List V}, RVs K μ H ds vs → RVs K μ H ds.reverse vs.reverse
  | _, _, .nil => .nil
  | _, _, .cons r t => by
    rw [List.reverse_cons, List.reverse_cons]
    exact (RVs.reverse t).append (.cons r .nil)

/-- what stands at a place, at its address -/
def RO (K : PySem.W.Frag) (μ : List Addr) (H : Hp) (a : Addr) : Ob → Prop
  | .lst xs => ∃ vs, H a = some (.lst vs) ∧ RVs K μ H xs vs
  | .dct kvs => ∃ vs, H a = some (.dK ((kvs.map (·.1)).zip vs)) ∧ RVs K μ H (kvs.map (·.2)) vs
structure Rs (K : PySem.W.Frag) (μ : List Addr) (H : Hp) (st : Sto) : Prop where
  len : μ.length = st.length
  nd : μ.Nodup
  ob : ∀ (n : Nat) (o : Ob) (a : Addr), st[n]? = some o → μ[n]? = some a → RO K μ H a o
structure Rl (K : PySem.W.Frag) (μ : List Addr) (H : Hp) (σ : L2.St) (sl : Sl) : Prop where
  len : σ.length = sl.length
  at_ : ∀ (i : Nat) (d : D), sl[i]? = some (some d) → ∃ v, σ[i]? = some (some v) ∧ RV K μ H d v
theorem Rl.tf {σ : L2.St} {sl : Sl} (l : TF μ H μ' H') (r : Rl K μ H σ sl) : Rl K μ' H' σ sl := ⟨r.len, fun i d e => by
  obtain ⟨v, h, q⟩ := r.at_ i d e
  exact ⟨v, h, q.tf l⟩⟩
theorem Rl.mono {σ : L2.St} {sl : Sl} (l : Le μ H μ' H') (r : Rl K μ H σ sl) : Rl K μ' H' σ sl := ⟨r.len, fun i d e => by
  obtain ⟨v, h, q⟩ := r.at_ i d e
  exact ⟨v, h, q.mono l⟩⟩
theorem Rl.set {σ : L2.St} {sl : Sl} (r : Rl K μ H σ sl) {d : D} {v : V} (q : RV K μ H d v) (i : Nat) : Rl K μ H (σ.set i (some v)) (sl.set i (some d)) := ⟨by simp [r.len], fun j e h => by
  rw [List.getElem?_set] at h
  rw [List.getElem?_set]
  split at h
  · rename_i hij
    subst hij
    split at h
    · rename_i hl
      cases h
      rw [if_pos rfl, if_pos (by rw [r.len]; exact hl)]
      exact ⟨v, rfl, q⟩
    · cases h
  · rename_i hij
    rw [if_neg hij]
    exact r.at_ j e h⟩
theorem Rs.get {st : Sto} (r : Rs K μ H st) {n : Nat} {o : Ob} {a : Addr} (h : st[n]? = some o) (ha : μ[n]? = some a) : RO K μ H a o := r.ob n o a h ha
theorem Rs.there {st : Sto} (r : Rs K μ H st) {n : Nat} {o : Ob} (h : st[n]? = some o) : ∃ a, μ[n]? = some a := by
  have hl := (List.getElem?_eq_some_iff.mp h).1
  exact ⟨μ[n]'(by rw [r.len]; exact hl), by simp [r.len, hl]⟩
theorem RO.some {a : Addr} : ∀ {o : Ob}, RO K μ H a o → H a ≠ none
  | .lst _, ⟨_, h, _⟩ => by rw [h]; simp
  | .dct _, ⟨_, h, _⟩ => by rw [h]; simp
theorem Rs.mem {st : Sto} (r : Rs K μ H st) {a : Addr} (h : a ∈ μ) : ∃ (n : Nat) (o : Ob), μ[n]? = some a ∧ st[n]? = some o ∧ RO K μ H a o := by
  obtain ⟨n, hn⟩ := List.getElem?_of_mem h
  have hl := (List.getElem?_eq_some_iff.mp hn).1
  have e : st[n]? = some (st[n]'(by rw [← r.len]; exact hl)) := by simp [← r.len, hl]
  exact ⟨n, _, hn, e, r.ob n _ a e hn⟩
theorem Rs.fresh {st : Sto} (r : Rs K μ H st) {p : Addr} (h : H p = none) : p ∉ μ := fun hp => by
  obtain ⟨n, o, _, _, q⟩ := r.mem hp
  exact q.some h
theorem Rs.notup {st : Sto} (r : Rs K μ H st) {p : Addr} {xs : List V} (h : H p = some (.tup xs)) : p ∉ μ := fun hp => by
  obtain ⟨n, o, _, _, q⟩ := r.mem hp
  cases o with
  | lst _ => obtain ⟨_, e, _⟩ := q; rw [h] at e; cases e
  | dct _ => obtain ⟨_, e, _⟩ := q; rw [h] at e; cases e
theorem Rs.nofrz {st : Sto} (r : Rs K μ H st) {p : Addr} {o : Obj} {u : HO} (h : H p = some (.frz o u)) : p ∉ μ := fun hp => by
  obtain ⟨n, o, _, _, q⟩ := r.mem hp
  cases o with
  | lst _ => obtain ⟨_, e, _⟩ := q; rw [h] at e; cases e
  | dct _ => obtain ⟨_, e, _⟩ := q; rw [h] at e; cases e
/-- an address is that of one place -/
theorem Rs.one {st : Sto} (r : Rs K μ H st) {n m : Nat} {a : Addr} (h : μ[n]? = some a) (h' : μ[m]? = some a) : n = m := by
  obtain ⟨l1, e1⟩ := List.getElem?_eq_some_iff.mp h
  obtain ⟨l2, e2⟩ := List.getElem?_eq_some_iff.mp h'
  have nd := r.nd
  unfold List.Nodup at nd
  rw [List.pairwise_iff_getElem] at nd
  rcases Nat.lt_trichotomy n m with q | q | q
  · exact absurd (e1.trans e2.symm) (nd n m l1 l2 q)
  · exact q
  · exact absurd (e2.trans e1.symm) (nd m n l2 l1 q)

/-- a new thing that is no place: a tuple -/
theorem Le.laid {p : Addr} {o : HO} (h : H p = none) : Le μ H μ (upd H p o) :=
  ⟨⟨[], by simp⟩, fun _ h h' => absurd h h', fun a xs e => by rw [upd_ne (ne_of_none e h)]; exact e, fun a _ _ e => by rw [upd_ne (ne_of_none e h)]; exact e, fun a _ _ e => by rw [upd_ne (ne_of_none e h)]; exact e⟩
theorem RO.mono {st : Sto} {a : Addr} : ∀ {o : Ob} (l : Le μ H μ' H') (e : H' a = H a), RO K μ H a o → RO K μ' H' a o
  | .lst _, l, e, ⟨vs, h, r⟩ => ⟨vs, by rw [e]; exact h, r.mono l⟩
  | .dct _, l, e, ⟨vs, h, r⟩ => ⟨vs, by rw [e]; exact h, r.mono l⟩
theorem RO.tf {a : Addr} : ∀ {o : Ob} (l : TF μ H μ' H') (e : H' a = H a), RO K μ H a o → RO K μ' H' a o
  | .lst _, l, e, ⟨vs, h, r⟩ => ⟨vs, by rw [e]; exact h, r.tf l⟩
  | .dct _, l, e, ⟨vs, h, r⟩ => ⟨vs, by rw [e]; exact h, r.tf l⟩
/-- the store stands as it stood -/
theorem Rs.tf {st : Sto} (r : Rs K μ H st) (l : TF μ H μ H') (k : ∀ a, a ∈ μ → H' a = H a) : Rs K μ H' st :=
  ⟨r.len, r.nd, fun n o a h ha => (r.ob n o a h ha).tf l (k a (List.mem_of_getElem? ha))⟩
theorem Rs.stay {st : Sto} (r : Rs K μ H st) (l : Le μ H μ H') (k : ∀ a, a ∈ μ → H' a = H a) : Rs K μ H' st :=
  ⟨r.len, r.nd, fun n o a h ha => (r.ob n o a h ha).mono (st := st) l (k a (List.mem_of_getElem? ha))⟩
theorem Rs.laid {st : Sto} (r : Rs K μ H st) {p : Addr} {o : HO} (h : H p = none) : Rs K μ (upd H p o) st :=
  r.stay (.laid h) fun a ha => upd_ne fun e => r.fresh h (e ▸ ha)
/-- a new place -/
theorem Le.place {p : Addr} {o : HO} (h : H p = none) : Le μ H (μ ++ [p]) (upd H p o) :=
  ⟨⟨[p], rfl⟩, fun a ha hn => by
    rcases List.mem_append.mp ha with q | q
    · exact absurd q hn
    · have e : a = p := by simpa using q
      rw [e]; exact h, fun a xs e => by rw [upd_ne (ne_of_none e h)]; exact e, fun a _ _ e => by rw [upd_ne (ne_of_none e h)]; exact e, fun a _ _ e => by rw [upd_ne (ne_of_none e h)]; exact e⟩
theorem Rs.place {st : Sto} (r : Rs K μ H st) {p : Addr} {o : HO} {ob : Ob} (h : H p = none) (hn : RO K (μ ++ [p]) (upd H p o) p ob) : Rs K (μ ++ [p]) (upd H p o) (st ++ [ob]) := by
  have fr := r.fresh h
  refine ⟨by simp [r.len], ?_, fun n o' a e ea => ?_⟩
  · rw [List.nodup_append]
    exact ⟨r.nd, by simp, fun a ha b hb => by
      have e : b = p := by simpa using hb
      subst e
      exact fun z => fr (z ▸ ha)⟩
  · by_cases hl : n < st.length
    · rw [List.getElem?_append_left hl] at e
      rw [List.getElem?_append_left (by rw [r.len]; exact hl)] at ea
      exact (r.ob n o' a e ea).mono (st := st) (.place h) (upd_ne fun z => fr (z ▸ List.mem_of_getElem? ea))
    · have hl1 := (List.getElem?_eq_some_iff.mp e).1
      have hn' : n = st.length := by simp at hl1; omega
      subst hn'
      rw [List.getElem?_append_right (Nat.le_refl _)] at e
      rw [List.getElem?_append_right (by rw [r.len]; exact Nat.le_refl _)] at ea
      simp [r.len] at e ea
      subst e; subst ea
      exact hn
/-- a place is written -/
theorem Rs.wle {st : Sto} (r : Rs K μ H st) {n : Nat} {a : Addr} {o : HO} (ha : μ[n]? = some a) : Le μ H μ (upd H a o) := by
  have hm := List.mem_of_getElem? ha
  exact ⟨⟨[], by simp⟩, fun _ h h' => absurd h h', fun b xs e => by rw [upd_ne (show b ≠ a from fun z => r.notup e (by rw [z]; exact hm))]; exact e, fun b _ _ e => by rw [upd_ne (show b ≠ a from fun z => r.nofrz e (by rw [z]; exact hm))]; exact e, fun b _ hb e => by rw [upd_ne (show b ≠ a from fun z => hb (by rw [z]; exact hm))]; exact e⟩
theorem Rs.wr {st : Sto} (r : Rs K μ H st) {n : Nat} {a : Addr} {o : HO} {ob : Ob} (ha : μ[n]? = some a) (hn : RO K μ (upd H a o) a ob) : Rs K μ (upd H a o) (st.set n ob) := by
  have l : Le μ H μ (upd H a o) := r.wle ha
  refine ⟨by simp [r.len], r.nd, fun m o' b e eb => ?_⟩
  rw [List.getElem?_set] at e
  split at e
  · rename_i hnm
    subst hnm
    split at e
    · cases e
      rw [ha] at eb
      cases eb
      exact hn
    · cases e
  · rename_i hnm
    exact (r.ob m o' b e eb).mono (st := st) l (upd_ne fun z => hnm (r.one ha (z ▸ eb)))
/-- a list is written -/
theorem Rs.wrL {st : Sto} (r : Rs K μ H st) {n : Nat} {a : Addr} {xs : List D} {vs : List V} (ha : μ[n]? = some a) (rv : RVs K μ H xs vs) : Le μ H μ (upd H a (.lst vs)) ∧ Rs K μ (upd H a (.lst vs)) (st.set n (.lst xs)) :=
  ⟨r.wle ha, r.wr ha ⟨vs, upd_same, rv.mono (r.wle ha)⟩⟩
theorem RVs.append_inv : ∀ {ds es : List D} {vs : List V}, RVs K μ H (ds ++ es) vs → ∃ a b, vs = a ++ b ∧ RVs K μ H ds a ∧ RVs K μ H es b
  | [], _, vs, h => ⟨[], vs, rfl, .nil, h⟩
  | _ :: _, _, _, .cons r rs => by
    obtain ⟨a, b, rfl, h1, h2⟩ := RVs.append_inv rs
    exact ⟨_ :: a, b, rfl, .cons r h1, h2⟩
end

/-! ### readings -/
/-- what a result promises -/
def End (K : PySem.W.Frag) (W : WX) (μ : List Addr) (H : Hp) (σ : L2.St) (r : R D) (Q : VK) : Prop := match r with
  | .ok d st => ∀ v H' μ', Le μ H μ' H' → Rs K μ' H' st → RV K μ' H' d v → Q v H'
  | .err c fs st => ∀ H' μ' dx vs, Le μ H μ' H' → Rs K μ' H' st → H' dx = some (.xd ((fs.map (·.1)).zip vs)) → dx ∉ μ' → RVs K μ' H' (fs.map (·.2)) vs → W (.ref c) (some dx) σ H'
  | .bad => False
theorem End.on {K : PySem.W.Frag} {W : WX} {μ μ1 : List Addr} {H H1 : Hp} {σ : L2.St} {r : R D} {Q : VK} (l : Le μ H μ1 H1) (h : End K W μ H σ r Q) : End K W μ1 H1 σ r Q := by
  cases r with
  | ok d st => exact fun v H' μ' l' => h v H' μ' (l.trans l')
  | err c fs st => exact fun H' μ' dx vs l' => h H' μ' dx vs (l.trans l')
  | bad => exact h
def EndA (K : PySem.W.Frag) (W : WX) (μ : List Addr) (H : Hp) (σ : L2.St) (r : R (List D)) (Q : List V → Hp → Prop) : Prop := match r with
  | .ok d st => ∀ v H' μ', Le μ H μ' H' → Rs K μ' H' st → RVs K μ' H' d v → Q v H'
  | .err c fs st => ∀ H' μ' dx vs, Le μ H μ' H' → Rs K μ' H' st → H' dx = some (.xd ((fs.map (·.1)).zip vs)) → dx ∉ μ' → RVs K μ' H' (fs.map (·.2)) vs → W (.ref c) (some dx) σ H'
  | .bad => False
def tE (K : PySem.W.Frag) (W : WX) (m : E) : TE := fun σ H Q => ∃ μ sl st, Rl K μ H σ sl ∧ Rs K μ H st ∧ End K W μ H σ (m sl st) Q
def tA (K : PySem.W.Frag) (W : WX) (m : As) : TA := fun σ H Q => ∃ μ sl st, Rl K μ H σ sl ∧ Rs K μ H st ∧ EndA K W μ H σ (m sl st) Q
theorem imp {X : Cx} {e : Expr} {t t' : TE} (h : PE X e t) (q : ∀ σ H Q, t' σ H Q → t σ H Q) : PE X e t' := ⟨fun pins s σ H Q I hw => h.run pins s σ H Q I (q _ _ _ hw)⟩
theorem impA {X : Cx} {e : List Expr} {t t' : TA} (h : PA X e t) (q : ∀ σ H Q, t' σ H Q → t σ H Q) : PA X e t' := ⟨fun pos pins s σ H Q I hw => h.run pos pins s σ H Q I (q _ _ _ hw)⟩
theorem impS {X : Cx} {e : Stmt} {t t' : TS} (h : PS X e t) (q : ∀ D σ H, t' D σ H → t D σ H) : PS X e t' := ⟨fun pins s σ H D I hw => h.run pins s σ H D I (q _ _ _ hw)⟩
theorem impSs {X : Cx} {e : List Stmt} {t t' : TS} (h : PSs X e t) (q : ∀ D σ H, t' D σ H → t D σ H) : PSs X e t' := ⟨fun pins s σ H D I hw => h.run pins s σ H D I (q _ _ _ hw)⟩
theorem impT {X : Cx} {e : Expr} {t t' : TT} (h : PT X e t) (q : ∀ σ H Q, t' σ H Q → t σ H Q) : PT X e t' := ⟨fun pins s σ H Q I hw => h.run pins s σ H Q I (q _ _ _ hw)⟩
/-- the first part of something is reckoned -/
theorem first {K : PySem.W.Frag} {W : WX} {μ : List Addr} {H : Hp} {σ : L2.St} {sl : Sl} {st : Sto} {Q Q' : VK} {m : E} {F : D → Sto → R D} (rl : Rl K μ H σ sl) (rs : Rs K μ H st) (h : End K W μ H σ ((m sl st).bind F) Q)
    (k : ∀ d st1 v H1 μ1, Le μ H μ1 H1 → Rl K μ1 H1 σ sl → Rs K μ1 H1 st1 → RV K μ1 H1 d v → End K W μ1 H1 σ (F d st1) Q → Q' v H1) : tE K W m σ H Q' := by
  refine ⟨μ, sl, st, rl, rs, ?_⟩
  revert h
  cases m sl st with
  | ok d st1 => exact fun h v H1 μ1 l rs1 rv => k d st1 v H1 μ1 l (rl.mono l) rs1 rv (End.on l h)
  | err c fs st1 => exact fun h => h
  | bad => exact fun h => h
end Mi
set_option Elab.async false
set_option linter.all false
set_option maxRecDepth 100000
namespace Mi
open PySem PySem.Spec PyProof.Rows L2

/-! ### data as the library's data -/
def alls {α β : Type} (f : α → Option β) : List α → Option (List β)
  | [] => some []
  | x :: xs => match f x, alls f xs with
    | some y, some ys => some (y :: ys)
    | _, _ => none
def py (st : Sto) : Nat → D → Option PyData
  | _, .non => some .none
  | _, .bl b => some (.bool b)
  | _, .int i => some (.int i)
  | _, .str x => if PyData.strOk x = true then some (.str x) else none
  | _, .ty _ => none
  | _, .adr _ => none
  | 0, _ => none
  | k + 1, .tup xs => (alls (py st k) xs).map .tuple
  | k + 1, .rol xs => (alls (py st k) xs).map .list
  | k + 1, .loc n => match st[n]? with
    | some (.lst xs) => (alls (py st k) xs).map .list
    | _ => none
def PyOk (K : PySem.W.Frag) (H : Hp) (k : Nat) (v : V) (p : PyData) : Prop := Dp K H v p ∧ p.canLay0 = true ∧ p.depth ≤ k
section
variable {K : PySem.W.Frag} {μ : List Addr} {H : Hp} {st : Sto}
theorem alls_ok {k : Nat} {f : D → Option PyData} (hf : ∀ d v p, RV K μ H d v → f d = some p → PyOk K H k v p) : ∀ {ds : List D} {vs : List V} {ps : List PyData}, RVs K μ H ds vs → alls f ds = some ps → DpAll K H vs ps ∧ PyData.canLayAll0 ps = true ∧ PyData.depthAll ps ≤ k
  | _, _, _, .nil, e => by
    cases e
    exact ⟨.nil, rfl, Nat.zero_le _⟩
  | d :: ds, v :: vs, ps, .cons r rs, e => by
    unfold alls at e
    cases e1 : f d with
    | none => rw [e1] at e; cases e
    | some p =>
      cases e2 : alls f ds with
      | none => rw [e1, e2] at e; cases e
      | some qs =>
        rw [e1, e2] at e
        cases e
        obtain ⟨a1, a2, a3⟩ := hf d v p r e1
        obtain ⟨b1, b2, b3⟩ := alls_ok hf rs e2
        refine ⟨.cons a1 b1, ?_, ?_⟩
        · rw [PyData.canLayAll0, a2, b2]; rfl
        · rw [PyData.depthAll]; omega
theorem py_ok (rs : Rs K μ H st) : ∀ {k : Nat} {d : D} {v : V} {p : PyData}, RV K μ H d v → py st k d = some p → PyOk K H k v p := by
  intro k
  induction k with
  | zero =>
    intro d v p r e
    cases r with
    | non => cases e; exact ⟨.non, rfl, by simp [PyData.depth]⟩
    | bl b => cases e; exact ⟨.bl b, rfl, by simp [PyData.depth]⟩
    | int i => cases e; exact ⟨.int i, rfl, by simp [PyData.depth]⟩
    | str x =>
      unfold py at e
      split at e
      · rename_i h; cases e; exact ⟨.str x, by simpa [PyData.canLay0] using h, by simp [PyData.depth]⟩
      · cases e
    | tup _ _ => cases e
    | loc _ => cases e
    | rol _ _ => cases e
    | ty _ => cases e
    | adr _ => cases e
  | succ k ih =>
    have step : ∀ {xs : List D} {vs : List V} {c : List PyData → PyData} {q : PyData}, RVs K μ H xs vs → (alls (py st k) xs).map c = some q → ∃ ps, q = c ps ∧ DpAll K H vs ps ∧ PyData.canLayAll0 ps = true ∧ PyData.depthAll ps ≤ k := by
      intro xs vs c q r e
      cases e2 : alls (py st k) xs with
      | none => rw [e2] at e; cases e
      | some ps =>
        rw [e2] at e
        cases e
        exact ⟨ps, rfl, alls_ok (fun d v p => ih) r e2⟩
    intro d v p r e
    cases r with
    | non => cases e; exact ⟨.non, rfl, by simp [PyData.depth]⟩
    | bl b => cases e; exact ⟨.bl b, rfl, by simp [PyData.depth]⟩
    | int i => cases e; exact ⟨.int i, rfl, by simp [PyData.depth]⟩
    | str x =>
      unfold py at e
      split at e
      · rename_i h; cases e; exact ⟨.str x, by simpa [PyData.canLay0] using h, by simp [PyData.depth]⟩
      · cases e
    | tup h r =>
      obtain ⟨ps, rfl, h1, h2, h3⟩ := step r e
      exact ⟨.tup h h1, by rw [PyData.canLay0]; exact h2, by rw [PyData.depth]; omega⟩
    | rol h r =>
      obtain ⟨ps, rfl, h1, h2, h3⟩ := step r e
      exact ⟨.lst h.sq h1, by rw [PyData.canLay0]; exact h2, by rw [PyData.depth]; omega⟩
    | ty _ => cases e
    | adr _ => cases e
    | @loc n a h =>
      unfold py at e
      split at e
      · rename_i xs e2
        obtain ⟨vs, h1, r⟩ := rs.get e2 h
        obtain ⟨ps, rfl, h1', h2, h3⟩ := step r e
        exact ⟨.lst (.of h1) h1', by rw [PyData.canLay0]; exact h2, by rw [PyData.depth]; omega⟩
      · cases e
theorem PyOk.shaped {v : V} {p : PyData} (h : PyOk K H 64 v p) : SeqAt.shaped p = true := by
  unfold SeqAt.shaped
  rw [h.2.1]
  exact decide_eq_true h.2.2
end

/-! ### names, constants -/
def eVar (i : Nat) : E := fun sl st => match sl[i]? with
  | some (some d) => .ok d st
  | _ => .bad
def eC (d : D) : E := fun _ st => .ok d st
section
variable {X : Cx} {W : WX}
theorem d_var (i : Nat) {x : Str} {pos : Pos} (hN : X.N[i]? = some x := by rfl) (hv : Vis X.env.scope x := by first | exact Or.inl rfl | exact Or.inr (Or.inl rfl) | exact Or.inr (Or.inr rfl)) (hd : (x == ("__debug__" : Str)) = false := by decide)
    (hcd : (x == ("__classdict__" : Str)) = false := by decide) : PE X (.Name x pos) (tE X.K W (eVar i)) := imp (pe_var hN hv hd hcd) fun σ H Q h => by
  obtain ⟨μ, sl, st, rl, rs, e⟩ := h
  unfold eVar at e
  split at e
  · rename_i d hd
    obtain ⟨v, hv, r⟩ := rl.at_ i d hd
    exact ⟨v, hv, e v H μ (.refl _ _) rs r⟩
  · exact e.elim
theorem d_const {e : Expr} {v : V} {d : D} (h : PE X e (tC v)) (r : ∀ μ H, RV X.K μ H d v) : PE X e (tE X.K W (eC d)) := imp h fun σ H Q h => by
  obtain ⟨μ, sl, st, rl, rs, e⟩ := h
  exact e v H μ (.refl _ _) rs (r μ H)
theorem d_int {i j pos} : PE X (.Constant (.int i) j pos) (tE X.K W (eC (.int i))) := d_const pe_int fun _ _ => .int i
theorem d_bl {b j pos} : PE X (.Constant (.bool b) j pos) (tE X.K W (eC (.bl b))) := d_const pe_bl fun _ _ => .bl b
theorem d_non {j pos} : PE X (.Constant .none j pos) (tE X.K W (eC .non)) := d_const pe_non fun _ _ => .non
theorem d_str {x j pos} : PE X (.Constant (.str x) j pos) (tE X.K W (eC (.str x))) := d_const pe_str fun _ _ => .str x
/-- a constant of the module -/
theorem d_glob {x : Str} {v : V} {u : Value} {d : D} {pos : Pos} (hm : X.mg x = some u) (r : RelV v u) (rd : ∀ μ H, RV X.K μ H d v) (hg : Gl X x := by rfl) (hd : (x == ("__debug__" : Str)) = false := by decide) : PE X (.Name x pos) (tE X.K W (eC d)) := d_const (pe_glob hg hm r hd) rd
end

/-! ### two operands -/
abbrev G2 := D → D → Sto → R D
def eTwo (g : G2) (a b : E) : E := fun sl st => (a sl st).bind fun x st1 => (b sl st1).bind fun y st2 => g x y st2
def Two (K : PySem.W.Frag) (r : R2) (g : G2) : Prop := ∀ (W : WX) μ H σ st d1 d2 x y Q, Rs K μ H st → RV K μ H d1 x → RV K μ H d2 y → End K W μ H σ (g d1 d2 st) Q → r x y H Q
theorem two_of {K : PySem.W.Frag} {W : WX} {r : R2} {g : G2} {a b : E} (t : Two K r g) {σ : L2.St} {H : Hp} {Q : VK} (h : tE K W (eTwo g a b) σ H Q) : tOp r (tE K W a) (tE K W b) σ H Q := by
  obtain ⟨μ, sl, st, rl, rs, e⟩ := h
  refine first rl rs e fun d1 st1 v1 H1 μ1 l1 rl1 rs1 r1 e1 => ?_
  exact first rl1 rs1 e1 fun d2 st2 v2 H2 μ2 l2 rl2 rs2 r2 e2 => t W μ2 H2 σ st2 d1 d2 v1 v2 Q rs2 (r1.mono l2) r2 e2
section
variable {X : Cx} {W : WX} {a b c : Expr} {A B C : E} {pos : Pos}
theorem d_op {op : Operator} {r : R2} {g : G2} (ho : OpR X (binaryOp op) r) (t : Two X.K r g) (ha : PE X a (tE X.K W A)) (hb : PE X b (tE X.K W B)) : PE X (.BinOp a op b pos) (tE X.K W (eTwo g A B)) := imp (pe_op ho ha hb) fun _ _ _ h => two_of t h
theorem d_cmpR {op : CmpOp} {r : R2} {g : G2} (ho : OpR X (compareOp op) r) (t : Two X.K r g) (ha : PE X a (tE X.K W A)) (hb : PE X b (tE X.K W B)) (hm : behindInMarks op b = false) : PE X (.Compare a [op] [b] pos) (tE X.K W (eTwo g A B)) := imp (pe_cmpR ho ha hb hm) fun _ _ _ h => two_of t h
theorem d_ixR {r : R2} {g : G2} (ho : IxR X r) (t : Two X.K r g) (ha : PE X a (tE X.K W A)) (hb : PE X b (tE X.K W B)) (hs : PlainIx b) : PE X (.Subscript a b pos) (tE X.K W (eTwo g A B)) := imp (pe_ix ho ha hb hs) fun _ _ _ h => two_of t h
theorem Two.or {K : PySem.W.Frag} {r r' : R2} {g : G2} (h : ∀ (W : WX) μ H σ st d1 d2 x y Q, Rs K μ H st → RV K μ H d1 x → RV K μ H d2 y → End K W μ H σ (g d1 d2 st) Q → r x y H Q ∨ r' x y H Q) : Two K (fun x y H Q => r x y H Q ∨ r' x y H Q) g := h
end
/-- two ints -/
def gI (f : Int → Int → D) : G2
  | .int i, .int j, st => .ok (f i j) st
  | _, _, _ => .bad
def gIc (c : Int → Int → Bool) (f : Int → Int → D) : G2
  | .int i, .int j, st => if c i j = true then .ok (f i j) st else .bad
  | _, _, _ => .bad
theorem two_I {K : PySem.W.Frag} {f : Int → Int → D} {g : Int → Int → V} (hf : ∀ i j μ H, RV K μ H (f i j) (g i j)) : Two K (rI0 g) (gI f) := by
  intro W μ H σ st d1 d2 x y Q rs r1 r2 e
  cases r1 <;> cases r2 <;> first | exact e.elim | skip
  exact ⟨_, _, rfl, rfl, e _ H μ (.refl _ _) rs (hf _ _ μ H)⟩
theorem two_Ic {K : PySem.W.Frag} {c : Int → Int → Bool} {C : Int → Int → Prop} {f : Int → Int → D} {g : Int → Int → V} (hc : ∀ i j, c i j = true → C i j) (hf : ∀ i j μ H, RV K μ H (f i j) (g i j)) : Two K (rI C g) (gIc c f) := by
  intro W μ H σ st d1 d2 x y Q rs r1 r2 e
  cases r1 <;> cases r2 <;> first | exact e.elim | skip
  rename_i i j
  dsimp only [gIc] at e
  split at e
  · rename_i h
    exact ⟨_, _, rfl, rfl, hc _ _ h, e _ H μ (.refl _ _) rs (hf _ _ μ H)⟩
  · exact e.elim
def gSub : G2 := gI fun i j => .int (i - j)
def gDiv : G2 := gIc (fun i j => decide (0 < j) && decide (j.natAbs.log2 < 9000)) fun i j => .int (i / j)
def gMod : G2 := gIc (fun i j => decide (0 < j)) fun i j => .int (i % j)
def gPow : G2 := gIc (fun i j => decide (0 ≤ j) && decide (j ≤ 1000000) && decide (i.natAbs < 2 ^ 64)) fun i j => .int (i ^ j.toNat)
def gLt : G2 := gI fun i j => .bl (decide (i < j))
def gLe : G2 := gI fun i j => .bl (decide (i ≤ j))
def gGt : G2 := gI fun i j => .bl (decide (j < i))
def gGe : G2 := gI fun i j => .bl (decide (j ≤ i))
def gAdd : G2
  | .int i, .int j, st => .ok (.int (i + j)) st
  | .str x, .str y, st => if x.length + y.length ≤ sizeLine then .ok (.str (x ++ y)) st else .bad
  | .tup xs, .tup ys, st => if xs.length + ys.length ≤ sizeLine then .ok (.tup (xs ++ ys)) st else .bad
  | .loc a, .loc b, st => match st[a]?, st[b]? with
    | some (.lst xs), some (.lst ys) => if xs.length + ys.length ≤ sizeLine then .ok (.loc st.length) (st ++ [.lst (xs ++ ys)]) else .bad
    | _, _ => .bad
  | _, _, _ => .bad
def rAdd4 (K : PySem.W.Frag) : R2 := fun x y H Q => rI0 (fun i j => .int (i + j)) x y H Q ∨ (fun x y H Q => (∃ i j, x = .str i ∧ y = .str j ∧ i.length + j.length ≤ sizeLine ∧ Q (.str (i ++ j)) H) ∨ (fun x y H Q => rCatA K x y H Q ∨ rCat x y H Q) x y H Q) x y H Q
section
variable {K : PySem.W.Frag} {W : WX} {μ : List Addr} {H : Hp} {σ : L2.St} {st : Sto} {Q : VK}
/-- a new list -/
theorem End.newL {xs : List D} {vs : List V} {p : Addr} (rs : Rs K μ H st) (rv : RVs K μ H xs vs) (e : End K W μ H σ (.ok (.loc st.length) (st ++ [.lst xs])) Q) (h : H p = none) : Q (.ref p) (upd H p (.lst vs)) := by
  refine e _ _ (μ ++ [p]) (.place h) (rs.place h ⟨vs, upd_same, rv.mono (.place h)⟩) (.loc ?_)
  rw [List.getElem?_append_right (by rw [rs.len]; exact Nat.le_refl _), rs.len]
  simp
/-- a new tuple -/
theorem End.newT {xs : List D} {vs : List V} {p : Addr} (rs : Rs K μ H st) (rv : RVs K μ H xs vs) (e : End K W μ H σ (.ok (.tup xs) st) Q) (h : H p = none) : Q (.ref p) (upd H p (.tup vs)) :=
  e _ _ μ (.laid h) (rs.laid h) (.tup (.of upd_same) (rv.mono (.laid h)))
theorem End.go {d : D} {v : V} (rs : Rs K μ H st) (rv : RV K μ H d v) (e : End K W μ H σ (.ok d st) Q) : Q v H := e v H μ (.refl _ _) rs rv
end
theorem two_add {K : PySem.W.Frag} : Two K (rAdd4 K) gAdd := by
  intro W μ H σ st d1 d2 x y Q rs r1 r2 e
  cases r1 <;> cases r2 <;> first | exact e.elim | skip
  · exact .inl ⟨_, _, rfl, rfl, e.go rs (.int _)⟩
  · dsimp only [gAdd] at e
    split at e
    · rename_i h
      exact .inr (.inl ⟨_, _, rfl, rfl, h, e.go rs (.str _)⟩)
    · exact e.elim
  · rename_i a xs vs h1 q1 b ys us h2 q2
    dsimp only [gAdd] at e
    split at e
    · rename_i h
      refine .inr (.inr (.inl ⟨a, b, vs, us, rfl, rfl, h1, h2, by rw [← q1.length, ← q2.length]; exact h, fun z => ?_, fun _ z => ?_, fun _ _ p hp => ?_⟩))
      · subst z
        cases q1
        exact e.go rs (.tup h2 q2)
      · subst z
        cases q2
        rw [List.append_nil] at e
        exact e.go rs (.tup h1 q1)
      · exact e.newT rs (q1.append q2) hp
    · exact e.elim
  · rename_i n a h1 m b h2
    dsimp only [gAdd] at e
    split at e
    · rename_i xs ys e1 e2
      split at e
      · rename_i h
        obtain ⟨vs, g1, q1⟩ := rs.get e1 h1
        obtain ⟨us, g2, q2⟩ := rs.get e2 h2
        exact .inr (.inr (.inr ⟨a, b, vs, us, rfl, rfl, g1, g2, by rw [← q1.length, ← q2.length]; exact h, fun p hp => e.newL rs (q1.append q2) hp⟩))
      · exact e.elim
    · exact e.elim
def gMul : G2
  | .int i, .int j, st => if i.natAbs.log2 + j.natAbs.log2 < 1000000 then .ok (.int (i * j)) st else .bad
  | .loc a, .int k, st => match st[a]? with
    | some (.lst xs) => if -(2 ^ 63) ≤ k ∧ k < 2 ^ 63 ∧ xs.length * k.toNat ≤ sizeLine then .ok (.loc st.length) (st ++ [.lst (List.replicate k.toNat xs).flatten]) else .bad
    | _ => .bad
  | _, _, _ => .bad
theorem RVs.rep {K : PySem.W.Frag} {μ : List Addr} {H : Hp} {xs : List D} {vs : List V} (r : RVs K μ H xs vs) : ∀ n : Nat, RVs K μ H (List.replicate n xs).flatten (List.replicate n vs).flatten
  | 0 => .nil
  | n + 1 => by
    rw [List.replicate_succ, List.replicate_succ, List.flatten_cons, List.flatten_cons]
    exact r.append (RVs.rep r n)
theorem two_mul {K : PySem.W.Frag} : Two K (fun x y H Q => rI CMulW (fun i j => .int (i * j)) x y H Q ∨ rRep x y H Q) gMul := by
  intro W μ H σ st d1 d2 x y Q rs r1 r2 e
  cases r1 <;> cases r2 <;> first | exact e.elim | skip
  · dsimp only [gMul] at e
    split at e
    · rename_i h
      exact .inl ⟨_, _, rfl, rfl, h, e.go rs (.int _)⟩
    · exact e.elim
  · rename_i n a h1 k
    dsimp only [gMul] at e
    split at e
    · rename_i xs e1
      split at e
      · rename_i h
        obtain ⟨vs, g1, q1⟩ := rs.get e1 h1
        exact .inr ⟨a, k, vs, rfl, rfl, g1, h.1, h.2.1, by rw [← q1.length]; exact h.2.2, fun p hp => e.newL rs (q1.rep _) hp⟩
      · exact e.elim
    · exact e.elim
/-- == -/
def scD : D → D → Bool
  | .non, .non => true
  | .non, .int _ => true
  | .int _, .non => true
  | .int _, .int _ => true
  | .bl _, .bl _ => true
  | .str _, .str _ => true
  | .non, .str _ => true
  | .str _, .non => true
  | _, _ => false
def scEq : D → D → Bool
  | .non, .non => true
  | .int i, .int j => decide (i = j)
  | .bl a, .bl b => decide (a = b)
  | .str x, .str y => decide (x = y)
  | _, _ => false
def gEqB (neg : Bool) : G2 := fun x y st =>
  if scD x y = true then .ok (.bl (neg ^^ scEq x y)) st else
    match py st 64 x, py st 64 y with
    | some p, some q => .ok (.bl (neg ^^ PyData.eqv p q)) st
    | _, _ => .bad
abbrev gEq : G2 := gEqB false
abbrev gNe : G2 := gEqB true
theorem sc_ok {K : PySem.W.Frag} {μ : List Addr} {H : Hp} {d1 d2 : D} {x y : V} (r1 : RV K μ H d1 x) (r2 : RV K μ H d2 y) (h : scD d1 d2 = true) : scal x y = true ∧ decide (x = y) = scEq d1 d2 := by
  cases r1 <;> cases r2 <;> first | (exact absurd h Bool.false_ne_true) | (refine ⟨rfl, ?_⟩; simp [scEq])
theorem two_eq {K : PySem.W.Frag} : Two K (fun x y H Q => rEq x y H Q ∨ rEqD K x y H Q) gEq := by
  intro W μ H σ st d1 d2 x y Q rs r1 r2 e
  unfold gEq gEqB at e
  split at e
  · rename_i h
    obtain ⟨h1, h2⟩ := sc_ok r1 r2 h
    refine .inl ⟨h1, ?_⟩
    rw [h2]
    have := e.go rs (.bl _)
    simpa using this
  · split at e
    · rename_i p q e1 e2
      have o1 := py_ok rs r1 e1
      have o2 := py_ok rs r2 e2
      refine .inr ⟨p, q, o1.1, o2.1, o1.shaped, o2.shaped, ?_⟩
      have := e.go rs (.bl _)
      simpa using this
    · exact e.elim
theorem two_ne {K : PySem.W.Frag} : Two K (fun x y H Q => rNe x y H Q ∨ rNeD K x y H Q) gNe := by
  intro W μ H σ st d1 d2 x y Q rs r1 r2 e
  unfold gNe gEqB at e
  split at e
  · rename_i h
    obtain ⟨h1, h2⟩ := sc_ok r1 r2 h
    refine .inl ⟨h1, ?_⟩
    rw [h2]
    have := e.go rs (.bl _)
    simpa using this
  · split at e
    · rename_i p q e1 e2
      have o1 := py_ok rs r1 e1
      have o2 := py_ok rs r2 e2
      refine .inr ⟨p, q, o1.1, o2.1, o1.shaped, o2.shaped, ?_⟩
      have := e.go rs (.bl _)
      simpa using this
    · exact e.elim
/-- an item -/
def gIx : G2
  | .tup xs, .int i, st => match atI xs i with
    | some d => .ok d st
    | none => .bad
  | .rol xs, .int i, st => match atI xs i with
    | some d => .ok d st
    | none => .bad
  | .loc n, .int i, st => match st[n]? with
    | some (.lst xs) => match atI xs i with
      | some d => .ok d st
      | none => .bad
    | _ => .bad
  | .str z, .int i, st => if z.length ≤ sizeLine then match atI z.cps.toList i with
      | some c => .ok (.str ⟨#[c]⟩) st
      | none => .bad
    else .bad
  | _, _, _ => .bad
theorem RVs.atI {K : PySem.W.Frag} {μ : List Addr} {H : Hp} {xs : List D} {vs : List V} {i : Int} {d : D} (r : RVs K μ H xs vs) (h : L2.atI xs i = some d) : ∃ v, L2.atI vs i = some v ∧ RV K μ H d v := by
  unfold L2.atI at h ⊢
  rw [← r.length]
  cases e : ixN xs.length i with
  | none => rw [e] at h; cases h
  | some j =>
    rw [e] at h
    obtain ⟨v, h1, h2⟩ := r.get (i := j) h
    exact ⟨v, h1, h2⟩
theorem two_ix {K : PySem.W.Frag} : Two K (rIx K) gIx := by
  intro W μ H σ st d1 d2 x y Q rs r1 r2 e
  cases r1 <;> cases r2 <;> first | exact e.elim | skip
  · rename_i z i
    dsimp only [gIx] at e
    split at e
    · rename_i h
      split at e
      · rename_i c hc
        exact .inr (.inr ⟨z, i, c, rfl, rfl, h, hc, e.go rs (.str _)⟩)
      · exact e.elim
    · exact e.elim
  · rename_i a xs vs h q i
    dsimp only [gIx] at e
    split at e
    · rename_i d hd
      obtain ⟨v, hv, rv⟩ := q.atI hd
      exact .inr (.inl ⟨a, vs, i, v, rfl, rfl, h, hv, e.go rs rv⟩)
    · exact e.elim
  · rename_i n a h1 i
    dsimp only [gIx] at e
    split at e
    · rename_i xs e1
      split at e
      · rename_i d hd
        obtain ⟨vs, g1, q1⟩ := rs.get e1 h1
        obtain ⟨v, hv, rv⟩ := q1.atI hd
        exact .inl ⟨a, vs, i, v, rfl, rfl, .of g1, hv, e.go rs rv⟩
      · exact e.elim
    · exact e.elim
  · rename_i a xs vs h q i
    dsimp only [gIx] at e
    split at e
    · rename_i d hd
      obtain ⟨v, hv, rv⟩ := q.atI hd
      exact .inl ⟨a, vs, i, v, rfl, rfl, h.sq, hv, e.go rs rv⟩
    · exact e.elim
section
variable {X : Cx} {W : WX} {a b c : Expr} {A B C : E} {pos : Pos}
abbrev eAdd := eTwo gAdd
abbrev eSub := eTwo gSub
abbrev eMul := eTwo gMul
abbrev eDiv := eTwo gDiv
abbrev eMod := eTwo gMod
abbrev ePow := eTwo gPow
abbrev eLt := eTwo gLt
abbrev eLe := eTwo gLe
abbrev eGt := eTwo gGt
abbrev eGe := eTwo gGe
abbrev eEq := eTwo gEq
abbrev eNe := eTwo gNe
abbrev eIx := eTwo gIx
theorem d_add (ha : PE X a (tE X.K W A)) (hb : PE X b (tE X.K W B)) : PE X (.BinOp a .Add b pos) (tE X.K W (eAdd A B)) := d_op (op_add.or (op_add_str.or (op_catA.or op_cat))) two_add ha hb
theorem d_sub (ha : PE X a (tE X.K W A)) (hb : PE X b (tE X.K W B)) : PE X (.BinOp a .Sub b pos) (tE X.K W (eSub A B)) := d_op op_sub (two_I fun _ _ _ _ => .int _) ha hb
theorem d_mul (ha : PE X a (tE X.K W A)) (hb : PE X b (tE X.K W B)) : PE X (.BinOp a .Mult b pos) (tE X.K W (eMul A B)) := d_op (op_mulW.or op_rep) two_mul ha hb
theorem d_div (ha : PE X a (tE X.K W A)) (hb : PE X b (tE X.K W B)) : PE X (.BinOp a .FloorDiv b pos) (tE X.K W (eDiv A B)) := d_op op_fdivW (two_Ic (fun i j h => by simpa [CDivW] using h) fun _ _ _ _ => .int _) ha hb
theorem d_mod (ha : PE X a (tE X.K W A)) (hb : PE X b (tE X.K W B)) : PE X (.BinOp a .Mod b pos) (tE X.K W (eMod A B)) := d_op op_mod (two_Ic (fun i j h => by simpa using h) fun _ _ _ _ => .int _) ha hb
theorem d_pow (ha : PE X a (tE X.K W A)) (hb : PE X b (tE X.K W B)) : PE X (.BinOp a .Pow b pos) (tE X.K W (ePow A B)) := d_op op_pow (two_Ic (fun i j h => by simpa [CPow, and_assoc] using h) fun _ _ _ _ => .int _) ha hb
theorem d_lt (ha : PE X a (tE X.K W A)) (hb : PE X b (tE X.K W B)) : PE X (.Compare a [.Lt] [b] pos) (tE X.K W (eLt A B)) := d_cmpR op_lt (two_I fun _ _ _ _ => .bl _) ha hb (nomark _)
theorem d_le (ha : PE X a (tE X.K W A)) (hb : PE X b (tE X.K W B)) : PE X (.Compare a [.LtE] [b] pos) (tE X.K W (eLe A B)) := d_cmpR op_le (two_I fun _ _ _ _ => .bl _) ha hb (nomark _)
theorem d_gt (ha : PE X a (tE X.K W A)) (hb : PE X b (tE X.K W B)) : PE X (.Compare a [.Gt] [b] pos) (tE X.K W (eGt A B)) := d_cmpR op_gt (two_I fun _ _ _ _ => .bl _) ha hb (nomark _)
theorem d_ge (ha : PE X a (tE X.K W A)) (hb : PE X b (tE X.K W B)) : PE X (.Compare a [.GtE] [b] pos) (tE X.K W (eGe A B)) := d_cmpR op_ge (two_I fun _ _ _ _ => .bl _) ha hb (nomark _)
theorem d_eq (hu : X.A.units + 64 < cLine) (ha : PE X a (tE X.K W A)) (hb : PE X b (tE X.K W B)) : PE X (.Compare a [.Eq] [b] pos) (tE X.K W (eEq A B)) := d_cmpR (op_eq.or (op_eqD hu)) two_eq ha hb (nomark _)
theorem d_ne (hu : X.A.units + 64 < cLine) (ha : PE X a (tE X.K W A)) (hb : PE X b (tE X.K W B)) : PE X (.Compare a [.NotEq] [b] pos) (tE X.K W (eNe A B)) := d_cmpR (op_ne.or (op_neD hu)) two_ne ha hb (nomark _)
theorem d_ix (ha : PE X a (tE X.K W A)) (hb : PE X b (tE X.K W B)) (hs : PlainIx b := by exact fun _ _ => rfl) : PE X (.Subscript a b pos) (tE X.K W (eIx A B)) := d_ixR ix_seq two_ix ha hb hs
/-- -a -/
def eNeg (a : E) : E := fun sl st => (a sl st).bind fun x st1 => match x with
  | .int i => .ok (.int (-i)) st1
  | _ => .bad
theorem d_neg (ha : PE X a (tE X.K W A)) : PE X (.UnaryOp .USub a pos) (tE X.K W (eNeg A)) := imp (pe_un un_neg ha) fun σ H Q h => by
  obtain ⟨μ, sl, st, rl, rs, e⟩ := h
  refine first rl rs e fun d1 st1 v1 H1 μ1 l1 rl1 rs1 r1 e1 => ?_
  cases r1 <;> first | exact e1.elim | skip
  exact ⟨_, rfl, e1.go rs1 (.int _)⟩
/-- is None, is not None -/
def eIsN (neg : Bool) (a : E) : E := fun sl st => (a sl st).bind fun x st1 => .ok (.bl (neg ^^ match x with
  | .non => true
  | _ => false)) st1
theorem d_isN {j pos'} (ha : PE X a (tE X.K W A)) : PE X (.Compare a [.Is] [.Constant .none j pos'] pos) (tE X.K W (eIsN false A)) := imp (pe_cmp (pc_isN ha) rfl) fun σ H Q h => by
  obtain ⟨μ, sl, st, rl, rs, e⟩ := h
  refine first rl rs e fun d1 st1 v1 H1 μ1 l1 rl1 rs1 r1 e1 => ?_
  have := e1.go rs1 (.bl _)
  cases r1 <;> simpa using this
theorem d_notN {j pos'} (ha : PE X a (tE X.K W A)) : PE X (.Compare a [.IsNot] [.Constant .none j pos'] pos) (tE X.K W (eIsN true A)) := imp (pe_cmp (pc_notN ha) rfl) fun σ H Q h => by
  obtain ⟨μ, sl, st, rl, rs, e⟩ := h
  refine first rl rs e fun d1 st1 v1 H1 μ1 l1 rl1 rs1 r1 e1 => ?_
  have := e1.go rs1 (.bl _)
  cases r1 <;> simpa using this
end
/-! ### tests, and, or, not, if -/
def EndB (K : PySem.W.Frag) (W : WX) (μ : List Addr) (H : Hp) (σ : L2.St) (r : R D) (Q : Bool → Hp → Prop) : Prop := End K W μ H σ r fun v H' => ∃ c, v = .bl c ∧ Q c H'
def tT (K : PySem.W.Frag) (W : WX) (m : E) : TT := fun σ H Q => tE K W m σ H fun v H' => ∃ c, v = .bl c ∧ Q c H'
def isB : D → Option Bool
  | .bl b => some b
  | _ => none
def eIf (t a b : E) : E := fun sl st => (t sl st).bind fun x st1 => match x with
  | .bl true => a sl st1
  | .bl false => b sl st1
  | _ => .bad
def eAnd (a b : E) : E := fun sl st => (a sl st).bind fun x st1 => match x with
  | .bl true => b sl st1
  | .bl false => .ok (.bl false) st1
  | _ => .bad
def eOr (a b : E) : E := fun sl st => (a sl st).bind fun x st1 => match x with
  | .bl true => .ok (.bl true) st1
  | .bl false => b sl st1
  | _ => .bad
def eNot (a : E) : E := fun sl st => (a sl st).bind fun x st1 => match x with
  | .bl b => .ok (.bl (!b)) st1
  | _ => .bad
section
variable {X : Cx} {W : WX} {a b c : Expr} {A B C : E} {pos : Pos} {rest : List Expr}
theorem d_test (ha : PE X a (tE X.K W A)) (he : ∀ whole, isTrue a X.env whole = (do let v ← whole; standAt a.pos; holding [v] (truthy v)) := by intro _; rfl) : PT X a (tT X.K W A) := impT (pt_val ha he) fun _ _ _ h => h
/-- a comparison as a test -/
theorem d_tcmp {op : CmpOp} {r : R2} {g : G2} (ho : OpR X (compareOp op) r) (t : Two X.K r g) (ha : PE X a (tE X.K W A)) (hb : PE X b (tE X.K W B)) (hm : behindInMarks op b = false) : PT X (.Compare a [op] [b] pos) (tT X.K W (eTwo g A B)) := impT (pt_cmpR ho ha hb hm) fun _ _ _ h => two_of t h
theorem t_lt (ha : PE X a (tE X.K W A)) (hb : PE X b (tE X.K W B)) : PT X (.Compare a [.Lt] [b] pos) (tT X.K W (eLt A B)) := d_tcmp op_lt (two_I fun _ _ _ _ => .bl _) ha hb (nomark _)
theorem t_le (ha : PE X a (tE X.K W A)) (hb : PE X b (tE X.K W B)) : PT X (.Compare a [.LtE] [b] pos) (tT X.K W (eLe A B)) := d_tcmp op_le (two_I fun _ _ _ _ => .bl _) ha hb (nomark _)
theorem t_gt (ha : PE X a (tE X.K W A)) (hb : PE X b (tE X.K W B)) : PT X (.Compare a [.Gt] [b] pos) (tT X.K W (eGt A B)) := d_tcmp op_gt (two_I fun _ _ _ _ => .bl _) ha hb (nomark _)
theorem t_ge (ha : PE X a (tE X.K W A)) (hb : PE X b (tE X.K W B)) : PT X (.Compare a [.GtE] [b] pos) (tT X.K W (eGe A B)) := d_tcmp op_ge (two_I fun _ _ _ _ => .bl _) ha hb (nomark _)
theorem t_eq (hu : X.A.units + 64 < cLine) (ha : PE X a (tE X.K W A)) (hb : PE X b (tE X.K W B)) : PT X (.Compare a [.Eq] [b] pos) (tT X.K W (eEq A B)) := d_tcmp (op_eq.or (op_eqD hu)) two_eq ha hb (nomark _)
theorem t_ne (hu : X.A.units + 64 < cLine) (ha : PE X a (tE X.K W A)) (hb : PE X b (tE X.K W B)) : PT X (.Compare a [.NotEq] [b] pos) (tT X.K W (eNe A B)) := d_tcmp (op_ne.or (op_neD hu)) two_ne ha hb (nomark _)
theorem tisN0 {K : PySem.W.Frag} {W : WX} {A : E} {σ : L2.St} {H : Hp} {Q : VK} (h : tE K W (eIsN false A) σ H Q) : tIsN (tE K W A) σ H Q := by
  obtain ⟨μ, sl, st, rl, rs, e⟩ := h
  refine first rl rs e fun d1 st1 v1 H1 μ1 l1 rl1 rs1 r1 e1 => ?_
  have := e1.go rs1 (.bl _)
  cases r1 <;> simpa using this
theorem tisN1 {K : PySem.W.Frag} {W : WX} {A : E} {σ : L2.St} {H : Hp} {Q : VK} (h : tE K W (eIsN true A) σ H Q) : tNotN (tE K W A) σ H Q := by
  obtain ⟨μ, sl, st, rl, rs, e⟩ := h
  refine first rl rs e fun d1 st1 v1 H1 μ1 l1 rl1 rs1 r1 e1 => ?_
  have := e1.go rs1 (.bl _)
  cases r1 <;> simpa using this
theorem t_isN {j pos'} (ha : PE X a (tE X.K W A)) : PT X (.Compare a [.Is] [.Constant .none j pos'] pos) (tT X.K W (eIsN false A)) := impT (pt_cmp (pc_isN ha) rfl) fun _ _ _ h => tisN0 h
theorem t_notN {j pos'} (ha : PE X a (tE X.K W A)) : PT X (.Compare a [.IsNot] [.Constant .none j pos'] pos) (tT X.K W (eIsN true A)) := impT (pt_cmp (pc_notN ha) rfl) fun _ _ _ h => tisN1 h
theorem d_and (ha : PE X a (tE X.K W A)) (hb : PE X (.BoolOp .And (b :: rest) pos) (tE X.K W B)) : PE X (.BoolOp .And (a :: b :: rest) pos) (tE X.K W (eAnd A B)) := imp (pe_and ha hb) fun σ H Q h => by
  obtain ⟨μ, sl, st, rl, rs, e⟩ := h
  refine first rl rs e fun d1 st1 v1 H1 μ1 l1 rl1 rs1 r1 e1 => ?_
  cases r1 <;> first | exact e1.elim | skip
  rename_i k
  cases k with
  | true => exact ⟨true, rfl, iteT ⟨μ1, sl, st1, rl1, rs1, e1⟩⟩
  | false => exact ⟨false, rfl, iteF (e1.go rs1 (.bl _))⟩
theorem d_or (ha : PE X a (tE X.K W A)) (hb : PE X (.BoolOp .Or (b :: rest) pos) (tE X.K W B)) : PE X (.BoolOp .Or (a :: b :: rest) pos) (tE X.K W (eOr A B)) := imp (pe_or ha hb) fun σ H Q h => by
  obtain ⟨μ, sl, st, rl, rs, e⟩ := h
  refine first rl rs e fun d1 st1 v1 H1 μ1 l1 rl1 rs1 r1 e1 => ?_
  cases r1 <;> first | exact e1.elim | skip
  rename_i k
  cases k with
  | true => exact ⟨true, rfl, iteT (e1.go rs1 (.bl _))⟩
  | false => exact ⟨false, rfl, iteF ⟨μ1, sl, st1, rl1, rs1, e1⟩⟩
theorem d_one {op} (ha : PE X a (tE X.K W A)) : PE X (.BoolOp op [a] pos) (tE X.K W A) := pe_one ha
theorem d_not (ha : PE X a (tE X.K W A)) : PE X (.UnaryOp .Not a pos) (tE X.K W (eNot A)) := imp (pe_not ha) fun σ H Q h => by
  obtain ⟨μ, sl, st, rl, rs, e⟩ := h
  refine first rl rs e fun d1 st1 v1 H1 μ1 l1 rl1 rs1 r1 e1 => ?_
  cases r1 <;> first | exact e1.elim | skip
  exact ⟨_, rfl, e1.go rs1 (.bl _)⟩
theorem t_not (ha : PT X a (tT X.K W A)) : PT X (.UnaryOp .Not a pos) (tT X.K W (eNot A)) := impT (pt_not ha) fun σ H Q h => by
  obtain ⟨μ, sl, st, rl, rs, e⟩ := h
  refine first rl rs e fun d1 st1 v1 H1 μ1 l1 rl1 rs1 r1 e1 => ?_
  cases r1 <;> first | exact e1.elim | skip
  obtain ⟨c, e, q⟩ := e1.go rs1 (.bl _)
  cases e
  exact ⟨_, rfl, q⟩
/-- tests in a row -/
theorem w_and1 (ha : PT X a (tT X.K W A)) : PW X (.BoolOp .And [a] pos) (tT X.K W A) := pw_and1 ha
theorem w_or1 (ha : PT X a (tT X.K W A)) : PW X (.BoolOp .Or [a] pos) (tT X.K W A) := pw_or1 ha
theorem impW {X : Cx} {e : Expr} {t t' : TT} (h : PW X e t) (q : ∀ σ H Q, t' σ H Q → t σ H Q) : PW X e t' := ⟨fun wh pins s σ H Q I hw => h.run wh pins s σ H Q I (q _ _ _ hw)⟩
theorem w_and (ha : PT X a (tT X.K W A)) (hb : PW X (.BoolOp .And (b :: rest) pos) (tT X.K W B)) : PW X (.BoolOp .And (a :: b :: rest) pos) (tT X.K W (eAnd A B)) := impW (pw_and ha hb) fun σ H Q h => by
  obtain ⟨μ, sl, st, rl, rs, e⟩ := h
  refine first rl rs e fun d1 st1 v1 H1 μ1 l1 rl1 rs1 r1 e1 => ?_
  cases r1 <;> first | exact e1.elim | skip
  rename_i k
  cases k with
  | true => exact ⟨true, rfl, iteT ⟨μ1, sl, st1, rl1, rs1, e1⟩⟩
  | false =>
    obtain ⟨c, e, q⟩ := e1.go rs1 (.bl _)
    cases e
    exact ⟨false, rfl, iteF q⟩
theorem w_or (ha : PT X a (tT X.K W A)) (hb : PW X (.BoolOp .Or (b :: rest) pos) (tT X.K W B)) : PW X (.BoolOp .Or (a :: b :: rest) pos) (tT X.K W (eOr A B)) := impW (pw_or ha hb) fun σ H Q h => by
  obtain ⟨μ, sl, st, rl, rs, e⟩ := h
  refine first rl rs e fun d1 st1 v1 H1 μ1 l1 rl1 rs1 r1 e1 => ?_
  cases r1 <;> first | exact e1.elim | skip
  rename_i k
  cases k with
  | true =>
    obtain ⟨c, e, q⟩ := e1.go rs1 (.bl _)
    cases e
    exact ⟨true, rfl, iteT q⟩
  | false => exact ⟨false, rfl, iteF ⟨μ1, sl, st1, rl1, rs1, e1⟩⟩
theorem d_if (hc : PT X c (tT X.K W C)) (ha : PE X a (tE X.K W A)) (hb : PE X b (tE X.K W B)) : PE X (.IfExp c a b pos) (tE X.K W (eIf C A B)) := imp (pe_ifExp hc ha hb) fun σ H Q h => by
  obtain ⟨μ, sl, st, rl, rs, e⟩ := h
  refine first rl rs e fun d1 st1 v1 H1 μ1 l1 rl1 rs1 r1 e1 => ?_
  cases r1 <;> first | exact e1.elim | skip
  rename_i k
  cases k with
  | true => exact ⟨true, rfl, iteT ⟨μ1, sl, st1, rl1, rs1, e1⟩⟩
  | false => exact ⟨false, rfl, iteF ⟨μ1, sl, st1, rl1, rs1, e1⟩⟩
/-- a op b op' c -/
def eChain (g g' : G2) (a b c : E) : E := fun sl st => (a sl st).bind fun x st1 => (b sl st1).bind fun y st2 => (g x y st2).bind fun z st3 => match z with
  | .bl true => (c sl st3).bind fun w st4 => g' y w st4
  | .bl false => .ok (.bl false) st3
  | _ => .bad
theorem End.isB {K : PySem.W.Frag} {W : WX} {μ : List Addr} {H : Hp} {σ : L2.St} {r : R D} {F : D → Sto → R D} {Q Q' : VK} (h : End K W μ H σ (r.bind F) Q) (k : ∀ d st1 v H1 μ1, Le μ H μ1 H1 → Rs K μ1 H1 st1 → RV K μ1 H1 d v → End K W μ1 H1 σ (F d st1) Q → Q' v H1) : End K W μ H σ r Q' := by
  revert h
  cases r with
  | ok d st1 => exact fun h v H1 μ1 l rs1 rv => k d st1 v H1 μ1 l rs1 rv (End.on l h)
  | err c fs st1 => exact fun h => h
  | bad => exact fun h => h
theorem chain_of {K : PySem.W.Frag} {W : WX} {r r' : R2} {g g' : G2} {a b c : E} (t : Two K r g) (t' : Two K r' g') {σ : L2.St} {H : Hp} {Q : VK} (h : tE K W (eChain g g' a b c) σ H Q) : tChain r r' (tE K W a) (tE K W b) (tE K W c) σ H Q := by
  obtain ⟨μ, sl, st, rl, rs, e⟩ := h
  refine first rl rs e fun d1 st1 v1 H1 μ1 l1 rl1 rs1 r1 e1 => ?_
  refine first rl1 rs1 e1 fun d2 st2 v2 H2 μ2 l2 rl2 rs2 r2 e2 => ?_
  refine t W μ2 H2 σ st2 d1 d2 v1 v2 _ rs2 (r1.mono l2) r2 (e2.isB fun d3 st3 v3 H3 μ3 l3 rs3 r3 e3 => ?_)
  cases r3 <;> first | exact e3.elim | skip
  rename_i k
  cases k with
  | false => exact ⟨false, rfl, iteF (e3.go rs3 (.bl _))⟩
  | true => exact ⟨true, rfl, iteT (first (rl2.mono l3) rs3 e3 fun d4 st4 v4 H4 μ4 l4 rl4 rs4 r4 e4 => t' W μ4 H4 σ st4 d2 d4 v2 v4 Q rs4 ((r2.mono l3).mono l4) r4 e4)⟩
theorem d_chain {op op' : CmpOp} {r r' : R2} {g g' : G2} (ho : OpR X (compareOp op) r) (ho' : OpR X (compareOp op') r') (t : Two X.K r g) (t' : Two X.K r' g') (ha : PE X a (tE X.K W A)) (hb : PE X b (tE X.K W B)) (hc : PE X c (tE X.K W C))
    (hm : lastMarks [op, op'] [b, c] = false := by with_unfolding_all rfl) : PE X (.Compare a [op, op'] [b, c] pos) (tE X.K W (eChain g g' A B C)) := imp (pe_chain ho ho' ha hb hc hm) fun _ _ _ h => chain_of t t' h
theorem t_chain {op op' : CmpOp} {r r' : R2} {g g' : G2} (ho : OpR X (compareOp op) r) (ho' : OpR X (compareOp op') r') (t : Two X.K r g) (t' : Two X.K r' g') (ha : PE X a (tE X.K W A)) (hb : PE X b (tE X.K W B)) (hc : PE X c (tE X.K W C))
    (hm : lastMarks [op, op'] [b, c] = false := by with_unfolding_all rfl) : PT X (.Compare a [op, op'] [b, c] pos) (tT X.K W (eChain g g' A B C)) := impT (pt_chain ho ho' ha hb hc hm) fun _ _ _ h => chain_of t t' h
theorem two_lt {K : PySem.W.Frag} : Two K (rI0 fun i j => .bl (decide (i < j))) gLt := two_I fun _ _ _ _ => .bl _
theorem two_le {K : PySem.W.Frag} : Two K (rI0 fun i j => .bl (decide (i ≤ j))) gLe := two_I fun _ _ _ _ => .bl _
end
end Mi
set_option Elab.async false
set_option linter.all false
set_option maxRecDepth 100000
namespace Mi
open PySem PySem.Spec PyProof.Rows L2

/-! ### arguments, displays -/
def aNil : As := fun _ st => .ok [] st
def aCons (e : E) (r : As) : As := fun sl st => (e sl st).bind fun x st1 => (r sl st1).bind fun xs st2 => .ok (x :: xs) st2
section
variable {K : PySem.W.Frag} {W : WX} {μ : List Addr} {H : Hp} {σ : L2.St} {sl : Sl} {st : Sto}
theorem firstA {Q : VK} {Q' : List V → Hp → Prop} {m : As} {F : List D → Sto → R D} (rl : Rl K μ H σ sl) (rs : Rs K μ H st) (h : End K W μ H σ ((m sl st).bind F) Q)
    (k : ∀ ds st1 vs H1 μ1, Le μ H μ1 H1 → Rl K μ1 H1 σ sl → Rs K μ1 H1 st1 → RVs K μ1 H1 ds vs → End K W μ1 H1 σ (F ds st1) Q → Q' vs H1) : tA K W m σ H Q' := by
  refine ⟨μ, sl, st, rl, rs, ?_⟩
  revert h
  cases m sl st with
  | ok d st1 => exact fun h v H1 μ1 l rs1 rv => k d st1 v H1 μ1 l (rl.mono l) rs1 rv (End.on l h)
  | err c fs st1 => exact fun h => h
  | bad => exact fun h => h
theorem EndA.on {μ1 : List Addr} {H1 : Hp} {r : R (List D)} {Q : List V → Hp → Prop} (l : Le μ H μ1 H1) (h : EndA K W μ H σ r Q) : EndA K W μ1 H1 σ r Q := by
  cases r with
  | ok d st => exact fun v H' μ' l' => h v H' μ' (l.trans l')
  | err c fs st => exact fun H' μ' dx vs l' => h H' μ' dx vs (l.trans l')
  | bad => exact h
end
section
variable {X : Cx} {W : WX} {e : Expr} {es : List Expr} {A : E} {B : As} {pos : Pos}
theorem a_nil : PA X [] (tA X.K W aNil) := impA pa_nil fun σ H Q h => by
  obtain ⟨μ, sl, st, rl, rs, e⟩ := h
  exact e [] H μ (.refl _ _) rs .nil
theorem a_cons (ha : PE X e (tE X.K W A)) (hb : PA X es (tA X.K W B)) (hs : starEach (e :: es) X.env = (false, eval e X.env) :: starEach es X.env := by rfl) : PA X (e :: es) (tA X.K W (aCons A B)) := impA (pa_cons ha hb hs) fun σ H Q h => by
  obtain ⟨μ, sl, st, rl, rs, e⟩ := h
  refine ⟨μ, sl, st, rl, rs, ?_⟩
  unfold aCons at e
  revert e
  cases A sl st with
  | err c fs st1 => exact fun e => e
  | bad => exact fun e => e
  | ok d st1 =>
    refine fun e v H1 μ1 l1 rs1 r1 => ⟨μ1, sl, st1, rl.mono l1, rs1, ?_⟩
    dsimp only [R.bind] at e
    revert e
    cases B sl st1 with
    | err c fs st2 => exact fun e => EndA.on l1 e
    | bad => exact fun e => e
    | ok ds st2 =>
      intro e vs H2 μ2 l2 rs2 r2
      exact e (v :: vs) H2 μ2 (l1.trans l2) rs2 (.cons (r1.mono l2) r2)
def eTup (a : As) : E := fun sl st => (a sl st).bind fun xs st1 => if xs.length ≤ sizeLine then .ok (.tup xs) st1 else .bad
def eLst (a : As) : E := fun sl st => (a sl st).bind fun xs st1 => if xs.length ≤ sizeLine then .ok (.loc st1.length) (st1 ++ [.lst xs]) else .bad
theorem d_tup {x1} (h : PA X es (tA X.K W B)) : PE X (.Tuple es x1 pos) (tE X.K W (eTup B)) := imp (pe_tup h) fun σ H Q h => by
  obtain ⟨μ, sl, st, rl, rs, e⟩ := h
  refine firstA rl rs e fun ds st1 vs H1 μ1 l1 rl1 rs1 r1 e1 => ?_
  split at e1
  · rename_i hz
    exact ⟨by rw [← r1.length]; exact hz, fun p hp => e1.newT rs1 r1 hp⟩
  · exact e1.elim
theorem d_lst (h : PA X es (tA X.K W B)) : PE X (.List es pos) (tE X.K W (eLst B)) := imp (pe_lst h) fun σ H Q h => by
  obtain ⟨μ, sl, st, rl, rs, e⟩ := h
  refine firstA rl rs e fun ds st1 vs H1 μ1 l1 rl1 rs1 r1 e1 => ?_
  split at e1
  · rename_i hz
    exact ⟨by rw [← r1.length]; exact hz, fun p hp => e1.newL rs1 r1 hp⟩
  · exact e1.elim
end

/-! ### calls of built-ins -/
abbrev GA := List D → Sto → R D
def eCall (g : GA) (a : As) : E := fun sl st => (a sl st).bind g
def Cal (K : PySem.W.Frag) (r : List V → Hp → VK → Prop) (g : GA) : Prop := ∀ (W : WX) μ H σ st ds vs Q, Rs K μ H st → RVs K μ H ds vs → End K W μ H σ (g ds st) Q → r vs H Q
theorem cal_of {K : PySem.W.Frag} {W : WX} {r : List V → Hp → VK → Prop} {g : GA} {a : As} (t : Cal K r g) {σ : L2.St} {H : Hp} {Q : VK} (h : tE K W (eCall g a) σ H Q) : tCB r (tA K W a) σ H Q := by
  obtain ⟨μ, sl, st, rl, rs, e⟩ := h
  exact firstA rl rs e fun ds st1 vs H1 μ1 l1 rl1 rs1 r1 e1 => t W μ1 H1 σ st1 ds vs Q rs1 r1 e1
section
variable {X : Cx} {W : WX} {e : Expr} {es : List Expr} {A : E} {B : As} {p pos : Pos} {x : Str} {id : String}
theorem d_callB {r : List V → Hp → VK → Prop} {g : GA} (hc : CallR X (.builtin id) r) (t : Cal X.K r g) (hm : X.mg x = none) (hv : bootBuiltins x = some (.builtin id)) (ha : PA X (e :: es) (tA X.K W B)) (hg : Gl X x := by rfl) (hn : x ≠ "__name__" := by decide) (hdb : (x == ("__debug__" : Str)) = false := by decide)
    (he : starEach (e :: es) X.env = (false, eval e X.env) :: starEach es X.env := by rfl) (hpl : (backTo pos (starEach es X.env)).any (·.1) = false := by rfl) : PE X (.Call (.Name x p) (e :: es) [] pos) (tE X.K W (eCall g B)) :=
  imp (pe_callB hc hg hm hv ha hn hdb he hpl) fun _ _ _ h => cal_of t h
theorem d_callTy {r : List V → Hp → VK → Prop} {g : GA} (hc : CallR X (.type id) r) (t : Cal X.K r g) (hm : X.mg x = none) (hv : bootBuiltins x = some (.type id)) (ha : PA X (e :: es) (tA X.K W B)) (hg : Gl X x := by rfl) (hn : x ≠ "__name__" := by decide) (hdb : (x == ("__debug__" : Str)) = false := by decide)
    (he : starEach (e :: es) X.env = (false, eval e X.env) :: starEach es X.env := by rfl) (hpl : (backTo pos (starEach es X.env)).any (·.1) = false := by rfl) : PE X (.Call (.Name x p) (e :: es) [] pos) (tE X.K W (eCall g B)) :=
  imp (pe_callTy hc hg hm hv ha hn hdb he hpl) fun _ _ _ h => cal_of t h
end

/-! ### statements -/
inductive O where
  | nx (sl : Sl) (st : Sto) | ret (d : D) (st : Sto) | bk (sl : Sl) (st : Sto) | ct (sl : Sl) (st : Sto) | err (c : Addr) (fs : List (Str × D)) (sl : Sl) (st : Sto) | bad
abbrev Sm := Sl → Sto → O
def EndS (K : PySem.W.Frag) (W : WX) (μ : List Addr) (H : Hp) (o : O) (D : Ends) : Prop := match o with
  | .nx sl st => ∀ σ' H' μ', Le μ H μ' H' → Rl K μ' H' σ' sl → Rs K μ' H' st → D.nx σ' H'
  | .bk sl st => ∀ σ' H' μ', Le μ H μ' H' → Rl K μ' H' σ' sl → Rs K μ' H' st → D.bk σ' H'
  | .ct sl st => ∀ σ' H' μ', Le μ H μ' H' → Rl K μ' H' σ' sl → Rs K μ' H' st → D.ct σ' H'
  | .ret d st => ∀ v H' μ', Le μ H μ' H' → Rs K μ' H' st → RV K μ' H' d v → D.rt v H'
  | .err c fs sl st => ∀ σ' H' μ' dx vs, Le μ H μ' H' → Rl K μ' H' σ' sl → Rs K μ' H' st → H' dx = some (.xd ((fs.map (·.1)).zip vs)) → dx ∉ μ' → RVs K μ' H' (fs.map (·.2)) vs → W (.ref c) (some dx) σ' H'
  | .bad => False
theorem EndS.on {K : PySem.W.Frag} {W : WX} {μ μ1 : List Addr} {H H1 : Hp} {o : O} {D : Ends} (l : Le μ H μ1 H1) (h : EndS K W μ H o D) : EndS K W μ1 H1 o D := by
  cases o with
  | nx sl st => exact fun σ' H' μ' l' => h σ' H' μ' (l.trans l')
  | bk sl st => exact fun σ' H' μ' l' => h σ' H' μ' (l.trans l')
  | ct sl st => exact fun σ' H' μ' l' => h σ' H' μ' (l.trans l')
  | ret d st => exact fun v H' μ' l' => h v H' μ' (l.trans l')
  | err c fs sl st => exact fun σ' H' μ' dx vs l' => h σ' H' μ' dx vs (l.trans l')
  | bad => exact h
def tS (K : PySem.W.Frag) (W : WX) (m : Sm) : TS := fun D σ H => ∃ μ sl st, Rl K μ H σ sl ∧ Rs K μ H st ∧ EndS K W μ H (m sl st) D
def R.ob {α : Type} (r : R α) (sl : Sl) (f : α → Sto → O) : O := match r with
  | .ok d st => f d st
  | .err c fs st => .err c fs sl st
  | .bad => .bad
theorem firstS {K : PySem.W.Frag} {W : WX} {μ : List Addr} {H : Hp} {σ : L2.St} {sl : Sl} {st : Sto} {D : Ends} {Q' : VK} {m : E} {F : Mi.D → Sto → O} (rl : Rl K μ H σ sl) (rs : Rs K μ H st) (h : EndS K W μ H ((m sl st).ob sl F) D)
    (k : ∀ d st1 v H1 μ1, Le μ H μ1 H1 → Rl K μ1 H1 σ sl → Rs K μ1 H1 st1 → RV K μ1 H1 d v → EndS K W μ1 H1 (F d st1) D → Q' v H1) : tE K W m σ H Q' := by
  refine ⟨μ, sl, st, rl, rs, ?_⟩
  revert h
  cases m sl st with
  | ok d st1 => exact fun h v H1 μ1 l rs1 rv => k d st1 v H1 μ1 l (rl.mono l) rs1 rv (EndS.on l h)
  | err c fs st1 => exact fun h H' μ' dx vs l rs1 hd hn rv => h σ H' μ' dx vs l (rl.mono l) rs1 hd hn rv
  | bad => exact fun h => h
def sSeq (a b : Sm) : Sm := fun sl st => match a sl st with
  | .nx sl' st' => b sl' st'
  | .ret d st' => .ret d st'
  | .bk sl' st' => .bk sl' st'
  | .ct sl' st' => .ct sl' st'
  | .err c fs sl' st' => .err c fs sl' st'
  | .bad => .bad
def sPass : Sm := fun sl st => .nx sl st
def sBreak : Sm := fun sl st => .bk sl st
def sCont : Sm := fun sl st => .ct sl st
def sExpr (e : E) : Sm := fun sl st => (e sl st).ob sl fun _ st1 => .nx sl st1
def sRet (e : E) : Sm := fun sl st => (e sl st).ob sl fun d st1 => .ret d st1
def sRetN : Sm := fun _ st => .ret .non st
def sSet (i : Nat) (e : E) : Sm := fun sl st => (e sl st).ob sl fun d st1 => .nx (sl.set i (some d)) st1
def sIf (c : E) (a b : Sm) : Sm := fun sl st => (c sl st).ob sl fun d st1 => match d with
  | .bl true => a sl st1
  | .bl false => b sl st1
  | _ => .bad
def sAug (i : Nat) (g : G2) (e : E) : Sm := fun sl st => match sl[i]? with
  | some (some x) => (e sl st).ob sl fun y st1 => (g x y st1).ob sl fun z st2 => .nx (sl.set i (some z)) st2
  | _ => .bad
section
variable {X : Cx} {W : WX} {s : Stmt} {ss : List Stmt} {e c : Expr} {A B C : Sm} {m : E} {pos : Pos}
theorem ss_nil : PSs X [] (tS X.K W sPass) := impSs pss_nil fun D σ H h => by
  obtain ⟨μ, sl, st, rl, rs, e⟩ := h
  exact e σ H μ (.refl _ _) rl rs
theorem ss_cons (h1 : PS X s (tS X.K W A)) (h2 : PSs X ss (tS X.K W B)) : PSs X (s :: ss) (tS X.K W (sSeq A B)) := impSs (pss_cons h1 h2) fun D σ H h => by
  obtain ⟨μ, sl, st, rl, rs, e⟩ := h
  refine ⟨μ, sl, st, rl, rs, ?_⟩
  unfold sSeq at e
  revert e
  cases A sl st with
  | nx sl' st' => exact fun e σ' H' μ' l rl' rs' => ⟨μ', sl', st', rl', rs', e.on l⟩
  | bk sl' st' => exact fun e => e
  | ct sl' st' => exact fun e => e
  | ret d st' => exact fun e => e
  | err c fs sl' st' => exact fun e => e
  | bad => exact fun e => e
theorem ss_one (h1 : PS X s (tS X.K W A)) : PSs X [s] (tS X.K W A) := pss_one h1
theorem s_pass : PS X (.Pass pos) (tS X.K W sPass) := impS ps_pass fun D σ H h => by
  obtain ⟨μ, sl, st, rl, rs, e⟩ := h
  exact e σ H μ (.refl _ _) rl rs
theorem s_break : PS X (.Break pos) (tS X.K W sBreak) := impS ps_break fun D σ H h => by
  obtain ⟨μ, sl, st, rl, rs, e⟩ := h
  exact e σ H μ (.refl _ _) rl rs
theorem s_cont : PS X (.Continue pos) (tS X.K W sCont) := impS ps_continue fun D σ H h => by
  obtain ⟨μ, sl, st, rl, rs, e⟩ := h
  exact e σ H μ (.refl _ _) rl rs
theorem s_expr (he : PE X e (tE X.K W m)) (hs : swapsWith e none pos.line X.env = pure false := by rfl) : PS X (.Expr e pos) (tS X.K W (sExpr m)) := impS (ps_expr he hs) fun D σ H h => by
  obtain ⟨μ, sl, st, rl, rs, e⟩ := h
  exact firstS rl rs e fun d st1 v H1 μ1 l rl1 rs1 rv e1 => e1 σ H1 μ1 (.refl _ _) rl1 rs1
theorem s_ret (he : PE X e (tE X.K W m)) : PS X (.Return (some e) pos) (tS X.K W (sRet m)) := impS (ps_ret he) fun D σ H h => by
  obtain ⟨μ, sl, st, rl, rs, e⟩ := h
  exact firstS rl rs e fun d st1 v H1 μ1 l rl1 rs1 rv e1 => e1 v H1 μ1 (.refl _ _) rs1 rv
theorem s_retN : PS X (.Return none pos) (tS X.K W sRetN) := impS ps_retN fun D σ H h => by
  obtain ⟨μ, sl, st, rl, rs, e⟩ := h
  exact e _ H μ (.refl _ _) rs .non
theorem s_if (hc : PT X c (tT X.K W m)) {a b : List Stmt} (ha : PSs X a (tS X.K W A)) (hb : PSs X b (tS X.K W B)) : PS X (.If c a b pos) (tS X.K W (sIf m A B)) := impS (ps_if hc ha hb) fun D σ H h => by
  obtain ⟨μ, sl, st, rl, rs, e⟩ := h
  refine firstS rl rs e fun d st1 v H1 μ1 l rl1 rs1 rv e1 => ?_
  cases rv <;> first | exact e1.elim | skip
  rename_i k
  cases k with
  | true => exact ⟨true, rfl, iteT ⟨μ1, sl, st1, rl1, rs1, e1⟩⟩
  | false => exact ⟨false, rfl, iteF ⟨μ1, sl, st1, rl1, rs1, e1⟩⟩
theorem s_set {i : Nat} {x : Str} {pos' : Pos} (hN : X.N.Nodup) (he : PE X e (tE X.K W m)) (hi : X.N[i]? = some x := by rfl) (hx : Loc X.env.scope x := by first | exact Or.inl rfl | exact Or.inr rfl) (hs : swapsWith e (some (.Name x pos')) pos.line X.env = pure false := by rfl)
    (hf : X.fn x = true ∨ X.env.scope.names.lookup x = some .local := by first | exact .inl rfl | exact .inr rfl | assumption) : PS X (.Assign [.Name x pos'] e pos) (tS X.K W (sSet i m)) := impS (ps_set hN hi hx he hs hf) fun D σ H h => by
  obtain ⟨μ, sl, st, rl, rs, e⟩ := h
  exact firstS rl rs e fun d st1 v H1 μ1 l rl1 rs1 rv e1 => e1 _ H1 μ1 (.refl _ _) (rl1.set rv i) rs1
def TwoI (K : PySem.W.Frag) (r : TIp) (g : G2) : Prop := Two K r g
theorem s_aug {i : Nat} {x : Str} {pos' : Pos} {op : Operator} {r : TIp} {g : G2} (hN : X.N.Nodup) (ho : PIp X op r) (t : Two X.K r g) (he : PE X e (tE X.K W m)) (hi : X.N[i]? = some x := by rfl) (hx : Loc X.env.scope x := by first | exact Or.inl rfl | exact Or.inr rfl)
    (hf : X.fn x = true ∨ X.env.scope.names.lookup x = some .local := by first | exact .inl rfl | exact .inr rfl | assumption) : PS X (.AugAssign (.Name x pos') op e pos) (tS X.K W (sAug i g m)) := impS (ps_aug hN hi hx he ho hf) fun D σ H h => by
  obtain ⟨μ, sl, st, rl, rs, e⟩ := h
  unfold sAug at e
  split at e
  · rename_i d0 hd0
    obtain ⟨v0, hv0, r0⟩ := rl.at_ i d0 hd0
    refine ⟨v0, hv0, firstS rl rs e fun d st1 v H1 μ1 l rl1 rs1 rv e1 => ?_⟩
    refine t W μ1 H1 σ st1 d0 d v0 v _ rs1 (r0.mono l) rv ?_
    revert e1
    cases g d0 d st1 with
    | ok z st2 => exact fun e1 vz H2 μ2 l2 rs2 rz => e1 _ H2 μ2 l2 ((rl1.mono l2).set rz i) rs2
    | err c fs st2 => exact fun e1 H' μ' dx vs l' rs' hd hn rv => e1 σ H' μ' dx vs l' (rl1.mono l') rs' hd hn rv
    | bad => exact fun e1 => e1
  · exact e.elim
end

/-! ### targets -/
abbrev Tg := D → Sl → Option Sl
def tgN (i : Nat) : Tg := fun d sl => some (sl.set i (some d))
abbrev Tgs := List D → Sl → Option Sl
def tgsNil : Tgs := fun ds sl => match ds with
  | [] => some sl
  | _ => none
def tgsCons (t : Tg) (u : Tgs) : Tgs := fun ds sl => match ds with
  | d :: r => match t d sl with
    | some sl' => u r sl'
    | none => none
  | [] => none
def tgT (t : Tgs) : Tg := fun d sl => match d with
  | .tup xs => t xs sl
  | _ => none
/-- what a target does, exactly: the slots at vs alone change -/
def TgOk (K : PySem.W.Frag) (g : TG) (t : Tg) (vs : List Nat) : Prop := ∀ μ H v σ d sl sl' Q, Rl K μ H σ sl → RV K μ H d v → t d sl = some sl' → (∀ σ', Rl K μ H σ' sl' → wipe σ' vs = wipe σ vs → Q σ' H) → g v σ H Q
def TgsOk (K : PySem.W.Frag) (g : TGs) (t : Tgs) (vs : List Nat) : Prop := ∀ μ H us σ ds sl sl' Q, Rl K μ H σ sl → RVs K μ H ds us → t ds sl = some sl' → (∀ σ', Rl K μ H σ' sl' → wipe σ' vs = wipe σ vs → Q σ' H) → g us σ H Q
theorem wipe_set {x : Option V} {i : Nat} : ∀ {vs : List Nat} {σ : L2.St}, i ∈ vs → wipe (σ.set i x) vs = wipe σ vs := by
  have out : ∀ (vs : List Nat) (σ : L2.St), i ∉ vs → wipe (σ.set i x) vs = (wipe σ vs).set i x := by
    intro vs
    induction vs with
    | nil => intro σ _; rfl
    | cons v vs ih =>
      intro σ h
      show (wipe (σ.set i x) vs).set v none = ((wipe σ vs).set v none).set i x
      rw [ih σ fun z => h (List.mem_cons_of_mem _ z), List.set_comm]
      exact fun z => h (by rw [z]; exact List.mem_cons_self)
  intro vs
  induction vs with
  | nil => intro σ h; cases h
  | cons v vs ih =>
    intro σ h
    show (wipe (σ.set i x) vs).set v none = (wipe σ vs).set v none
    by_cases hm : i ∈ vs
    · rw [ih hm]
    · rcases List.mem_cons.mp h with e | hm'
      · subst e
        rw [out vs σ hm, List.set_set]
      · exact absurd hm' hm
section
variable {K : PySem.W.Frag}
theorem tg_name {i : Nat} {vs : List Nat} (h : i ∈ vs) : TgOk K (gName i) (tgN i) vs := by
  intro μ H v σ d sl sl' Q rl rv e q
  cases e
  exact q _ (rl.set rv i) (wipe_set h)
theorem tgs_nil {vs : List Nat} : TgsOk K gNil tgsNil vs := by
  intro μ H us σ ds sl sl' Q rl rv e q
  cases rv with
  | nil => cases e; exact ⟨rfl, q σ rl rfl⟩
  | cons _ _ => cases e
theorem tgs_cons {g : TG} {gs : TGs} {t : Tg} {ts : Tgs} {vs : List Nat} (h : TgOk K g t vs) (h' : TgsOk K gs ts vs) : TgsOk K (gCons g gs) (tgsCons t ts) vs := by
  intro μ H us σ ds sl sl' Q rl rv e q
  cases rv with
  | nil => cases e
  | cons r rr =>
    rename_i d u ds us
    dsimp only [tgsCons] at e
    split at e
    · rename_i sl1 e1
      refine ⟨u, us, rfl, h μ H u σ d sl sl1 _ rl r e1 fun σ1 rl1 w1 => ?_⟩
      exact h' μ H us σ1 ds sl1 sl' Q rl1 rr e fun σ2 rl2 w2 => q σ2 rl2 (w2.trans w1)
    · cases e
theorem tg_tup {gs : TGs} {ts : Tgs} {vs : List Nat} {n : Nat} (h : TgsOk K gs ts vs) (hn : ∀ ds sl sl', ts ds sl = some sl' → ds.length = n) : TgOk K (gTup K n gs) (tgT ts) vs := by
  intro μ H v σ d sl sl' Q rl rv e q
  cases rv <;> first | cases e | skip
  rename_i a xs us hT r
  exact ⟨a, us, rfl, hT, by rw [← r.length]; exact hn _ _ _ e, h μ H us σ xs sl sl' Q rl r e q⟩
theorem tgsNil_len (ds : List D) (sl sl' : Sl) (h : tgsNil ds sl = some sl') : ds.length = 0 := by
  cases ds with
  | nil => rfl
  | cons _ _ => cases h
theorem tgsCons_len {t : Tg} {ts : Tgs} {n : Nat} (hn : ∀ ds sl sl', ts ds sl = some sl' → ds.length = n) (ds : List D) (sl sl' : Sl) (h : tgsCons t ts ds sl = some sl') : ds.length = n + 1 := by
  cases ds with
  | nil => cases h
  | cons d r =>
    dsimp only [tgsCons] at h
    split at h
    · rw [List.length_cons, hn _ _ _ h]
    · cases h
end
/-- target = e, the target of names -/
def sTgt (t : Tg) (e : E) : Sm := fun sl st => (e sl st).ob sl fun d st1 => match t d sl with
  | some sl' => .nx sl' st1
  | none => .bad
theorem s_tgt {X : Cx} {W : WX} {tg e : Expr} {m : E} {g : TG} {t : Tg} {vs : List Nat} {pos : Pos} (he : PE X e (tE X.K W m)) (hg : PG X tg g) (ht : TgOk X.K g t vs) (hs : swapsWithSole [tg] e pos.line X.env = pure false := by rfl) (hw : swappedStores [tg] e X.env = pure none := by rfl)
    (h1 : (assignEach [tg] X.env).map (·.2) = [assign tg X.env] := by rfl) : PS X (.Assign [tg] e pos) (tS X.K W (sTgt t m)) := impS (ps_asg he hg hs hw h1) fun D σ H h => by
  obtain ⟨μ, sl, st, rl, rs, e⟩ := h
  refine firstS rl rs e fun d st1 v H1 μ1 l rl1 rs1 rv e1 => ?_
  split at e1
  · rename_i sl' e2
    exact ht μ1 H1 v σ d sl sl' _ rl1 rv e2 fun σ' rl' _ => e1 σ' H1 μ1 (.refl _ _) rl' rs1
  · exact e1.elim
/-- o[i] = e -/
def sPut (e o i : E) : Sm := fun sl st => (e sl st).ob sl fun d st1 => (o sl st1).ob sl fun x st2 => (i sl st2).ob sl fun y st3 => match x, y with
  | .loc n, .int k => match st3[n]? with
    | some (.lst xs) => match ixN xs.length k with
      | some j => .nx sl (st3.set n (.lst (xs.set j d)))
      | none => .bad
    | _ => .bad
  | _, _ => .bad
theorem s_put {X : Cx} {W : WX} {e o i : Expr} {me mo mi : E} {pos tpos : Pos} (he : PE X e (tE X.K W me)) (ho : PE X o (tE X.K W mo)) (hi : PE X i (tE X.K W mi))
    (ha : ∀ v, assign (.Subscript o i tpos) X.env v = (do
      let ov ← holding [v] (eval o X.env)
      let iv ← holding [v, ov] (eval i X.env)
      standAt tpos
      holding [v, ov, iv] (setItem ov iv v)
      release [v, ov, iv] []) := by intro _; rfl)
    (hs : swapsWithSole [.Subscript o i tpos] e pos.line X.env = pure false := by rfl) (hw : swappedStores [.Subscript o i tpos] e X.env = pure none := by rfl)
    (h1 : (assignEach [.Subscript o i tpos] X.env).map (·.2) = [assign (.Subscript o i tpos) X.env] := by rfl) : PS X (.Assign [.Subscript o i tpos] e pos) (tS X.K W (sPut me mo mi)) := impS (ps_asg he (pg_sub ho hi set_list ha) hs hw h1) fun D σ H h => by
  obtain ⟨μ, sl, st, rl, rs, e⟩ := h
  refine firstS rl rs e fun d st1 v H1 μ1 l1 rl1 rs1 r1 e1 => ?_
  refine firstS rl1 rs1 e1 fun d2 st2 v2 H2 μ2 l2 rl2 rs2 r2 e2 => ?_
  refine firstS rl2 rs2 e2 fun d3 st3 v3 H3 μ3 l3 rl3 rs3 r3 e3 => ?_
  have r2' := r2.mono l3
  cases r2' <;> cases r3 <;> first | exact e3.elim | skip
  rename_i n a hn k
  dsimp only at e3
  split at e3
  · rename_i xs hx
    split at e3
    · rename_i j hj
      obtain ⟨vs, hv, rv⟩ := rs3.get hx hn
      have w := rs3.wrL hn (rv.set ((r1.mono l2).mono l3) j)
      exact ⟨a, vs, k, j, rfl, rfl, hv, by rw [← rv.length]; exact hj, e3 σ _ μ3 w.1 (rl3.mono w.1) w.2⟩
    · exact e3.elim
  · exact e3.elim
end Mi
set_option Elab.async false
set_option linter.all false
set_option maxRecDepth 100000
namespace Mi
open PySem PySem.Spec PyProof.Rows L2

mutual
def D.beq : D → D → Bool
  | .non, .non => true
  | .bl a, .bl b => a == b
  | .int i, .int j => i == j
  | .str x, .str y => decide (x = y)
  | .tup xs, .tup ys => D.beqs xs ys
  | .loc n, .loc m => n == m
  | .rol xs, .rol ys => D.beqs xs ys
  | .ty n, .ty m => decide (n = m)
  | .adr n, .adr m => decide (n = m)
  | _, _ => false
def D.beqs : List D → List D → Bool
  | [], [] => true
  | x :: xs, y :: ys => D.beq x y && D.beqs xs ys
  | _, _ => false
end
mutual
theorem D.beq_refl : ∀ d : D, D.beq d d = true
  | .non => rfl
  | .bl a => by simp [D.beq]
  | .int a => by simp [D.beq]
  | .str a => by simp [D.beq]
  | .tup xs => by rw [D.beq]; exact D.beqs_refl xs
  | .loc n => by simp [D.beq]
  | .rol xs => by rw [D.beq]; exact D.beqs_refl xs
  | .ty n => by simp [D.beq]
  | .adr n => by simp [D.beq]
theorem D.beqs_refl : ∀ ds : List D, D.beqs ds ds = true
  | [] => rfl
  | d :: ds => by rw [D.beqs, D.beq_refl d, D.beqs_refl ds]; rfl
end
mutual
theorem D.beq_eq : ∀ d e : D, D.beq d e = true → d = e
  | .non, e, h => by cases e <;> simp [D.beq] at h; rfl
  | .bl a, e, h => by cases e <;> simp [D.beq] at h; rw [h]
  | .int a, e, h => by cases e <;> simp [D.beq] at h; rw [h]
  | .str a, e, h => by cases e <;> simp [D.beq] at h; rw [h]
  | .tup xs, e, h => by cases e <;> simp [D.beq] at h; rw [D.beqs_eq xs _ h]
  | .loc n, e, h => by cases e <;> simp [D.beq] at h; rw [h]
  | .rol xs, e, h => by cases e <;> simp [D.beq] at h; rw [D.beqs_eq xs _ h]
  | .ty a, e, h => by cases e <;> simp [D.beq] at h; rw [h]
  | .adr a, e, h => by cases e <;> simp [D.beq] at h; rw [h]
theorem D.beqs_eq : ∀ ds es : List D, D.beqs ds es = true → ds = es
  | [], es, h => by cases es <;> simp [D.beqs] at h; rfl
  | d :: ds, es, h => by
    cases es with
    | nil => simp [D.beqs] at h
    | cons e es =>
      simp only [D.beqs, Bool.and_eq_true] at h
      rw [D.beq_eq d e h.1, D.beqs_eq ds es h.2]
end

/-! ### what is walked -/
/-- the items that come, and the place that must stand still (g) -/
structure Wsrc where
  items : List D
  g : Option Nat
def chk (g : Option Nat) (items : List D) (st : Sto) : Bool := match g with
  | none => true
  | some n => match st[n]? with
    | some (.lst ys) => D.beqs ys items
    | _ => false
theorem chk_some {n : Nat} {items : List D} {st : Sto} (h : st[n]? = some (.lst items)) : chk (some n) items st = true := by
  unfold chk
  dsimp only
  rw [h]
  exact D.beqs_refl _
theorem of_chk {n : Nat} {items : List D} {st : Sto} (h : chk (some n) items st = true) : st[n]? = some (.lst items) := by
  unfold chk at h
  dsimp only at h
  split at h
  · rename_i ys e
    rw [e, D.beqs_eq _ _ h]
  · cases h
abbrev Src := Sl → Sto → R Wsrc
structure Wk (K : PySem.W.Frag) (s : Wsrc) (μ0 : List Addr) (H0 : Hp) (J : It) : Prop where
  go : ∀ (i : Nat) (d : D) (μ : List Addr) (H : Hp) (st : Sto), TF μ0 H0 μ H → Rs K μ H st → chk s.g s.items st = true → s.items[i]? = some d →
    J.go i H ∧ ∀ x H', J.yld i H x H' → Le μ H μ H' ∧ Rs K μ H' st ∧ RV K μ H' d x
  stop : ∀ (i : Nat) (μ : List Addr) (H : Hp) (st : Sto), TF μ0 H0 μ H → Rs K μ H st → chk s.g s.items st = true → s.items.length ≤ i → J.stop i H
def EndI (K : PySem.W.Frag) (W : WX) (μ : List Addr) (H : Hp) (σ : L2.St) (r : R Wsrc) (Q : It → Hp → Prop) : Prop := match r with
  | .ok s st => ∀ J H' μ', Le μ H μ' H' → Rs K μ' H' st → Wk K s μ' H' J → Q J H'
  | .err c fs st => ∀ H' μ' dx vs, Le μ H μ' H' → Rs K μ' H' st → H' dx = some (.xd ((fs.map (·.1)).zip vs)) → dx ∉ μ' → RVs K μ' H' (fs.map (·.2)) vs → W (.ref c) (some dx) σ H'
  | .bad => False
def tI (K : PySem.W.Frag) (W : WX) (m : Src) : TI := fun σ H Q => ∃ μ sl st, Rl K μ H σ sl ∧ Rs K μ H st ∧ EndI K W μ H σ (m sl st) Q
theorem impI {X : Cx} {tg e : Expr} {t t' : TI} (h : PI X tg e t) (q : ∀ σ H Q, t' σ H Q → t σ H Q) : PI X tg e t' := ⟨fun pins s σ H Q I hw => h.run pins s σ H Q I (q _ _ _ hw)⟩
section
variable {K : PySem.W.Frag} {W : WX} {μ : List Addr} {H : Hp} {σ : L2.St} {sl : Sl} {st : Sto}
theorem firstI {Q : It → Hp → Prop} {Q' : VK} {m : E} {F : D → Sto → R Wsrc} (rl : Rl K μ H σ sl) (rs : Rs K μ H st) (h : EndI K W μ H σ ((m sl st).bind F) Q)
    (k : ∀ d st1 v H1 μ1, Le μ H μ1 H1 → Rl K μ1 H1 σ sl → Rs K μ1 H1 st1 → RV K μ1 H1 d v → EndI K W μ1 H1 σ (F d st1) Q → Q' v H1) : tE K W m σ H Q' := by
  refine ⟨μ, sl, st, rl, rs, ?_⟩
  revert h
  cases m sl st with
  | ok d st1 =>
    refine fun h v H1 μ1 l rs1 rv => k d st1 v H1 μ1 l (rl.mono l) rs1 rv ?_
    revert h
    show EndI K W μ H σ (F d st1) Q → _
    cases F d st1 with
    | ok s st2 => exact fun h J H' μ' l' => h J H' μ' (l.trans l')
    | err c fs st2 => exact fun h H' μ' dx vs l' => h H' μ' dx vs (l.trans l')
    | bad => exact fun h => h
  | err c fs st1 => exact fun h => h
  | bad => exact fun h => h
theorem firstAI {Q : It → Hp → Prop} {Q' : List V → Hp → Prop} {m : As} {F : List D → Sto → R Wsrc} (rl : Rl K μ H σ sl) (rs : Rs K μ H st) (h : EndI K W μ H σ ((m sl st).bind F) Q)
    (k : ∀ d st1 v H1 μ1, Le μ H μ1 H1 → Rl K μ1 H1 σ sl → Rs K μ1 H1 st1 → RVs K μ1 H1 d v → EndI K W μ1 H1 σ (F d st1) Q → Q' v H1) : tA K W m σ H Q' := by
  refine ⟨μ, sl, st, rl, rs, ?_⟩
  revert h
  cases m sl st with
  | ok d st1 =>
    refine fun h v H1 μ1 l rs1 rv => k d st1 v H1 μ1 l (rl.mono l) rs1 rv ?_
    revert h
    show EndI K W μ H σ (F d st1) Q → _
    cases F d st1 with
    | ok s st2 => exact fun h J H' μ' l' => h J H' μ' (l.trans l')
    | err c fs st2 => exact fun h H' μ' dx vs l' => h H' μ' dx vs (l.trans l')
    | bad => exact fun h => h
  | err c fs st1 => exact fun h => h
  | bad => exact fun h => h
end
/-- a list that stands still, at a -/
theorem wk_list {K : PySem.W.Frag} {μ0 : List Addr} {H0 : Hp} {a : Addr} {s : Wsrc} (h : ∀ μ H st, TF μ0 H0 μ H → Rs K μ H st → chk s.g s.items st = true → ∃ vs, SqL K H a vs ∧ RVs K μ H s.items vs) : Wk K s μ0 H0 (Itl K a) where
  go := fun i d μ H st l rs hc hd => by
    obtain ⟨vs, hs, r⟩ := h μ H st l rs hc
    obtain ⟨v, hv, rv⟩ := r.get hd
    refine ⟨⟨vs, v, hs, hv⟩, fun x H' y => ?_⟩
    obtain ⟨e, y⟩ := y
    subst e
    have e2 : v = x := Option.some.inj (hv.symm.trans (y vs hs))
    subst e2
    exact ⟨.refl _ _, rs, rv⟩
  stop := fun i μ H st l rs hc hi => by
    obtain ⟨vs, hs, r⟩ := h μ H st l rs hc
    exact ⟨vs, hs, by rw [← r.length]; exact hi⟩
theorem wk_tup {K : PySem.W.Frag} {μ0 : List Addr} {H0 : Hp} {a : Addr} {xs : List D} {vs : List V} (h : SqT K H0 a vs) (r : RVs K μ0 H0 xs vs) : Wk K ⟨xs, none⟩ μ0 H0 (Itt K a) where
  go := fun i d μ H st l rs hc hd => by
    have hs := l.sqT h
    obtain ⟨v, hv, rv⟩ := (r.tf l).get hd
    refine ⟨⟨vs, v, hs, hv⟩, fun x H' y => ?_⟩
    obtain ⟨e, y⟩ := y
    subst e
    have e2 : v = x := Option.some.inj (hv.symm.trans (y vs hs))
    subst e2
    exact ⟨.refl _ _, rs, rv⟩
  stop := fun i μ H st l rs hc hi => ⟨vs, l.sqT h, by rw [← r.length]; exact hi⟩
def rangeD (lo : Int) (n : Nat) : List D := (List.range n).map fun k => .int (lo + (k : Nat))
theorem wk_rng {K : PySem.W.Frag} {μ0 : List Addr} {H0 : Hp} {lo : Int} {n : Nat} : Wk K ⟨rangeD lo n, none⟩ μ0 H0 (Itr lo n) where
  go := fun i d μ H st l rs hc hd => by
    have hl := (List.getElem?_eq_some_iff.mp hd).1
    have hl : i < n := by simpa [rangeD] using hl
    have e : d = .int (lo + (i : Nat)) := by
      have : (rangeD lo n)[i]? = some (.int (lo + (i : Nat))) := by simp [rangeD, hl]
      exact Option.some.inj (hd.symm.trans this)
    subst e
    refine ⟨hl, fun x H' y => ?_⟩
    obtain ⟨e, y⟩ := y
    subst e; subst y
    exact ⟨.refl _ _, rs, .int _⟩
  stop := fun i μ H st l rs hc hi => by
    show n ≤ i
    simpa [rangeD] using hi
/-- for x in a list, a list that stands still, or a tuple: pi_list -/
def wList (e : E) : Src := fun sl st => (e sl st).bind fun d st1 => match d with
  | .loc n => match st1[n]? with
    | some (.lst xs) => .ok ⟨xs, some n⟩ st1
    | _ => .bad
  | .rol xs => .ok ⟨xs, none⟩ st1
  | _ => .bad
def wTup (e : E) : Src := fun sl st => (e sl st).bind fun d st1 => match d with
  | .tup xs => .ok ⟨xs, none⟩ st1
  | _ => .bad
def wRng1 (a : As) : Src := fun sl st => (a sl st).bind fun ds st1 => match ds with
  | [.int j] => if -(2 ^ 62) ≤ j ∧ j < 2 ^ 62 then .ok ⟨rangeD 0 j.toNat, none⟩ st1 else .bad
  | _ => .bad
def wRng2 (a : As) : Src := fun sl st => (a sl st).bind fun ds st1 => match ds with
  | [.int i, .int j] => if -(2 ^ 62) ≤ i ∧ i < 2 ^ 62 ∧ -(2 ^ 62) ≤ j ∧ j < 2 ^ 62 then .ok ⟨rangeD i (j - i).toNat, none⟩ st1 else .bad
  | _ => .bad
section
variable {X : Cx} {W : WX} {tg e : Expr} {m : E} {p pos : Pos} {a b : Expr} {A : As}
theorem i_list (he : PE X e (tE X.K W m)) : PI X tg e (tI X.K W (wList m)) := impI (pi_list he) fun σ H Q h => by
  obtain ⟨μ, sl, st, rl, rs, e⟩ := h
  refine firstI rl rs e fun d st1 v H1 μ1 l rl1 rs1 rv e1 => ?_
  cases rv <;> first | exact e1.elim | skip
  · rename_i n a hn
    dsimp only at e1
    split at e1
    · rename_i xs hx
      obtain ⟨vs, hv, _⟩ := rs1.get hx hn
      refine ⟨a, rfl, ⟨vs, .of hv⟩, e1 _ H1 μ1 (.refl _ _) rs1 (wk_list fun μ2 H2 st2 l2 rs2 hc => ?_)⟩
      obtain ⟨us, hu, r⟩ := rs2.get (of_chk hc) (l2.at_ _ _ hn)
      exact ⟨us, .of hu, r⟩
    · exact e1.elim
  · rename_i a xs vs hf r
    exact ⟨a, rfl, ⟨vs, hf.sq⟩, e1 _ H1 μ1 (.refl _ _) rs1 (wk_list fun μ2 H2 st2 l2 rs2 hc => ⟨vs, (l2.frzd hf).sq, r.tf l2⟩)⟩
theorem i_tup (he : PE X e (tE X.K W m)) : PI X tg e (tI X.K W (wTup m)) := impI (pi_tup he) fun σ H Q h => by
  obtain ⟨μ, sl, st, rl, rs, e⟩ := h
  refine firstI rl rs e fun d st1 v H1 μ1 l rl1 rs1 rv e1 => ?_
  cases rv <;> first | exact e1.elim | skip
  rename_i a xs vs ht r
  exact ⟨a, rfl, ⟨vs, ht⟩, e1 _ H1 μ1 (.refl _ _) rs1 (wk_tup ht r)⟩
theorem RVs.one {K : PySem.W.Frag} {μ : List Addr} {H : Hp} {d : D} {vs : List V} (r : RVs K μ H [d] vs) : ∃ v, vs = [v] ∧ RV K μ H d v := by
  cases r with
  | cons r rr => cases rr; exact ⟨_, rfl, r⟩
theorem RVs.two {K : PySem.W.Frag} {μ : List Addr} {H : Hp} {d e : D} {vs : List V} (r : RVs K μ H [d, e] vs) : ∃ v u, vs = [v, u] ∧ RV K μ H d v ∧ RV K μ H e u := by
  cases r with
  | cons r rr =>
    obtain ⟨u, rfl, q⟩ := rr.one
    exact ⟨_, _, rfl, r, q⟩
theorem i_rng1 (hm : X.mg "range" = none) (ha : PA X [a] (tA X.K W A)) (hg : Gl X "range" := by rfl) (hs : starEach [a] X.env = [(false, eval a X.env)] := by rfl) : PI X tg (.Call (.Name "range" p) [a] [] pos) (tI X.K W (wRng1 A)) := impI (pi_range1 hg hm ha hs) fun σ H Q h => by
  obtain ⟨μ, sl, st, rl, rs, e⟩ := h
  refine firstAI rl rs e fun ds st1 vs H1 μ1 l rl1 rs1 rv e1 => ?_
  split at e1
  · rename_i j
    split at e1
    · rename_i hj
      obtain ⟨v, rfl, r⟩ := rv.one
      cases r
      exact ⟨j, rfl, hj.1, hj.2, e1 _ H1 μ1 (.refl _ _) rs1 wk_rng⟩
    · exact e1.elim
  · exact e1.elim
theorem i_rng2 (hm : X.mg "range" = none) (ha : PA X [a, b] (tA X.K W A)) (hg : Gl X "range" := by rfl) (hs : starEach [a, b] X.env = [(false, eval a X.env), (false, eval b X.env)] := by rfl) (hs2 : starEach [b] X.env = [(false, eval b X.env)] := by rfl) : PI X tg (.Call (.Name "range" p) [a, b] [] pos) (tI X.K W (wRng2 A)) := impI (pi_range2 hg hm ha hs hs2) fun σ H Q h => by
  obtain ⟨μ, sl, st, rl, rs, e⟩ := h
  refine firstAI rl rs e fun ds st1 vs H1 μ1 l rl1 rs1 rv e1 => ?_
  split at e1
  · rename_i i j
    split at e1
    · rename_i hj
      obtain ⟨v, u, rfl, r, q⟩ := rv.two
      cases r; cases q
      exact ⟨i, j, rfl, hj, e1 _ H1 μ1 (.refl _ _) rs1 wk_rng⟩
    · exact e1.elim
  · exact e1.elim
end

/-! ### for -/
def forGo (g : Option Nat) (all : List D) (t : Tg) (b : Sm) : List D → Sl → Sto → O
  | [], sl, st => if chk g all st = true then .nx sl st else .bad
  | d :: ds, sl, st => if chk g all st = true then match t d sl with
      | some sl' => match b sl' st with
        | .nx sl2 st2 => forGo g all t b ds sl2 st2
        | .ct sl2 st2 => forGo g all t b ds sl2 st2
        | .bk sl2 st2 => .nx sl2 st2
        | .ret v st2 => .ret v st2
        | .err c fs sl2 st2 => .err c fs sl2 st2
        | .bad => .bad
      | none => .bad
    else .bad
def sFor (s : Src) (t : Tg) (b : Sm) : Sm := fun sl st => (s sl st).ob sl fun w st1 => forGo w.g w.items t b w.items sl st1
theorem s_for {X : Cx} {W : WX} {tg iter : Expr} {body : List Stmt} {s : Src} {g : TG} {t : Tg} {vs : List Nat} {b : Sm} {pos : Pos} (hp : PassesOwn (model X.prog X.w) X.A X.env X.xe) (hc : X.calm = true) (hi : PI X tg iter (tI X.K W s)) (hg : PG X tg g) (ht : TgOk X.K g t vs) (hb : PSs X body (tS X.K W b))
    (hs : ∀ x, foldedSetIterable iter X.env x = pure x := by intro _; rfl) : PS X (.For tg iter body [] pos) (tS X.K W (sFor s t b)) := impS (ps_for hp hc hi hg hb hs) fun D σ H h => by
  obtain ⟨μ, sl, st, rl, rs, e⟩ := h
  refine ⟨μ, sl, st, rl, rs, ?_⟩
  unfold sFor at e
  revert e
  cases s sl st with
  | err c fs st1 => exact fun e H' μ' dx vs l rs1 hd hn rv => e σ H' μ' dx vs l (rl.mono l) rs1 hd hn rv
  | bad => exact fun e => e
  | ok w st1 =>
    intro e J H1 μ1 l1 rs1 wk
    have e : EndS X.K W μ H (forGo w.g w.items t b w.items sl st1) D := e
    refine ⟨fun i m σ2 H2 => ∃ μ2 sl2 st2, Le μ1 H1 μ2 H2 ∧ Rl X.K μ2 H2 σ2 sl2 ∧ Rs X.K μ2 H2 st2 ∧ m = w.items.length - i ∧ i ≤ w.items.length ∧ EndS X.K W μ2 H2 (forGo w.g w.items t b (w.items.drop i) sl2 st2) D,
      ⟨w.items.length, μ1, sl, st1, .refl _ _, rl.mono l1, rs1, by simp, Nat.zero_le _, by rw [List.drop_zero]; exact e.on l1⟩, fun i m σ2 H2 hw => ?_⟩
    obtain ⟨μ2, sl2, st2, l2, rl2, rs2, rfl, hi, e2⟩ := hw
    by_cases hlt : i < w.items.length
    · rw [List.drop_eq_getElem_cons hlt] at e2
      unfold forGo at e2
      split at e2
      · rename_i hc2
        split at e2
        · rename_i sl3 et
          obtain ⟨hgo, hy⟩ := wk.go i w.items[i] μ2 H2 st2 l2.tf rs2 hc2 (List.getElem?_eq_getElem hlt)
          refine .inr ⟨hgo, fun σ4 H4 => ∃ μ4 sl4 st4, Le μ1 H1 μ4 H4 ∧ Rl X.K μ4 H4 σ4 sl4 ∧ Rs X.K μ4 H4 st4 ∧ EndS X.K W μ4 H4 (forGo w.g w.items t b (w.items.drop (i + 1)) sl4 st4) D, fun σ4 H4 hN => ?_, fun x H3 y3 => ?_⟩
          · obtain ⟨μ4, sl4, st4, l4, rl4, rs4, e4⟩ := hN
            exact ⟨w.items.length - (i + 1), by omega, μ4, sl4, st4, l4, rl4, rs4, rfl, hlt, e4⟩
          · obtain ⟨l3, rs3, rv3⟩ := hy x H3 y3
            refine ht μ2 H3 x σ2 _ sl2 sl3 _ (rl2.mono l3) rv3 et fun σ5 rl5 _ => ?_
            refine ⟨μ2, sl3, st2, rl5, rs3, ?_⟩
            revert e2
            cases b sl3 st2 with
            | nx sl6 st6 => exact fun e2 σ6 H6 μ6 l6 rl6 rs6 => ⟨μ6, sl6, st6, (l2.trans l3).trans l6, rl6, rs6, e2.on (l3.trans l6)⟩
            | ct sl6 st6 => exact fun e2 σ6 H6 μ6 l6 rl6 rs6 => ⟨μ6, sl6, st6, (l2.trans l3).trans l6, rl6, rs6, e2.on (l3.trans l6)⟩
            | bk sl6 st6 => exact fun e2 σ6 H6 μ6 l6 => e2 σ6 H6 μ6 (l3.trans l6)
            | ret v st6 => exact fun e2 v6 H6 μ6 l6 => e2 v6 H6 μ6 (l3.trans l6)
            | err c fs sl6 st6 => exact fun e2 σ6 H6 μ6 dx vs l6 => e2 σ6 H6 μ6 dx vs (l3.trans l6)
            | bad => exact fun e2 => e2
        · exact e2.elim
      · exact e2.elim
    · rw [List.drop_eq_nil_of_le (by omega)] at e2
      unfold forGo at e2
      split at e2
      · rename_i hc2
        exact .inl ⟨wk.stop i μ2 H2 st2 l2.tf rs2 hc2 (by omega), e2 σ2 H2 μ2 (.refl _ _) rl2 rs2⟩
      · exact e2.elim

/-! ### while -/
def whileGo (c : E) (b : Sm) : Nat → Sl → Sto → O
  | 0, _, _ => .bad
  | k + 1, sl, st => (c sl st).ob sl fun d st1 => match d with
    | .bl true => match b sl st1 with
      | .nx sl2 st2 => whileGo c b k sl2 st2
      | .ct sl2 st2 => whileGo c b k sl2 st2
      | .bk sl2 st2 => .nx sl2 st2
      | .ret v st2 => .ret v st2
      | .err c fs sl2 st2 => .err c fs sl2 st2
      | .bad => .bad
    | .bl false => .nx sl st1
    | _ => .bad
theorem s_while {X : Cx} {W : WX} {c : Expr} {body : List Stmt} {m : E} {b : Sm} {pos : Pos} (k : Nat) (hp : PassesOwn (model X.prog X.w) X.A X.env X.xe) (hc : PT X c (tT X.K W m)) (hb : PSs X body (tS X.K W b)) : PS X (.While c body [] pos) (tS X.K W (whileGo m b k)) := impS (ps_while hp hc hb) fun D σ H h => by
  obtain ⟨μ, sl, st, rl, rs, e⟩ := h
  refine ⟨fun n σ2 H2 => ∃ μ2 sl2 st2, Rl X.K μ2 H2 σ2 sl2 ∧ Rs X.K μ2 H2 st2 ∧ EndS X.K W μ2 H2 (whileGo m b n sl2 st2) D, ⟨k, μ, sl, st, rl, rs, e⟩, fun n σ2 H2 hw => ?_⟩
  obtain ⟨μ2, sl2, st2, rl2, rs2, e2⟩ := hw
  cases n with
  | zero => exact e2.elim
  | succ n =>
    refine firstS rl2 rs2 e2 fun d st3 v H3 μ3 l3 rl3 rs3 rv e3 => ?_
    cases rv <;> first | exact e3.elim | skip
    rename_i q
    cases q with
    | false => exact ⟨false, rfl, iteF (e3 σ2 H3 μ3 (.refl _ _) rl3 rs3)⟩
    | true =>
      refine ⟨true, rfl, iteT ⟨fun σ4 H4 => ∃ μ4 sl4 st4, Rl X.K μ4 H4 σ4 sl4 ∧ Rs X.K μ4 H4 st4 ∧ EndS X.K W μ4 H4 (whileGo m b n sl4 st4) D, fun σ4 H4 hN => ⟨n, Nat.lt_succ_self n, hN⟩, μ3, sl2, st3, rl3, rs3, ?_⟩⟩
      dsimp only at e3
      revert e3
      cases b sl2 st3 with
      | nx sl6 st6 => exact fun e2 σ6 H6 μ6 l6 rl6 rs6 => ⟨μ6, sl6, st6, rl6, rs6, e2.on l6⟩
      | ct sl6 st6 => exact fun e2 σ6 H6 μ6 l6 rl6 rs6 => ⟨μ6, sl6, st6, rl6, rs6, e2.on l6⟩
      | bk sl6 st6 => exact fun e2 => e2
      | ret v st6 => exact fun e2 => e2
      | err c fs sl6 st6 => exact fun e2 => e2
      | bad => exact fun e2 => e2
end Mi
set_option Elab.async false
set_option linter.all false
set_option maxRecDepth 100000
namespace Mi
open PySem PySem.Spec PyProof.Rows L2

/-- no exception leaves -/
abbrev W0 : WX := fun _ _ _ _ => False
def R.calm {α : Type} (r : R α) : R α := match r with
  | .ok a st => .ok a st
  | .err _ _ _ => .bad
  | .bad => .bad

/-! ### [elt for target in iter if test] -/
def wipeD (sl : Sl) : List Nat → Sl
  | [] => sl
  | v :: vs => (wipeD sl vs).set v none
theorem Rl.unset {K : PySem.W.Frag} {μ : List Addr} {H : Hp} {σ : L2.St} {sl : Sl} (r : Rl K μ H σ sl) (i : Nat) : Rl K μ H (σ.set i none) (sl.set i none) := ⟨by simp [r.len], fun j e h => by
  rw [List.getElem?_set] at h
  rw [List.getElem?_set]
  split at h
  · split at h <;> cases h
  · rename_i hij
    rw [if_neg hij]
    exact r.at_ j e h⟩
theorem Rl.wipe {K : PySem.W.Frag} {μ : List Addr} {H : Hp} {σ : L2.St} {sl : Sl} (r : Rl K μ H σ sl) : ∀ vs : List Nat, Rl K μ H (L2.wipe σ vs) (wipeD sl vs)
  | [] => r
  | v :: vs => (Rl.wipe r vs).unset v
def lcGo (g : Option Nat) (all : List D) (t : Tg) (c e : E) (sl0 : Sl) : List D → Sto → R (List D)
  | [], st => if chk g all st = true then .ok [] st else .bad
  | d :: ds, st => if chk g all st = true then match t d sl0 with
      | some sl => (c sl st).bind fun b st1 => match b with
        | .bl true => (e sl st1).bind fun y st2 => (lcGo g all t c e sl0 ds st2).bind fun ys st3 => .ok (y :: ys) st3
        | .bl false => lcGo g all t c e sl0 ds st1
        | _ => .bad
      | none => .bad
    else .bad
def eLc (s : Src) (t : Tg) (c e : E) (vs : List Nat) : E := fun sl st => (s sl st).bind fun w st1 => if w.items.length ≤ sizeLine then
  (lcGo w.g w.items t c e (wipeD sl vs) w.items st1).calm.bind fun ys st2 => .ok (.loc st2.length) (st2 ++ [.lst ys]) else .bad
def eYes : E := eC (.bl true)
theorem calm_bind_bad {α β : Type} {f : α → Sto → R β} : (R.calm (.bad : R α)).bind f = .bad := rfl
theorem R.bind_ok {α β : Type} {r : R α} {f : α → Sto → R β} {b : β} {st : Sto} (h : r.bind f = .ok b st) : ∃ a st1, r = .ok a st1 ∧ f a st1 = .ok b st := by
  cases r with
  | ok a st1 => exact ⟨a, st1, rfl, h⟩
  | err _ _ _ => cases h
  | bad => cases h
theorem R.calm_ok {α : Type} {r : R α} {a : α} {st : Sto} (h : r.calm = .ok a st) : r = .ok a st := by
  cases r with
  | ok _ _ => exact h
  | err _ _ _ => cases h
  | bad => cases h
section
variable {K : PySem.W.Frag} {μ μ1 μ2 : List Addr} {H H1 H2 H' : Hp} {L : Addr} {o : HO}
/-- a thing at L that was not there at the base -/
theorem Le.skip (hL : H1 L = none) (l : Le μ1 H1 μ2 H2) : Le μ1 H1 μ2 (upd H2 L o) :=
  ⟨l.ext, l.new, fun a xs e => by rw [upd_ne (ne_of_none e hL)]; exact l.tup a xs e, fun a ob u e => by rw [upd_ne (ne_of_none e hL)]; exact l.frz a ob u e, fun a ob n e => by rw [upd_ne (ne_of_none e hL)]; exact l.keep a ob n e⟩
theorem Le.incl (hL : H1 L = none) (l : Le μ1 H1 μ2 H2) : Le μ1 H1 (μ2 ++ [L]) H2 :=
  ⟨by
    obtain ⟨ν, e⟩ := l.ext
    exact ⟨ν ++ [L], by rw [e, List.append_assoc]⟩, fun a ha hn => by
    rcases List.mem_append.mp ha with h | h
    · exact l.new a h hn
    · have e : a = L := by simpa using h
      rw [e]; exact hL, l.tup, l.frz, l.keep⟩
/-- a list at L that is no place is written: nothing of the store is touched -/
theorem TF.wr {xs : List V} (h : H L = some (.lst xs)) : TF μ H μ (upd H L o) :=
  ⟨fun _ _ h => h, fun a ys e => by rw [upd_ne (ne_of e h (by intro z; cases z))]; exact e, fun a ob u e => by rw [upd_ne (ne_of e h (by intro z; cases z))]; exact e⟩
theorem Rs.off {st : Sto} {xs : List V} (r : Rs K μ H st) (h : H L = some (.lst xs)) (hn : L ∉ μ) : Rs K μ (upd H L o) st := r.tf (.wr h) fun a ha => upd_ne fun e => hn (e ▸ ha)
theorem Le.out (l : Le μ1 H1 μ2 H2) (hn : L ∉ μ1) (h : H1 L ≠ none) : L ∉ μ2 := fun hm => h (l.new L hm hn)
end
theorem wipe_sub {σ : L2.St} {vs : List Nat} : ∀ {us : List Nat}, (∀ u ∈ us, u ∈ vs) → L2.wipe (L2.wipe σ us) vs = L2.wipe σ vs
  | [], _ => rfl
  | u :: us, h => by
    show L2.wipe ((L2.wipe σ us).set u none) vs = _
    rw [wipe_set (h u List.mem_cons_self)]
    exact wipe_sub fun v hv => h v (List.mem_cons_of_mem _ hv)
theorem wipe_idem {σ : L2.St} {vs : List Nat} : L2.wipe (L2.wipe σ vs) vs = L2.wipe σ vs := wipe_sub fun _ h => h
/-- tests of a clause -/
theorem c_yes {X : Cx} {W : WX} : PTs X [] (tT X.K W eYes) := ⟨fun pins s σ H Q I h => pts_nil.run pins s σ H Q I (by
  obtain ⟨μ, sl, st, rl, rs, e⟩ := h
  obtain ⟨c, e, q⟩ := e.go rs (.bl true)
  cases e
  exact q)⟩
theorem c_if {X : Cx} {W : WX} {c : Expr} {m : E} (h : PT X c (tT X.K W m)) : PTs X [c] (tT X.K W m) := pts_one h
section
variable {X : Cx} {W : WX} {elt tg iter : Expr} {ifs : List Expr} {scope : Scope} {own : List (Str × Nat)} {pos : Pos} {s : Src} {g : TG} {t : Tg} {c e : E}
theorem lc_of {σ : L2.St} {H : Hp} {Q : VK} {vs : List Nat} (ht : TgOk X.K g t vs) (h : tE X.K W (eLc s t c e vs) σ H Q) : tLc (tI X.K W s) g (tT X.K W0 c) (tE X.K W0 e) vs σ H Q := by
  obtain ⟨μ, sl, st, rl, rs, h⟩ := h
  refine ⟨μ, sl, st, rl, rs, ?_⟩
  unfold eLc at h
  revert h
  cases s sl st with
  | err k fs st1 => exact fun h => h
  | bad => exact fun h => h
  | ok w st1 =>
    intro h J H1 μ1 l1 rs1 wk L hL
    have h : End X.K W μ H σ (if w.items.length ≤ sizeLine then (lcGo w.g w.items t c e (wipeD sl vs) w.items st1).calm.bind fun ys st2 => .ok (.loc st2.length) (st2 ++ [.lst ys]) else .bad) Q := h
    split at h
    case isFalse => exact h.elim
    rename_i hz
    obtain ⟨ys, stF, hF⟩ : ∃ ys stF, lcGo w.g w.items t c e (wipeD sl vs) w.items st1 = .ok ys stF := by
      revert h
      cases lcGo w.g w.items t c e (wipeD sl vs) w.items st1 with
      | ok ys st2 => exact fun _ => ⟨ys, st2, rfl⟩
      | err _ _ _ => exact fun h => h.elim
      | bad => exact fun h => h.elim
    rw [hF] at h
    have h : End X.K W μ H σ (.ok (.loc stF.length) (stF ++ [.lst ys])) Q := h
    have nL : L ∉ μ1 := rs1.fresh hL
    refine ⟨fun i m H2 => ∃ μ2 st2 acc av rest, H2 L = some (.lst av) ∧ RVs X.K μ2 H2 acc av ∧ Le μ1 H1 μ2 H2 ∧ L ∉ μ2 ∧ Rl X.K μ2 H2 (L2.wipe σ vs) (wipeD sl vs) ∧ Rs X.K μ2 H2 st2 ∧ m = w.items.length - i ∧ i ≤ w.items.length ∧ acc.length ≤ i ∧
      lcGo w.g w.items t c e (wipeD sl vs) (w.items.drop i) st2 = .ok rest stF ∧ ys = acc ++ rest,
      ⟨w.items.length, μ1, st1, [], [], ys, upd_same, .nil, .laid hL, nL, ((rl.mono l1).mono (.laid hL)).wipe vs, rs1.laid hL, by simp, Nat.zero_le _, Nat.le_refl _, by rw [List.drop_zero]; exact hF, rfl⟩, fun i m H2 hw => ?_⟩
    obtain ⟨μ2, st2, acc, av, rest, hv, ra, l2, n2, rl2, rs2, rfl, hi, hacc, hrun, hys⟩ := hw
    by_cases hlt : i < w.items.length
    · rw [List.drop_eq_getElem_cons hlt] at hrun
      unfold lcGo at hrun
      split at hrun
      case isFalse => cases hrun
      rename_i hc2
      split at hrun
      case h_2 => cases hrun
      rename_i sl3 et
      obtain ⟨hgo, hy⟩ := wk.go i w.items[i] μ2 H2 st2 l2.tf rs2 hc2 (List.getElem?_eq_getElem hlt)
      refine .inr ⟨hgo, fun H6 => ∃ μ6 st6 acc av rest, H6 L = some (.lst av) ∧ RVs X.K μ6 H6 acc av ∧ Le μ1 H1 μ6 H6 ∧ L ∉ μ6 ∧ Rl X.K μ6 H6 (L2.wipe σ vs) (wipeD sl vs) ∧ Rs X.K μ6 H6 st6 ∧ acc.length ≤ i + 1 ∧
        lcGo w.g w.items t c e (wipeD sl vs) (w.items.drop (i + 1)) st6 = .ok rest stF ∧ ys = acc ++ rest, fun H6 hN => ?_, fun x H3 y3 => ?_⟩
      · obtain ⟨μ6, st6, acc6, av6, rest6, a1, a2, a3, a4, a5, a6, a7, a8, a9⟩ := hN
        exact ⟨w.items.length - (i + 1), by omega, μ6, st6, acc6, av6, rest6, a1, a2, a3, a4, a5, a6, rfl, hlt, a7, a8, a9⟩
      · obtain ⟨l3, rs3, rv3⟩ := hy x H3 y3
        refine ht μ2 H3 x _ _ _ sl3 _ (rl2.mono l3) rv3 et fun σ5 rl5 hw5 => ⟨hw5.trans wipe_idem, ?_⟩
        obtain ⟨b, st4, hc4, hrun⟩ := R.bind_ok hrun
        refine ⟨μ2, sl3, st2, rl5, rs3, ?_⟩
        rw [hc4]
        intro v4 H4 μ4 l4 rs4 rv4
        have h3 : H3 L = some (.lst av) := l3.keep L _ n2 hv
        have h4 : H4 L = some (.lst av) := l4.keep L _ n2 h3
        have n4 : L ∉ μ4 := l4.out n2 (by rw [h3]; simp)
        cases rv4 <;> first | cases hrun | skip
        rename_i k
        cases k with
        | false =>
          refine ⟨false, rfl, iteF ?_⟩
          exact ⟨μ4, st4, acc, av, rest, h4, ra.mono (l3.trans l4), l2.trans (l3.trans l4), n4, rl2.mono (l3.trans l4), rs4, Nat.le_succ_of_le hacc, hrun, hys⟩
        | true =>
          refine ⟨true, rfl, iteT ?_⟩
          obtain ⟨yd, st5, he5, hrun⟩ := R.bind_ok hrun
          obtain ⟨rest', stF', hr6, hfin⟩ := R.bind_ok hrun
          cases hfin
          refine ⟨μ4, sl3, st4, rl5.mono l4, rs4, ?_⟩
          rw [he5]
          intro yv H5 μ5 l5 rs5 ry
          have h5 : H5 L = some (.lst av) := l5.keep L _ n4 h4
          have n5 : L ∉ μ5 := l5.out n4 (by rw [h4]; simp)
          have l6 := (l3.trans l4).trans l5
          refine ⟨av, h5, ?_, μ5, st5, acc ++ [yd], av ++ [yv], rest', upd_same, ?_, (l2.trans l6).skip hL, n5, (rl2.mono l6).tf (.wr h5), rs5.off h5 n5, ?_, hr6, ?_⟩
          · have := ra.length
            omega
          · exact ((ra.mono l6).append (.cons ry .nil)).tf (.wr h5)
          · rw [List.length_append]
            simp
            omega
          · rw [hys, List.append_assoc]
            rfl
    · rw [List.drop_eq_nil_of_le (by omega)] at hrun
      unfold lcGo at hrun
      split at hrun
      case isFalse => cases hrun
      rename_i hc2
      cases hrun
      have hle := (l1.trans (l2.incl hL))
      refine .inl ⟨wk.stop i μ2 H2 stF l2.tf rs2 hc2 (by omega), ?_⟩
      refine h (.ref L) H2 (μ2 ++ [L]) hle ?_ (.loc ?_)
      · refine ⟨by simp [rs2.len], ?_, fun n ob a e1 e2 => ?_⟩
        · rw [List.nodup_append]
          exact ⟨rs2.nd, by simp, fun a ha b hb => by
            have e : b = L := by simpa using hb
            subst e
            exact fun z => n2 (z ▸ ha)⟩
        · have tf : TF μ2 H2 (μ2 ++ [L]) H2 := ⟨fun n a q => by
            rw [List.getElem?_append_left (List.getElem?_eq_some_iff.mp q).1]; exact q, fun _ _ q => q, fun _ _ _ q => q⟩
          by_cases hl : n < stF.length
          · rw [List.getElem?_append_left hl] at e1
            rw [List.getElem?_append_left (by rw [rs2.len]; exact hl)] at e2
            exact (rs2.ob n ob a e1 e2).tf tf rfl
          · have hl1 := (List.getElem?_eq_some_iff.mp e1).1
            have hn' : n = stF.length := by simp at hl1; omega
            subst hn'
            rw [List.getElem?_append_right (Nat.le_refl _)] at e1
            rw [List.getElem?_append_right (by rw [rs2.len]; exact Nat.le_refl _)] at e2
            simp [rs2.len] at e1 e2
            subst e1; subst e2
            refine ⟨av, hv, ?_⟩
            rw [hys, List.append_nil]
            exact ra.tf tf
      · rw [List.getElem?_append_right (by rw [rs2.len]; exact Nat.le_refl _), rs2.len]
        simp
theorem d_lc (hc : X.calm = true) (hN : X.N.Nodup) (ok : BlkOk X.N X.env.scope scope own) (hi : PI X tg iter (tI X.K W s)) (ht : TgOk X.K g t (own.map (·.2)))
    (hg : ∀ (s : Shared) (H : Hp) (C : Addr) (cl : List (Str × Addr)) (fp : List Addr), PG (X.blk s H scope (compEnvC scope cl C X.env) fp) tg g) (hcs : ∀ (s : Shared) (H : Hp) (C : Addr) (cl : List (Str × Addr)) (fp : List Addr), PTs (X.blk s H scope (compEnvC scope cl C X.env) fp) ifs (tT X.K W0 c))
    (he : ∀ (s : Shared) (H : Hp) (C : Addr) (cl : List (Str × Addr)) (fp : List Addr), PE (X.blk s H scope (compEnvC scope cl C X.env) fp) elt (tE X.K W0 e)) (hs : ∀ x, foldedSetIterable iter X.env x = pure x := by intro _; rfl) :
    PE X (.ListComp elt [⟨tg, iter, ifs, 0⟩] scope pos) (tE X.K W (eLc s t c e (own.map (·.2)))) := imp (pe_lc hc hN hi ok hg hcs he hs) fun _ _ _ h => lc_of ht h
theorem s_setLc {i : Nat} {y : Str} {py spos : Pos} (hc : X.calm = true) (hN : X.N.Nodup) (hsw : swapsWith (.ListComp elt [⟨tg, iter, ifs, 0⟩] scope pos) (some (.Name y py)) spos.line X.env = pure true) (ok : BlkOk X.N X.env.scope scope own) (hi : PI X tg iter (tI X.K W s)) (ht : TgOk X.K g t (own.map (·.2)))
    (hg : ∀ (s : Shared) (H : Hp) (C : Addr) (cl : List (Str × Addr)) (fp : List Addr), PG (X.blk s H scope (compEnvC scope cl C X.env) fp) tg g) (hcs : ∀ (s : Shared) (H : Hp) (C : Addr) (cl : List (Str × Addr)) (fp : List Addr), PTs (X.blk s H scope (compEnvC scope cl C X.env) fp) ifs (tT X.K W0 c))
    (he : ∀ (s : Shared) (H : Hp) (C : Addr) (cl : List (Str × Addr)) (fp : List Addr), PE (X.blk s H scope (compEnvC scope cl C X.env) fp) elt (tE X.K W0 e)) (hy : X.N[i]? = some y := by rfl) (hyl : X.env.scope.names.lookup y = some .local := by rfl) (hs : ∀ x, foldedSetIterable iter X.env x = pure x := by intro _; rfl) :
    PS X (.Assign [.Name y py] (.ListComp elt [⟨tg, iter, ifs, 0⟩] scope pos) spos) (tS X.K W (sSet i (eLc s t c e (own.map (·.2))))) := impS (ps_setLc hc hN hy hyl hsw hi ok hg hcs he hs) fun D σ H h => by
  obtain ⟨μ, sl, st, rl, rs, e1⟩ := h
  refine lc_of ht ?_
  exact firstS rl rs e1 fun d st1 v H1 μ1 l rl1 rs1 rv e1 => e1 _ H1 μ1 (.refl _ _) (rl1.set rv i) rs1
end
end Mi
set_option Elab.async false
set_option linter.all false
set_option maxRecDepth 100000
namespace Mi
open PySem PySem.Spec PyProof.Rows L2

/-! ### defs -/
abbrev Fd := List D → Sto → R D
/-- a def's body at its arguments: n slots, np parameters -/
def fdef (n np : Nat) (b : Sm) : Fd := fun ds st => if ds.length = np then match b (ds.map some ++ List.replicate (n - np) none) st with
    | .ret d st' => .ok d st'
    | .nx _ st' => .ok .non st'
    | _ => .bad
  else .bad
/-- .. that may raise -/
def fdefX (n np : Nat) (b : Sm) : Fd := fun ds st => if ds.length = np then match b (ds.map some ++ List.replicate (n - np) none) st with
    | .ret d st' => .ok d st'
    | .nx _ st' => .ok .non st'
    | .err c fs _ st' => .err c fs st'
    | _ => .bad
  else .bad
/-- a def's promise by its mirror -/
def spD (K : PySem.W.Frag) (np : Nat) (F : Fd) : Sp := fun vs H Q E => ∃ μ ds st, RVs K μ H ds vs ∧ Rs K μ H st ∧ ds.length = np ∧ match F ds st with
  | .ok d st' => ∀ v H' μ', Le μ H μ' H' → Rs K μ' H' st' → RV K μ' H' d v → Q v H'
  | .err c fs st' => ∀ H' μ' dx vs, Le μ H μ' H' → Rs K μ' H' st' → H' dx = some (.xd ((fs.map (·.1)).zip vs)) → dx ∉ μ' → RVs K μ' H' (fs.map (·.2)) vs → E (.ref c) (some dx) H'
  | .bad => False
theorem spD_len {K : PySem.W.Frag} {F : Fd} {ps : List Str} {np : Nat} (hn : ps.length = np) : ∀ vs H Q E, spD K np F vs H Q E → vs.length = ps.length := fun vs H Q E ⟨μ, ds, st, r, _, hl, _⟩ => by rw [← r.length, hl, hn]
def eFn (F : Fd) (np : Nat) (a : As) : E := fun sl st => (a sl st).bind fun ds st1 => if ds.length = np then (F ds st1).calm else .bad
def eFn0 (F : Fd) : E := fun _ st => (F [] st).calm
section
variable {X : Cx} {W : WX} {k np : Nat} {f : Addr} {fd : FuncData} {ps : List Str} {F : Fd} {x : Str} {p pos : Pos} {e : Expr} {es : List Expr} {A : As}
theorem sp_of {σ : L2.St} {H : Hp} {Q : VK} (h : tE X.K W (eFn F np A) σ H Q) : tCall (spD X.K np F) [] E0 (tA X.K W A) σ H Q := by
  obtain ⟨μ, sl, st, rl, rs, e⟩ := h
  refine firstA rl rs e fun ds st1 vs H1 μ1 l1 rl1 rs1 r1 e1 => ?_
  split at e1
  · rename_i hl
    refine ⟨μ1, ds, st1, by rw [List.append_nil]; exact r1, rs1, hl, ?_⟩
    revert e1
    cases F ds st1 with
    | ok d st2 => exact fun e1 => e1
    | err c fs st2 => exact fun e1 => e1.elim
    | bad => exact fun e1 => e1
  · exact e1.elim
theorem d_fn (G : FnOk X.prog X.w X.K X.mg X.base CX0 k f fd ps (spD X.K np F)) (hr : Room k X.A) (hm : X.mg x = some (.ref f)) (hk : PySem.W.keepIn X.K (.ref f) = true) (hb : Binds X.K fd ps []) (ha : PA X (e :: es) (tA X.K W A)) (hg : Gl X x := by rfl)
    (he : starEach (e :: es) X.env = (false, eval e X.env) :: starEach es X.env := by rfl) (hpl : (backTo pos (starEach es X.env)).any (·.1) = false := by rfl) (hdb : (x == ("__debug__" : Str)) = false := by decide) :
    PE X (.Call (.Name x p) (e :: es) [] pos) (tE X.K W (eFn F np A)) := imp (pe_call G hr hg hm hk hb .nil pass0 ha hdb he hpl) fun _ _ _ h => sp_of h
theorem d_fn0 (G : FnOk X.prog X.w X.K X.mg X.base CX0 k f fd [] (spD X.K 0 F)) (hr : Room k X.A) (hm : X.mg x = some (.ref f)) (hk : PySem.W.keepIn X.K (.ref f) = true) (hb : Binds X.K fd [] []) (hg : Gl X x := by rfl) (hdb : (x == ("__debug__" : Str)) = false := by decide) :
    PE X (.Call (.Name x p) [] [] pos) (tE X.K W (eFn0 F)) := imp (pe_call0 G hr hg hm hk hb .nil pass0 hdb) fun σ H Q h => by
  obtain ⟨μ, sl, st, rl, rs, e⟩ := h
  refine ⟨μ, [], st, .nil, rs, rfl, ?_⟩
  unfold eFn0 at e
  revert e
  cases F [] st with
  | ok d st2 => exact fun e1 => e1
  | err c fs st2 => exact fun e1 => e1.elim
  | bad => exact fun e1 => e1
/-- THE RULE: a def by its body -/
theorem fn_body {P : Program} {w : World} {K : PySem.W.Frag} {mg : Str → Option Value} {base : Heap} {x qual : Str} {s : Stmt} {f : Addr} {fd : FuncData} {N ps : List Str} {k np : Nat} {b : Sm} (F : Fun K x qual s f fd) (S : FnScope N ps (defScope s)) (hn : ps.length = np)
    (hb : ∀ (cdv : Value) (A : Around) (outer : List Env) (st : Shared) (H : Hp) (E : XK), Room k (A.deeper (envOfC qual (defScope s) st.heap.objs.size f cdv)) → PSs (cxOf CX0 P w K mg base N qual (defScope s) f cdv A outer st H E).nox (defBody s) (tS K W0 b)) :
    FnOk P w K mg base CX0 (k + 1) f fd ps (spD K np (fdef N.length np b)) := by
  refine F.ok S (spD_len hn) fun cdv A outer st H vs Q E hr h => ⟨_, hb cdv A outer st H E hr, ?_⟩
  obtain ⟨μ, ds, sto, r, rs, hl, e⟩ := h
  refine ⟨μ, ds.map some ++ List.replicate (N.length - np) none, sto, ?_, rs, ?_⟩
  · refine ⟨by simp [L2.start, r.length, ← hl], fun i d hi => ?_⟩
    by_cases hlt : i < ds.length
    · rw [List.getElem?_append_left (by simpa using hlt), List.getElem?_map] at hi
      cases e2 : ds[i]? with
      | none => rw [e2] at hi; cases hi
      | some d2 =>
        rw [e2] at hi
        cases hi
        obtain ⟨v, hv, rv⟩ := r.get e2
        refine ⟨v, ?_, rv⟩
        unfold L2.start
        rw [List.getElem?_append_left (by rw [List.length_map, ← r.length]; exact hlt), List.getElem?_map, hv]
        rfl
    · rw [List.getElem?_append_right (by simpa using hlt), List.getElem?_replicate] at hi
      split at hi <;> cases hi
  · unfold fdef at e
    rw [if_pos hl] at e
    revert e
    cases b (ds.map some ++ List.replicate (N.length - np) none) sto with
    | nx sl st' => exact fun e σ' H' μ' l rl' rs' => e .non H' μ' l rs' .non
    | ret d st' => exact fun e => e
    | bk sl st' => exact fun e => e.elim
    | ct sl st' => exact fun e => e.elim
    | bad => exact fun e => e
    | err c fs sl st' => exact fun e => e.elim
end
end Mi
set_option Elab.async false
set_option linter.all false
set_option maxRecDepth 100000
namespace Mi
open PySem PySem.Spec PyProof.Rows L2

section
variable {K : PySem.W.Frag}
theorem RVs.zero {μ : List Addr} {H : Hp} {vs : List V} (r : RVs K μ H [] vs) : vs = [] := by cases r; rfl
/-! ### len -/
def gLen : GA := fun ds st => match ds with
  | [.str z] => if z.length ≤ sizeLine then .ok (.int (z.length : Nat)) st else .bad
  | [.tup xs] => .ok (.int (xs.length : Nat)) st
  | [.rol xs] => .ok (.int (xs.length : Nat)) st
  | [.loc n] => match st[n]? with
    | some (.lst xs) => .ok (.int (xs.length : Nat)) st
    | _ => .bad
  | _ => .bad
theorem cal_len : Cal K (fun xs H Q => (∃ p ys, xs = [.ref p] ∧ (SqL K H p ys ∨ SqT K H p ys) ∧ Q (.int ys.length) H) ∨ (∃ z, xs = [.str z] ∧ z.length ≤ sizeLine ∧ Q (.int z.length) H)) gLen := by
  intro W μ H σ st ds vs Q rs r e
  unfold gLen at e
  split at e
  · obtain ⟨v, rfl, q⟩ := r.one
    cases q
    split at e
    · rename_i h
      exact .inr ⟨_, rfl, h, e.go rs (.int _)⟩
    · exact e.elim
  · obtain ⟨v, rfl, q⟩ := r.one
    cases q with
    | tup h q => exact .inl ⟨_, _, rfl, .inr h, by rw [← q.length]; exact e.go rs (.int _)⟩
  · obtain ⟨v, rfl, q⟩ := r.one
    cases q with
    | rol h q => exact .inl ⟨_, _, rfl, .inl h.sq, by rw [← q.length]; exact e.go rs (.int _)⟩
  · obtain ⟨v, rfl, q⟩ := r.one
    cases q with
    | loc hn =>
      split at e
      · rename_i xs hx
        obtain ⟨us, hu, q⟩ := rs.get hx hn
        exact .inl ⟨_, us, rfl, .inl (.of hu), by rw [← q.length]; exact e.go rs (.int _)⟩
      · exact e.elim
  · exact e.elim
/-! ### int(x) -/
def gInt : GA := fun ds st => match ds with
  | [.int i] => .ok (.int i) st
  | [.bl k] => .ok (.int (if k then 1 else 0)) st
  | _ => .bad
theorem cal_int : Cal K (fun xs H Q => (∃ i, xs = [.int i] ∧ Q (.int i) H) ∨ ∃ k, xs = [.bl k] ∧ Q (.int (if k then 1 else 0)) H) gInt := by
  intro W μ H σ st ds vs Q rs r e
  unfold gInt at e
  split at e
  · obtain ⟨v, rfl, q⟩ := r.one
    cases q
    exact .inl ⟨_, rfl, e.go rs (.int _)⟩
  · obtain ⟨v, rfl, q⟩ := r.one
    cases q
    exact .inr ⟨_, rfl, e.go rs (.int _)⟩
  · exact e.elim
/-! ### list(x), tuple(x) -/
def gList : GA := fun ds st => match ds with
  | [.tup xs] => .ok (.loc st.length) (st ++ [.lst xs])
  | [.rol xs] => .ok (.loc st.length) (st ++ [.lst xs])
  | [.loc n] => match st[n]? with
    | some (.lst xs) => .ok (.loc st.length) (st ++ [.lst xs])
    | _ => .bad
  | _ => .bad
theorem cal_list : Cal K (fun xs H Q => ∃ p ys, xs = [.ref p] ∧ (SqL K H p ys ∨ SqT K H p ys) ∧ ∀ l, H l = none → Q (.ref l) (upd H l (.lst ys))) gList := by
  intro W μ H σ st ds vs Q rs r e
  unfold gList at e
  split at e
  · obtain ⟨v, rfl, q⟩ := r.one
    cases q with
    | tup h q => exact ⟨_, _, rfl, .inr h, fun l hl => e.newL rs q hl⟩
  · obtain ⟨v, rfl, q⟩ := r.one
    cases q with
    | rol h q => exact ⟨_, _, rfl, .inl h.sq, fun l hl => e.newL rs q hl⟩
  · obtain ⟨v, rfl, q⟩ := r.one
    cases q with
    | loc hn =>
      split at e
      · rename_i xs hx
        obtain ⟨us, hu, q⟩ := rs.get hx hn
        exact ⟨_, us, rfl, .inl (.of hu), fun l hl => e.newL rs q hl⟩
      · exact e.elim
  · exact e.elim
def gTuple : GA := fun ds st => match ds with
  | [.tup xs] => .ok (.tup xs) st
  | [.rol xs] => .ok (.tup xs) st
  | [.loc n] => match st[n]? with
    | some (.lst xs) => .ok (.tup xs) st
    | _ => .bad
  | _ => .bad
theorem cal_tuple : Cal K (fun xs H Q => ∃ p ys, xs = [.ref p] ∧ ((SqL K H p ys ∧ ∀ l, H l = none → Q (.ref l) (upd H l (.tup ys))) ∨ (SqT K H p ys ∧ Q (.ref p) H))) gTuple := by
  intro W μ H σ st ds vs Q rs r e
  unfold gTuple at e
  split at e
  · obtain ⟨v, rfl, q⟩ := r.one
    cases q with
    | tup h q => exact ⟨_, _, rfl, .inr ⟨h, e.go rs (.tup h q)⟩⟩
  · obtain ⟨v, rfl, q⟩ := r.one
    cases q with
    | rol h q => exact ⟨_, _, rfl, .inl ⟨h.sq, fun l hl => e.newT rs q hl⟩⟩
  · obtain ⟨v, rfl, q⟩ := r.one
    cases q with
    | loc hn =>
      split at e
      · rename_i xs hx
        obtain ⟨us, hu, q⟩ := rs.get hx hn
        exact ⟨_, us, rfl, .inl ⟨.of hu, fun l hl => e.newT rs q hl⟩⟩
      · exact e.elim
  · exact e.elim
/-! ### isinstance(x, T) -/
def tyD (st : Sto) : D → Option String
  | .non => some "NoneType"
  | .bl _ => some "bool"
  | .int _ => some "int"
  | .str _ => some "str"
  | .tup _ => some "tuple"
  | .rol _ => some "list"
  | .loc n => match st[n]? with
    | some (.lst _) => some "list"
    | some (.dct _) => some "dict"
    | none => none
  | _ => none
theorem tyX_of {μ : List Addr} {H : Hp} {st : Sto} {d : D} {v : V} {T : String} (rs : Rs K μ H st) (r : RV K μ H d v) (h : tyD st d = some T) : TyX K H v (.type T) := by
  cases r with
  | non => cases h; exact .base .non
  | bl b => cases h; exact .base (.bl b)
  | int i => cases h; exact .base (.int i)
  | str x => cases h; exact .base (.str x)
  | tup ht q =>
    cases h
    rcases ht with (ht | ⟨o, ht⟩) | ⟨o, its, n, h1, h2, h3⟩
    · exact .base (.tup ht)
    · exact .fTuple ht
    · exact .kTuple h1 h2
  | rol hf q =>
    cases h
    rcases hf with ⟨o, hf⟩ | ⟨o, its, n, h1, h2, h3⟩
    · exact .base (.frz hf)
    · exact .kList h1 h2
  | loc hn =>
    dsimp only [tyD] at h
    split at h
    · rename_i xs hx
      cases h
      obtain ⟨vs, hv, _⟩ := rs.get hx hn
      exact .base (.lst hv)
    · rename_i kvs hx
      cases h
      obtain ⟨vs, hv, _⟩ := rs.get hx hn
      exact .base (.dK hv)
    · cases h
  | ty n => cases h
  | adr a => cases h
def gIsi : GA := fun ds st => match ds with
  | [d, .ty T] => match tyD st d with
    | some a => match kitB a T with
      | some b => .ok (.bl b) st
      | none => .bad
    | none => .bad
  | _ => .bad
theorem cal_isi : Cal K (rIsi K) gIsi := by
  intro W μ H σ st ds vs Q rs r e
  unfold gIsi at e
  split at e
  · obtain ⟨v, u, rfl, q1, q2⟩ := r.two
    cases q2
    split at e
    · rename_i a ha
      split at e
      · rename_i b hb
        exact ⟨v, _, _, _, b, rfl, .ty _, tyX_of rs q1 ha, kit_ty hb, e.go rs (.bl b)⟩
      · exact e.elim
    · exact e.elim
  · exact e.elim
/-! ### max, min, sum, divmod -/
def gMax2 : GA := fun ds st => match ds with
  | [.int i, .int j] => .ok (.int (if j > i then j else i)) st
  | _ => .bad
theorem cal_max2 : Cal K (fun xs H Q => ∃ i j, xs = [.int i, .int j] ∧ Q (.int (if j > i then j else i)) H) gMax2 := by
  intro W μ H σ st ds vs Q rs r e
  unfold gMax2 at e
  split at e
  · obtain ⟨v, u, rfl, q1, q2⟩ := r.two
    cases q1; cases q2
    exact ⟨_, _, rfl, e.go rs (.int _)⟩
  · exact e.elim
def gMin2 : GA := fun ds st => match ds with
  | [.int i, .int j] => .ok (.int (if j < i then j else i)) st
  | _ => .bad
theorem cal_min2 : Cal K (fun xs H Q => ∃ i j, xs = [.int i, .int j] ∧ Q (.int (if j < i then j else i)) H) gMin2 := by
  intro W μ H σ st ds vs Q rs r e
  unfold gMin2 at e
  split at e
  · obtain ⟨v, u, rfl, q1, q2⟩ := r.two
    cases q1; cases q2
    exact ⟨_, _, rfl, e.go rs (.int _)⟩
  · exact e.elim
/-- the ints of a list of ints -/
def intsD : List D → Option (List Int)
  | [] => some []
  | .int i :: ds => match intsD ds with
    | some is => some (i :: is)
    | none => none
  | _ => none
theorem intsD_ok {μ : List Addr} {H : Hp} : ∀ {ds : List D} {vs : List V} {is : List Int}, RVs K μ H ds vs → intsD ds = some is → vs = is.map V.int ∧ ds = is.map D.int
  | [], _, _, .nil, h => by cases h; exact ⟨rfl, rfl⟩
  | d :: ds, v :: vs, is, .cons r rr, h => by
    cases r <;> first | cases h | skip
    rename_i i
    unfold intsD at h
    split at h
    · rename_i js e
      cases h
      obtain ⟨h1, h2⟩ := intsD_ok rr e
      exact ⟨by rw [h1]; rfl, by rw [h2]; rfl⟩
    · cases h
theorem intsD_map : ∀ is : List Int, intsD (is.map D.int) = some is
  | [] => rfl
  | i :: is => by
    show intsD (.int i :: is.map D.int) = _
    unfold intsD
    rw [intsD_map is]
/-- the items of a list value -/
def itemsL (st : Sto) : D → Option (List D)
  | .rol xs => some xs
  | .loc n => match st[n]? with
    | some (.lst xs) => some xs
    | _ => none
  | _ => none
theorem itemsL_ok {μ : List Addr} {H : Hp} {st : Sto} {d : D} {v : V} {xs : List D} (rs : Rs K μ H st) (r : RV K μ H d v) (h : itemsL st d = some xs) : ∃ a vs, v = .ref a ∧ SqL K H a vs ∧ RVs K μ H xs vs := by
  cases r <;> first | cases h | skip
  · rename_i n a hn
    dsimp only [itemsL] at h
    split at h
    · rename_i ys hx
      cases h
      obtain ⟨us, hu, q⟩ := rs.get hx hn
      exact ⟨a, us, rfl, .of hu, q⟩
    · cases h
  · rename_i hf q
    exact ⟨_, _, rfl, hf.sq, q⟩
def gInts (f : List Int → Option D) : GA := fun ds st => match ds with
  | [d] => match itemsL st d with
    | some xs => match intsD xs with
      | some is => match f is with
        | some z => .ok z st
        | none => .bad
      | none => .bad
    | none => .bad
  | _ => .bad
theorem gInts_ok {f : List Int → Option D} {W : WX} {μ : List Addr} {H : Hp} {σ : L2.St} {st : Sto} {ds : List D} {vs : List V} {Q : VK} (rs : Rs K μ H st) (r : RVs K μ H ds vs) (e : End K W μ H σ (gInts f ds st) Q) :
    ∃ a is z, vs = [.ref a] ∧ SqL K H a (is.map V.int) ∧ f is = some z ∧ End K W μ H σ (.ok z st) Q := by
  unfold gInts at e
  split at e
  · obtain ⟨v, rfl, q⟩ := r.one
    split at e
    · rename_i xs hx
      split at e
      · rename_i is hi
        split at e
        · rename_i z hz
          obtain ⟨a, us, rfl, h1, h2⟩ := itemsL_ok rs q hx
          obtain ⟨rfl, _⟩ := intsD_ok h2 hi
          exact ⟨a, is, z, rfl, h1, hz, e⟩
        · exact e.elim
      · exact e.elim
    · exact e.elim
  · exact e.elim
def gSum : GA := gInts fun is => some (.int is.sum)
theorem cal_sum : Cal K (rSum K) gSum := by
  intro W μ H σ st ds vs Q rs r e
  obtain ⟨a, is, z, rfl, h, hz, e⟩ := gInts_ok rs r e
  cases hz
  exact ⟨a, is, rfl, h, e.go rs (.int _)⟩
def gMax : GA := gInts fun is => is.max?.map .int
def gMin : GA := gInts fun is => is.min?.map .int
theorem max_of {is : List Int} {m : Int} (h : m ∈ is) (h2 : ∀ y, y ∈ is → y ≤ m) : is.max? = some m := List.max?_eq_some_iff.mpr ⟨h, h2⟩
theorem min_of {is : List Int} {m : Int} (h : m ∈ is) (h2 : ∀ y, y ∈ is → m ≤ y) : is.min? = some m := List.min?_eq_some_iff.mpr ⟨h, h2⟩
theorem cal_max : Cal K (rMax K) gMax := by
  intro W μ H σ st ds vs Q rs r e
  obtain ⟨a, is, z, rfl, h, hz, e⟩ := gInts_ok rs r e
  refine ⟨a, is, rfl, h, ?_, fun m hm hle => ?_⟩
  · cases is with
    | nil => cases hz
    | cons _ _ => simp
  · rw [max_of hm hle] at hz
    cases hz
    exact e.go rs (.int _)
theorem cal_min : Cal K (rMin K) gMin := by
  intro W μ H σ st ds vs Q rs r e
  obtain ⟨a, is, z, rfl, h, hz, e⟩ := gInts_ok rs r e
  refine ⟨a, is, rfl, h, ?_, fun m hm hle => ?_⟩
  · cases is with
    | nil => cases hz
    | cons _ _ => simp
  · rw [min_of hm hle] at hz
    cases hz
    exact e.go rs (.int _)
def gDivmod : GA := fun ds st => match ds with
  | [.int i, .int j] => if 0 < j ∧ j < 1073741824 then .ok (.tup [.int (i / j), .int (i % j)]) st else .bad
  | _ => .bad
theorem cal_divmod : Cal K (fun xs H Q => ∃ i j, xs = [.int i, .int j] ∧ CDiv i j ∧ ∀ p, H p = none → Q (.ref p) (upd H p (.tup [.int (i / j), .int (i % j)]))) gDivmod := by
  intro W μ H σ st ds vs Q rs r e
  unfold gDivmod at e
  split at e
  · obtain ⟨v, u, rfl, q1, q2⟩ := r.two
    cases q1; cases q2
    split at e
    · rename_i h
      exact ⟨_, _, rfl, h, fun p hp => e.newT rs (.cons (.int _) (.cons (.int _) .nil)) hp⟩
    · exact e.elim
  · exact e.elim
end
section
variable {X : Cx} {W : WX} {e o : Expr} {es : List Expr} {A m : E} {B : As} {p pos apos cpos : Pos}
theorem d_len (hm : X.mg "len" = none) (ha : PA X [e] (tA X.K W B)) (hg : Gl X "len" := by rfl) (he : starEach [e] X.env = (false, eval e X.env) :: starEach [] X.env := by rfl) : PE X (.Call (.Name "len" p) [e] [] pos) (tE X.K W (eCall gLen B)) := d_callB (call_len_seq.or call_len_str) cal_len hm PySem.boot_len ha hg (by decide) (by decide) he rfl
theorem d_intOf (hm : X.mg "int" = none) (ha : PA X [e] (tA X.K W B)) (hg : Gl X "int" := by rfl) (he : starEach [e] X.env = (false, eval e X.env) :: starEach [] X.env := by rfl) : PE X (.Call (.Name "int" p) [e] [] pos) (tE X.K W (eCall gInt B)) := d_callTy call_int1 cal_int hm (by decide +kernel) ha hg (by decide) (by decide) he rfl
theorem d_listOf (hm : X.mg "list" = none) (ha : PA X [e] (tA X.K W B)) (hg : Gl X "list" := by rfl) (he : starEach [e] X.env = (false, eval e X.env) :: starEach [] X.env := by rfl) : PE X (.Call (.Name "list" p) [e] [] pos) (tE X.K W (eCall gList B)) := d_callTy call_list_of cal_list hm (by decide +kernel) ha hg (by decide) (by decide) he rfl
theorem d_tupleOf (hm : X.mg "tuple" = none) (ha : PA X [e] (tA X.K W B)) (hg : Gl X "tuple" := by rfl) (he : starEach [e] X.env = (false, eval e X.env) :: starEach [] X.env := by rfl) : PE X (.Call (.Name "tuple" p) [e] [] pos) (tE X.K W (eCall gTuple B)) := d_callTy call_tuple_of cal_tuple hm (by decide +kernel) ha hg (by decide) (by decide) he rfl
theorem d_isi {e2 : Expr} (hm : X.mg "isinstance" = none) (ha : PA X [e, e2] (tA X.K W B)) (hg : Gl X "isinstance" := by rfl) (he : starEach [e, e2] X.env = (false, eval e X.env) :: starEach [e2] X.env := by rfl) (hpl : (backTo pos (starEach [e2] X.env)).any (·.1) = false := by rfl) : PE X (.Call (.Name "isinstance" p) [e, e2] [] pos) (tE X.K W (eCall gIsi B)) := d_callB call_isi cal_isi hm (by decide +kernel) ha hg (by decide) (by decide) he hpl
theorem d_max2 {e2 : Expr} (hc : X.calm = true) (hm : X.mg "max" = none) (ha : PA X [e, e2] (tA X.K W B)) (hg : Gl X "max" := by rfl) (he : starEach [e, e2] X.env = (false, eval e X.env) :: starEach [e2] X.env := by rfl) (hpl : (backTo pos (starEach [e2] X.env)).any (·.1) = false := by rfl) : PE X (.Call (.Name "max" p) [e, e2] [] pos) (tE X.K W (eCall gMax2 B)) := d_callB (call_max2 hc) cal_max2 hm (by decide +kernel) ha hg (by decide) (by decide) he hpl
theorem d_min2 {e2 : Expr} (hc : X.calm = true) (hm : X.mg "min" = none) (ha : PA X [e, e2] (tA X.K W B)) (hg : Gl X "min" := by rfl) (he : starEach [e, e2] X.env = (false, eval e X.env) :: starEach [e2] X.env := by rfl) (hpl : (backTo pos (starEach [e2] X.env)).any (·.1) = false := by rfl) : PE X (.Call (.Name "min" p) [e, e2] [] pos) (tE X.K W (eCall gMin2 B)) := d_callB (call_min2 hc) cal_min2 hm (by decide +kernel) ha hg (by decide) (by decide) he hpl
theorem d_divmod {e2 : Expr} (hm : X.mg "divmod" = none) (ha : PA X [e, e2] (tA X.K W B)) (hg : Gl X "divmod" := by rfl) (he : starEach [e, e2] X.env = (false, eval e X.env) :: starEach [e2] X.env := by rfl) (hpl : (backTo pos (starEach [e2] X.env)).any (·.1) = false := by rfl) : PE X (.Call (.Name "divmod" p) [e, e2] [] pos) (tE X.K W (eCall gDivmod B)) := d_callB call_divmod cal_divmod hm (by decide +kernel) ha hg (by decide) (by decide) he hpl
theorem d_max (hc : X.calm = true) (hm : X.mg "max" = none) (ha : PA X [e] (tA X.K W B)) (hg : Gl X "max" := by rfl) (he : starEach [e] X.env = (false, eval e X.env) :: starEach [] X.env := by rfl) : PE X (.Call (.Name "max" p) [e] [] pos) (tE X.K W (eCall gMax B)) := d_callB (cr_max hc) cal_max hm (by decide +kernel) ha hg (by decide) (by decide) he rfl
theorem d_min (hc : X.calm = true) (hm : X.mg "min" = none) (ha : PA X [e] (tA X.K W B)) (hg : Gl X "min" := by rfl) (he : starEach [e] X.env = (false, eval e X.env) :: starEach [] X.env := by rfl) : PE X (.Call (.Name "min" p) [e] [] pos) (tE X.K W (eCall gMin B)) := d_callB (cr_min hc) cal_min hm (by decide +kernel) ha hg (by decide) (by decide) he rfl
theorem d_sum (hc : X.calm = true) (hm : X.mg "sum" = none) (ha : PA X [e] (tA X.K W B)) (hg : Gl X "sum" := by rfl) (he : starEach [e] X.env = (false, eval e X.env) :: starEach [] X.env := by rfl) : PE X (.Call (.Name "sum" p) [e] [] pos) (tE X.K W (eCall gSum B)) := d_callB (cr_sum hc) cal_sum hm (by decide +kernel) ha hg (by decide) (by decide) he rfl
/-- a built-in class as a value -/
theorem d_type {x : Str} {n : String} (hm : X.mg x = none) (hv : bootBuiltins x = some (.type n)) (hg : Gl X x := by rfl) (hn : x ≠ "__name__" := by decide) (hd : (x == ("__debug__" : Str)) = false := by decide) : PE X (.Name x pos) (tE X.K W (eC (.ty n))) := d_const (pe_bltn (v := .ty n) hg hm hv rfl hn hd) fun _ _ => .ty n
/-- list(range(n)) -/
def eListRg (e : E) : E := fun sl st => (e sl st).bind fun d st1 => match d with
  | .int n => if -(2 ^ 62) ≤ n ∧ n < 2 ^ 62 ∧ n.toNat ≤ 2 ^ 24 then .ok (.loc st1.length) (st1 ++ [.lst (rangeD 0 n.toNat)]) else .bad
  | _ => .bad
theorem rvs_range {K : PySem.W.Frag} {μ : List Addr} {H : Hp} (a b : Int) : RVs K μ H (rangeD a (b - a).toNat) (rgV a b) := by
  unfold rangeD rgV
  generalize List.range (b - a).toNat = l
  induction l with
  | nil => exact .nil
  | cons i l ih => exact .cons (.int _) ih
theorem d_listRg {a : Expr} {p2 pos2 : Pos} (hc : X.calm = true) (hm : X.mg "list" = none) (hm2 : X.mg "range" = none) (ha : PE X a (tE X.K W A)) (hg : Gl X "list" := by rfl) (hg2 : Gl X "range" := by rfl) (na : starEach [a] X.env = (false, eval a X.env) :: starEach [] X.env := by rfl)
    (nb : starEach [(.Call (.Name "range" p2) [a] [] pos2)] X.env = (false, eval (.Call (.Name "range" p2) [a] [] pos2) X.env) :: starEach [] X.env := by rfl) : PE X (.Call (.Name "list" p) [.Call (.Name "range" p2) [a] [] pos2] [] pos) (tE X.K W (eListRg A)) := imp (pe_listRg hc hg hm (prg_1 hg2 hm2 ha na) nb) fun σ H Q h => by
  obtain ⟨μ, sl, st, rl, rs, e⟩ := h
  refine first rl rs e fun d st1 v H1 μ1 l1 rl1 rs1 r1 e1 => ?_
  cases r1 <;> first | exact e1.elim | skip
  rename_i n
  dsimp only at e1
  split at e1
  · rename_i h
    refine ⟨n, rfl, ⟨by decide, by decide, h.1, h.2.1, by rw [Int.sub_zero]; exact h.2.2⟩, fun q hq => e1.newL rs1 ?_ hq⟩
    have := rvs_range (K := X.K) (μ := μ1) (H := H1) 0 n
    rw [Int.sub_zero] at this
    exact this
  · exact e1.elim

/-! ### methods of built-in types -/
def eMeth (ty : D → Sto → Bool) (g : D → List D → Sto → R D) (o : E) (a : As) : E := fun sl st => (o sl st).bind fun x st1 => if ty x st1 = true then (a sl st1).bind fun xs st2 => g x xs st2 else .bad
def isL (d : D) (st : Sto) : Bool := (itemsL st d).isSome
def isS (d : D) (_ : Sto) : Bool := match d with
  | .str _ => true
  | _ => false
def TyK (K : PySem.W.Frag) (T : String) (ty : D → Sto → Bool) : Prop := ∀ μ H st d v, Rs K μ H st → RV K μ H d v → ty d st = true → tyV K T v H
def Met (K : PySem.W.Frag) (r : V → List V → Hp → VK → Prop) (g : D → List D → Sto → R D) : Prop := ∀ (W : WX) μ H σ st d v ds vs Q, Rs K μ H st → RV K μ H d v → RVs K μ H ds vs → End K W μ H σ (g d ds st) Q → r v vs H Q
theorem tyk_L {K : PySem.W.Frag} : TyK K "list" isL := by
  intro μ H st d v rs r h
  unfold isL at h
  obtain ⟨xs, hx⟩ := Option.isSome_iff_exists.mp h
  obtain ⟨a, vs, rfl, h1, _⟩ := itemsL_ok rs r hx
  exact .inl ⟨rfl, vs, h1⟩
theorem tyk_S {K : PySem.W.Frag} : TyK K "str" isS := by
  intro μ H st d v rs r h
  cases r <;> first | cases h | skip
  rfl
theorem meth_of {K : PySem.W.Frag} {T : String} {r : V → List V → Hp → VK → Prop} {ty : D → Sto → Bool} {g : D → List D → Sto → R D} (tk : TyK K T ty) (t : Met K r g) {σ : L2.St} {H : Hp} {Q : VK} (h : tE K W (eMeth ty g m B) σ H Q) : tBM K T r (tE K W m) (tA K W B) σ H Q := by
  obtain ⟨μ, sl, st, rl, rs, e⟩ := h
  refine first rl rs e fun d st1 v H1 μ1 l1 rl1 rs1 r1 e1 => ?_
  split at e1
  · rename_i hty
    exact ⟨tk _ _ _ _ _ rs1 r1 hty, firstA rl1 rs1 e1 fun ds st2 vs H2 μ2 l2 rl2 rs2 r2 e2 => t W μ2 H2 σ st2 d v ds vs Q rs2 (r1.mono l2) r2 e2⟩
  · exact e1.elim
theorem meth0_of {K : PySem.W.Frag} {T : String} {r : V → List V → Hp → VK → Prop} {ty : D → Sto → Bool} {g : D → List D → Sto → R D} (tk : TyK K T ty) (t : Met K r g) {σ : L2.St} {H : Hp} {Q : VK} (h : tE K W (eMeth ty g m aNil) σ H Q) : tBM0 K T r (tE K W m) σ H Q := by
  obtain ⟨μ, sl, st, rl, rs, e⟩ := h
  refine first rl rs e fun d st1 v H1 μ1 l1 rl1 rs1 r1 e1 => ?_
  split at e1
  · rename_i hty
    exact ⟨tk _ _ _ _ _ rs1 r1 hty, t W μ1 H1 σ st1 d v [] [] Q rs1 r1 .nil e1⟩
  · exact e1.elim
theorem d_meth {name : Str} {T id : String} {r : V → List V → Hp → VK → Prop} {ty : D → Sto → Bool} {g : D → List D → Sto → R D} (pa : PlainAttrs T) (slot : Slot T name id) (hty : typeOf (.builtin id) = pure (.type "method_descriptor")) (hm : MtR X id r) (tk : TyK X.K T ty) (t : Met X.K r g) (ho : PE X o (tE X.K W m)) (ha : PA X (e :: es) (tA X.K W B))
    (hbase : attributeBase o name X.env (eval o X.env) = eval o X.env := by rfl)
    (hfew : ((backTo cpos (starEach (e :: es) X.env)).all (fun x => !x.1) && (backToKw cpos (keywordEach [] X.env)).all (fun x => x.1.isSome)
      && decide ((e :: es).length + ([] : List Keyword).length + (if ([] : List Keyword).isEmpty then 0 else 1) < 30)) = true := by rfl)
    (hline : (apos.endLine == cpos.line) = true := by rfl) (hs : starEach (e :: es) X.env = (false, eval e X.env) :: starEach es X.env := by rfl) (hplain : (backTo cpos (starEach es X.env)).any (·.1) = false := by rfl) :
    PE X (.Call (.Attribute o name apos) (e :: es) [] cpos) (tE X.K W (eMeth ty g m B)) := imp (pe_bm pa slot hty hm ho ha hbase hfew hline hs hplain) fun _ _ _ h => meth_of tk t h
theorem d_meth0 {name : Str} {T id : String} {r : V → List V → Hp → VK → Prop} {ty : D → Sto → Bool} {g : D → List D → Sto → R D} (pa : PlainAttrs T) (slot : Slot T name id) (hty : typeOf (.builtin id) = pure (.type "method_descriptor")) (hm : MtR X id r) (tk : TyK X.K T ty) (t : Met X.K r g) (ho : PE X o (tE X.K W m))
    (hbase : attributeBase o name X.env (eval o X.env) = eval o X.env := by rfl) (hline : (apos.endLine == cpos.line) = true := by rfl) :
    PE X (.Call (.Attribute o name apos) [] [] cpos) (tE X.K W (eMeth ty g m aNil)) := imp (pe_bm0 pa slot hty hm ho hbase hline) fun _ _ _ h => meth0_of tk t h
/-- xs.append(y) -/
def gAppend : D → List D → Sto → R D := fun o ds st => match o, ds with
  | .loc n, [y] => match st[n]? with
    | some (.lst xs) => if xs.length < sizeLine then .ok .non (st.set n (.lst (xs ++ [y]))) else .bad
    | _ => .bad
  | _, _ => .bad
theorem met_append {K : PySem.W.Frag} : Met K rAppend gAppend := by
  intro W μ H σ st d v ds vs Q rs r rr e
  unfold gAppend at e
  split at e
  · rename_i n y
    obtain ⟨u, rfl, q⟩ := rr.one
    cases r with
    | @loc _ a hn =>
      split at e
      · rename_i xs hx
        split at e
        · rename_i hz
          obtain ⟨us, hu, qs⟩ := rs.get hx hn
          obtain ⟨l, rs'⟩ := rs.wrL hn (qs.append (.cons q .nil))
          exact ⟨a, us, u, rfl, rfl, hu, by rw [← qs.length]; exact hz, e .non _ μ l rs' .non⟩
        · exact e.elim
      · exact e.elim
  · exact e.elim
theorem d_append (ho : PE X o (tE X.K W m)) (ha : PA X [e] (tA X.K W B)) (hbase : attributeBase o "append" X.env (eval o X.env) = eval o X.env := by rfl)
    (hfew : ((backTo cpos (starEach [e] X.env)).all (fun x => !x.1) && (backToKw cpos (keywordEach [] X.env)).all (fun x => x.1.isSome) && decide (([e] : List Expr).length + ([] : List Keyword).length + (if ([] : List Keyword).isEmpty then 0 else 1) < 30)) = true := by rfl)
    (hline : (apos.endLine == cpos.line) = true := by rfl) (hs : starEach [e] X.env = (false, eval e X.env) :: starEach [] X.env := by rfl) : PE X (.Call (.Attribute o "append" apos) [e] [] cpos) (tE X.K W (eMeth isL gAppend m B)) :=
  d_meth PySem.F.plainAttrs_list PySem.F.slot_list_append PySem.F.type_list_append mt_append tyk_L met_append ho ha hbase hfew hline hs rfl
/-- sep.join(texts) -/
def strsD : List D → Option (List Str)
  | [] => some []
  | .str i :: ds => match strsD ds with
    | some is => some (i :: is)
    | none => none
  | _ => none
theorem strsD_ok {K : PySem.W.Frag} {μ : List Addr} {H : Hp} : ∀ {ds : List D} {vs : List V} {is : List Str}, RVs K μ H ds vs → strsD ds = some is → vs = is.map V.str ∧ ds = is.map D.str
  | [], _, _, .nil, h => by cases h; exact ⟨rfl, rfl⟩
  | d :: ds, v :: vs, is, .cons r rr, h => by
    cases r <;> first | cases h | skip
    rename_i i
    unfold strsD at h
    split at h
    · rename_i js e
      cases h
      obtain ⟨h1, h2⟩ := strsD_ok rr e
      exact ⟨by rw [h1]; rfl, by rw [h2]; rfl⟩
    · cases h
theorem strsD_map : ∀ is : List Str, strsD (is.map D.str) = some is
  | [] => rfl
  | i :: is => by
    show strsD (.str i :: is.map D.str) = _
    unfold strsD
    rw [strsD_map is]
def gJoin : D → List D → Sto → R D := fun o ds st => match o, ds with
  | .str a, [d] => match itemsL st d with
    | some xs => match strsD xs with
      | some ys => if (ys.map (·.length)).sum + ys.length * a.length ≤ 16777216 then .ok (.str (Txt.join a ys)) st else .bad
      | none => .bad
    | none => .bad
  | _, _ => .bad
theorem met_join {K : PySem.W.Frag} : Met K (fun x xs H Q => ∃ a p, ∃ ys : List Str, x = .str a ∧ xs = [.ref p] ∧ (SqL K H p (ys.map V.str) ∨ SqT K H p (ys.map V.str)) ∧ (ys.map (·.length)).sum + ys.length * a.length ≤ 16777216 ∧ Q (.str (Txt.join a ys)) H) gJoin := by
  intro W μ H σ st d v ds vs Q rs r rr e
  unfold gJoin at e
  split at e
  · rename_i a d2
    obtain ⟨u, rfl, q⟩ := rr.one
    cases r
    split at e
    · rename_i xs hx
      split at e
      · rename_i ys hy
        split at e
        · rename_i hz
          obtain ⟨p, us, rfl, h1, h2⟩ := itemsL_ok rs q hx
          obtain ⟨rfl, _⟩ := strsD_ok h2 hy
          exact ⟨a, p, ys, rfl, rfl, .inl h1, hz, e.go rs (.str _)⟩
        · exact e.elim
      · exact e.elim
    · exact e.elim
  · exact e.elim

/-! ### slices -/
abbrev Op := Sl → Sto → R (Option Int)
def oNone : Op := fun _ st => .ok none st
def oSome (e : E) : Op := fun sl st => (e sl st).bind fun d st1 => match d with
  | .int i => .ok (some i) st1
  | _ => .bad
def cutD (xs : List D) (lo hi : Option Int) : List D := (xs.drop (HT.sIx xs.length 0 lo)).take (HT.sIx xs.length xs.length hi - HT.sIx xs.length 0 lo)
def gSl (d : D) (lo hi : Option Int) (st : Sto) : R D := match d with
  | .tup xs => .ok (.tup (cutD xs lo hi)) st
  | .rol xs => .ok (.loc st.length) (st ++ [.lst (cutD xs lo hi)])
  | .loc n => match st[n]? with
    | some (.lst xs) => .ok (.loc st.length) (st ++ [.lst (cutD xs lo hi)])
    | _ => .bad
  | .str z => if z.length ≤ sizeLine then .ok (.str (cutS z lo hi)) st else .bad
  | _ => .bad
def eSl (e : E) (lo hi : Op) : E := fun sl st => (e sl st).bind fun d st1 => (lo sl st1).bind fun l st2 => (hi sl st2).bind fun h st3 => gSl d l h st3
theorem RVs.cut {K : PySem.W.Frag} {μ : List Addr} {H : Hp} {xs : List D} {vs : List V} (r : RVs K μ H xs vs) (lo hi : Option Int) : RVs K μ H (cutD xs lo hi) (cutV vs lo hi) := by
  unfold cutD cutV
  rw [← r.length]
  exact (r.drop _).take _
theorem cutD_whole {xs : List D} {lo hi : Option Int} (h : HT.sIx xs.length 0 lo = 0 ∧ HT.sIx xs.length xs.length hi = xs.length) : cutD xs lo hi = xs := by
  unfold cutD
  rw [h.1, h.2]
  simp
def OpOk (X : Cx) (W : WX) (e : Option Expr) (m : Op) (t : TO) : Prop := PO X e t ∧ ∀ {σ : L2.St} {H : Hp} {μ : List Addr} {sl : Sl} {st : Sto} {F : Option Int → Sto → R D} {Q : VK} {Q' : Option Int → Hp → Prop}, Rl X.K μ H σ sl → Rs X.K μ H st → End X.K W μ H σ ((m sl st).bind F) Q →
  (∀ o st1 H1 μ1, Le μ H μ1 H1 → Rl X.K μ1 H1 σ sl → Rs X.K μ1 H1 st1 → End X.K W μ1 H1 σ (F o st1) Q → Q' o H1) → t σ H Q'
theorem o_none : OpOk X W none oNone tNoPart := ⟨po_none, fun rl rs e k => k none _ _ _ (.refl _ _) rl rs e⟩
theorem o_some (h : PE X e (tE X.K W A)) : OpOk X W (some e) (oSome A) (tPart (tE X.K W A)) := ⟨po_some h, fun {σ H μ sl st F Q Q'} rl rs e k => by
  unfold oSome at e
  refine ⟨μ, sl, st, rl, rs, ?_⟩
  revert e
  cases A sl st with
  | err c fs st1 => exact fun e => e
  | bad => exact fun e => e
  | ok d st1 =>
    intro e v H1 μ1 l rs1 rv
    cases rv <;> first | exact e.elim | skip
    rename_i i
    exact ⟨i, rfl, k (some i) st1 H1 μ1 l (rl.mono l) rs1 (End.on l e)⟩⟩
theorem d_sl {lo hi : Option Expr} {ml mh : Op} {tl th : TO} {p2 : Pos} (he : PE X e (tE X.K W A)) (hl : OpOk X W lo ml tl) (hh : OpOk X W hi mh th) : PE X (.Subscript e (.Slice lo hi none p2) pos) (tE X.K W (eSl A ml mh)) := imp (pe_slice (sl_list.or (sl_tupA.or sl_str)) he hl.1 hh.1) fun σ H Q h => by
  obtain ⟨μ, sl, st, rl, rs, e⟩ := h
  refine first rl rs e fun d st1 v H1 μ1 l1 rl1 rs1 r1 e1 => ?_
  refine hl.2 rl1 rs1 e1 fun lo st2 H2 μ2 l2 rl2 rs2 e2 => ?_
  refine hh.2 rl2 rs2 e2 fun hi st3 H3 μ3 l3 rl3 rs3 e3 => ?_
  have r3 := r1.mono (l2.trans l3)
  cases r3 <;> first | exact e3.elim | skip
  · rename_i z
    dsimp only [gSl] at e3
    split at e3
    · rename_i hz
      exact .inr (.inr ⟨z, rfl, hz, e3.go rs3 (.str _)⟩)
    · exact e3.elim
  · rename_i a xs vs ht q
    refine .inr (.inl ⟨a, vs, rfl, ht, fun hw => ?_, fun hw p hp => e3.newT rs3 (q.cut lo hi) hp⟩)
    rw [← q.length] at hw
    dsimp only [gSl] at e3
    rw [cutD_whole hw] at e3
    exact e3.go rs3 (.tup ht q)
  · rename_i n a hn
    dsimp only [gSl] at e3
    split at e3
    · rename_i xs hx
      obtain ⟨us, hu, q⟩ := rs3.get hx hn
      exact .inl ⟨a, us, rfl, .of hu, fun p hp => e3.newL rs3 (q.cut lo hi) hp⟩
    · exact e3.elim
  · rename_i a xs vs hf q
    exact .inl ⟨a, vs, rfl, hf.sq, fun p hp => e3.newL rs3 (q.cut lo hi) hp⟩

/-! ### any thing walked -/
def signsD (x : Str) : List D := x.cps.toList.map fun c => .str ⟨#[c]⟩
theorem wk_str {K : PySem.W.Frag} {μ0 : List Addr} {H0 : Hp} {x : Str} : Wk K ⟨signsD x, none⟩ μ0 H0 (Its x) where
  go := fun i d μ H st l rs hc hd => by
    have hl := (List.getElem?_eq_some_iff.mp hd).1
    have hl : i < x.cps.size := by simpa [signsD] using hl
    have e : d = .str ⟨#[x.cps[i]]⟩ := by
      have : (signsD x)[i]? = some (.str ⟨#[x.cps[i]]⟩) := by simp [signsD, hl]
      exact Option.some.inj (hd.symm.trans this)
    subst e
    refine ⟨hl, fun v H' y => ?_⟩
    obtain ⟨e, c, hcx, rfl⟩ := y
    subst e
    have : c = x.cps[i] := by
      rw [Array.getElem?_eq_getElem hl] at hcx
      exact (Option.some.inj hcx).symm
    subst this
    exact ⟨.refl _ _, rs, .str _⟩
  stop := fun i μ H st l rs hc hi => by
    show x.cps.size ≤ i
    simpa [signsD] using hi
def wAny (e : E) : Src := fun sl st => (e sl st).bind fun d st1 => match d with
  | .loc n => match st1[n]? with
    | some (.lst xs) => .ok ⟨xs, some n⟩ st1
    | _ => .bad
  | .rol xs => .ok ⟨xs, none⟩ st1
  | .tup xs => .ok ⟨xs, none⟩ st1
  | .str x => .ok ⟨signsD x, none⟩ st1
  | _ => .bad
theorem PI.or3 {tg e : Expr} {t1 t2 t3 : TI} (h1 : PI X tg e t1) (h2 : PI X tg e t2) (h3 : PI X tg e t3) : PI X tg e (fun σ H R => t1 σ H R ∨ t2 σ H R ∨ t3 σ H R) := ⟨fun pins s σ H R I h => by
  rcases h with h | h | h
  · exact h1.run pins s σ H R I h
  · exact h2.run pins s σ H R I h
  · exact h3.run pins s σ H R I h⟩
theorem i_any {tg : Expr} (he : PE X e (tE X.K W m)) : PI X tg e (tI X.K W (wAny m)) := impI (PI.or3 (i_list he) (i_tup he) (pi_str he)) fun σ H Q h => by
  obtain ⟨μ, sl, st, rl, rs, e⟩ := h
  unfold wAny at e
  cases hm : m sl st with
  | err c fs st1 => rw [hm] at e; exact .inl ⟨μ, sl, st, rl, rs, by unfold wList; rw [hm]; exact e⟩
  | bad => rw [hm] at e; exact e.elim
  | ok d st1 =>
    rw [hm] at e
    cases d with
    | loc n => exact .inl ⟨μ, sl, st, rl, rs, by unfold wList; rw [hm]; exact e⟩
    | rol xs => exact .inl ⟨μ, sl, st, rl, rs, by unfold wList; rw [hm]; exact e⟩
    | tup xs => exact .inr (.inl ⟨μ, sl, st, rl, rs, by unfold wTup; rw [hm]; exact e⟩)
    | str x =>
      refine .inr (.inr ⟨μ, sl, st, rl, rs, ?_⟩)
      rw [hm]
      intro v H1 μ1 l rs1 rv
      cases rv
      exact ⟨x, rfl, e (Its x) H1 μ1 l rs1 wk_str⟩
    | _ => exact e.elim
end
end Mi
set_option Elab.async false
set_option linter.all false
set_option maxRecDepth 100000
namespace Mi
open PySem PySem.Spec PyProof.Rows L2

/-! ### defs by their names -/
/-- a def stands where its name says -/
def There (K : PySem.W.Frag) (mg : Str → Option Value) (x : String) (s : Stmt) (ps : List Str) : Prop := ∃ f fd, Fun K (Str.ofString x) (Str.ofString x) s f fd ∧ mg (Str.ofString x) = some (.ref f) ∧ Binds K fd ps []
/-- .. and does what its mirror does -/
def Here (P : Program) (w : World) (K : PySem.W.Frag) (mg : Str → Option Value) (base : Heap) (k : Nat) (x : String) (ps : List Str) (np : Nat) (F : Fd) : Prop :=
  ∃ f fd, FnOk P w K mg base CX0 k f fd ps (spD K np F) ∧ mg (Str.ofString x) = some (.ref f) ∧ PySem.W.keepIn K (.ref f) = true ∧ Binds K fd ps []
section
variable {P : Program} {w : World} {K : PySem.W.Frag} {mg : Str → Option Value} {base : Heap}
theorem here {x : String} {s : Stmt} {N ps : List Str} {k np : Nat} {b : Sm} (T : There K mg x s ps) (S : FnScope N ps (defScope s)) (hn : ps.length = np)
    (hb : ∀ (f : Addr) (cdv : Value) (A : Around) (outer : List Env) (st : Shared) (H : Hp) (E : XK), Room k (A.deeper (envOfC (Str.ofString x) (defScope s) st.heap.objs.size f cdv)) → PSs (cxOf CX0 P w K mg base N (Str.ofString x) (defScope s) f cdv A outer st H E).nox (defBody s) (tS K W0 b)) :
    Here P w K mg base (k + 1) x ps np (fdef N.length np b) := by
  obtain ⟨f, fd, F, hm, hbd⟩ := T
  exact ⟨f, fd, fn_body F S hn (hb f), hm, F.kp, hbd⟩
theorem here_bad {x : String} {s : Stmt} {N ps : List Str} {k np : Nat} (T : There K mg x s ps) (S : FnScope N ps (defScope s)) (hn : ps.length = np) : Here P w K mg base k x ps np fun _ _ => .bad := by
  obtain ⟨f, fd, F, hm, hbd⟩ := T
  exact ⟨f, fd, ⟨spD_len hn, fun A outer s H args us vs Q E hr e0 hb r h => by
    obtain ⟨_, _, _, _, _, _, z⟩ := h
    exact z.elim⟩, hm, F.kp, hbd⟩
theorem Here.mono {x : String} {ps : List Str} {j k np : Nat} {F : Fd} (h : Here P w K mg base j x ps np F) (hjk : j ≤ k) : Here P w K mg base k x ps np F := by
  obtain ⟨f, fd, G, a, b, c⟩ := h
  exact ⟨f, fd, G.mono hjk, a, b, c⟩
end
section
variable {X : Cx} {W : WX} {k j np : Nat} {ps : List Str} {F : Fd} {x : String} {p pos : Pos} {e : Expr} {es : List Expr} {A : As}
theorem d_fnH (h : Here X.prog X.w X.K X.mg X.base j x ps np F) (hr : Room j X.A) (ha : PA X (e :: es) (tA X.K W A)) (hg : Gl X (Str.ofString x) := by rfl)
    (he : starEach (e :: es) X.env = (false, eval e X.env) :: starEach es X.env := by rfl) (hpl : (backTo pos (starEach es X.env)).any (·.1) = false := by rfl) (hdb : (Str.ofString x == ("__debug__" : Str)) = false := by decide) :
    PE X (.Call (.Name (Str.ofString x) p) (e :: es) [] pos) (tE X.K W (eFn F np A)) := by
  obtain ⟨f, fd, G, hm, hk, hb⟩ := h
  exact d_fn G hr hm hk hb ha hg he hpl hdb
theorem d_fn0H (h : Here X.prog X.w X.K X.mg X.base j x [] 0 F) (hr : Room j X.A) (hg : Gl X (Str.ofString x) := by rfl) (hdb : (Str.ofString x == ("__debug__" : Str)) = false := by decide) :
    PE X (.Call (.Name (Str.ofString x) p) [] [] pos) (tE X.K W (eFn0 F)) := by
  obtain ⟨f, fd, G, hm, hk, hb⟩ := h
  exact d_fn0 G hr hm hk hb hg hdb
theorem g_name (i : Nat) {x : Str} {pos : Pos} (nd : X.N.Nodup) (hi : X.N[i]? = some x := by rfl) (hx : Loc X.env.scope x := by first | exact Or.inl rfl | exact Or.inr rfl) (hf : X.fn x = true ∨ X.env.scope.names.lookup x = some .local := by first | exact .inl rfl | exact .inr rfl) : PG X (.Name x pos) (gName i) := pg_name nd hi hx hf
/-- a constant of the module -/
def CN (K : PySem.W.Frag) (mg : Str → Option Value) (x : String) (d : D) : Prop := ∃ v u, mg (Str.ofString x) = some u ∧ RelV v u ∧ ∀ μ H, RV K μ H d v
theorem d_gl {x : String} {d : D} {pos : Pos} (h : CN X.K X.mg x d) (hg : Gl X (Str.ofString x) := by rfl) (hd : (Str.ofString x == ("__debug__" : Str)) = false := by decide) : PE X (.Name (Str.ofString x) pos) (tE X.K W (eC d)) := by
  obtain ⟨v, u, hm, r, rd⟩ := h
  exact d_glob hm r rd hg hd
theorem hu65 {A : Around} (hr : Room k A) : A.units + 65 < cLine := by have := hr.un; omega
end
end Mi
set_option Elab.async false
set_option linter.all false
set_option maxRecDepth 100000
namespace Mi
open PySem PySem.Spec PyProof.Rows L2

/-! ### in, not in -/
def SeqDp (K : PySem.W.Frag) (H : Hp) (y : V) (ds : List PyData) : Prop := Dp K H y (.list ds) ∨ Dp K H y (.tuple ds)
def rInP (K : PySem.W.Frag) (neg : Bool) : R2 := fun x y H Q => ∃ d ds, Dp K H x d ∧ SeqDp K H y ds ∧ d.plain = true ∧ PyData.plainAll ds = true ∧ d.depth ≤ 64 ∧ Q (.bl (neg ^^ ds.any fun z => PyData.eqv z d)) H
section
variable {X : Cx}
theorem op_inP (hu : X.A.units + 65 < cLine) : OpR X (compareOp .In) (rInP X.K false) := by
  intro pins s σ H x y v u Q I rx ry h
  obtain ⟨d, ds, hd, hy, p1, p2, h64, q⟩ := h
  obtain ⟨as, r1⟩ := Dp.reads I d x v hd rx
  have hu' : X.A.units + 1 + min (PyData.depthAll ds) d.depth < cLine := by
    have := Nat.min_le_right (PyData.depthAll ds) d.depth
    omega
  have q' : EP X pins σ Q (.bool (ds.any fun z => PyData.eqv z d)) s := ⟨.bl _, H, I, rfl, by simpa using q⟩
  rcases hy with hy | hy
  · obtain ⟨bs, r2⟩ := Dp.reads I (.list ds) y u hy ry
    exact SeqAt.in_list_data r2 r1 p2 p1 hu' q'
  · obtain ⟨bs, r2⟩ := Dp.reads I (.tuple ds) y u hy ry
    exact SeqAt.in_tuple_data r2 r1 p2 p1 hu' q'
theorem op_ninP (hu : X.A.units + 65 < cLine) : OpR X (compareOp .NotIn) (rInP X.K true) := by
  intro pins s σ H x y v u Q I rx ry h
  obtain ⟨d, ds, hd, hy, p1, p2, h64, q⟩ := h
  obtain ⟨as, r1⟩ := Dp.reads I d x v hd rx
  have hu' : X.A.units + 1 + min (PyData.depthAll ds) d.depth < cLine := by
    have := Nat.min_le_right (PyData.depthAll ds) d.depth
    omega
  have q' : EP X pins σ Q (.bool (!ds.any fun z => PyData.eqv z d)) s := ⟨.bl _, H, I, rfl, by simpa using q⟩
  rcases hy with hy | hy
  · obtain ⟨bs, r2⟩ := Dp.reads I (.list ds) y u hy ry
    exact SeqAt.notIn_list_data r2 r1 p2 p1 hu' q'
  · obtain ⟨bs, r2⟩ := Dp.reads I (.tuple ds) y u hy ry
    exact SeqAt.notIn_tuple_data r2 r1 p2 p1 hu' q'
end
/-- the items of a list or tuple, as the library's data -/
def itemsP (st : Sto) (d : D) : Option (List PyData) := match py st 65 d with
  | some (.list ps) => some ps
  | some (.tuple ps) => some ps
  | _ => none
theorem itemsP_ok {K : PySem.W.Frag} {μ : List Addr} {H : Hp} {st : Sto} {d : D} {v : V} {ps : List PyData} (rs : Rs K μ H st) (r : RV K μ H d v) (h : itemsP st d = some ps) : SeqDp K H v ps ∧ PyData.plainAll ps = true := by
  unfold itemsP at h
  split at h
  · rename_i qs e
    cases h
    obtain ⟨h1, h2, _⟩ := py_ok rs r e
    exact ⟨.inl h1, PyData.plainAll_of_canLay0 _ (by simpa [PyData.canLay0] using h2)⟩
  · rename_i qs e
    cases h
    obtain ⟨h1, h2, _⟩ := py_ok rs r e
    exact ⟨.inr h1, PyData.plainAll_of_canLay0 _ (by simpa [PyData.canLay0] using h2)⟩
  · cases h
def gInB (neg : Bool) : G2 := fun x y st => match x, y with
  | .str a, .str z => if a.cps.size = 1 then .ok (.bl (neg ^^ decide (a.cps[0]! ∈ z.cps.toList))) st else .bad
  | x, y => match py st 64 x, itemsP st y with
    | some p, some ps => .ok (.bl (neg ^^ ps.any fun z => PyData.eqv z p)) st
    | _, _ => .bad
abbrev eIn := eTwo (gInB false)
abbrev eNin := eTwo (gInB true)
def rSign (neg : Bool) : R2 := fun x y H Q => ∃ (c : Nat) (z : Str), x = .str ⟨#[c]⟩ ∧ y = .str z ∧ Q (.bl (neg ^^ decide (c ∈ z.cps.toList))) H
theorem op_sgn {X : Cx} : OpR X (compareOp .In) (rSign false) := by
  intro pins s σ H x y v u Q I rx ry h
  obtain ⟨c, z, e1, e2, q⟩ := h
  exact op_in_sign pins s σ H x y v u Q I rx ry ⟨c, z, e1, e2, by simpa using q⟩
theorem op_nsgn {X : Cx} : OpR X (compareOp .NotIn) (rSign true) := by
  intro pins s σ H x y v u Q I rx ry h
  obtain ⟨c, z, e1, e2, q⟩ := h
  exact op_notIn_sign pins s σ H x y v u Q I rx ry ⟨c, z, e1, e2, by simpa using q⟩
theorem one_sign {a : Str} (h : a.cps.size = 1) : a = ⟨#[a.cps[0]!]⟩ := by
  obtain ⟨cps⟩ := a
  obtain ⟨l⟩ := cps
  cases l with
  | nil => cases h
  | cons c r =>
    cases r with
    | nil => rfl
    | cons _ _ => simp at h
theorem two_in {K : PySem.W.Frag} {neg : Bool} : Two K (fun x y H Q => rSign neg x y H Q ∨ rInP K neg x y H Q) (gInB neg) := by
  intro W μ H σ st d1 d2 x y Q rs r1 r2 e
  have gen : ∀ {p ps}, py st 64 d1 = some p → itemsP st d2 = some ps → End K W μ H σ (.ok (.bl (neg ^^ ps.any fun z => PyData.eqv z p)) st) Q → rInP K neg x y H Q := by
    intro p ps e1 e2 e
    obtain ⟨a1, a2, a3⟩ := py_ok rs r1 e1
    obtain ⟨b1, b2⟩ := itemsP_ok rs r2 e2
    exact ⟨p, ps, a1, b1, PyData.plain_of_canLay0 _ a2, b2, a3, e.go rs (.bl _)⟩
  unfold gInB at e
  split at e
  · rename_i a z
    cases r1
    cases r2
    split at e
    · rename_i h
      exact .inl ⟨_, z, congrArg V.str (one_sign h), rfl, e.go rs (.bl _)⟩
    · exact e.elim
  · split at e
    · rename_i p ps e1 e2
      exact .inr (gen e1 e2 e)
    · exact e.elim
section
variable {X : Cx} {W : WX} {a b o e : Expr} {es : List Expr} {A B m : E} {C : As} {p pos apos cpos : Pos} {k : Nat}
theorem d_in (hu : X.A.units + 65 < cLine) (ha : PE X a (tE X.K W A)) (hb : PE X b (tE X.K W B)) (hm : behindInMarks .In b = false := by rfl) : PE X (.Compare a [.In] [b] pos) (tE X.K W (eIn A B)) := d_cmpR (op_sgn.or (op_inP hu)) two_in ha hb hm
theorem d_nin (hu : X.A.units + 65 < cLine) (ha : PE X a (tE X.K W A)) (hb : PE X b (tE X.K W B)) (hm : behindInMarks .NotIn b = false := by rfl) : PE X (.Compare a [.NotIn] [b] pos) (tE X.K W (eNin A B)) := d_cmpR (op_nsgn.or (op_ninP hu)) two_in ha hb hm
theorem t_in (hu : X.A.units + 65 < cLine) (ha : PE X a (tE X.K W A)) (hb : PE X b (tE X.K W B)) (hm : behindInMarks .In b = false := by rfl) : PT X (.Compare a [.In] [b] pos) (tT X.K W (eIn A B)) := d_tcmp (op_sgn.or (op_inP hu)) two_in ha hb hm
theorem t_nin (hu : X.A.units + 65 < cLine) (ha : PE X a (tE X.K W A)) (hb : PE X b (tE X.K W B)) (hm : behindInMarks .NotIn b = false := by rfl) : PT X (.Compare a [.NotIn] [b] pos) (tT X.K W (eNin A B)) := d_tcmp (op_nsgn.or (op_ninP hu)) two_in ha hb hm

/-! ### list methods -/
/-- l.count(x) of data -/
def rCountP (K : PySem.W.Frag) : V → List V → Hp → VK → Prop := fun x xs H Q => ∃ (a : Addr) (y : V) (d : PyData) (ds : List PyData), x = V.ref a ∧ xs = [y] ∧ Dp K H (V.ref a) (.list ds) ∧ Dp K H y d ∧ PyData.plainAll ds = true ∧ d.plain = true ∧ d.depth ≤ 64 ∧ Q (.int (ds.countP fun z => PyData.eqv z d : Nat)) H
theorem mt_countP (hu : X.A.units + 65 < cLine) : MtR X "list.count" (rCountP X.K) := by
  intro pins s σ H x xs v us Q I rx rxs h
  obtain ⟨a, y, d, ds, rfl, rfl, hl, hy, p2, p1, h64, q⟩ := h
  cases rx
  obtain ⟨u, rfl, ry⟩ := rxs.one
  obtain ⟨bs, r1⟩ := Dp.reads I d y u hy ry
  cases hl with
  | lst hs ha =>
    obtain ⟨its, rv, pl, hlen⟩ := I.list hs
    obtain ⟨as, h4⟩ := Dp.readsAll I ds _ its ha rv
    have := Nat.min_le_right (PyData.depthAll ds) d.depth
    exact SeqAt.count_list_data pl.isList h4 r1 p2 p1 (by omega) ⟨.int _, H, I.tok _, ⟨_, rfl⟩, q⟩
def gCount : D → List D → Sto → R D := fun o ds st => match ds with
  | [y] => match o, py st 65 o, py st 64 y with
    | .loc _, some (.list ps), some p => .ok (.int (ps.countP fun z => PyData.eqv z p : Nat)) st
    | .rol _, some (.list ps), some p => .ok (.int (ps.countP fun z => PyData.eqv z p : Nat)) st
    | _, _, _ => .bad
  | _ => .bad
theorem met_count {K : PySem.W.Frag} : Met K (rCountP K) gCount := by
  intro W μ H σ st d v ds vs Q rs r rr e
  have gen : ∀ {y : D} {u : V} {ps : List PyData} {p : PyData} {a : Addr}, v = .ref a → RV K μ H y u → py st 65 d = some (.list ps) → py st 64 y = some p → End K W μ H σ (.ok (.int (ps.countP fun z => PyData.eqv z p : Nat)) st) Q → rCountP K v [u] H Q := by
    intro y u ps p a hv ru e1 e2 e
    obtain ⟨a1, a2, a3⟩ := py_ok rs r e1
    obtain ⟨b1, b2, b3⟩ := py_ok rs ru e2
    subst hv
    exact ⟨a, u, p, ps, rfl, rfl, a1, b1, PyData.plainAll_of_canLay0 _ (by simpa [PyData.canLay0] using a2), PyData.plain_of_canLay0 _ b2, b3, e.go rs (.int _)⟩
  unfold gCount at e
  split at e
  · obtain ⟨u, rfl, ru⟩ := rr.one
    split at e
    · cases r
      exact gen rfl ru (by assumption) (by assumption) e
    · cases r
      exact gen rfl ru (by assumption) (by assumption) e
    · exact e.elim
  · exact e.elim
def gIndex : D → List D → Sto → R D := fun o ds st => match ds with
  | [y] => match o, py st 64 o, py st 64 y with
    | .loc _, some (.list ps), some p => match ps.findIdx? fun z => PyData.eqv z p with
      | some j => .ok (.int (j : Nat)) st
      | none => .bad
    | .rol _, some (.list ps), some p => match ps.findIdx? fun z => PyData.eqv z p with
      | some j => .ok (.int (j : Nat)) st
      | none => .bad
    | _, _, _ => .bad
  | _ => .bad
theorem met_index {K : PySem.W.Frag} : Met K (rIndexD K) gIndex := by
  intro W μ H σ st d v ds vs Q rs r rr e
  have gen : ∀ {y : D} {u : V} {ps : List PyData} {p : PyData} {a : Addr} {j : Nat}, v = .ref a → RV K μ H y u → py st 64 d = some (.list ps) → py st 64 y = some p → (ps.findIdx? fun z => PyData.eqv z p) = some j → End K W μ H σ (.ok (.int (j : Nat)) st) Q → rIndexD K v [u] H Q := by
    intro y u ps p a j hv ru e1 e2 hj e
    have o1 := py_ok rs r e1
    have o2 := py_ok rs ru e2
    subst hv
    obtain ⟨hlt, h2, h3⟩ := List.findIdx?_eq_some_iff_getElem.mp hj
    refine ⟨a, u, p, ps, j, ps[j], rfl, rfl, o1.1, o2.1, o1.shaped, o2.shaped, List.getElem?_eq_getElem hlt, h2, fun m z hm hz => ?_, e.go rs (.int _)⟩
    obtain ⟨hm2, rfl⟩ := List.getElem?_eq_some_iff.mp hz
    have := h3 m hm
    simpa using this
  unfold gIndex at e
  split at e
  · obtain ⟨u, rfl, ru⟩ := rr.one
    split at e
    · split at e
      · rename_i j hj
        cases r
        exact gen rfl ru (by assumption) (by assumption) hj e
      · exact e.elim
    · split at e
      · rename_i j hj
        cases r
        exact gen rfl ru (by assumption) (by assumption) hj e
      · exact e.elim
    · exact e.elim
  · exact e.elim
def gPopAt : D → List D → Sto → R D := fun o ds st => match o, ds with
  | .loc n, [.int i] => match st[n]? with
    | some (.lst xs) => if -(2 ^ 63) ≤ i ∧ i < 2 ^ 63 then match seqIndex? i xs.length with
        | some j => match xs[j]? with
          | some y => .ok y (st.set n (.lst (xs.eraseIdx j)))
          | none => .bad
        | none => .bad
      else .bad
    | _ => .bad
  | _, _ => .bad
theorem RVs.erase {K : PySem.W.Frag} {μ : List Addr} {H : Hp} : ∀ {ds : List D} {vs : List V} (i : Nat), RVs K μ H ds vs → RVs K μ H (ds.eraseIdx i) (vs.eraseIdx i)
  | _, _, _, .nil => .nil
  | _, _, 0, .cons _ t => t
  | _, _, i + 1, .cons r t => .cons r (RVs.erase i t)
theorem met_popAt {K : PySem.W.Frag} : Met K rPopAt gPopAt := by
  intro W μ H σ st d v ds vs Q rs r rr e
  unfold gPopAt at e
  split at e
  · rename_i n i
    obtain ⟨u, rfl, q⟩ := rr.one
    cases q
    cases r with
    | @loc _ a hn =>
      split at e
      · rename_i xs hx
        split at e
        · rename_i hi
          split at e
          · rename_i j hj
            split at e
            · rename_i y hy
              obtain ⟨us, hu, qs⟩ := rs.get hx hn
              obtain ⟨v, hv, rv⟩ := qs.get hy
              obtain ⟨l, rs'⟩ := rs.wrL hn (qs.erase j)
              exact ⟨a, us, i, j, v, rfl, rfl, hu, hi.1, hi.2, by rw [← qs.length]; exact hj, hv, e v _ μ l rs' (rv.mono l)⟩
            · exact e.elim
          · exact e.elim
        · exact e.elim
      · exact e.elim
  · exact e.elim
def gReverse : D → List D → Sto → R D := fun o ds st => match o, ds with
  | .loc n, [] => match st[n]? with
    | some (.lst xs) => .ok .non (st.set n (.lst xs.reverse))
    | _ => .bad
  | _, _ => .bad
theorem met_reverse {K : PySem.W.Frag} : Met K rReverse gReverse := by
  intro W μ H σ st d v ds vs Q rs r rr e
  unfold gReverse at e
  split at e
  · rename_i n
    cases rr
    cases r with
    | @loc _ a hn =>
      split at e
      · rename_i xs hx
        obtain ⟨us, hu, qs⟩ := rs.get hx hn
        obtain ⟨l, rs'⟩ := rs.wrL hn qs.reverse
        exact ⟨a, us, rfl, rfl, hu, e .non _ μ l rs' .non⟩
      · exact e.elim
  · exact e.elim
def gExtend : D → List D → Sto → R D := fun o ds st => match o, ds with
  | .loc n, [.loc m] => match st[n]?, st[m]? with
    | some (.lst xs), some (.lst ys) => if xs.length + ys.length ≤ sizeLine then .ok .non (st.set n (.lst (xs ++ ys))) else .bad
    | _, _ => .bad
  | _, _ => .bad
theorem met_extend {K : PySem.W.Frag} : Met K rExtend gExtend := by
  intro W μ H σ st d v ds vs Q rs r rr e
  unfold gExtend at e
  split at e
  · rename_i n m
    obtain ⟨u, rfl, q⟩ := rr.one
    cases q with
    | @loc _ b hm =>
      cases r with
      | @loc _ a hn =>
        split at e
        · rename_i xs ys hx hy
          split at e
          · rename_i hz
            obtain ⟨us, hu, qs⟩ := rs.get hx hn
            obtain ⟨ws, hw, qw⟩ := rs.get hy hm
            obtain ⟨l, rs'⟩ := rs.wrL hn (qs.append qw)
            exact ⟨a, b, us, ws, rfl, rfl, hu, hw, by rw [← qs.length, ← qw.length]; exact hz, e .non _ μ l rs' .non⟩
          · exact e.elim
        · exact e.elim
  · exact e.elim
end
/-- the shapes of the methods' calls -/
abbrev eM_pop1 := eMeth isL gPopAt
abbrev eM_index1 := eMeth isL gIndex
abbrev eM_count1 := eMeth isL gCount
abbrev eM_extend1 := eMeth isL gExtend
abbrev eM_reverse0 := eMeth isL gReverse
section
variable {X : Cx} {W : WX} {o e : Expr} {m : E} {B : As} {apos cpos : Pos} {k : Nat}
theorem d_M_pop1 (hr : Room k X.A) (ho : PE X o (tE X.K W m)) (ha : PA X [e] (tA X.K W B)) (hbase : attributeBase o "pop" X.env (eval o X.env) = eval o X.env := by rfl)
    (hfew : ((backTo cpos (starEach [e] X.env)).all (fun x => !x.1) && (backToKw cpos (keywordEach [] X.env)).all (fun x => x.1.isSome) && decide (([e] : List Expr).length + ([] : List Keyword).length + (if ([] : List Keyword).isEmpty then 0 else 1) < 30)) = true := by rfl)
    (hline : (apos.endLine == cpos.line) = true := by rfl) (hs : starEach [e] X.env = (false, eval e X.env) :: starEach [] X.env := by rfl) : PE X (.Call (.Attribute o "pop" apos) [e] [] cpos) (tE X.K W (eM_pop1 m B)) :=
  d_meth PySem.F.plainAttrs_list PySem.F.slot_list_pop PySem.F.type_list_pop mt_popAt tyk_L met_popAt ho ha hbase hfew hline hs rfl
theorem d_M_extend1 (hr : Room k X.A) (ho : PE X o (tE X.K W m)) (ha : PA X [e] (tA X.K W B)) (hbase : attributeBase o "extend" X.env (eval o X.env) = eval o X.env := by rfl)
    (hfew : ((backTo cpos (starEach [e] X.env)).all (fun x => !x.1) && (backToKw cpos (keywordEach [] X.env)).all (fun x => x.1.isSome) && decide (([e] : List Expr).length + ([] : List Keyword).length + (if ([] : List Keyword).isEmpty then 0 else 1) < 30)) = true := by rfl)
    (hline : (apos.endLine == cpos.line) = true := by rfl) (hs : starEach [e] X.env = (false, eval e X.env) :: starEach [] X.env := by rfl) : PE X (.Call (.Attribute o "extend" apos) [e] [] cpos) (tE X.K W (eM_extend1 m B)) :=
  d_meth PySem.F.plainAttrs_list PySem.F.slot_list_extend PySem.F.type_list_extend mt_extend tyk_L met_extend ho ha hbase hfew hline hs rfl
theorem d_M_index1 (hr : Room k X.A) (ho : PE X o (tE X.K W m)) (ha : PA X [e] (tA X.K W B)) (hbase : attributeBase o "index" X.env (eval o X.env) = eval o X.env := by rfl)
    (hfew : ((backTo cpos (starEach [e] X.env)).all (fun x => !x.1) && (backToKw cpos (keywordEach [] X.env)).all (fun x => x.1.isSome) && decide (([e] : List Expr).length + ([] : List Keyword).length + (if ([] : List Keyword).isEmpty then 0 else 1) < 30)) = true := by rfl)
    (hline : (apos.endLine == cpos.line) = true := by rfl) (hs : starEach [e] X.env = (false, eval e X.env) :: starEach [] X.env := by rfl) : PE X (.Call (.Attribute o "index" apos) [e] [] cpos) (tE X.K W (eM_index1 m B)) :=
  d_meth PySem.F.plainAttrs_list PySem.F.slot_list_index PySem.F.type_list_index (mt_indexD (hu65 hr)) tyk_L met_index ho ha hbase hfew hline hs rfl
theorem d_M_count1 (hr : Room k X.A) (ho : PE X o (tE X.K W m)) (ha : PA X [e] (tA X.K W B)) (hbase : attributeBase o "count" X.env (eval o X.env) = eval o X.env := by rfl)
    (hfew : ((backTo cpos (starEach [e] X.env)).all (fun x => !x.1) && (backToKw cpos (keywordEach [] X.env)).all (fun x => x.1.isSome) && decide (([e] : List Expr).length + ([] : List Keyword).length + (if ([] : List Keyword).isEmpty then 0 else 1) < 30)) = true := by rfl)
    (hline : (apos.endLine == cpos.line) = true := by rfl) (hs : starEach [e] X.env = (false, eval e X.env) :: starEach [] X.env := by rfl) : PE X (.Call (.Attribute o "count" apos) [e] [] cpos) (tE X.K W (eM_count1 m B)) :=
  d_meth PySem.F.plainAttrs_list PySem.F.slot_list_count PySem.F.type_list_count (mt_countP (hu65 hr)) tyk_L met_count ho ha hbase hfew hline hs rfl
theorem d_M_reverse0 (hr : Room k X.A) (ho : PE X o (tE X.K W m)) (hbase : attributeBase o "reverse" X.env (eval o X.env) = eval o X.env := by rfl) (hline : (apos.endLine == cpos.line) = true := by rfl) :
    PE X (.Call (.Attribute o "reverse" apos) [] [] cpos) (tE X.K W (eM_reverse0 m aNil)) :=
  d_meth0 PySem.F.plainAttrs_list PySem.F.slot_list_reverse PySem.F.type_list_reverse mt_reverse tyk_L met_reverse ho hbase hline
/-- xs[::-1] -/
def eRevL (e : E) : E := fun sl st => (e sl st).bind fun d st1 => match itemsL st1 d with
  | some xs => .ok (.loc st1.length) (st1 ++ [.lst xs.reverse])
  | none => .bad
theorem d_revL {q : Nat} {p1 p2 p3 pos : Pos} (he : PE X e (tE X.K W m)) : PE X (.Subscript e (.Slice none none (some (.UnaryOp .USub (.Constant (.int 1) q p1) p2)) p3) pos) (tE X.K W (eRevL m)) := imp (pe_revL he) fun σ H Q h => by
  obtain ⟨μ, sl, st, rl, rs, e⟩ := h
  refine first rl rs e fun d st1 v H1 μ1 l1 rl1 rs1 r1 e1 => ?_
  split at e1
  · rename_i xs hx
    obtain ⟨a, vs, rfl, h1, h2⟩ := itemsL_ok rs1 r1 hx
    exact ⟨a, vs, rfl, h1, fun p hp => e1.newL rs1 h2.reverse hp⟩
  · exact e1.elim
/-- tuple(range(n)) -/
def eTupRg (e : E) : E := fun sl st => (e sl st).bind fun d st1 => match d with
  | .int n => if -(2 ^ 62) ≤ n ∧ n < 2 ^ 62 ∧ n.toNat ≤ 2 ^ 24 then .ok (.tup (rangeD 0 n.toNat)) st1 else .bad
  | _ => .bad
theorem d_tupRg {a : Expr} {A : E} {p pos p2 pos2 : Pos} (hc : X.calm = true) (hm : X.mg "tuple" = none) (hm2 : X.mg "range" = none) (ha : PE X a (tE X.K W A)) (hg : Gl X "tuple" := by rfl) (hg2 : Gl X "range" := by rfl) (na : starEach [a] X.env = (false, eval a X.env) :: starEach [] X.env := by rfl)
    (nb : starEach [(.Call (.Name "range" p2) [a] [] pos2)] X.env = (false, eval (.Call (.Name "range" p2) [a] [] pos2) X.env) :: starEach [] X.env := by rfl) : PE X (.Call (.Name "tuple" p) [.Call (.Name "range" p2) [a] [] pos2] [] pos) (tE X.K W (eTupRg A)) := imp (pe_tupRg hc hg hm (prg_1 hg2 hm2 ha na) nb) fun σ H Q h => by
  obtain ⟨μ, sl, st, rl, rs, e⟩ := h
  refine first rl rs e fun d st1 v H1 μ1 l1 rl1 rs1 r1 e1 => ?_
  cases r1 <;> first | exact e1.elim | skip
  rename_i n
  dsimp only at e1
  split at e1
  · rename_i h
    refine ⟨n, rfl, ⟨by decide, by decide, h.1, h.2.1, by rw [Int.sub_zero]; exact h.2.2⟩, fun q hq => e1.newT rs1 ?_ hq⟩
    have := rvs_range (K := X.K) (μ := μ1) (H := H1) 0 n
    rw [Int.sub_zero] at this
    exact this
  · exact e1.elim
end
end Mi
set_option Elab.async false
set_option linter.all false
set_option maxRecDepth 100000
namespace Mi
open PySem PySem.Spec PyProof.Rows L2

/-! ### [elt for .. for ..] -/
def lc2Go (g : Option Nat) (all : List D) (t : Tg) (c : E) (s1 : Src) (t1 : Tg) (c1 e : E) (vs1 : List Nat) (sl0 : Sl) : List D → Sto → R (List D)
  | [], st => if chk g all st = true then .ok [] st else .bad
  | d :: ds, st => if chk g all st = true then match t d sl0 with
      | some sl => (c sl st).bind fun b st1 => match b with
        | .bl true => (s1 sl st1).bind fun w st2 => (lcGo w.g w.items t1 c1 e (wipeD sl vs1) w.items st2).bind fun ys st3 => (lc2Go g all t c s1 t1 c1 e vs1 sl0 ds st3).bind fun zs st4 => .ok (ys ++ zs) st4
        | .bl false => lc2Go g all t c s1 t1 c1 e vs1 sl0 ds st1
        | _ => .bad
      | none => .bad
    else .bad
def eLc2 (s : Src) (t : Tg) (c : E) (s1 : Src) (t1 : Tg) (c1 e : E) (vs vs1 : List Nat) : E := fun sl st => (s sl st).bind fun w st1 =>
  (lc2Go w.g w.items t c s1 t1 c1 e vs1 (wipeD sl vs) w.items st1).calm.bind fun ys st2 => if ys.length ≤ sizeLine then .ok (.loc st2.length) (st2 ++ [.lst ys]) else .bad
/-- the new list behind a comprehension -/
theorem end_list {K : PySem.W.Frag} {W : WX} {μ μ2 : List Addr} {H H2 : Hp} {σ : L2.St} {st : Sto} {ys : List D} {av : List V} {L : Addr} {Q : VK} (h : End K W μ H σ (.ok (.loc st.length) (st ++ [.lst ys])) Q) (hle : Le μ H (μ2 ++ [L]) H2) (rs2 : Rs K μ2 H2 st) (n2 : L ∉ μ2) (hv : H2 L = some (.lst av)) (ra : RVs K μ2 H2 ys av) : Q (.ref L) H2 := by
  refine h (.ref L) H2 (μ2 ++ [L]) hle ?_ (.loc ?_)
  · refine ⟨by simp [rs2.len], ?_, fun n ob a e1 e2 => ?_⟩
    · rw [List.nodup_append]
      exact ⟨rs2.nd, by simp, fun a ha b hb => by
        have e : b = L := by simpa using hb
        subst e
        exact fun z => n2 (z ▸ ha)⟩
    · have tf : TF μ2 H2 (μ2 ++ [L]) H2 := ⟨fun n a q => by
        rw [List.getElem?_append_left (List.getElem?_eq_some_iff.mp q).1]; exact q, fun _ _ q => q, fun _ _ _ q => q⟩
      by_cases hl : n < st.length
      · rw [List.getElem?_append_left hl] at e1
        rw [List.getElem?_append_left (by rw [rs2.len]; exact hl)] at e2
        exact (rs2.ob n ob a e1 e2).tf tf rfl
      · have hl1 := (List.getElem?_eq_some_iff.mp e1).1
        have hn' : n = st.length := by simp at hl1; omega
        subst hn'
        rw [List.getElem?_append_right (Nat.le_refl _)] at e1
        rw [List.getElem?_append_right (by rw [rs2.len]; exact Nat.le_refl _)] at e2
        simp [rs2.len] at e1 e2
        subst e1; subst e2
        exact ⟨av, hv, ra.tf tf⟩
  · rw [List.getElem?_append_right (by rw [rs2.len]; exact Nat.le_refl _), rs2.len]
    simp
section
variable {X : Cx} {W : WX} {elt tg iter tg1 iter1 : Expr} {ifs ifs1 : List Expr} {scope : Scope} {own : List (Str × Nat)} {pos : Pos} {s s1 : Src} {g g1 : TG} {t t1 : Tg} {c c1 e : E}
theorem lc2_of {σ : L2.St} {H : Hp} {Q : VK} {vs vs1 : List Nat} (ht : TgOk X.K g t vs) (ht1 : TgOk X.K g1 t1 vs1) (h : tE X.K W (eLc2 s t c s1 t1 c1 e vs vs1) σ H Q) : tLc2 (tI X.K W s) g (tT X.K W0 c) (tI X.K W0 s1) g1 (tT X.K W0 c1) (tE X.K W0 e) vs vs1 σ H Q := by
  obtain ⟨μ, sl, st, rl, rs, h⟩ := h
  refine ⟨μ, sl, st, rl, rs, ?_⟩
  unfold eLc2 at h
  revert h
  cases s sl st with
  | err k fs st1 => exact fun h => h
  | bad => exact fun h => h
  | ok w st1 =>
    intro h J H1 μ1 l1 rs1 wk L hL
    obtain ⟨ys, stF, hF⟩ : ∃ ys stF, lc2Go w.g w.items t c s1 t1 c1 e vs1 (wipeD sl vs) w.items st1 = .ok ys stF := by
      revert h
      show End X.K W μ H σ ((lc2Go w.g w.items t c s1 t1 c1 e vs1 (wipeD sl vs) w.items st1).calm.bind _) Q → _
      cases lc2Go w.g w.items t c s1 t1 c1 e vs1 (wipeD sl vs) w.items st1 with
      | ok ys st2 => exact fun _ => ⟨ys, st2, rfl⟩
      | err _ _ _ => exact fun h => h.elim
      | bad => exact fun h => h.elim
    have h : End X.K W μ H σ ((lc2Go w.g w.items t c s1 t1 c1 e vs1 (wipeD sl vs) w.items st1).calm.bind fun ys st2 => if ys.length ≤ sizeLine then .ok (.loc st2.length) (st2 ++ [.lst ys]) else .bad) Q := h
    rw [hF] at h
    have h : End X.K W μ H σ (if ys.length ≤ sizeLine then .ok (.loc stF.length) (stF ++ [.lst ys]) else .bad) Q := h
    split at h
    case isFalse => exact h.elim
    rename_i hz
    have nL : L ∉ μ1 := rs1.fresh hL
    refine ⟨fun i m H2 => ∃ μ2 st2 acc av rest, H2 L = some (.lst av) ∧ RVs X.K μ2 H2 acc av ∧ Le μ1 H1 μ2 H2 ∧ L ∉ μ2 ∧ Rl X.K μ2 H2 (L2.wipe σ vs) (wipeD sl vs) ∧ Rs X.K μ2 H2 st2 ∧ m = w.items.length - i ∧ i ≤ w.items.length ∧
      lc2Go w.g w.items t c s1 t1 c1 e vs1 (wipeD sl vs) (w.items.drop i) st2 = .ok rest stF ∧ ys = acc ++ rest,
      ⟨w.items.length, μ1, st1, [], [], ys, upd_same, .nil, .laid hL, nL, ((rl.mono l1).mono (.laid hL)).wipe vs, rs1.laid hL, by simp, Nat.zero_le _, by rw [List.drop_zero]; exact hF, rfl⟩, fun i m H2 hw => ?_⟩
    obtain ⟨μ2, st2, acc, av, rest, hv, ra, l2, n2, rl2, rs2, rfl, hi, hrun, hys⟩ := hw
    by_cases hlt : i < w.items.length
    · rw [List.drop_eq_getElem_cons hlt] at hrun
      unfold lc2Go at hrun
      split at hrun
      case isFalse => cases hrun
      rename_i hc2
      split at hrun
      case h_2 => cases hrun
      rename_i sl3 et
      obtain ⟨hgo, hy⟩ := wk.go i w.items[i] μ2 H2 st2 l2.tf rs2 hc2 (List.getElem?_eq_getElem hlt)
      refine .inr ⟨hgo, fun H6 => ∃ μ6 st6 acc av rest, H6 L = some (.lst av) ∧ RVs X.K μ6 H6 acc av ∧ Le μ1 H1 μ6 H6 ∧ L ∉ μ6 ∧ Rl X.K μ6 H6 (L2.wipe σ vs) (wipeD sl vs) ∧ Rs X.K μ6 H6 st6 ∧
        lc2Go w.g w.items t c s1 t1 c1 e vs1 (wipeD sl vs) (w.items.drop (i + 1)) st6 = .ok rest stF ∧ ys = acc ++ rest, fun H6 hN => ?_, fun x H3 y3 => ?_⟩
      · obtain ⟨μ6, st6, acc6, av6, rest6, a1, a2, a3, a4, a5, a6, a8, a9⟩ := hN
        exact ⟨w.items.length - (i + 1), by omega, μ6, st6, acc6, av6, rest6, a1, a2, a3, a4, a5, a6, rfl, hlt, a8, a9⟩
      · obtain ⟨l3, rs3, rv3⟩ := hy x H3 y3
        refine ht μ2 H3 x _ _ _ sl3 _ (rl2.mono l3) rv3 et fun σ5 rl5 hw5 => ⟨hw5.trans wipe_idem, ?_⟩
        obtain ⟨b, st4, hc4, hrun⟩ := R.bind_ok hrun
        refine ⟨μ2, sl3, st2, rl5, rs3, ?_⟩
        rw [hc4]
        intro v4 H4 μ4 l4 rs4 rv4
        have h3 : H3 L = some (.lst av) := l3.keep L _ n2 hv
        have h4 : H4 L = some (.lst av) := l4.keep L _ n2 h3
        have n4 : L ∉ μ4 := l4.out n2 (by rw [h3]; simp)
        cases rv4 <;> first | cases hrun | skip
        rename_i k
        cases k with
        | false =>
          refine ⟨false, rfl, iteF ?_⟩
          exact ⟨μ4, st4, acc, av, rest, h4, ra.mono (l3.trans l4), l2.trans (l3.trans l4), n4, rl2.mono (l3.trans l4), rs4, hrun, hys⟩
        | true =>
          refine ⟨true, rfl, iteT ?_⟩
          obtain ⟨w1, st5, hs5, hrun⟩ := R.bind_ok hrun
          obtain ⟨ys1, st6, hr6, hrun⟩ := R.bind_ok hrun
          obtain ⟨rest', stF', hr7, hfin⟩ := R.bind_ok hrun
          cases hfin
          refine ⟨μ4, sl3, st4, rl5.mono l4, rs4, ?_⟩
          rw [hs5]
          intro J1 H5 μ5 l5 rs5 wk1
          have h5 : H5 L = some (.lst av) := l5.keep L _ n4 h4
          have n5 : L ∉ μ5 := l5.out n4 (by rw [h4]; simp)
          have l35 := (l3.trans l4).trans l5
          -- the inner loop
          refine ⟨fun j m1 H7 => ∃ μ7 st7 acc7 av7 rest7, H7 L = some (.lst av7) ∧ RVs X.K μ7 H7 acc7 av7 ∧ Le μ1 H1 μ7 H7 ∧ TF μ5 H5 μ7 H7 ∧ L ∉ μ7 ∧ Rs X.K μ7 H7 st7 ∧ m1 = w1.items.length - j ∧ j ≤ w1.items.length ∧
            lcGo w1.g w1.items t1 c1 e (wipeD sl3 vs1) (w1.items.drop j) st7 = .ok rest7 st6 ∧ acc ++ ys1 = acc7 ++ rest7,
            ⟨w1.items.length, μ5, st5, acc, av, ys1, h5, ra.mono l35, l2.trans l35, ⟨fun _ _ q => q, fun _ _ q => q, fun _ _ _ q => q⟩, n5, rs5, by simp, Nat.zero_le _, by rw [List.drop_zero]; exact hr6, rfl⟩, fun j m1 H7 hw7 => ?_⟩
          obtain ⟨μ7, st7, acc7, av7, rest7, h7, ra7, l7, tf7, n7, rs7, rfl, hj, hr7', hys7⟩ := hw7
          have rl7 : Rl X.K μ7 H7 σ5 sl3 := (rl5.mono (l4.trans l5)).tf tf7
          by_cases hlt1 : j < w1.items.length
          · rw [List.drop_eq_getElem_cons hlt1] at hr7'
            unfold lcGo at hr7'
            split at hr7'
            case isFalse => cases hr7'
            rename_i hc8
            split at hr7'
            case h_2 => cases hr7'
            rename_i sl9 et9
            obtain ⟨hgo1, hy1⟩ := wk1.go j w1.items[j] μ7 H7 st7 tf7 rs7 hc8 (List.getElem?_eq_getElem hlt1)
            refine .inr ⟨hgo1, fun H9 => ∃ μ7 st7 acc7 av7 rest7, H9 L = some (.lst av7) ∧ RVs X.K μ7 H9 acc7 av7 ∧ Le μ1 H1 μ7 H9 ∧ TF μ5 H5 μ7 H9 ∧ L ∉ μ7 ∧ Rs X.K μ7 H9 st7 ∧
              lcGo w1.g w1.items t1 c1 e (wipeD sl3 vs1) (w1.items.drop (j + 1)) st7 = .ok rest7 st6 ∧ acc ++ ys1 = acc7 ++ rest7, fun H9 hN => ?_, fun x1 H9 y9 => ?_⟩
            · obtain ⟨μ6, st6', acc6, av6, rest6, a1, a2, a3, a4, a5, a6, a8, a9⟩ := hN
              exact ⟨w1.items.length - (j + 1), by omega, μ6, st6', acc6, av6, rest6, a1, a2, a3, a4, a5, a6, rfl, hlt1, a8, a9⟩
            · obtain ⟨l9, rs9, rv9⟩ := hy1 x1 H9 y9
              refine ht1 μ7 H9 x1 _ _ _ sl9 _ ((rl7.mono l9).wipe vs1) rv9 et9 fun σ9 rl9 hw9 => ⟨hw9.trans wipe_idem, ?_⟩
              obtain ⟨b1, st10, hc10, hrun1⟩ := R.bind_ok hr7'
              refine ⟨μ7, sl9, st7, rl9, rs9, ?_⟩
              rw [hc10]
              intro v10 H10 μ10 l10 rs10 rv10
              have h9 : H9 L = some (.lst av7) := l9.keep L _ n7 h7
              have h10 : H10 L = some (.lst av7) := l10.keep L _ n7 h9
              have n10 : L ∉ μ10 := l10.out n7 (by rw [h9]; simp)
              have tr : ∀ {a b c : List Addr} {A B C : Hp}, TF a A b B → TF b B c C → TF a A c C := fun x y => ⟨fun n a q => y.at_ n a (x.at_ n a q), fun a xs q => y.tup a xs (x.tup a xs q), fun a o u q => y.frz a o u (x.frz a o u q)⟩
              have tf10 : TF μ5 H5 μ10 H10 := tr tf7 (l9.trans l10).tf
              cases rv10 <;> first | cases hrun1 | skip
              rename_i k1
              cases k1 with
              | false =>
                refine ⟨false, rfl, iteF ?_⟩
                exact ⟨μ10, st10, acc7, av7, rest7, h10, ra7.mono (l9.trans l10), l7.trans (l9.trans l10), tf10, n10, rs10, hrun1, hys7⟩
              | true =>
                refine ⟨true, rfl, iteT ?_⟩
                obtain ⟨yd, st11, he11, hrun1⟩ := R.bind_ok hrun1
                obtain ⟨rest8, stG, hr12, hfin⟩ := R.bind_ok hrun1
                cases hfin
                refine ⟨μ10, sl9, st10, rl9.mono l10, rs10, ?_⟩
                rw [he11]
                intro yv H11 μ11 l11 rs11 ry
                have h11 : H11 L = some (.lst av7) := l11.keep L _ n10 h10
                have n11 : L ∉ μ11 := l11.out n10 (by rw [h10]; simp)
                have l911 := (l9.trans l10).trans l11
                refine ⟨av7, h11, ?_, μ11, st11, acc7 ++ [yd], av7 ++ [yv], rest8, upd_same, ?_, (l7.trans l911).skip hL, tr (tr tf7 l911.tf) (.wr h11), n11, rs11.off h11 n11, hr12, ?_⟩
                · have q1 := ra7.length
                  have q2 : ys.length = acc7.length + (rest8.length + 1) + rest'.length := by
                    rw [hys, ← List.append_assoc, hys7]
                    simp
                    omega
                  omega
                · exact ((ra7.mono l911).append (.cons ry .nil)).tf (.wr h11)
                · rw [hys7, List.append_assoc]
                  rfl
          · rw [List.drop_eq_nil_of_le (by omega)] at hr7'
            unfold lcGo at hr7'
            split at hr7'
            case isFalse => cases hr7'
            rename_i hc8
            cases hr7'
            refine .inl ⟨wk1.stop j μ7 H7 _ tf7 rs7 hc8 (by omega), ?_⟩
            refine ⟨μ7, _, acc7, av7, rest', h7, ra7, l7, n7, (rl2.mono ((l3.trans l4).trans l5)).tf tf7, rs7, hr7, ?_⟩
            rw [hys, ← List.append_assoc, hys7, List.append_nil]
    · rw [List.drop_eq_nil_of_le (by omega)] at hrun
      unfold lc2Go at hrun
      split at hrun
      case isFalse => cases hrun
      rename_i hc2
      cases hrun
      refine .inl ⟨wk.stop i μ2 H2 stF l2.tf rs2 hc2 (by omega), ?_⟩
      rw [List.append_nil] at hys
      subst hys
      exact end_list h (l1.trans (l2.incl hL)) rs2 n2 hv ra
theorem d_lc2 (hc : X.calm = true) (hN : X.N.Nodup) (ok : BlkOk X.N X.env.scope scope own) {vs1 : List Nat} (hv : ∀ i ∈ vs1, i ∈ own.map (·.2)) (hi : PI X tg iter (tI X.K W s)) (ht : TgOk X.K g t (own.map (·.2))) (ht1 : TgOk X.K g1 t1 vs1)
    (hg : ∀ (s : Shared) (H : Hp) (C : Addr) (cl : List (Str × Addr)) (fp : List Addr), PG (X.blk s H scope (compEnvC scope cl C X.env) fp) tg g) (hcs : ∀ (s : Shared) (H : Hp) (C : Addr) (cl : List (Str × Addr)) (fp : List Addr), PTs (X.blk s H scope (compEnvC scope cl C X.env) fp) ifs (tT X.K W0 c))
    (hi1 : ∀ (s : Shared) (H : Hp) (C : Addr) (cl : List (Str × Addr)) (fp : List Addr), PI (X.blk s H scope (compEnvC scope cl C X.env) fp) tg1 iter1 (tI X.K W0 s1))
    (hg1 : ∀ (s : Shared) (H : Hp) (C : Addr) (cl : List (Str × Addr)) (fp : List Addr), PG (X.blk s H scope (compEnvC scope cl C X.env) fp) tg1 g1) (hcs1 : ∀ (s : Shared) (H : Hp) (C : Addr) (cl : List (Str × Addr)) (fp : List Addr), PTs (X.blk s H scope (compEnvC scope cl C X.env) fp) ifs1 (tT X.K W0 c1))
    (he : ∀ (s : Shared) (H : Hp) (C : Addr) (cl : List (Str × Addr)) (fp : List Addr), PE (X.blk s H scope (compEnvC scope cl C X.env) fp) elt (tE X.K W0 e)) (hs : ∀ x, foldedSetIterable iter X.env x = pure x := by intro _; rfl) (hs1 : ∀ env x, foldedSetIterable iter1 env x = pure x := by intro _ _; rfl) :
    PE X (.ListComp elt [⟨tg, iter, ifs, 0⟩, ⟨tg1, iter1, ifs1, 0⟩] scope pos) (tE X.K W (eLc2 s t c s1 t1 c1 e (own.map (·.2)) vs1)) := imp (pe_lc2 hc hN hi ok hv hg hcs hi1 hg1 hcs1 he hs hs1) fun _ _ _ h => lc2_of ht ht1 h
end
end Mi
set_option Elab.async false
set_option linter.all false
set_option maxRecDepth 100000
namespace Mi
open PySem PySem.Spec PyProof.Rows L2
/-! ### the end -/
theorem there_mk {K : PySem.W.Frag} {mg : Str → Option Value} {h : Heap} {x : String} {st : Stmt} {ps : List Str} {f : Addr} {oc : Value} {od an : Option Addr} {osl : Array (Option Value)} {kV doc pm cdv ct : Value} (X : K.In h) (G : h.Ns mainGlobals mg)
    (a : PySem.W.nsIn K mainGlobals (Str.ofString x) = some (some (.ref f)))
    (l : K.lookup f = some ⟨oc, od, .func (PySem.W.fnOf (Str.ofString x) (Str.ofString x) (defArgs st) (defBody st) (defScope st) .none kV doc pm an cdv ct), osl⟩)
    (c : PySem.W.codeIn K cdv (Str.ofString x) = true) (k : PySem.W.keepIn K (.ref f) = true)
    (b : ∀ (kV doc pm : Value) (an : Option Addr) (cdv ct : Value) (us : List Value), us.length = ps.length → bindArgs (PySem.W.fnOf (Str.ofString x) (Str.ofString x) (defArgs st) (defBody st) (defScope st) .none kV doc pm an cdv ct) ⟨us, []⟩ = pure (ps.zip us)) : There K mg x st ps := by
  have F := fun_mk (st := st) l c k
  exact ⟨f, _, F, PySem.W.mg_of X G a, F.binds (ps := ps) b⟩
theorem with_there {C : Prop} {K : PySem.W.Frag} {mg : Str → Option Value} {h : Heap} (x : String) (st : Stmt) (ps : List Str) {f : Addr} {oc : Value} {od an : Option Addr} {osl : Array (Option Value)} {kV doc pm cdv ct : Value} (X : K.In h) (G : h.Ns mainGlobals mg)
    (a : PySem.W.nsIn K mainGlobals (Str.ofString x) = some (some (.ref f)))
    (l : K.lookup f = some ⟨oc, od, .func (PySem.W.fnOf (Str.ofString x) (Str.ofString x) (defArgs st) (defBody st) (defScope st) .none kV doc pm an cdv ct), osl⟩)
    (c : PySem.W.codeIn K cdv (Str.ofString x) = true) (k : PySem.W.keepIn K (.ref f) = true)
    (b : ∀ (kV doc pm : Value) (an : Option Addr) (cdv ct : Value) (us : List Value), us.length = ps.length → bindArgs (PySem.W.fnOf (Str.ofString x) (Str.ofString x) (defArgs st) (defBody st) (defScope st) .none kV doc pm an cdv ct) ⟨us, []⟩ = pure (ps.zip us)) (n : There K mg x st ps → C) : C := n (there_mk X G a l c k b)
theorem with_none {C : Prop} {K : PySem.W.Frag} {mg : Str → Option Value} {h : Heap} (x : String) (X : K.In h) (G : h.Ns mainGlobals mg) (a : PySem.W.nsIn K mainGlobals (Str.ofString x) = some none) (n : mg (Str.ofString x) = none → C) : C := n (PySem.W.mg_none_of X G a)
/-- a constant of the module that is an int, a text -/
theorem cn_int {K : PySem.W.Frag} {mg : Str → Option Value} {h : Heap} {x : String} {i : Int} {t : Tok} (X : K.In h) (G : h.Ns mainGlobals mg) (a : PySem.W.nsIn K mainGlobals (Str.ofString x) = some (some (.int i t))) : CN K mg x (.int i) := ⟨.int i, _, PySem.W.mg_of X G a, ⟨t, rfl⟩, fun _ _ => .int i⟩
theorem cn_str {K : PySem.W.Frag} {mg : Str → Option Value} {h : Heap} {x : String} {z : Str} {t : Tok} (X : K.In h) (G : h.Ns mainGlobals mg) (a : PySem.W.nsIn K mainGlobals (Str.ofString x) = some (some (.str z t))) : CN K mg x (.str z) := ⟨.str z, _, PySem.W.mg_of X G a, ⟨t, rfl⟩, fun _ _ => .str z⟩
theorem with_int {C : Prop} {K : PySem.W.Frag} {mg : Str → Option Value} {h : Heap} (x : String) (i : Int) {t : Tok} (X : K.In h) (G : h.Ns mainGlobals mg) (a : PySem.W.nsIn K mainGlobals (Str.ofString x) = some (some (.int i t))) (n : CN K mg x (.int i) → C) : C := n (cn_int X G a)
theorem with_str {C : Prop} {K : PySem.W.Frag} {mg : Str → Option Value} {h : Heap} (x : String) (z : Str) {t : Tok} (X : K.In h) (G : h.Ns mainGlobals mg) (a : PySem.W.nsIn K mainGlobals (Str.ofString x) = some (some (.str z t))) (n : CN K mg x (.str z) → C) : C := n (cn_str X G a)
/-- the law's promise, from its mirror's value -/
theorem rvs_ints {K : PySem.W.Frag} {μ : List Addr} {H : Hp} : ∀ ns : List Int, RVs K μ H (ns.map D.int) (ns.map V.int)
  | [] => .nil
  | n :: ns => .cons (.int n) (rvs_ints ns)
theorem law_sp {K : PySem.W.Frag} {F : Fd} {H : Hp} {a : Addr} {ns : List Int} (hO : Only H) (hS : SqL K H a (ns.map V.int)) (h : ∃ st, F [.rol (ns.map D.int)] [] = .ok (.bl true) st) : spD K 1 F [.ref a] H (fun v _ => v = .bl true) fun _ _ _ => False := by
  obtain ⟨st, e⟩ := h
  have fz : Frz K H a (ns.map V.int) := by
    rcases hS with (hS | ⟨o, hS⟩) | hS
    · rcases hO a with z | ⟨o, xs, z⟩
      · rw [hS] at z; cases z
      · rw [hS] at z; cases z
    · exact .inl ⟨o, hS⟩
    · exact .inr hS
  refine ⟨[], [.rol (ns.map D.int)], [], .cons (.rol fz (rvs_ints ns)) .nil, ⟨rfl, List.nodup_nil, fun n o a h => by simp at h⟩, rfl, ?_⟩
  rw [e]
  intro v H' μ' l rs rv
  cases rv
  rfl
end Mi
set_option Elab.async false
set_option linter.all false
set_option maxRecDepth 100000
namespace Mi
open PySem PySem.Spec PyProof.Rows L2

/-! ### max(xs, default=d) of whole numbers -/
def rMaxDef (K : PySem.W.Frag) : List V → List V → Hp → VK → Prop := fun vs zs H Q => ∃ (a : Addr) (ns : List Int) (z : Int), vs = [.ref a] ∧ zs = [.int z] ∧ SqL K H a (ns.map V.int) ∧ Q (.int (ns.max?.getD z)) H
theorem reads_ints {h : Heap} : ∀ {ns : List Int} {us : List Value}, Vals (ns.map V.int) us → ReadsAll h us (ns.map PyData.int) []
  | [], _, .nil => .nil
  | n :: ns, u :: us, .cons r rr => by
    obtain ⟨t, rfl⟩ := r
    exact ReadsAll.cons (as := []) (bs := []) (.int n t) (reads_ints rr)
theorem dataLt_int (a b : Int) : PySem.W.dataLt (.int a) (.int b) = decide (a < b) := by
  simp [PySem.W.dataLt, PySem.W.keyToks, PyProof.Rows.lexLt, PyProof.Rows.itemOrd, PyProof.Rows.itemLt]
theorem maxD_ints (y : Int) (ys : List Int) : PySem.W.maxD (.int y) (ys.map PyData.int) = .int (ys.foldl max y) := by
  unfold PySem.W.maxD
  induction ys generalizing y with
  | nil => rfl
  | cons x xs ih =>
    rw [List.map_cons, List.foldl_cons, List.foldl_cons, dataLt_int]
    by_cases h : y < x
    · rw [if_pos (by simpa using h), ih, Int.max_eq_right (by omega)]
    · rw [if_neg (by simpa using h), ih, Int.max_eq_left (by omega)]
theorem alike_ints (ns : List Int) : PySem.W.AlikeAll (ns.map PyData.int) := by
  refine ⟨fun x hx y hy => ?_, fun x hx => ?_⟩
  · obtain ⟨a, _, rfl⟩ := List.mem_map.mp hx
    obtain ⟨b, _, rfl⟩ := List.mem_map.mp hy
    rfl
  · obtain ⟨a, _, rfl⟩ := List.mem_map.mp hx
    simp
theorem depth_ints (ns : List Int) : PyData.depthAll (ns.map PyData.int) ≤ 1 := by
  induction ns with
  | nil => simp [PyData.depthAll]
  | cons n ns ih => simp [PyData.depthAll, PyData.depth]; omega
theorem crk_maxDef {X : Cx} (hc : X.calm = true) (hu : X.A.units + 65 < cLine) : CallRK X (.builtin "max") ["default"] (rMaxDef X.K) := by
  intro pins s σ H xs zs us ws Q I rx rz h
  obtain ⟨a, ns, z, rfl, rfl, hs, q⟩ := h
  obtain ⟨u, rfl, ru⟩ := rx.one
  obtain ⟨w, rfl, rw⟩ := rz.one
  obtain rfl : u = .ref a := ru
  obtain ⟨its, rv, pl, hlen⟩ := I.list hs
  have hd := depth_ints ns
  refine PySem.W.max_list_default (xs := ns.map PyData.int) (I.ok.hd hc) pl.isList (reads_ints rv) (alike_ints ns) (by omega) (fun e h' tk hk => ?_) fun y ys i v h' tk bs e hv rd hk => ?_
  · have e0 : ns = [] := by simpa using e
    subst e0
    exact ⟨.int z, H, I.kept hk, rw, q⟩
  · cases ns with
    | nil => cases e
    | cons n ns =>
      rw [List.map_cons] at e
      obtain ⟨rfl, rfl⟩ := List.cons.inj e
      rw [maxD_ints] at rd
      cases rd with
      | int _ t => exact ⟨.int _, H, I.kept hk, ⟨t, rfl⟩, q⟩
def gMaxDef (d : D) (z : Int) : Sto → R D := fun st => match itemsL st d with
  | some xs => match intsD xs with
    | some is => .ok (.int (is.max?.getD z)) st
    | none => .bad
  | none => .bad
def eMaxDef (e : E) (z : Int) : E := fun sl st => (e sl st).bind fun d st1 => gMaxDef d z st1
section
variable {X : Cx} {W : WX} {e : Expr} {m : E} {p pos kpos ipos : Pos}
theorem d_maxDef {z : Int} (hc : X.calm = true) (hu : X.A.units + 65 < cLine) (hm : X.mg "max" = none) (he : PE X e (tE X.K W m)) (hz : PE X ez (tE X.K W (eC (.int z)))) (hg : Gl X "max" := by rfl)
    (hs : backTo pos (starEach [e] X.env) = (false, eval e X.env) :: backTo pos (starEach [] X.env) := by rfl) (h2 : ((backTo pos (starEach [e] X.env)).any fun x => x.1) = false := by rfl) (h3 : ((backToKw pos (keywordEach [⟨some "default", ez, kpos⟩] X.env)).all fun x => x.1.isSome) = true := by rfl) (h4 : ((backToKw pos (keywordEach [⟨some "default", ez, kpos⟩] X.env)).any fun x => x.1.isNone) = false := by rfl)
    (h5 : List.filterMap (fun x => x.1) (backToKw pos (keywordEach [⟨some "default", ez, kpos⟩] X.env)) = (["default"] : List Str) := by rfl) (hs0 : starEach [e] X.env = (false, eval e X.env) :: starEach [] X.env := by rfl) : PE X (.Call (.Name "max" p) [e] [⟨some "default", ez, kpos⟩] pos) (tE X.K W (eMaxDef m z)) :=
  imp (pe_callBK (crk_maxDef hc hu) hg hm (by decide +kernel) (pa_cons he pa_nil hs0) (pk_cons hz pk_nil) (by decide) (by decide) hs h2 h3 h4 h5) fun σ H Q h => by
    obtain ⟨μ, sl, st, rl, rs, h⟩ := h
    refine first rl rs h fun d st1 v H1 μ1 l rl1 rs1 rv e1 => ?_
    unfold gMaxDef at e1
    split at e1
    · rename_i xs hx
      split at e1
      · rename_i is hi
        refine ⟨μ1, sl, st1, rl1, rs1, ?_⟩
        intro v2 H2 μ2 l2 rs2 rv2
        cases rv2
        obtain ⟨a, us, rfl, h1, h2⟩ := itemsL_ok rs2 (rv.mono l2) hx
        obtain ⟨rfl, _⟩ := intsD_ok h2 hi
        exact ⟨a, is, z, rfl, rfl, h1, (e1.on l2).go rs2 (.int _)⟩
      · exact e1.elim
    · exact e1.elim
end
end Mi
set_option Elab.async false
set_option linter.all false
set_option maxRecDepth 100000
namespace Mi
open PySem PySem.Spec PyProof.Rows L2
/-! ### all -/
def blsD : List D → Option (List Bool)
  | [] => some []
  | .bl i :: ds => match blsD ds with
    | some is => some (i :: is)
    | none => none
  | _ => none
theorem blsD_ok {K : PySem.W.Frag} {μ : List Addr} {H : Hp} : ∀ {ds : List D} {vs : List V} {is : List Bool}, RVs K μ H ds vs → blsD ds = some is → vs = is.map V.bl ∧ ds = is.map D.bl
  | [], _, _, .nil, h => by cases h; exact ⟨rfl, rfl⟩
  | d :: ds, v :: vs, is, .cons r rr, h => by
    cases r <;> first | cases h | skip
    rename_i i
    unfold blsD at h
    split at h
    · rename_i js e
      cases h
      obtain ⟨h1, h2⟩ := blsD_ok rr e
      exact ⟨by rw [h1]; rfl, by rw [h2]; rfl⟩
    · cases h
theorem blsD_map : ∀ is : List Bool, blsD (is.map D.bl) = some is
  | [] => rfl
  | i :: is => by
    show blsD (.bl i :: is.map D.bl) = _
    unfold blsD
    rw [blsD_map is]
def gBls (f : List Bool → Bool) : GA := fun ds st => match ds with
  | [d] => match itemsL st d with
    | some xs => match blsD xs with
      | some bs => .ok (.bl (f bs)) st
      | none => .bad
    | none => .bad
  | _ => .bad
def gAll : GA := gBls fun bs => bs.all id
def gAny : GA := gBls fun bs => bs.any id
theorem gBls_ok {K : PySem.W.Frag} {f : List Bool → Bool} {W : WX} {μ : List Addr} {H : Hp} {σ : L2.St} {st : Sto} {ds : List D} {vs : List V} {Q : VK} (rs : Rs K μ H st) (r : RVs K μ H ds vs) (e : End K W μ H σ (gBls f ds st) Q) :
    ∃ a bs, vs = [.ref a] ∧ SqL K H a (bs.map V.bl) ∧ Q (.bl (f bs)) H := by
  unfold gBls at e
  split at e
  · obtain ⟨v, rfl, q⟩ := r.one
    split at e
    · rename_i xs hx
      split at e
      · rename_i is hi
        obtain ⟨a, us, rfl, h1, h2⟩ := itemsL_ok rs q hx
        obtain ⟨rfl, _⟩ := blsD_ok h2 hi
        exact ⟨a, is, rfl, h1, e.go rs (.bl _)⟩
      · exact e.elim
    · exact e.elim
  · exact e.elim
theorem cal_all {K : PySem.W.Frag} : Cal K (rAll K) gAll := fun W μ H σ st ds vs Q rs r e => gBls_ok rs r e
/-! ### texts: index, split -/
def gSIndex : D → List D → Sto → R D := fun o ds st => match o, ds with
  | .str a, [.str b] => match Builtin.Str.occurrences a b 0 a.length 1 with
    | i :: _ => .ok (.int (i : Nat)) st
    | [] => .bad
  | _, _ => .bad
def gSSplit : D → List D → Sto → R D := fun o ds st => match o, ds with
  | .str a, [.str b] => if (b.length == 0) = false ∧ a.length + 2 ≤ sizeLine then .ok (.loc st.length) (st ++ [.lst ((Txt.split a b).map D.str)]) else .bad
  | _, _ => .bad
theorem rvs_strs {K : PySem.W.Frag} {μ : List Addr} {H : Hp} : ∀ ys : List Str, RVs K μ H (ys.map D.str) (ys.map V.str)
  | [] => .nil
  | y :: ys => .cons (.str y) (rvs_strs ys)
theorem met_sindex {K : PySem.W.Frag} : Met K (fun x xs H Q => ∃ a b i rest, x = V.str a ∧ xs = [V.str b] ∧ Builtin.Str.occurrences a b 0 a.length 1 = i :: rest ∧ Q (V.int (i : Nat)) H) gSIndex := by
  intro W μ H σ st d v ds vs Q rs r rr e
  unfold gSIndex at e
  split at e
  · obtain ⟨u, rfl, q⟩ := rr.one
    cases r; cases q
    split at e
    · rename_i i rest ho
      exact ⟨_, _, i, rest, rfl, rfl, ho, e.go rs (.int _)⟩
    · exact e.elim
  · exact e.elim
theorem met_ssplit {K : PySem.W.Frag} : Met K (fun x xs H Q => ∃ a b, x = V.str a ∧ xs = [V.str b] ∧ (b.length == 0) = false ∧ a.length + 2 ≤ sizeLine ∧ rNewStrs (Txt.split a b) H Q) gSSplit := by
  intro W μ H σ st d v ds vs Q rs r rr e
  unfold gSSplit at e
  split at e
  · obtain ⟨u, rfl, q⟩ := rr.one
    cases r; cases q
    split at e
    · rename_i h
      exact ⟨_, _, rfl, rfl, h.1, h.2, fun p hp => e.newL rs (rvs_strs _) hp⟩
    · exact e.elim
  · exact e.elim
abbrev eM_sindex1 := eMeth isS gSIndex
abbrev eM_split1 := eMeth isS gSSplit
section
variable {X : Cx} {W : WX} {o e : Expr} {m : E} {B : As} {p pos apos cpos : Pos} {k : Nat}
theorem d_all (hc : X.calm = true) (hm : X.mg "all" = none) (ha : PA X [e] (tA X.K W B)) (hg : Gl X "all" := by rfl) (he : starEach [e] X.env = (false, eval e X.env) :: starEach [] X.env := by rfl) : PE X (.Call (.Name "all" p) [e] [] pos) (tE X.K W (eCall gAll B)) := d_callB (cr_all hc) cal_all hm (by decide +kernel) ha hg (by decide) (by decide) he rfl
theorem d_M_sindex1 (hr : Room k X.A) (ho : PE X o (tE X.K W m)) (ha : PA X [e] (tA X.K W B)) (hbase : attributeBase o "index" X.env (eval o X.env) = eval o X.env := by rfl)
    (hfew : ((backTo cpos (starEach [e] X.env)).all (fun x => !x.1) && (backToKw cpos (keywordEach [] X.env)).all (fun x => x.1.isSome) && decide (([e] : List Expr).length + ([] : List Keyword).length + (if ([] : List Keyword).isEmpty then 0 else 1) < 30)) = true := by rfl)
    (hline : (apos.endLine == cpos.line) = true := by rfl) (hs : starEach [e] X.env = (false, eval e X.env) :: starEach [] X.env := by rfl) : PE X (.Call (.Attribute o "index" apos) [e] [] cpos) (tE X.K W (eM_sindex1 m B)) :=
  d_meth PySem.F.plainAttrs_str PySem.F.slot_str_index PySem.F.type_str_index mt_sindex tyk_S met_sindex ho ha hbase hfew hline hs rfl
theorem d_M_split1 (hr : Room k X.A) (ho : PE X o (tE X.K W m)) (ha : PA X [e] (tA X.K W B)) (hbase : attributeBase o "split" X.env (eval o X.env) = eval o X.env := by rfl)
    (hfew : ((backTo cpos (starEach [e] X.env)).all (fun x => !x.1) && (backToKw cpos (keywordEach [] X.env)).all (fun x => x.1.isSome) && decide (([e] : List Expr).length + ([] : List Keyword).length + (if ([] : List Keyword).isEmpty then 0 else 1) < 30)) = true := by rfl)
    (hline : (apos.endLine == cpos.line) = true := by rfl) (hs : starEach [e] X.env = (false, eval e X.env) :: starEach [] X.env := by rfl) : PE X (.Call (.Attribute o "split" apos) [e] [] cpos) (tE X.K W (eM_split1 m B)) :=
  d_meth PySem.F.plainAttrs_str PySem.F.slot_str_split PySem.F.type_str_split mt_split tyk_S met_ssplit ho ha hbase hfew hline hs rfl
theorem d_join (ho : PE X o (tE X.K W m)) (ha : PA X [e] (tA X.K W B)) (hbase : attributeBase o "join" X.env (eval o X.env) = eval o X.env := by rfl)
    (hfew : ((backTo cpos (starEach [e] X.env)).all (fun x => !x.1) && (backToKw cpos (keywordEach [] X.env)).all (fun x => x.1.isSome) && decide (([e] : List Expr).length + ([] : List Keyword).length + (if ([] : List Keyword).isEmpty then 0 else 1) < 30)) = true := by rfl)
    (hline : (apos.endLine == cpos.line) = true := by rfl) (hs : starEach [e] X.env = (false, eval e X.env) :: starEach [] X.env := by rfl) : PE X (.Call (.Attribute o "join" apos) [e] [] cpos) (tE X.K W (eMeth isS gJoin m B)) :=
  d_meth PySem.F.plainAttrs_str PySem.F.slot_str_join PySem.F.type_str_join mt_join tyk_S met_join ho ha hbase hfew hline hs rfl
/-! ### a raise that isn't reached -/
def sBad : Sm := fun _ _ => .bad
theorem s_bad {s : Stmt} : PS X s (tS X.K W sBad) := ⟨fun pins s σ H D I hw => by
  obtain ⟨μ, sl, st, rl, rs, e⟩ := hw
  exact e.elim⟩
end
/-! ### for over items that stand for a list's -/
structure WkG (K : PySem.W.Frag) (g : Option Nat) (all its : List D) (μ0 : List Addr) (H0 : Hp) (J : It) : Prop where
  go : ∀ (i : Nat) (d : D) (μ : List Addr) (H : Hp) (st : Sto), TF μ0 H0 μ H → Rs K μ H st → chk g all st = true → its[i]? = some d → J.go i H ∧ ∀ (x : V) (H' : Hp), J.yld i H x H' → Le μ H μ H' ∧ Rs K μ H' st ∧ RV K μ H' d x
  stop : ∀ (i : Nat) (μ : List Addr) (H : Hp) (st : Sto), TF μ0 H0 μ H → Rs K μ H st → chk g all st = true → its.length ≤ i → J.stop i H
structure Wg where
  its : List D
  all : List D
  g : Option Nat
abbrev SrcG := Sl → Sto → R Wg
def EndG (K : PySem.W.Frag) (W : WX) (μ : List Addr) (H : Hp) (σ : L2.St) (r : R Wg) (Q : It → Hp → Prop) : Prop := match r with
  | .ok s st => ∀ J H' μ', Le μ H μ' H' → Rs K μ' H' st → WkG K s.g s.all s.its μ' H' J → Q J H'
  | .err c fs st => ∀ H' μ' dx vs, Le μ H μ' H' → Rs K μ' H' st → H' dx = some (.xd ((fs.map (·.1)).zip vs)) → dx ∉ μ' → RVs K μ' H' (fs.map (·.2)) vs → W (.ref c) (some dx) σ H'
  | .bad => False
def tG (K : PySem.W.Frag) (W : WX) (m : SrcG) : TI := fun σ H Q => ∃ μ sl st, Rl K μ H σ sl ∧ Rs K μ H st ∧ EndG K W μ H σ (m sl st) Q
def sForG (s : SrcG) (t : Tg) (b : Sm) : Sm := fun sl st => (s sl st).ob sl fun w st1 => forGo w.g w.all t b w.its sl st1
theorem s_forG {X : Cx} {W : WX} {tg iter : Expr} {body : List Stmt} {s : SrcG} {g : TG} {t : Tg} {vs : List Nat} {b : Sm} {pos : Pos} (hp : PassesOwn (model X.prog X.w) X.A X.env X.xe) (hc : X.calm = true) (hi : PI X tg iter (tG X.K W s)) (hg : PG X tg g) (ht : TgOk X.K g t vs) (hb : PSs X body (tS X.K W b))
    (hs : ∀ x, foldedSetIterable iter X.env x = pure x := by intro _; rfl) : PS X (.For tg iter body [] pos) (tS X.K W (sForG s t b)) := impS (ps_for hp hc hi hg hb hs) fun D σ H h => by
  obtain ⟨μ, sl, st, rl, rs, e⟩ := h
  refine ⟨μ, sl, st, rl, rs, ?_⟩
  unfold sForG at e
  revert e
  cases s sl st with
  | err c fs st1 => exact fun e H' μ' dx vs l rs1 hd hn rv => e σ H' μ' dx vs l (rl.mono l) rs1 hd hn rv
  | bad => exact fun e => e
  | ok w st1 =>
    intro e J H1 μ1 l1 rs1 wk
    have e : EndS X.K W μ H (forGo w.g w.all t b w.its sl st1) D := e
    refine ⟨fun i m σ2 H2 => ∃ μ2 sl2 st2, Le μ1 H1 μ2 H2 ∧ Rl X.K μ2 H2 σ2 sl2 ∧ Rs X.K μ2 H2 st2 ∧ m = w.its.length - i ∧ i ≤ w.its.length ∧ EndS X.K W μ2 H2 (forGo w.g w.all t b (w.its.drop i) sl2 st2) D,
      ⟨w.its.length, μ1, sl, st1, .refl _ _, rl.mono l1, rs1, by simp, Nat.zero_le _, by rw [List.drop_zero]; exact e.on l1⟩, fun i m σ2 H2 hw => ?_⟩
    obtain ⟨μ2, sl2, st2, l2, rl2, rs2, rfl, hi, e2⟩ := hw
    by_cases hlt : i < w.its.length
    · rw [List.drop_eq_getElem_cons hlt] at e2
      unfold forGo at e2
      split at e2
      · rename_i hc2
        split at e2
        · rename_i sl3 et
          obtain ⟨hgo, hy⟩ := wk.go i w.its[i] μ2 H2 st2 l2.tf rs2 hc2 (List.getElem?_eq_getElem hlt)
          refine .inr ⟨hgo, fun σ4 H4 => ∃ μ4 sl4 st4, Le μ1 H1 μ4 H4 ∧ Rl X.K μ4 H4 σ4 sl4 ∧ Rs X.K μ4 H4 st4 ∧ EndS X.K W μ4 H4 (forGo w.g w.all t b (w.its.drop (i + 1)) sl4 st4) D, fun σ4 H4 hN => ?_, fun x H3 y3 => ?_⟩
          · obtain ⟨μ4, sl4, st4, l4, rl4, rs4, e4⟩ := hN
            exact ⟨w.its.length - (i + 1), by omega, μ4, sl4, st4, l4, rl4, rs4, rfl, hlt, e4⟩
          · obtain ⟨l3, rs3, rv3⟩ := hy x H3 y3
            refine ht μ2 H3 x σ2 _ sl2 sl3 _ (rl2.mono l3) rv3 et fun σ5 rl5 _ => ?_
            refine ⟨μ2, sl3, st2, rl5, rs3, ?_⟩
            revert e2
            cases b sl3 st2 with
            | nx sl6 st6 => exact fun e2 σ6 H6 μ6 l6 rl6 rs6 => ⟨μ6, sl6, st6, (l2.trans l3).trans l6, rl6, rs6, e2.on (l3.trans l6)⟩
            | ct sl6 st6 => exact fun e2 σ6 H6 μ6 l6 rl6 rs6 => ⟨μ6, sl6, st6, (l2.trans l3).trans l6, rl6, rs6, e2.on (l3.trans l6)⟩
            | bk sl6 st6 => exact fun e2 σ6 H6 μ6 l6 => e2 σ6 H6 μ6 (l3.trans l6)
            | ret v st6 => exact fun e2 v6 H6 μ6 l6 => e2 v6 H6 μ6 (l3.trans l6)
            | err c fs sl6 st6 => exact fun e2 σ6 H6 μ6 dx vs l6 => e2 σ6 H6 μ6 dx vs (l3.trans l6)
            | bad => exact fun e2 => e2
        · exact e2.elim
      · exact e2.elim
    · rw [List.drop_eq_nil_of_le (by omega)] at e2
      unfold forGo at e2
      split at e2
      · rename_i hc2
        exact .inl ⟨wk.stop i μ2 H2 st2 l2.tf rs2 hc2 (by omega), e2 σ2 H2 μ2 (.refl _ _) rl2 rs2⟩
      · exact e2.elim
/-- enumerate of a list -/
def enumD (xs : List D) : List D := (List.range xs.length).map fun i => .tup [.int (i : Nat), xs.getD i .non]
def wEnum (a : As) : SrcG := fun sl st => (a sl st).bind fun ds st1 => match ds with
  | [.loc n] => match st1[n]? with
    | some (.lst xs) => .ok ⟨enumD xs, xs, some n⟩ st1
    | _ => .bad
  | [.rol xs] => .ok ⟨enumD xs, xs, none⟩ st1
  | _ => .bad
theorem wk_enum {K : PySem.W.Frag} {g : Option Nat} {xs : List D} {μ0 : List Addr} {H0 : Hp} {a : Addr} (h : ∀ μ H st, TF μ0 H0 μ H → Rs K μ H st → chk g xs st = true → ∃ us, SqL K H a us ∧ RVs K μ H xs us) : WkG K g xs (enumD xs) μ0 H0 (Ite K a) where
  go := fun i d μ H st l rs hc hd => by
    obtain ⟨us, h1, h2⟩ := h μ H st l rs hc
    have hl : i < xs.length := by
      have := (List.getElem?_eq_some_iff.mp hd).1
      simpa [enumD] using this
    have hx : xs[i]? = some xs[i] := List.getElem?_eq_getElem hl
    obtain ⟨v, hv, rv⟩ := h2.get hx
    refine ⟨⟨us, v, h1, hv⟩, fun x H' y => ?_⟩
    obtain ⟨T, z, rfl, hT, rfl, hz⟩ := y
    have ez : z = v := Option.some.inj ((hz us h1).symm.trans hv)
    subst ez
    have ed : d = .tup [.int (i : Nat), xs[i]] := by
      unfold enumD at hd
      rw [List.getElem?_map, List.getElem?_range hl] at hd
      have := Option.some.inj hd
      rw [← this]
      simp [List.getD_eq_getElem?_getD, hx]
    subst ed
    exact ⟨.laid hT, rs.laid hT, .tup (SqT.of upd_same) ((RVs.cons (.int _) (.cons rv .nil)).mono (.laid hT))⟩
  stop := fun i μ H st l rs hc hi => by
    obtain ⟨us, h1, h2⟩ := h μ H st l rs hc
    exact ⟨us, h1, by rw [← h2.length]; simpa [enumD] using hi⟩
theorem firstAG {K : PySem.W.Frag} {W : WX} {μ : List Addr} {H : Hp} {σ : L2.St} {sl : Sl} {st : Sto} {Q : It → Hp → Prop} {Q' : List V → Hp → Prop} {m : As} {F : List D → Sto → R Wg} (rl : Rl K μ H σ sl) (rs : Rs K μ H st) (h : EndG K W μ H σ ((m sl st).bind F) Q)
    (k : ∀ d st1 v H1 μ1, Le μ H μ1 H1 → Rl K μ1 H1 σ sl → Rs K μ1 H1 st1 → RVs K μ1 H1 d v → EndG K W μ1 H1 σ (F d st1) Q → Q' v H1) : tA K W m σ H Q' := by
  refine ⟨μ, sl, st, rl, rs, ?_⟩
  revert h
  cases m sl st with
  | ok d st1 =>
    refine fun h v H1 μ1 l rs1 rv => k d st1 v H1 μ1 l (rl.mono l) rs1 rv ?_
    revert h
    show EndG K W μ H σ (F d st1) Q → _
    cases F d st1 with
    | ok s st2 => exact fun h J H' μ' l' => h J H' μ' (l.trans l')
    | err c fs st2 => exact fun h H' μ' dx vs l' => h H' μ' dx vs (l.trans l')
    | bad => exact fun h => h
  | err c fs st1 => exact fun h => h
  | bad => exact fun h => h
theorem i_enum {X : Cx} {W : WX} {e : Expr} {A : As} {elts : List Expr} {kk : Nat} {p pos tpos : Pos} (hm : X.mg "enumerate" = none) (ha : PA X [e] (tA X.K W A)) (hg : Gl X "enumerate" := by rfl) (hs : starEach [e] X.env = [(false, eval e X.env)] := by rfl) : PI X (.Tuple elts kk tpos) (.Call (.Name "enumerate" p) [e] [] pos) (tG X.K W (wEnum A)) := impI (pi_enum hg hm ha hs) fun σ H Q h => by
  obtain ⟨μ, sl, st, rl, rs, e⟩ := h
  refine firstAG rl rs e fun ds st1 vs H1 μ1 l rl1 rs1 rv e1 => ?_
  split at e1
  · rename_i n
    obtain ⟨v, rfl, r⟩ := rv.one
    cases r
    rename_i a hn
    split at e1
    · rename_i xs hx
      obtain ⟨us, hv, _⟩ := rs1.get hx hn
      refine ⟨a, us, rfl, .of hv, e1 _ H1 μ1 (.refl _ _) rs1 (wk_enum fun μ2 H2 st2 l2 rs2 hc => ?_)⟩
      obtain ⟨us, hu, r⟩ := rs2.get (of_chk hc) (l2.at_ _ _ hn)
      exact ⟨us, .of hu, r⟩
    · exact e1.elim
  · rename_i xs
    obtain ⟨v, rfl, r⟩ := rv.one
    cases r
    rename_i a us hf r
    exact ⟨a, us, rfl, hf.sq, e1 _ H1 μ1 (.refl _ _) rs1 (wk_enum fun μ2 H2 st2 l2 rs2 hc => ⟨us, (l2.frzd hf).sq, r.tf l2⟩)⟩
  · exact e1.elim
end Mi
set_option Elab.async false
set_option linter.all false
set_option maxRecDepth 100000
namespace Mi
open PySem PySem.Spec PyProof.Rows L2

/-! ### what a mirror comes to -/
def R.to {α : Type} (r : R α) (P : α → Sto → Prop) : Prop := match r with
  | .ok a st => P a st
  | _ => False
def O.to (o : O) (N : Sl → Sto → Prop) (T : D → Sto → Prop) (B C : Sl → Sto → Prop) : Prop := match o with
  | .nx sl st => N sl st
  | .ret d st => T d st
  | .bk sl st => B sl st
  | .ct sl st => C sl st
  | _ => False
abbrev no : Sl → Sto → Prop := fun _ _ => False
section
variable {α β : Type} {N : Sl → Sto → Prop} {T : D → Sto → Prop} {B C : Sl → Sto → Prop} {sl : Sl} {st : Sto}
@[simp] theorem to_ok {a : α} {P : α → Sto → Prop} : (R.ok a st).to P = P a st := rfl
@[simp] theorem to_bad {P : α → Sto → Prop} : (R.bad : R α).to P = False := rfl
@[simp] theorem to_bind (r : R α) (f : α → Sto → R β) (P : β → Sto → Prop) : (r.bind f).to P = r.to fun a st => (f a st).to P := by cases r <;> rfl
@[simp] theorem to_calm (r : R α) (P : α → Sto → Prop) : r.calm.to P = r.to P := by cases r <;> rfl
@[simp] theorem to_ob (r : R α) (f : α → Sto → O) : (r.ob sl f).to N T B C = r.to fun a st => (f a st).to N T B C := by cases r <;> rfl
theorem R.to.ok {r : R α} {P : α → Sto → Prop} (h : r.to P) : ∃ a st, r = .ok a st ∧ P a st := by
  cases r with
  | ok a st => exact ⟨a, st, rfl, h⟩
  | err _ _ _ => exact h.elim
  | bad => exact h.elim
theorem R.to.mono {r : R α} {P Q : α → Sto → Prop} (h : r.to P) (k : ∀ a st, P a st → Q a st) : r.to Q := by
  cases r with
  | ok a st => exact k a st h
  | err _ _ _ => exact h.elim
  | bad => exact h.elim
theorem to_ite {p : Prop} [Decidable p] {x y : R α} {P : α → Sto → Prop} : (if p then x else y).to P = if p then x.to P else y.to P := by split <;> rfl
@[simp] theorem to_iteb {p : Prop} [Decidable p] {x : R α} {P : α → Sto → Prop} : (if p then x else .bad).to P = (p ∧ x.to P) := by
  split
  · rename_i h; simp [h]
  · rename_i h; simp [h, R.to]
theorem fdef_to {n np : Nat} {b : Sm} {ds : List D} {P : D → Sto → Prop} (h : ds.length = np) : (fdef n np b ds st).to P = (b (ds.map some ++ List.replicate (n - np) none) st).to (fun _ st => P .non st) P no no := by
  unfold fdef
  rw [if_pos h]
  cases b (ds.map some ++ List.replicate (n - np) none) st <;> rfl
@[simp] theorem seq_to {a b : Sm} : (sSeq a b sl st).to N T B C = (a sl st).to (fun sl st => (b sl st).to N T B C) T B C := by
  unfold sSeq
  cases a sl st <;> rfl
@[simp] theorem pass_to : (sPass sl st).to N T B C = N sl st := rfl
@[simp] theorem break_to : (sBreak sl st).to N T B C = B sl st := rfl
@[simp] theorem cont_to : (sCont sl st).to N T B C = C sl st := rfl
@[simp] theorem expr_to {e : E} : (sExpr e sl st).to N T B C = (e sl st).to fun _ st1 => N sl st1 := by unfold sExpr; rw [to_ob]; rfl
@[simp] theorem ret_to {e : E} : (sRet e sl st).to N T B C = (e sl st).to T := by unfold sRet; rw [to_ob]; rfl
@[simp] theorem retN_to : (sRetN sl st).to N T B C = T .non st := rfl
@[simp] theorem set_to {i : Nat} {e : E} : (sSet i e sl st).to N T B C = (e sl st).to fun d st1 => N (sl.set i (some d)) st1 := by unfold sSet; rw [to_ob]; rfl
@[simp] theorem if_to {c : E} {a b : Sm} : (sIf c a b sl st).to N T B C = (c sl st).to fun d st1 => ∃ k, d = .bl k ∧ (k = true → (a sl st1).to N T B C) ∧ (k = false → (b sl st1).to N T B C) := by
  unfold sIf
  rw [to_ob]
  congr 1
  funext d st1
  cases d with
  | bl k => cases k <;> simp
  | _ => simp [O.to]
@[simp] theorem put_to {e o i : E} : (sPut e o i sl st).to N T B C = (e sl st).to fun d st1 => (o sl st1).to fun x st2 => (i sl st2).to fun y st3 => ∃ n k xs j, x = .loc n ∧ y = .int k ∧ st3[n]? = some (.lst xs) ∧ ixN xs.length k = some j ∧ N sl (st3.set n (.lst (xs.set j d))) := by
  unfold sPut
  simp only [to_ob]
  congr 1
  funext d st1
  congr 1
  funext x st2
  congr 1
  funext y st3
  cases x <;> cases y <;> first | simp [O.to] | skip
  rename_i n k
  cases h : st3[n]? with
  | none => simp [O.to, h]
  | some o =>
    cases o with
    | dct _ => simp [O.to]
    | lst xs =>
      cases h2 : ixN xs.length k with
      | none => simp [O.to, h2]
      | some j => simp [O.to, h2]
@[simp] theorem tgt_to {t : Tg} {e : E} : (sTgt t e sl st).to N T B C = (e sl st).to fun d st1 => ∃ sl', t d sl = some sl' ∧ N sl' st1 := by
  unfold sTgt
  rw [to_ob]
  congr 1
  funext d st1
  cases h : t d sl <;> simp [O.to]
theorem aug_to {i : Nat} {g : G2} {e : E} {x : D} (h : sl[i]? = some (some x)) : (sAug i g e sl st).to N T B C = (e sl st).to fun y st1 => (g x y st1).to fun z st2 => N (sl.set i (some z)) st2 := by
  unfold sAug
  rw [h]
  simp only [to_ob]
  rfl
/-! expressions -/
@[simp] theorem two_to {g : G2} {a b : E} {P : D → Sto → Prop} : (eTwo g a b sl st).to P = (a sl st).to fun x st1 => (b sl st1).to fun y st2 => (g x y st2).to P := by unfold eTwo; simp only [to_bind]
@[simp] theorem var_to' {i : Nat} {P : D → Sto → Prop} : (eVar i sl st).to P = match sl[i]? with
  | some (some d) => P d st
  | _ => False := by
  unfold eVar
  cases sl[i]? with
  | none => rfl
  | some o => cases o <;> rfl
theorem var_to {i : Nat} {d : D} {P : D → Sto → Prop} (h : sl[i]? = some (some d)) : (eVar i sl st).to P = P d st := by unfold eVar; rw [h]; rfl
@[simp] theorem c_to {d : D} {P : D → Sto → Prop} : (eC d sl st).to P = P d st := rfl
@[simp] theorem neg_to {a : E} {P : D → Sto → Prop} : (eNeg a sl st).to P = (a sl st).to fun x st1 => ∃ i, x = .int i ∧ P (.int (-i)) st1 := by
  unfold eNeg; rw [to_bind]; congr 1; funext x st1; cases x <;> simp [R.to]
@[simp] theorem and_to {a b : E} {P : D → Sto → Prop} : (eAnd a b sl st).to P = (a sl st).to fun x st1 => ∃ k, x = .bl k ∧ (k = true → (b sl st1).to P) ∧ (k = false → P (.bl false) st1) := by
  unfold eAnd; rw [to_bind]; congr 1; funext x st1; cases x with
  | bl k => cases k <;> simp [R.to]
  | _ => simp [R.to]
@[simp] theorem or_to {a b : E} {P : D → Sto → Prop} : (eOr a b sl st).to P = (a sl st).to fun x st1 => ∃ k, x = .bl k ∧ (k = true → P (.bl true) st1) ∧ (k = false → (b sl st1).to P) := by
  unfold eOr; rw [to_bind]; congr 1; funext x st1; cases x with
  | bl k => cases k <;> simp [R.to]
  | _ => simp [R.to]
@[simp] theorem not_to {a : E} {P : D → Sto → Prop} : (eNot a sl st).to P = (a sl st).to fun x st1 => ∃ k, x = .bl k ∧ P (.bl (!k)) st1 := by
  unfold eNot; rw [to_bind]; congr 1; funext x st1; cases x <;> simp [R.to]
@[simp] theorem eif_to {c a b : E} {P : D → Sto → Prop} : (eIf c a b sl st).to P = (c sl st).to fun x st1 => ∃ k, x = .bl k ∧ (k = true → (a sl st1).to P) ∧ (k = false → (b sl st1).to P) := by
  unfold eIf; rw [to_bind]; congr 1; funext x st1; cases x with
  | bl k => cases k <;> simp [R.to]
  | _ => simp [R.to]
@[simp] theorem isN_to {neg : Bool} {a : E} {P : D → Sto → Prop} : (eIsN neg a sl st).to P = (a sl st).to fun x st1 => P (.bl (neg ^^ match x with
  | .non => true
  | _ => false)) st1 := by unfold eIsN; rw [to_bind]; rfl
@[simp] theorem chain_to {g g' : G2} {a b c : E} {P : D → Sto → Prop} : (eChain g g' a b c sl st).to P = (a sl st).to fun x st1 => (b sl st1).to fun y st2 => (g x y st2).to fun z st3 => ∃ k, z = .bl k ∧ (k = true → (c sl st3).to fun w st4 => (g' y w st4).to P) ∧ (k = false → P (.bl false) st3) := by
  unfold eChain; simp only [to_bind]; congr 1; funext x st1; congr 1; funext y st2; congr 1; funext z st3; cases z with
  | bl k =>
    cases k with
    | true =>
      show ((c sl st3).bind fun w st4 => g' y w st4).to P = _
      rw [to_bind]
      simp
    | false => simp [R.to]
  | _ => simp [R.to]
@[simp] theorem nil_to {P : List D → Sto → Prop} : (aNil sl st).to P = P [] st := rfl
@[simp] theorem cons_to {e : E} {r : As} {P : List D → Sto → Prop} : (aCons e r sl st).to P = (e sl st).to fun x st1 => (r sl st1).to fun xs st2 => P (x :: xs) st2 := by unfold aCons; simp only [to_bind]; rfl
@[simp] theorem tup_to {a : As} {P : D → Sto → Prop} : (eTup a sl st).to P = (a sl st).to fun xs st1 => xs.length ≤ sizeLine ∧ P (.tup xs) st1 := by unfold eTup; simp only [to_bind, to_iteb]; rfl
@[simp] theorem lst_to {a : As} {P : D → Sto → Prop} : (eLst a sl st).to P = (a sl st).to fun xs st1 => xs.length ≤ sizeLine ∧ P (.loc st1.length) (st1 ++ [.lst xs]) := by unfold eLst; simp only [to_bind, to_iteb]; rfl
@[simp] theorem call_to {g : GA} {a : As} {P : D → Sto → Prop} : (eCall g a sl st).to P = (a sl st).to fun ds st1 => (g ds st1).to P := by unfold eCall; rw [to_bind]
@[simp] theorem meth_to {ty : D → Sto → Bool} {g : D → List D → Sto → R D} {o : E} {a : As} {P : D → Sto → Prop} : (eMeth ty g o a sl st).to P = (o sl st).to fun x st1 => ty x st1 = true ∧ (a sl st1).to fun xs st2 => (g x xs st2).to P := by unfold eMeth; simp only [to_bind, to_iteb]
@[simp] theorem fn_to {F : Fd} {np : Nat} {a : As} {P : D → Sto → Prop} : (eFn F np a sl st).to P = (a sl st).to fun ds st1 => ds.length = np ∧ (F ds st1).to P := by unfold eFn; simp only [to_bind, to_iteb, to_calm]
@[simp] theorem fn0_to {F : Fd} {P : D → Sto → Prop} : (eFn0 F sl st).to P = (F [] st).to P := by unfold eFn0; rw [to_calm]
@[simp] theorem sl_to {e : E} {lo hi : Op} {P : D → Sto → Prop} : (eSl e lo hi sl st).to P = (e sl st).to fun d st1 => (lo sl st1).to fun l st2 => (hi sl st2).to fun h st3 => (gSl d l h st3).to P := by unfold eSl; simp only [to_bind]
@[simp] theorem oNone_to {P : Option Int → Sto → Prop} : (oNone sl st).to P = P none st := rfl
@[simp] theorem oSome_to {e : E} {P : Option Int → Sto → Prop} : (oSome e sl st).to P = (e sl st).to fun d st1 => ∃ i, d = .int i ∧ P (some i) st1 := by
  unfold oSome; rw [to_bind]; congr 1; funext x st1; cases x <;> simp [R.to]
/-! operations -/
@[simp] theorem gI_to {f : Int → Int → D} {i j : Int} {P : D → Sto → Prop} : (gI f (.int i) (.int j) st).to P = P (f i j) st := rfl
@[simp] theorem gIc_to {q : Int → Int → Bool} {f : Int → Int → D} {i j : Int} {P : D → Sto → Prop} : (gIc q f (.int i) (.int j) st).to P = (q i j = true ∧ P (f i j) st) := by
  show (if q i j = true then R.ok (f i j) st else .bad).to P = _
  rw [to_iteb]; rfl
@[simp] theorem gAdd_int {i j : Int} {P : D → Sto → Prop} : (gAdd (.int i) (.int j) st).to P = P (.int (i + j)) st := rfl
@[simp] theorem gAdd_tup {x y : List D} {P : D → Sto → Prop} : (gAdd (.tup x) (.tup y) st).to P = (x.length + y.length ≤ sizeLine ∧ P (.tup (x ++ y)) st) := by
  show (if _ then _ else R.bad).to P = _
  rw [to_iteb]; rfl
@[simp] theorem gAdd_str {x y : Str} {P : D → Sto → Prop} : (gAdd (.str x) (.str y) st).to P = (x.length + y.length ≤ sizeLine ∧ P (.str (x ++ y)) st) := by
  show (if _ then _ else R.bad).to P = _
  rw [to_iteb]; rfl
theorem gAdd_loc {a b : Nat} {x y : List D} {P : D → Sto → Prop} (h : st[a]? = some (.lst x)) (h' : st[b]? = some (.lst y)) : (gAdd (.loc a) (.loc b) st).to P = (x.length + y.length ≤ sizeLine ∧ P (.loc st.length) (st ++ [.lst (x ++ y)])) := by
  unfold gAdd
  dsimp only
  rw [h, h']
  dsimp only
  rw [to_iteb]; rfl
@[simp] theorem gMul_int {i j : Int} {P : D → Sto → Prop} : (gMul (.int i) (.int j) st).to P = (i.natAbs.log2 + j.natAbs.log2 < 1000000 ∧ P (.int (i * j)) st) := by
  show (if _ then _ else R.bad).to P = _
  rw [to_iteb]; rfl
theorem gMul_loc {a : Nat} {k : Int} {x : List D} {P : D → Sto → Prop} (h : st[a]? = some (.lst x)) : (gMul (.loc a) (.int k) st).to P = ((-(2 ^ 63) ≤ k ∧ k < 2 ^ 63 ∧ x.length * k.toNat ≤ sizeLine) ∧ P (.loc st.length) (st ++ [.lst (List.replicate k.toNat x).flatten])) := by
  unfold gMul
  dsimp only
  rw [h]
  dsimp only
  rw [to_iteb]; rfl
@[simp] theorem gIx_tup {x : List D} {i : Int} {P : D → Sto → Prop} : (gIx (.tup x) (.int i) st).to P = match atI x i with
  | some d => P d st
  | none => False := by
  show (match atI x i with
    | some d => R.ok d st
    | none => .bad).to P = _
  cases atI x i <;> rfl
@[simp] theorem gIx_rol {x : List D} {i : Int} {P : D → Sto → Prop} : (gIx (.rol x) (.int i) st).to P = match atI x i with
  | some d => P d st
  | none => False := by
  show (match atI x i with
    | some d => R.ok d st
    | none => .bad).to P = _
  cases atI x i <;> rfl
@[simp] theorem gIx_loc {n : Nat} {i : Int} {P : D → Sto → Prop} : (gIx (.loc n) (.int i) st).to P = match st[n]? with
  | some (.lst x) => match atI x i with
    | some d => P d st
    | none => False
  | _ => False := by
  show (match st[n]? with
    | some (.lst x) => match atI x i with
      | some d => R.ok d st
      | none => .bad
    | _ => .bad).to P = _
  cases st[n]? with
  | none => rfl
  | some o =>
    cases o with
    | dct _ => rfl
    | lst x =>
      dsimp only
      cases atI x i <;> rfl
@[simp] theorem gEq_int {neg : Bool} {i j : Int} {P : D → Sto → Prop} : (gEqB neg (.int i) (.int j) st).to P = P (.bl (neg ^^ decide (i = j))) st := by simp [gEqB, scD, scEq]
@[simp] theorem gEq_bl {neg : Bool} {i j : Bool} {P : D → Sto → Prop} : (gEqB neg (.bl i) (.bl j) st).to P = P (.bl (neg ^^ decide (i = j))) st := by simp [gEqB, scD, scEq]
@[simp] theorem gEq_str {neg : Bool} {i j : Str} {P : D → Sto → Prop} : (gEqB neg (.str i) (.str j) st).to P = P (.bl (neg ^^ decide (i = j))) st := by simp [gEqB, scD, scEq]
theorem gEq_py {neg : Bool} {x y : D} {p q : PyData} {P : D → Sto → Prop} (hs : scD x y = false) (h1 : py st 64 x = some p) (h2 : py st 64 y = some q) : (gEqB neg x y st).to P = P (.bl (neg ^^ PyData.eqv p q)) st := by
  unfold gEqB
  rw [hs, h1, h2]
  rfl
@[simp] theorem gSl_tup {x : List D} {lo hi : Option Int} {P : D → Sto → Prop} : (gSl (.tup x) lo hi st).to P = P (.tup (cutD x lo hi)) st := rfl
@[simp] theorem gSl_rol {x : List D} {lo hi : Option Int} {P : D → Sto → Prop} : (gSl (.rol x) lo hi st).to P = P (.loc st.length) (st ++ [.lst (cutD x lo hi)]) := rfl
@[simp] theorem gSl_loc {n : Nat} {lo hi : Option Int} {P : D → Sto → Prop} : (gSl (.loc n) lo hi st).to P = match st[n]? with
  | some (.lst x) => P (.loc st.length) (st ++ [.lst (cutD x lo hi)])
  | _ => False := by
  unfold gSl
  dsimp only
  cases st[n]? with
  | none => rfl
  | some o => cases o <;> rfl
@[simp] theorem gLen_tup {x : List D} {P : D → Sto → Prop} : (gLen [.tup x] st).to P = P (.int (x.length : Nat)) st := rfl
@[simp] theorem gLen_rol {x : List D} {P : D → Sto → Prop} : (gLen [.rol x] st).to P = P (.int (x.length : Nat)) st := rfl
@[simp] theorem gLen_loc {n : Nat} {P : D → Sto → Prop} : (gLen [.loc n] st).to P = match st[n]? with
  | some (.lst x) => P (.int (x.length : Nat)) st
  | _ => False := by
  show (match st[n]? with
    | some (.lst x) => R.ok (D.int (x.length : Nat)) st
    | _ => .bad).to P = _
  cases st[n]? with
  | none => rfl
  | some o => cases o <;> rfl
@[simp] theorem gInt_int {i : Int} {P : D → Sto → Prop} : (gInt [.int i] st).to P = P (.int i) st := rfl
@[simp] theorem gInt_bl {b : Bool} {P : D → Sto → Prop} : (gInt [.bl b] st).to P = P (.int (if b then 1 else 0)) st := rfl
section
variable {γ δ : Type}
def cutA (xs : List γ) (lo hi : Option Int) : List γ := (xs.drop (HT.sIx xs.length 0 lo)).take (HT.sIx xs.length xs.length hi - HT.sIx xs.length 0 lo)
theorem cutD_map (f : γ → D) (xs : List γ) (lo hi : Option Int) : cutD (xs.map f) lo hi = (cutA xs lo hi).map f := by
  unfold cutD cutA
  rw [List.length_map, List.map_take, List.map_drop]
theorem cutA_sub (xs : List γ) (lo hi : Option Int) : (cutA xs lo hi).Sublist xs := (List.take_sublist _ _).trans (List.drop_sublist _ _)
theorem cutA_len (xs : List γ) (lo hi : Option Int) : (cutA xs lo hi).length = min (HT.sIx xs.length xs.length hi - HT.sIx xs.length 0 lo) (xs.length - HT.sIx xs.length 0 lo) := by
  unfold cutA
  rw [List.length_take, List.length_drop]
end
@[simp] theorem gAppend_to {n : Nat} {y : D} {P : D → Sto → Prop} : (gAppend (.loc n) [y] st).to P = match st[n]? with
  | some (.lst xs) => xs.length < sizeLine ∧ P .non (st.set n (.lst (xs ++ [y])))
  | _ => False := by
  unfold gAppend
  dsimp only
  cases st[n]? with
  | none => rfl
  | some o =>
    cases o with
    | dct _ => rfl
    | lst xs => dsimp only; rw [to_iteb]; rfl
@[simp] theorem isL_loc {n : Nat} : isL (.loc n) st = match st[n]? with
  | some (.lst _) => true
  | _ => false := by
  unfold isL itemsL
  dsimp only
  cases st[n]? with
  | none => rfl
  | some o => cases o <;> rfl
@[simp] theorem gTuple_loc {n : Nat} {P : D → Sto → Prop} : (gTuple [.loc n] st).to P = match st[n]? with
  | some (.lst x) => P (.tup x) st
  | _ => False := by
  unfold gTuple
  dsimp only
  cases st[n]? with
  | none => rfl
  | some o => cases o <;> rfl
@[simp] theorem gTuple_tup {x : List D} {P : D → Sto → Prop} : (gTuple [.tup x] st).to P = P (.tup x) st := rfl
@[simp] theorem gList_loc {n : Nat} {P : D → Sto → Prop} : (gList [.loc n] st).to P = match st[n]? with
  | some (.lst x) => P (.loc st.length) (st ++ [.lst x])
  | _ => False := by
  unfold gList
  dsimp only
  cases st[n]? with
  | none => rfl
  | some o => cases o <;> rfl
@[simp] theorem gList_tup {x : List D} {P : D → Sto → Prop} : (gList [.tup x] st).to P = P (.loc st.length) (st ++ [.lst x]) := rfl
/-! loops -/
@[simp] theorem for_to {s : Src} {t : Tg} {b : Sm} : (sFor s t b sl st).to N T B C = (s sl st).to fun w st1 => (forGo w.g w.items t b w.items sl st1).to N T B C := by unfold sFor; rw [to_ob]
/-- by an invariant over what has been taken -/
theorem for_inv {g : Option Nat} {all : List D} {t : Tg} {b : Sm} (I : List D → Sl → Sto → Prop) (hend : ∀ sl st, I all sl st → chk g all st = true ∧ N sl st)
    (hstep : ∀ pre d post sl st, all = pre ++ d :: post → I pre sl st → chk g all st = true ∧ ∃ sl', t d sl = some sl' ∧ (b sl' st).to (fun sl2 st2 => I (pre ++ [d]) sl2 st2) T N (fun sl2 st2 => I (pre ++ [d]) sl2 st2)) :
    ∀ post pre sl st, all = pre ++ post → I pre sl st → (forGo g all t b post sl st).to N T B C
  | [], pre, sl, st, he, hi => by
    rw [List.append_nil] at he
    subst he
    obtain ⟨h1, h2⟩ := hend sl st hi
    unfold forGo
    rw [if_pos h1]
    exact h2
  | d :: post, pre, sl, st, he, hi => by
    obtain ⟨h1, sl', h2, h3⟩ := hstep pre d post sl st he hi
    unfold forGo
    rw [if_pos h1, h2]
    have ih := for_inv I hend hstep post (pre ++ [d])
    revert h3
    dsimp only
    cases b sl' st with
    | nx sl2 st2 => exact fun h3 => ih sl2 st2 (by rw [he]; simp) h3
    | ct sl2 st2 => exact fun h3 => ih sl2 st2 (by rw [he]; simp) h3
    | bk sl2 st2 => exact fun h3 => h3
    | ret v st2 => exact fun h3 => h3
    | err c fs sl2 st2 => exact fun h3 => h3
    | bad => exact fun h3 => h3
theorem for_go {g : Option Nat} {all : List D} {t : Tg} {b : Sm} (I : List D → Sl → Sto → Prop) (h0 : I [] sl st) (hend : ∀ sl st, I all sl st → chk g all st = true ∧ N sl st)
    (hstep : ∀ pre d post sl st, all = pre ++ d :: post → I pre sl st → chk g all st = true ∧ ∃ sl', t d sl = some sl' ∧ (b sl' st).to (fun sl2 st2 => I (pre ++ [d]) sl2 st2) T N (fun sl2 st2 => I (pre ++ [d]) sl2 st2)) :
    (forGo g all t b all sl st).to N T B C := for_inv I hend hstep all [] sl st rfl h0
@[simp] theorem lc_to {s : Src} {t : Tg} {c e : E} {vs : List Nat} {P : D → Sto → Prop} : (eLc s t c e vs sl st).to P = (s sl st).to fun w st1 => w.items.length ≤ sizeLine ∧ (lcGo w.g w.items t c e (wipeD sl vs) w.items st1).to fun ys st2 => P (.loc st2.length) (st2 ++ [.lst ys]) := by
  unfold eLc
  simp only [to_bind, to_iteb, to_calm]
  rfl
/-- by an invariant over what has been taken and made -/
theorem lc_inv {g : Option Nat} {all : List D} {t : Tg} {c e : E} {sl0 : Sl} {P : List D → Sto → Prop} (I : List D → List D → Sto → Prop) (hend : ∀ acc st, I all acc st → chk g all st = true ∧ P acc st)
    (hstep : ∀ pre d post acc st, all = pre ++ d :: post → I pre acc st → chk g all st = true ∧ ∃ sl', t d sl0 = some sl' ∧ (c sl' st).to fun k st1 => ∃ b, k = .bl b ∧ (b = true → (e sl' st1).to fun y st2 => I (pre ++ [d]) (acc ++ [y]) st2) ∧ (b = false → I (pre ++ [d]) acc st1)) :
    ∀ post pre acc st, all = pre ++ post → I pre acc st → (lcGo g all t c e sl0 post st).to fun ys st2 => P (acc ++ ys) st2
  | [], pre, acc, st, he, hi => by
    rw [List.append_nil] at he
    subst he
    obtain ⟨h1, h2⟩ := hend acc st hi
    unfold lcGo
    rw [if_pos h1]
    show P (acc ++ []) st
    rw [List.append_nil]
    exact h2
  | d :: post, pre, acc, st, he, hi => by
    obtain ⟨h1, sl', h2, h3⟩ := hstep pre d post acc st he hi
    unfold lcGo
    rw [if_pos h1, h2]
    dsimp only
    rw [to_bind]
    refine h3.mono fun k st1 h4 => ?_
    obtain ⟨b, rfl, h5, h6⟩ := h4
    cases b with
    | true =>
      show ((e sl' st1).bind _).to _
      rw [to_bind]
      refine (h5 rfl).mono fun y st2 h7 => ?_
      rw [to_bind]
      refine (lc_inv I hend hstep post (pre ++ [d]) (acc ++ [y]) st2 (by rw [he]; simp) h7).mono fun ys st3 h8 => ?_
      rw [List.append_assoc] at h8
      exact h8
    | false => exact lc_inv I hend hstep post (pre ++ [d]) acc st1 (by rw [he]; simp) (h6 rfl)
theorem lc_go {g : Option Nat} {all : List D} {t : Tg} {c e : E} {sl0 : Sl} {P : List D → Sto → Prop} (I : List D → List D → Sto → Prop) (h0 : I [] [] st) (hend : ∀ acc st, I all acc st → chk g all st = true ∧ P acc st)
    (hstep : ∀ pre d post acc st, all = pre ++ d :: post → I pre acc st → chk g all st = true ∧ ∃ sl', t d sl0 = some sl' ∧ (c sl' st).to fun k st1 => ∃ b, k = .bl b ∧ (b = true → (e sl' st1).to fun y st2 => I (pre ++ [d]) (acc ++ [y]) st2) ∧ (b = false → I (pre ++ [d]) acc st1)) :
    (lcGo g all t c e sl0 all st).to P := (lc_inv I hend hstep all [] [] st rfl h0).mono fun ys st2 h => h
section
variable {γ : Type}
theorem for_encI {g : Option Nat} {t : Tg} {b : Sm} (enc : γ → D) (xs : List γ) (I : List γ → Sl → Sto → Prop) (hend : ∀ sl st, I xs sl st → chk g (xs.map enc) st = true ∧ N sl st)
    (hstep : ∀ pre x post sl st, xs = pre ++ x :: post → I pre sl st → chk g (xs.map enc) st = true ∧ ∃ sl', t (enc x) sl = some sl' ∧ (b sl' st).to (fun sl2 st2 => I (pre ++ [x]) sl2 st2) T N (fun sl2 st2 => I (pre ++ [x]) sl2 st2)) :
    ∀ post pre sl st, xs = pre ++ post → I pre sl st → (forGo g (xs.map enc) t b (post.map enc) sl st).to N T B C
  | [], pre, sl, st, he, hi => by
    rw [List.append_nil] at he
    subst he
    obtain ⟨h1, h2⟩ := hend sl st hi
    show (forGo g (xs.map enc) t b [] sl st).to N T B C
    unfold forGo
    rw [if_pos h1]
    exact h2
  | x :: post, pre, sl, st, he, hi => by
    obtain ⟨h1, sl', h2, h3⟩ := hstep pre x post sl st he hi
    show (forGo g (xs.map enc) t b (enc x :: post.map enc) sl st).to N T B C
    unfold forGo
    rw [if_pos h1, h2]
    have ih := for_encI enc xs I hend hstep post (pre ++ [x])
    revert h3
    dsimp only
    cases b sl' st with
    | nx sl2 st2 => exact fun h3 => ih sl2 st2 (by rw [he]; simp) h3
    | ct sl2 st2 => exact fun h3 => ih sl2 st2 (by rw [he]; simp) h3
    | bk sl2 st2 => exact fun h3 => h3
    | ret v st2 => exact fun h3 => h3
    | err c fs sl2 st2 => exact fun h3 => h3
    | bad => exact fun h3 => h3
/-- a walk over encoded items, by an invariant over what has been taken -/
theorem for_enc {g : Option Nat} {t : Tg} {b : Sm} (enc : γ → D) (xs : List γ) (I : List γ → Sl → Sto → Prop) (h0 : I [] sl st) (hend : ∀ sl st, I xs sl st → chk g (xs.map enc) st = true ∧ N sl st)
    (hstep : ∀ pre x post sl st, xs = pre ++ x :: post → I pre sl st → chk g (xs.map enc) st = true ∧ ∃ sl', t (enc x) sl = some sl' ∧ (b sl' st).to (fun sl2 st2 => I (pre ++ [x]) sl2 st2) T N (fun sl2 st2 => I (pre ++ [x]) sl2 st2)) :
    (forGo g (xs.map enc) t b (xs.map enc) sl st).to N T B C := for_encI enc xs I hend hstep xs [] sl st rfl h0
theorem lc_encI {g : Option Nat} {t : Tg} {c e : E} {sl0 : Sl} {P : List D → Sto → Prop} (enc : γ → D) (xs : List γ) (I : List γ → List D → Sto → Prop) (hend : ∀ acc st, I xs acc st → chk g (xs.map enc) st = true ∧ P acc st)
    (hstep : ∀ pre x post acc st, xs = pre ++ x :: post → I pre acc st → chk g (xs.map enc) st = true ∧ ∃ sl', t (enc x) sl0 = some sl' ∧ (c sl' st).to fun k st1 => ∃ b, k = .bl b ∧ (b = true → (e sl' st1).to fun y st2 => I (pre ++ [x]) (acc ++ [y]) st2) ∧ (b = false → I (pre ++ [x]) acc st1)) :
    ∀ post pre acc st, xs = pre ++ post → I pre acc st → (lcGo g (xs.map enc) t c e sl0 (post.map enc) st).to fun ys st2 => P (acc ++ ys) st2
  | [], pre, acc, st, he, hi => by
    rw [List.append_nil] at he
    subst he
    obtain ⟨h1, h2⟩ := hend acc st hi
    show (lcGo g (xs.map enc) t c e sl0 [] st).to _
    unfold lcGo
    rw [if_pos h1]
    show P (acc ++ []) st
    rw [List.append_nil]
    exact h2
  | x :: post, pre, acc, st, he, hi => by
    obtain ⟨h1, sl', h2, h3⟩ := hstep pre x post acc st he hi
    show (lcGo g (xs.map enc) t c e sl0 (enc x :: post.map enc) st).to _
    unfold lcGo
    rw [if_pos h1, h2]
    dsimp only
    rw [to_bind]
    refine h3.mono fun k st1 h4 => ?_
    obtain ⟨b, rfl, h5, h6⟩ := h4
    cases b with
    | true =>
      show ((e sl' st1).bind _).to _
      rw [to_bind]
      refine (h5 rfl).mono fun y st2 h7 => ?_
      rw [to_bind]
      refine (lc_encI enc xs I hend hstep post (pre ++ [x]) (acc ++ [y]) st2 (by rw [he]; simp) h7).mono fun ys st3 h8 => ?_
      rw [List.append_assoc] at h8
      exact h8
    | false => exact lc_encI enc xs I hend hstep post (pre ++ [x]) acc st1 (by rw [he]; simp) (h6 rfl)
theorem lc_enc {g : Option Nat} {t : Tg} {c e : E} {sl0 : Sl} {P : List D → Sto → Prop} (enc : γ → D) (xs : List γ) (I : List γ → List D → Sto → Prop) (h0 : I [] [] st) (hend : ∀ acc st, I xs acc st → chk g (xs.map enc) st = true ∧ P acc st)
    (hstep : ∀ pre x post acc st, xs = pre ++ x :: post → I pre acc st → chk g (xs.map enc) st = true ∧ ∃ sl', t (enc x) sl0 = some sl' ∧ (c sl' st).to fun k st1 => ∃ b, k = .bl b ∧ (b = true → (e sl' st1).to fun y st2 => I (pre ++ [x]) (acc ++ [y]) st2) ∧ (b = false → I (pre ++ [x]) acc st1)) :
    (lcGo g (xs.map enc) t c e sl0 (xs.map enc) st).to P := (lc_encI enc xs I hend hstep xs [] [] st rfl h0).mono fun ys st2 h => h
end
theorem lc_encY {γ : Type} {g : Option Nat} {t : Tg} {e : E} {sl0 : Sl} {P : List D → Sto → Prop} (enc : γ → D) (xs : List γ) (I : List γ → List D → Sto → Prop) (h0 : I [] [] st) (hend : ∀ acc st, I xs acc st → chk g (xs.map enc) st = true ∧ P acc st)
    (hstep : ∀ pre x post acc st, xs = pre ++ x :: post → I pre acc st → chk g (xs.map enc) st = true ∧ ∃ sl', t (enc x) sl0 = some sl' ∧ (e sl' st).to fun y st2 => I (pre ++ [x]) (acc ++ [y]) st2) :
    (lcGo g (xs.map enc) t eYes e sl0 (xs.map enc) st).to P := lc_enc enc xs I h0 hend fun pre x post acc st hx hI => by
  obtain ⟨h1, sl', h2, h3⟩ := hstep pre x post acc st hx hI
  exact ⟨h1, sl', h2, true, rfl, fun _ => h3, fun z => by cases z⟩
theorem at_enc {γ : Type} (enc : γ → D) {xs : List γ} {i : Int} (h0 : 0 ≤ i) (h : i < xs.length) : atI (xs.map enc) i = some (enc (xs[i.toNat]'(by omega))) := by
  unfold atI ixN
  rw [if_pos h0]
  have : i < ((xs.map enc).length : Nat) := by simpa using h
  rw [if_pos this]
  simp only [Option.bind_some]
  rw [List.getElem?_map, List.getElem?_eq_getElem (by omega)]
  rfl
theorem is_ok {α : Type} {r : R α} {a : α} {st : Sto} (h : r.to fun x s => x = a ∧ s = st) : r = .ok a st := by
  obtain ⟨x, s, rfl, rfl, rfl⟩ := h.ok
  rfl
/-- each turn gives a value and leaves the store -/
theorem lc_map {g : Option Nat} {all : List D} {t : Tg} {c e : E} {sl0 : Sl} {P : List D → Sto → Prop} (q : D → Bool) (f : D → D) (hg : chk g all st = true)
    (h : ∀ d, d ∈ all → ∃ sl', t d sl0 = some sl' ∧ (c sl' st).to (fun x s => x = .bl (q d) ∧ s = st) ∧ (q d = true → (e sl' st).to fun x s => x = f d ∧ s = st)) (hP : P ((all.filter q).map f) st) : (lcGo g all t c e sl0 all st).to P := by
  have key : ∀ post, (∀ d, d ∈ post → d ∈ all) → lcGo g all t c e sl0 post st = .ok ((post.filter q).map f) st := by
    intro post
    induction post with
    | nil => intro _; unfold lcGo; rw [if_pos hg]; rfl
    | cons d post ih =>
      intro hm
      obtain ⟨sl', h1, h2, h3⟩ := h d (hm d List.mem_cons_self)
      unfold lcGo
      rw [if_pos hg, h1]
      dsimp only
      rw [is_ok h2]
      have ih := ih fun x hx => hm x (List.mem_cons_of_mem _ hx)
      cases hq : q d with
      | true =>
        show ((e sl' st).bind _) = _
        rw [is_ok (h3 hq)]
        show ((lcGo g all t c e sl0 post st).bind _) = _
        rw [ih, List.filter_cons, if_pos hq]
        rfl
      | false =>
        show lcGo g all t c e sl0 post st = _
        rw [ih, List.filter_cons, if_neg (by rw [hq]; simp)]
  rw [key all fun _ h => h]
  exact hP
theorem lc_mapY {g : Option Nat} {all : List D} {t : Tg} {e : E} {sl0 : Sl} {P : List D → Sto → Prop} (f : D → D) (hg : chk g all st = true)
    (h : ∀ d, d ∈ all → ∃ sl', t d sl0 = some sl' ∧ (e sl' st).to fun x s => x = f d ∧ s = st) (hP : P (all.map f) st) : (lcGo g all t eYes e sl0 all st).to P :=
  lc_map (fun _ => true) f hg (fun d hd => by
    obtain ⟨sl', h1, h2⟩ := h d hd
    exact ⟨sl', h1, ⟨rfl, rfl⟩, fun _ => h2⟩) (by rw [List.filter_eq_self.mpr fun _ _ => rfl]; exact hP)
/-- .. over encoded items -/
theorem lc_mapE {γ : Type} {g : Option Nat} {t : Tg} {c e : E} {sl0 : Sl} {P : List D → Sto → Prop} (enc : γ → D) (xs : List γ) (q : γ → Bool) (f : γ → D) (hg : chk g (xs.map enc) st = true)
    (h : ∀ x, x ∈ xs → ∃ sl', t (enc x) sl0 = some sl' ∧ (c sl' st).to (fun y s => y = .bl (q x) ∧ s = st) ∧ (q x = true → (e sl' st).to fun y s => y = f x ∧ s = st)) (hP : P ((xs.filter q).map f) st) : (lcGo g (xs.map enc) t c e sl0 (xs.map enc) st).to P := by
  refine lc_enc enc xs (fun pre acc s => acc = (pre.filter q).map f ∧ s = st) ⟨rfl, rfl⟩ (fun acc s hI => ?_) fun pre x post acc s hx hI => ?_
  · obtain ⟨rfl, rfl⟩ := hI
    exact ⟨hg, hP⟩
  · obtain ⟨rfl, rfl⟩ := hI
    obtain ⟨sl', h1, h2, h3⟩ := h x (by rw [hx]; simp)
    refine ⟨hg, sl', h1, h2.mono fun k s1 hk => ?_⟩
    obtain ⟨rfl, rfl⟩ := hk
    refine ⟨q x, rfl, fun hq => (h3 hq).mono fun y s2 hy => ?_, fun hq => ?_⟩
    · obtain ⟨rfl, rfl⟩ := hy
      rw [List.filter_append, List.map_append, List.filter_cons, if_pos hq]
      exact ⟨rfl, rfl⟩
    · rw [List.filter_append, List.filter_cons, if_neg (by rw [hq]; simp)]
      simp
theorem lc_mapEY {γ : Type} {g : Option Nat} {t : Tg} {e : E} {sl0 : Sl} {P : List D → Sto → Prop} (enc : γ → D) (xs : List γ) (f : γ → D) (hg : chk g (xs.map enc) st = true)
    (h : ∀ x, x ∈ xs → ∃ sl', t (enc x) sl0 = some sl' ∧ (e sl' st).to fun y s => y = f x ∧ s = st) (hP : P (xs.map f) st) : (lcGo g (xs.map enc) t eYes e sl0 (xs.map enc) st).to P :=
  lc_mapE enc xs (fun _ => true) f hg (fun x hx => by
    obtain ⟨sl', h1, h2⟩ := h x hx
    exact ⟨sl', h1, ⟨rfl, rfl⟩, fun _ => h2⟩) (by rw [List.filter_eq_self.mpr fun _ _ => rfl]; exact hP)
/-- the store grows -/
def Gr (st st' : Sto) : Prop := ∃ g, st' = st ++ g
theorem Gr.refl (st : Sto) : Gr st st := ⟨[], by simp⟩
theorem Gr.app (st g : Sto) : Gr st (st ++ g) := ⟨g, rfl⟩
theorem Gr.trans {a b c : Sto} (x : Gr a b) (y : Gr b c) : Gr a c := by
  obtain ⟨g, rfl⟩ := x
  obtain ⟨h, rfl⟩ := y
  exact ⟨g ++ h, by rw [List.append_assoc]⟩
theorem Gr.one {a b : Sto} (x : Gr a b) (o : Ob) : Gr a (b ++ [o]) := x.trans (.app _ _)
theorem Gr.get {a b : Sto} (x : Gr a b) {n : Nat} {o : Ob} (h : a[n]? = some o) : b[n]? = some o := by
  obtain ⟨g, rfl⟩ := x
  rw [List.getElem?_append_left (List.getElem?_eq_some_iff.mp h).1]
  exact h
theorem Gr.le {a b : Sto} (x : Gr a b) : a.length ≤ b.length := by
  obtain ⟨g, rfl⟩ := x
  simp
@[simp] theorem last_get (st : Sto) (o : Ob) : (st ++ [o])[st.length]? = some o := by simp
@[simp] theorem any_to {e : E} {P : Wsrc → Sto → Prop} : (wAny e sl st).to P = (e sl st).to fun d st1 => (∃ n xs, d = .loc n ∧ st1[n]? = some (.lst xs) ∧ P ⟨xs, some n⟩ st1) ∨ (∃ xs, d = .rol xs ∧ P ⟨xs, none⟩ st1) ∨ (∃ xs, d = .tup xs ∧ P ⟨xs, none⟩ st1) ∨ ∃ x, d = .str x ∧ P ⟨signsD x, none⟩ st1 := by
  unfold wAny; rw [to_bind]; congr 1; funext d st1
  cases d with
  | loc n =>
    cases h : st1[n]? with
    | none => simp [R.to, h]
    | some o => cases o <;> simp [R.to, h]
  | _ => simp [R.to]
@[simp] theorem rng1_to {a : As} {P : Wsrc → Sto → Prop} : (wRng1 a sl st).to P = (a sl st).to fun ds st1 => ∃ j, ds = [.int j] ∧ (-(2 ^ 62) ≤ j ∧ j < 2 ^ 62) ∧ P ⟨rangeD 0 j.toNat, none⟩ st1 := by
  unfold wRng1; rw [to_bind]; congr 1; funext ds st1
  split
  · rename_i j
    rw [to_iteb]
    simp [R.to]
  · rename_i h
    simp [R.to]
    intro j hj
    exact absurd hj (h j)
end
end Mi
set_option Elab.async false
set_option linter.all false
set_option maxRecDepth 100000
namespace Mi
open PySem PySem.Spec PyProof.Rows L2
/-- values of a type as data, == being equality -/
structure PyEnc {α : Type} [DecidableEq α] (enc : α → D) (pe : α → PyData) (d : Nat) : Prop where
  py : ∀ (st : Sto) (k : Nat) (a : α), d ≤ k → Mi.py st k (enc a) = some (pe a)
  eq : ∀ a b : α, PyData.eqv (pe a) (pe b) = decide (a = b)
theorem py_int' (st : Sto) (k : Nat) (i : Int) : py st k (.int i) = some (.int i) := by cases k <;> rfl
theorem PyEnc.int : PyEnc D.int PyData.int 0 := ⟨fun st k a _ => py_int' st k a, fun a b => by simp [PyData.eqv]; rw [Bool.beq_eq_decide_eq]⟩
theorem PyEnc.bl : PyEnc D.bl PyData.bool 0 := ⟨fun st k a _ => by cases k <;> rfl, fun a b => by simp [PyData.eqv]; cases a <;> cases b <;> rfl⟩
section
variable {α : Type} [DecidableEq α] {enc : α → D} {pe : α → PyData} {d : Nat}
theorem PyEnc.alls (h : PyEnc enc pe d) (st : Sto) {k : Nat} (hk : d ≤ k) : ∀ xs : List α, Mi.alls (Mi.py st k) (xs.map enc) = some (xs.map pe)
  | [] => rfl
  | x :: xs => by
    show Mi.alls (Mi.py st k) (enc x :: xs.map enc) = _
    unfold Mi.alls
    rw [h.py st k x hk, PyEnc.alls h st hk xs]
    rfl
theorem PyEnc.eqs (h : PyEnc enc pe d) : ∀ xs ys : List α, PyData.eqvAll (xs.map pe) (ys.map pe) = decide (xs = ys)
  | [], [] => rfl
  | [], y :: ys => rfl
  | x :: xs, [] => rfl
  | x :: xs, y :: ys => by
    show PyData.eqvAll (pe x :: xs.map pe) (pe y :: ys.map pe) = _
    rw [PyData.eqvAll, h.eq, PyEnc.eqs h xs ys, ← Bool.decide_and]
    congr 1
    simp
theorem PyEnc.tup (h : PyEnc enc pe d) : PyEnc (fun l : List α => D.tup (l.map enc)) (fun l => PyData.tuple (l.map pe)) (d + 1) :=
  ⟨fun st k a hk => by
    cases k with
    | zero => omega
    | succ k =>
      show (Mi.alls (Mi.py st k) (a.map enc)).map PyData.tuple = _
      rw [h.alls st (by omega)]
      rfl, fun a b => by rw [PyData.eqv, h.eqs]⟩
theorem PyEnc.rol (h : PyEnc enc pe d) : PyEnc (fun l : List α => D.rol (l.map enc)) (fun l => PyData.list (l.map pe)) (d + 1) :=
  ⟨fun st k a hk => by
    cases k with
    | zero => omega
    | succ k =>
      show (Mi.alls (Mi.py st k) (a.map enc)).map PyData.list = _
      rw [h.alls st (by omega)]
      rfl, fun a b => by rw [PyData.eqv, h.eqs]⟩
theorem PyEnc.loc (h : PyEnc enc pe d) {st : Sto} {n k : Nat} {xs : List α} (hn : st[n]? = some (.lst (xs.map enc))) (hk : d < k) : Mi.py st k (.loc n) = some (.list (xs.map pe)) := by
  cases k with
  | zero => omega
  | succ k =>
    show (match st[n]? with
      | some (.lst xs) => (Mi.alls (Mi.py st k) xs).map PyData.list
      | _ => none) = _
    rw [hn]
    dsimp only
    rw [h.alls st (by omega)]
    rfl
theorem PyEnc.any0 (h : PyEnc enc pe d) (x : α) (xs : List α) : ((xs.map pe).any fun z => PyData.eqv z (pe x)) = decide (x ∈ xs) := by
  induction xs with
  | nil => simp
  | cons y ys ih =>
    rw [List.map_cons, List.any_cons, ih, h.eq, ← Bool.decide_or]
    congr 1
    simp [eq_comm]
theorem PyEnc.any (h : PyEnc enc pe d) (x : α) (xs : List α) [inst : Decidable (x ∈ xs)] : ((xs.map pe).any fun z => PyData.eqv z (pe x)) = decide (x ∈ xs) := by
  rw [h.any0]; congr
theorem PyEnc.countP (h : PyEnc enc pe d) (x : α) (xs : List α) : ((xs.map pe).countP fun z => PyData.eqv z (pe x)) = xs.count x := by
  rw [List.countP_map]
  congr 1
  funext y
  show PyData.eqv (pe y) (pe x) = (y == x)
  rw [h.eq, Bool.beq_eq_decide_eq]
theorem PyEnc.find (h : PyEnc enc pe d) (x : α) (xs : List α) : ((xs.map pe).findIdx? fun z => PyData.eqv z (pe x)) = xs.findIdx? (· == x) := by
  rw [List.findIdx?_map]
  congr 1
  funext y
  show PyData.eqv (pe y) (pe x) = (y == x)
  rw [h.eq, Bool.beq_eq_decide_eq]
/-- x in a list of such -/
theorem in_loc {neg : Bool} (h : PyEnc enc pe d) (hd : d ≤ 64) {st : Sto} {n : Nat} {x : α} {xs : List α} [inst : Decidable (x ∈ xs)] {P : D → Sto → Prop} (hn : st[n]? = some (.lst (xs.map enc))) : (gInB neg (enc x) (.loc n) st).to P = P (.bl (neg ^^ decide (x ∈ xs))) st := by
  unfold gInB itemsP
  split
  · rename_i e
    cases e
  · rw [h.py st 64 x hd, h.loc hn (by omega)]
    simp only
    rw [h.any]
    rfl
theorem in_tup {neg : Bool} (h : PyEnc enc pe d) (hd : d ≤ 64) {st : Sto} {x : α} {xs : List α} [inst : Decidable (x ∈ xs)] {P : D → Sto → Prop} : (gInB neg (enc x) (.tup (xs.map enc)) st).to P = P (.bl (neg ^^ decide (x ∈ xs))) st := by
  have := h.tup.py st 65 xs (by omega)
  unfold gInB itemsP
  split
  · rename_i e
    cases e
  · rw [h.py st 64 x hd, this]
    simp only
    rw [h.any]
    rfl
/-- == of two such -/
theorem eq_enc {neg : Bool} (h : PyEnc enc pe d) (hd : d ≤ 64) {st : Sto} {x y : α} [inst : Decidable (x = y)] {P : D → Sto → Prop} (hs : scD (enc x) (enc y) = false) : (gEqB neg (enc x) (enc y) st).to P = P (.bl (neg ^^ decide (x = y))) st := by
  rw [gEq_py hs (h.py st 64 x hd) (h.py st 64 y hd), h.eq]; congr
theorem eq_loc {neg : Bool} (h : PyEnc enc pe d) (hd : d < 64) {st : Sto} {n m : Nat} {xs ys : List α} [inst : Decidable (xs = ys)] {P : D → Sto → Prop} (hn : st[n]? = some (.lst (xs.map enc))) (hm : st[m]? = some (.lst (ys.map enc))) : (gEqB neg (.loc n) (.loc m) st).to P = P (.bl (neg ^^ decide (xs = ys))) st := by
  rw [gEq_py rfl (h.loc hn hd) (h.loc hm hd), PyData.eqv, h.eqs]; congr
theorem index_loc (h : PyEnc enc pe d) (hd : d < 64) {st : Sto} {n : Nat} {x : α} {xs : List α} {P : D → Sto → Prop} (hn : st[n]? = some (.lst (xs.map enc))) : (gIndex (.loc n) [enc x] st).to P = match xs.findIdx? (· == x) with
  | some j => P (.int (j : Nat)) st
  | none => False := by
  unfold gIndex
  dsimp only
  rw [h.py st 64 x (by omega), h.loc hn hd]
  dsimp only
  rw [h.find]
  cases xs.findIdx? (· == x) <;> rfl
theorem count_loc (h : PyEnc enc pe d) (hd : d < 64) {st : Sto} {n : Nat} {x : α} {xs : List α} {P : D → Sto → Prop} (hn : st[n]? = some (.lst (xs.map enc))) : (gCount (.loc n) [enc x] st).to P = P (.int (xs.count x : Nat)) st := by
  unfold gCount
  dsimp only
  rw [h.py st 64 x (by omega), h.loc hn (by omega)]
  dsimp only
  rw [h.countP]
  rfl
end
end Mi
set_option Elab.async false
set_option linter.all false
set_option maxRecDepth 100000
namespace Mi
open PySem PySem.Spec PyProof.Rows L2
section
variable {N : Sl → Sto → Prop} {T : D → Sto → Prop} {B C : Sl → Sto → Prop} {sl : Sl} {st : Sto}
theorem gInts_loc {f : List Int → Option D} {n : Nat} {xs : List Int} {P : D → Sto → Prop} (h : st[n]? = some (.lst (xs.map D.int))) : (gInts f [.loc n] st).to P = match f xs with
  | some z => P z st
  | none => False := by
  have h2 : itemsL st (.loc n) = some (xs.map D.int) := by
    unfold itemsL
    dsimp only
    rw [h]
  unfold gInts
  dsimp only
  rw [h2]
  dsimp only
  rw [intsD_map]
  dsimp only
  cases f xs <;> rfl
theorem gMin_loc {n : Nat} {xs : List Int} {m : Int} {P : D → Sto → Prop} (h : st[n]? = some (.lst (xs.map D.int))) (h1 : m ∈ xs) (h2 : ∀ y, y ∈ xs → m ≤ y) : (gMin [.loc n] st).to P = P (.int m) st := by
  unfold gMin
  rw [gInts_loc h, min_of h1 h2]
  rfl
theorem gMax_loc {n : Nat} {xs : List Int} {m : Int} {P : D → Sto → Prop} (h : st[n]? = some (.lst (xs.map D.int))) (h1 : m ∈ xs) (h2 : ∀ y, y ∈ xs → y ≤ m) : (gMax [.loc n] st).to P = P (.int m) st := by
  unfold gMax
  rw [gInts_loc h, max_of h1 h2]
  rfl
@[simp] theorem listRg_to {e : E} {P : D → Sto → Prop} : (eListRg e sl st).to P = (e sl st).to fun d st1 => ∃ n : Int, d = .int n ∧ (-(2 ^ 62) ≤ n ∧ n < 2 ^ 62 ∧ n.toNat ≤ 2 ^ 24) ∧ P (.loc st1.length) (st1 ++ [.lst (rangeD 0 n.toNat)]) := by
  unfold eListRg; rw [to_bind]; congr 1; funext d st1
  cases d <;> first | (simp [R.to]; done) | skip
  dsimp only
  rw [to_iteb]
  simp [R.to]
@[simp] theorem tupRg_to {e : E} {P : D → Sto → Prop} : (eTupRg e sl st).to P = (e sl st).to fun d st1 => ∃ n : Int, d = .int n ∧ (-(2 ^ 62) ≤ n ∧ n < 2 ^ 62 ∧ n.toNat ≤ 2 ^ 24) ∧ P (.tup (rangeD 0 n.toNat)) st1 := by
  unfold eTupRg; rw [to_bind]; congr 1; funext d st1
  cases d <;> first | (simp [R.to]; done) | skip
  dsimp only
  rw [to_iteb]
  simp [R.to]
@[simp] theorem gReverse_to {n : Nat} {P : D → Sto → Prop} : (gReverse (.loc n) [] st).to P = match st[n]? with
  | some (.lst xs) => P .non (st.set n (.lst xs.reverse))
  | _ => False := by
  unfold gReverse
  dsimp only
  cases st[n]? with
  | none => rfl
  | some o => cases o <;> rfl
theorem lc2_encI {γ : Type} {g : Option Nat} {t : Tg} {s1 : Src} {t1 : Tg} {c1 e : E} {vs1 : List Nat} {sl0 : Sl} {P : List D → Sto → Prop} (enc : γ → D) (xs : List γ) (I : List γ → List D → Sto → Prop) (hend : ∀ acc st, I xs acc st → chk g (xs.map enc) st = true ∧ P acc st)
    (hstep : ∀ pre x post acc st, xs = pre ++ x :: post → I pre acc st → chk g (xs.map enc) st = true ∧ ∃ sl', t (enc x) sl0 = some sl' ∧ (s1 sl' st).to fun w st2 => (lcGo w.g w.items t1 c1 e (wipeD sl' vs1) w.items st2).to fun ys st3 => I (pre ++ [x]) (acc ++ ys) st3) :
    ∀ post pre acc st, xs = pre ++ post → I pre acc st → (lc2Go g (xs.map enc) t eYes s1 t1 c1 e vs1 sl0 (post.map enc) st).to fun ys st2 => P (acc ++ ys) st2
  | [], pre, acc, st, he, hi => by
    rw [List.append_nil] at he
    subst he
    obtain ⟨h1, h2⟩ := hend acc st hi
    show (lc2Go g (xs.map enc) t eYes s1 t1 c1 e vs1 sl0 [] st).to _
    unfold lc2Go
    rw [if_pos h1]
    show P (acc ++ []) st
    rw [List.append_nil]
    exact h2
  | x :: post, pre, acc, st, he, hi => by
    obtain ⟨h1, sl', h2, h3⟩ := hstep pre x post acc st he hi
    show (lc2Go g (xs.map enc) t eYes s1 t1 c1 e vs1 sl0 (enc x :: post.map enc) st).to _
    unfold lc2Go
    rw [if_pos h1, h2]
    show ((s1 sl' st).bind _).to _
    rw [to_bind]
    refine h3.mono fun w st2 h4 => ?_
    rw [to_bind]
    refine h4.mono fun ys st3 h5 => ?_
    rw [to_bind]
    refine (lc2_encI enc xs I hend hstep post (pre ++ [x]) (acc ++ ys) st3 (by rw [he]; simp) h5).mono fun zs st4 h8 => ?_
    rw [List.append_assoc] at h8
    exact h8
theorem lc2_enc {γ : Type} {g : Option Nat} {t : Tg} {s1 : Src} {t1 : Tg} {c1 e : E} {vs1 : List Nat} {sl0 : Sl} {P : List D → Sto → Prop} (enc : γ → D) (xs : List γ) (I : List γ → List D → Sto → Prop) (h0 : I [] [] st) (hend : ∀ acc st, I xs acc st → chk g (xs.map enc) st = true ∧ P acc st)
    (hstep : ∀ pre x post acc st, xs = pre ++ x :: post → I pre acc st → chk g (xs.map enc) st = true ∧ ∃ sl', t (enc x) sl0 = some sl' ∧ (s1 sl' st).to fun w st2 => (lcGo w.g w.items t1 c1 e (wipeD sl' vs1) w.items st2).to fun ys st3 => I (pre ++ [x]) (acc ++ ys) st3) :
    (lc2Go g (xs.map enc) t eYes s1 t1 c1 e vs1 sl0 (xs.map enc) st).to P := (lc2_encI enc xs I hend hstep xs [] [] st rfl h0).mono fun ys st2 h => h
@[simp] theorem elc2_to {s : Src} {t : Tg} {c : E} {s1 : Src} {t1 : Tg} {c1 e : E} {vs vs1 : List Nat} {P : D → Sto → Prop} : (eLc2 s t c s1 t1 c1 e vs vs1 sl st).to P = (s sl st).to fun w st1 => (lc2Go w.g w.items t c s1 t1 c1 e vs1 (wipeD sl vs) w.items st1).to fun ys st2 => ys.length ≤ sizeLine ∧ P (.loc st2.length) (st2 ++ [.lst ys]) := by
  unfold eLc2
  simp only [to_bind, to_iteb, to_calm]
  rfl
end
end Mi
set_option Elab.async false
set_option linter.all false
set_option maxRecDepth 100000
namespace Mi
open PySem PySem.Spec PyProof.Rows L2
section
variable {sl : Sl} {st : Sto}
@[simp] theorem maxDef_to {e : E} {z : Int} {P : D → Sto → Prop} : (eMaxDef e z sl st).to P = (e sl st).to fun d st1 => (gMaxDef d z st1).to P := by unfold eMaxDef; rw [to_bind]
theorem gMaxDef_loc {n : Nat} {xs : List Int} {z : Int} {P : D → Sto → Prop} (h : st[n]? = some (.lst (xs.map D.int))) : (gMaxDef (.loc n) z st).to P = P (.int (xs.max?.getD z)) st := by
  have h2 : itemsL st (.loc n) = some (xs.map D.int) := by
    unfold itemsL
    dsimp only
    rw [h]
  unfold gMaxDef
  rw [h2]
  dsimp only
  rw [intsD_map]
  rfl
theorem gAll_loc {n : Nat} {xs : List Bool} {P : D → Sto → Prop} (h : st[n]? = some (.lst (xs.map D.bl))) : (gAll [.loc n] st).to P = P (.bl (xs.all id)) st := by
  have h2 : itemsL st (.loc n) = some (xs.map D.bl) := by
    unfold itemsL
    dsimp only
    rw [h]
  unfold gAll gBls
  dsimp only
  rw [h2]
  dsimp only
  rw [blsD_map]
  rfl
theorem gJoin_loc {n : Nat} {a : Str} {xs : List Str} {P : D → Sto → Prop} (h : st[n]? = some (.lst (xs.map D.str))) : (gJoin (.str a) [.loc n] st).to P = ((xs.map (·.length)).sum + xs.length * a.length ≤ 16777216 ∧ P (.str (Txt.join a xs)) st) := by
  have h2 : itemsL st (.loc n) = some (xs.map D.str) := by
    unfold itemsL
    dsimp only
    rw [h]
  unfold gJoin
  dsimp only
  rw [h2]
  dsimp only
  rw [strsD_map]
  dsimp only
  rw [to_iteb]
  rfl
@[simp] theorem gDivmod_to {i j : Int} {P : D → Sto → Prop} : (gDivmod [.int i, .int j] st).to P = ((0 < j ∧ j < 1073741824) ∧ P (.tup [.int (i / j), .int (i % j)]) st) := by
  unfold gDivmod
  dsimp only
  rw [to_iteb]
  rfl
@[simp] theorem gSSplit_to {a b : Str} {P : D → Sto → Prop} : (gSSplit (.str a) [.str b] st).to P = (((b.length == 0) = false ∧ a.length + 2 ≤ sizeLine) ∧ P (.loc st.length) (st ++ [.lst ((Txt.split a b).map D.str)])) := by
  unfold gSSplit
  dsimp only
  rw [to_iteb]
  rfl
theorem gSIndex_to {a b : Str} {i : Nat} {r : List Nat} {P : D → Sto → Prop} (h : Builtin.Str.occurrences a b 0 a.length 1 = i :: r) : (gSIndex (.str a) [.str b] st).to P = P (.int (i : Nat)) st := by
  unfold gSIndex
  dsimp only
  rw [h]
  rfl
@[simp] theorem isS_str {x : Str} : isS (.str x) st = true := rfl
theorem gIx_str {z : Str} {i : Nat} {c : Nat} {P : D → Sto → Prop} (h : z.cps.toList[i]? = some c) (hz : z.length ≤ sizeLine) : (gIx (.str z) (.int i) st).to P = P (.str ⟨#[c]⟩) st := by
  have e : atI z.cps.toList (i : Int) = some c := by
    have hl := (List.getElem?_eq_some_iff.mp h).1
    unfold atI ixN
    rw [if_pos (by omega), if_pos (by omega)]
    simpa using h
  unfold gIx
  dsimp only
  rw [if_pos hz, e]
  rfl
theorem in_sign {neg : Bool} {c : Nat} {z : Str} {P : D → Sto → Prop} : (gInB neg (.str ⟨#[c]⟩) (.str z) st).to P = P (.bl (neg ^^ decide (c ∈ z.cps.toList))) st := by
  unfold gInB
  dsimp only
  rw [if_pos (by rfl)]
  rfl
variable {N : Sl → Sto → Prop} {T : D → Sto → Prop} {B C : Sl → Sto → Prop}
@[simp] theorem forG_to {s : SrcG} {t : Tg} {b : Sm} : (sForG s t b sl st).to N T B C = (s sl st).to fun w st1 => (forGo w.g w.all t b w.its sl st1).to N T B C := by unfold sForG; rw [to_ob]
theorem wEnum_loc {a : As} {n : Nat} {xs : List D} {P : Wg → Sto → Prop} (h : (a sl st).to fun ds st1 => ∃ n xs, ds = [.loc n] ∧ st1[n]? = some (.lst xs) ∧ P ⟨enumD xs, xs, some n⟩ st1) : (wEnum a sl st).to P := by
  unfold wEnum
  rw [to_bind]
  refine h.mono fun ds st1 h => ?_
  obtain ⟨n, xs, rfl, h1, h2⟩ := h
  dsimp only
  rw [h1]
  exact h2
/-- a walk with the guard of other items -/
theorem for_encG {γ : Type} {g : Option Nat} {all : List D} {t : Tg} {b : Sm} (enc : γ → D) (xs : List γ) (I : List γ → Sl → Sto → Prop) (hend : ∀ sl st, I xs sl st → chk g all st = true ∧ N sl st)
    (hstep : ∀ pre x post sl st, xs = pre ++ x :: post → I pre sl st → chk g all st = true ∧ ∃ sl', t (enc x) sl = some sl' ∧ (b sl' st).to (fun sl2 st2 => I (pre ++ [x]) sl2 st2) T N (fun sl2 st2 => I (pre ++ [x]) sl2 st2)) :
    ∀ post pre sl st, xs = pre ++ post → I pre sl st → (forGo g all t b (post.map enc) sl st).to N T B C
  | [], pre, sl, st, he, hi => by
    rw [List.append_nil] at he
    subst he
    obtain ⟨h1, h2⟩ := hend sl st hi
    show (forGo g all t b [] sl st).to N T B C
    unfold forGo
    rw [if_pos h1]
    exact h2
  | x :: post, pre, sl, st, he, hi => by
    obtain ⟨h1, sl', h2, h3⟩ := hstep pre x post sl st he hi
    show (forGo g all t b (enc x :: post.map enc) sl st).to N T B C
    unfold forGo
    rw [if_pos h1, h2]
    have ih := for_encG enc xs I hend hstep post (pre ++ [x])
    revert h3
    dsimp only
    cases b sl' st with
    | nx sl2 st2 => exact fun h3 => ih sl2 st2 (by rw [he]; simp) h3
    | ct sl2 st2 => exact fun h3 => ih sl2 st2 (by rw [he]; simp) h3
    | bk sl2 st2 => exact fun h3 => h3
    | ret v st2 => exact fun h3 => h3
    | err c fs sl2 st2 => exact fun h3 => h3
    | bad => exact fun h3 => h3
end
end Mi
set_option Elab.async false
set_option linter.all false
set_option maxRecDepth 100000
namespace Go
open PySem PySem.Spec PyProof.Rows L2 Mi
def F_l_dice : Fd := fdef 3 1 ((sSeq (sSet 1 (eC (.int 0)))
    (sSeq (sFor (wAny (eVar 0)) (tgN 2)
    (sSet 1 (eMod (eAdd (eAdd (eMul (eVar 1) (eC (.int 48271))) (eMul (eMod (eVar 2) (eC (.int 2147483647))) (eC (.int 69621)))) (eC (.int 11))) (eC (.int 2147483647)))))
    (sRet (eLst (aCons (eVar 0) (aCons (eC (.int 0)) (aCons (eMul (eVar 1) (eCall gInt (aCons (eGt (eCall gLen (aCons (eVar 0) aNil)) (eC (.int 2))) aNil))) (aCons (eC (.int 0)) aNil)))))))))
def F_l_next : Fd := fdef 4 2 ((sSeq (sIf (eGt (eIx (eVar 0) (eC (.int 3))) (eC (.int 0))) (sSeq (sSet 2 (eMod (eIx (eVar 0) (eC (.int 3))) (eVar 1)))
    (sSeq (sPut (eDiv (eIx (eVar 0) (eC (.int 3))) (eVar 1)) (eVar 0) (eC (.int 3)))
    (sRet (eVar 2)))) sPass)
    (sSeq (sPut (eAdd (eIx (eVar 0) (eC (.int 1))) (eC (.int 1))) (eVar 0) (eC (.int 1)))
    (sSeq (sIf (eLe (eIx (eVar 0) (eC (.int 1))) (eCall gLen (aCons (eIx (eVar 0) (eC (.int 0))) aNil))) (sSeq (sSet 3 (eIx (eIx (eVar 0) (eC (.int 0))) (eSub (eIx (eVar 0) (eC (.int 1))) (eC (.int 1)))))
    (sSeq (sPut (eIf (eGe (eVar 3) (ePow (eC (.int 10)) (eC (.int 18)))) (eDiv (eVar 3) (eVar 1)) (eC (.int 0))) (eVar 0) (eC (.int 3)))
    (sRet (eMod (eVar 3) (eVar 1))))) sPass)
    (sSeq (sPut (eMod (eMul (eIx (eVar 0) (eC (.int 2))) (eC (.int 48271))) (eC (.int 2147483647))) (eVar 0) (eC (.int 2)))
    (sRet (eMod (eDiv (eIx (eVar 0) (eC (.int 2))) (eC (.int 7))) (eVar 1))))))))
def F_l_like : Nat → Fd
  | 0 => fun _ _ => .bad
  | fuel + 1 => fdef 3 2 ((sSeq (sIf (eCall gIsi (aCons (eVar 1) (aCons (eC (.ty "str")) aNil))) (sRet (eAnd (eCall gIsi (aCons (eVar 0) (aCons (eC (.ty "str")) aNil))) (eEq (eVar 0) (eVar 1)))) sPass)
    (sSeq (sIf (eCall gIsi (aCons (eVar 1) (aCons (eC (.ty "int")) aNil))) (sRet (eAnd (eCall gIsi (aCons (eVar 0) (aCons (eC (.ty "int")) aNil))) (eAnd (eNot (eCall gIsi (aCons (eVar 0) (aCons (eC (.ty "bool")) aNil)))) (eEq (eVar 0) (eVar 1))))) sPass)
    (sSeq (sIf (eIsN false (eVar 1)) (sRet (eIsN false (eVar 0))) sPass)
    (sSeq (sIf (eOr (eNe (eCall gIsi (aCons (eVar 1) (aCons (eC (.ty "tuple")) aNil))) (eCall gIsi (aCons (eVar 0) (aCons (eC (.ty "tuple")) aNil)))) (eNe (eCall gIsi (aCons (eVar 1) (aCons (eC (.ty "list")) aNil))) (eCall gIsi (aCons (eVar 0) (aCons (eC (.ty "list")) aNil))))) (sRet (eC (.bl false))) sPass)
    (sSeq (sIf (eNe (eCall gLen (aCons (eVar 0) aNil)) (eCall gLen (aCons (eVar 1) aNil))) (sRet (eC (.bl false))) sPass)
    (sSeq (sFor (wRng1 (aCons (eCall gLen (aCons (eVar 1) aNil)) aNil)) (tgN 2)
    (sIf (eNot (eFn (F_l_like fuel) 2 (aCons (eIx (eVar 0) (eVar 2)) (aCons (eIx (eVar 1) (eVar 2)) aNil)))) (sRet (eC (.bl false))) sPass))
    (sRet (eC (.bl true))))))))))
def F_l_columns : Fd := fdef 3 0 ((sSeq (sSet 0 (eLst aNil))
    (sSeq (sFor (wAny (eLst (aCons (eTup aNil) (aCons (eTup (aCons (eC (.int 10)) aNil)) (aCons (eTup (aCons (eC (.int 11)) aNil)) aNil))))) (tgN 1)
    (sSet 0 (eAdd (eAdd (eVar 0) (eLst (aCons (eVar 1) aNil))) (eLc (wRng1 (aCons (eC (.int 10)) aNil)) (tgN 2) eYes (eAdd (eTup (aCons (eVar 2) aNil)) (eVar 1)) [2]))))
    (sRet (eVar 0)))))
def F_l_column : Fd := fdef 2 2 ((sRet (eIx (eAdd (eCall gList (aCons (eVar 0) aNil)) (eMul (eLst (aCons (eTup aNil) aNil)) (eC (.int 12)))) (eVar 1))))
def F_l_figure : Fd := fdef 2 1 ((sRet (eCall gMax (aCons (eAdd (eLc (wAny (eVar 0)) (tgN 1) (eLt (eVar 1) (eC (.int 10))) (eVar 1) [1]) (eLst (aCons (eNeg (eC (.int 1))) aNil))) aNil))))
def F_l_key : Fd := fdef 2 1 ((sRet (eTup (aCons (eCall gMax (aCons (eAdd (eLc (wAny (eVar 0)) (tgN 1) (eGt (eVar 1) (eC (.int 9))) (eVar 1) [1]) (eLst (aCons (eNeg (eC (.int 1))) aNil))) aNil)) (aCons (eFn F_l_figure 1 (aCons (eVar 0) aNil)) aNil)))))
def F_l_sign : Fd := fdef 1 1 ((sRet (eIx (eC (.str (Str.ofString " 0123456789-KLMNOPQRST+ABCDEFGHIJ"))) (eM_index1 (eFn0 F_l_columns) (aCons (eVar 0) aNil)))))
def F_l_palette : Fd := fdef 6 1 ((sSeq (sSet 1 (eFn0 F_l_columns))
    (sSeq (sSet 2 (eFn F_l_next 2 (aCons (eVar 0) (aCons (eC (.int 6)) aNil))))
    (sSeq (sIf (eEq (eVar 2) (eC (.int 0))) (sRet (eSl (eLst (aCons (eTup aNil) (aCons (eTup (aCons (eC (.int 1)) aNil)) (aCons (eTup (aCons (eC (.int 2)) aNil)) aNil)))) (oSome (eFn F_l_next 2 (aCons (eVar 0) (aCons (eC (.int 2)) aNil)))) oNone)) sPass)
    (sSeq (sIf (eEq (eVar 2) (eC (.int 1))) (sRet (eSl (eVar 1) (oSome (eC (.int 1))) (oSome (eC (.int 11))))) sPass)
    (sSeq (sIf (eEq (eVar 2) (eC (.int 2))) (sRet (eSl (eVar 1) (oSome (eFn F_l_next 2 (aCons (eVar 0) (aCons (eC (.int 2)) aNil)))) (oSome (eAdd (eC (.int 12)) (eFn F_l_next 2 (aCons (eVar 0) (aCons (eC (.int 4)) aNil))))))) sPass)
    (sSeq (sIf (eEq (eVar 2) (eC (.int 3))) (sRet (eVar 1)) sPass)
    (sSeq (sSet 3 (eLc (wRng1 (aCons (eAdd (eC (.int 1)) (eFn F_l_next 2 (aCons (eVar 0) (aCons (eC (.int 6)) aNil)))) aNil)) (tgN 4) eYes (eIx (eVar 1) (eFn F_l_next 2 (aCons (eVar 0) (aCons (eC (.int 33)) aNil)))) [4]))
    (sRet (eLc (wAny (eVar 1)) (tgN 5) (eIn (eVar 5) (eVar 3)) (eVar 5) [5]))))))))))
def F_l_deck : Fd := fdef 6 3 ((sSeq (sSet 3 (eLst aNil))
    (sSeq (sFor (wRng1 (aCons (eFn F_l_next 2 (aCons (eVar 0) (aCons (eAdd (eVar 2) (eC (.int 1))) aNil))) aNil)) (tgN 4)
    (sExpr (eMeth isL gAppend (eVar 3) (aCons (eCall gTuple (aCons (eLc (wAny (eVar 1)) (tgN 5) eYes (eIx (eVar 5) (eFn F_l_next 2 (aCons (eVar 0) (aCons (eCall gLen (aCons (eVar 5) aNil)) aNil)))) [5]) aNil)) aNil))))
    (sRet (eVar 3)))))
def F_l_palettes : Fd := fdef 2 1 ((sRet (eLc (wRng1 (aCons (eIx (eLst (aCons (eAdd (eC (.int 1)) (eFn F_l_next 2 (aCons (eVar 0) (aCons (eC (.int 5)) aNil)))) (aCons (eC (.int 12)) aNil))) (eCall gInt (aCons (eEq (eFn F_l_next 2 (aCons (eVar 0) (aCons (eC (.int 8)) aNil))) (eC (.int 7))) aNil))) aNil)) (tgN 1) eYes (eFn F_l_palette 1 (aCons (eVar 0) aNil)) [1])))
def F_l_order : Fd := fdef 5 2 ((sSeq (sSet 2 (eListRg (eVar 1)))
    (sSeq (sSet 3 (eLst aNil))
    (sSeq (sFor (wRng1 (aCons (eIx (eLst (aCons (eFn F_l_next 2 (aCons (eVar 0) (aCons (eC (.int 4)) aNil))) (aCons (eFn F_l_next 2 (aCons (eVar 0) (aCons (eC (.int 7)) aNil))) aNil))) (eFn F_l_next 2 (aCons (eVar 0) (aCons (eC (.int 2)) aNil)))) aNil)) (tgN 4)
    (sIf (eNe (eVar 2) (eLst aNil)) (sExpr (eMeth isL gAppend (eVar 3) (aCons (eTup (aCons (eM_pop1 (eVar 2) (aCons (eFn F_l_next 2 (aCons (eVar 0) (aCons (eCall gLen (aCons (eVar 2) aNil)) aNil))) aNil)) (aCons (eEq (eFn F_l_next 2 (aCons (eVar 0) (aCons (eC (.int 3)) aNil))) (eC (.int 2))) aNil))) aNil))) sPass))
    (sRet (eVar 3))))))
def F_p_column_at : Fd := fdef 2 2 ((sSeq (sIf (eChain gLe gLt (eC (.int 0)) (eVar 1) (eCall gLen (aCons (eVar 0) aNil))) (sRet (eIx (eVar 0) (eVar 1))) sPass)
    (sRet (eTup aNil))))
def F_p_pocket_of : Fd := fdef 3 2 ((sSeq (sFor (wRng1 (aCons (eC (.int 12)) aNil)) (tgN 2)
    (sIf (eAnd (eIn (eVar 2) (eVar 1)) (eIn (eVar 2) (eVar 0))) (sRet (eAdd (eVar 2) (eC (.int 1)))) sPass))
    (sRet (eC (.int 0)))))
def F_p_pockets : Fd := fdef 8 2 ((sSeq (sTgt (tgT (tgsCons (tgN 2) (tgsCons (tgN 3) (tgsCons (tgN 4) tgsNil)))) (eVar 1))
    (sSeq (sSet 5 (eLc (wRng1 (aCons (eAdd (eC (.int 12)) (eC (.int 1))) aNil)) (tgN 4) eYes (eLst aNil) [4]))
    (sSeq (sFor (wAny (eVar 0)) (tgN 6)
    (sSeq (sSet 7 (eFn F_p_pocket_of 2 (aCons (eFn F_p_column_at 2 (aCons (eVar 6) (aCons (eVar 2) aNil))) (aCons (eVar 3) aNil))))
    (sExpr (eMeth isL gAppend (eIx (eVar 5) (eVar 7)) (aCons (eVar 6) aNil)))))
    (sRet (eVar 5))))))
def F_p_passed : Fd := fdef 6 2 ((sSeq (sSet 2 (eFn F_p_pockets 2 (aCons (eVar 0) (aCons (eVar 1) aNil))))
    (sSeq (sSet 3 (eIx (eVar 1) (eC (.int 2))))
    (sSeq (sIf (eVar 3) (sExpr (eM_reverse0 (eVar 2) aNil)) sPass)
    (sRet (eLc2 (wAny (eVar 2)) (tgN 4) eYes (wAny (eVar 4)) (tgN 5) eYes (eVar 5) [4, 5] [5]))))))
def F_p_sorted_by : Fd := fdef 4 2 ((sSeq (sSet 2 (eCall gList (aCons (eVar 0) aNil)))
    (sSeq (sFor (wAny (eVar 1)) (tgN 3)
    (sSet 2 (eFn F_p_passed 2 (aCons (eVar 2) (aCons (eVar 3) aNil)))))
    (sRet (eVar 2)))))
def F_l_pass : Fd := fdef 4 2 ((sSeq (sSet 2 (eCall gTuple (aCons (eLc (wRng1 (aCons (eC (.int 12)) aNil)) (tgN 3) (eEq (eFn F_l_next 2 (aCons (eVar 0) (aCons (eC (.int 2)) aNil))) (eC (.int 1))) (eVar 3) [3]) aNil)))
    (sSeq (sIf (eEq (eFn F_l_next 2 (aCons (eVar 0) (aCons (eC (.int 2)) aNil))) (eC (.int 1))) (sSet 2 (eIx (eLst (aCons (eTupRg (eC (.int 10))) (aCons (eTup (aCons (eC (.int 10)) (aCons (eC (.int 11)) aNil))) (aCons (eTupRg (eC (.int 12))) aNil)))) (eFn F_l_next 2 (aCons (eVar 0) (aCons (eC (.int 3)) aNil))))) sPass)
    (sRet (eTup (aCons (eIx (eVar 1) (eFn F_l_next 2 (aCons (eVar 0) (aCons (eCall gLen (aCons (eVar 1) aNil)) aNil)))) (aCons (eVar 2) (aCons (eEq (eFn F_l_next 2 (aCons (eVar 0) (aCons (eC (.int 3)) aNil))) (eC (.int 2))) aNil))))))))
def F_l_pocket : Fd := fdef 4 2 ((sSeq (sSet 2 (eLc (wAny (eFn F_l_column 2 (aCons (eVar 0) (aCons (eIx (eVar 1) (eC (.int 0))) aNil)))) (tgN 3) (eIn (eVar 3) (eIx (eVar 1) (eC (.int 1)))) (eAdd (eVar 3) (eC (.int 1))) [3]))
    (sRet (eMod (eCall gMin (aCons (eAdd (eVar 2) (eLst (aCons (eC (.int 99)) aNil))) aNil)) (eC (.int 99))))))
def F_l_passed : Fd := fdef 6 2 ((sSeq (sSet 2 (eLst aNil))
    (sSeq (sFor (wRng1 (aCons (eC (.int 13)) aNil)) (tgN 3)
    (sSeq (sSet 4 (eIx (eLst (aCons (eVar 3) (aCons (eSub (eC (.int 12)) (eVar 3)) aNil))) (eCall gInt (aCons (eIx (eVar 1) (eC (.int 2))) aNil))))
    (sSet 2 (eAdd (eVar 2) (eLc (wAny (eVar 0)) (tgN 5) (eEq (eFn F_l_pocket 2 (aCons (eVar 5) (aCons (eVar 1) aNil))) (eVar 4)) (eVar 5) [5])))))
    (sRet (eVar 2)))))
def F_l_by : Fd := fdef 3 2 ((sSeq (sFor (wAny (eVar 1)) (tgN 2)
    (sSet 0 (eFn F_l_passed 2 (aCons (eVar 0) (aCons (eVar 2) aNil)))))
    (sRet (eVar 0))))
def F_p_rank_of : Fd := fdef 4 1 ((sSeq (sSet 1 (eLc (wAny (eVar 0)) (tgN 2) (eChain gLe gLt (eC (.int 0)) (eVar 2) (eC (.int 10))) (eAdd (eVar 2) (eC (.int 1))) [2]))
    (sSeq (sSet 3 (eLc (wAny (eVar 0)) (tgN 2) (eChain gLe gLt (eC (.int 10)) (eVar 2) (eC (.int 12))) (eSub (eAdd (eVar 2) (eC (.int 1))) (eC (.int 10))) [2]))
    (sRet (eAdd (eMul (eC (.int 11)) (eMaxDef (eVar 3) 0)) (eMaxDef (eVar 1) 0))))))
def F_p_ranked : Fd := fdef 4 1 ((sSeq (sTgt (tgT (tgsCons (tgN 1) (tgsCons (tgN 2) tgsNil))) (eCall gDivmod (aCons (eVar 0) (aCons (eC (.int 11)) aNil))))
    (sSeq (sSet 3 (eLst aNil))
    (sSeq (sIf (eGt (eVar 2) (eC (.int 0))) (sExpr (eMeth isL gAppend (eVar 3) (aCons (eSub (eVar 2) (eC (.int 1))) aNil))) sPass)
    (sSeq (sIf (eGt (eVar 1) (eC (.int 0))) (sExpr (eMeth isL gAppend (eVar 3) (aCons (eAdd (eSub (eVar 1) (eC (.int 1))) (eC (.int 10))) aNil))) sPass)
    (sRet (eCall gTuple (aCons (eVar 3) aNil))))))))
def F_p_sign_of : Fd := fdef 1 1 ((sRet (eIx (eC (.str (Str.ofString " 0123456789-KLMNOPQRST+ABCDEFGHIJ"))) (eFn F_p_rank_of 1 (aCons (eVar 0) aNil)))))
def F_p_column_of : Fd := fdef 1 1 ((sRet (eFn F_p_ranked 1 (aCons (eM_sindex1 (eC (.str (Str.ofString " 0123456789-KLMNOPQRST+ABCDEFGHIJ"))) (aCons (eVar 0) aNil)) aNil))))
def F_p_only_signs : Fd := fdef 2 1 ((sRet (eCall gAll (aCons (eLc (wAny (eVar 0)) (tgN 1) eYes (eIn (eVar 1) (eC (.str (Str.ofString " 0123456789-KLMNOPQRST+ABCDEFGHIJ")))) [1]) aNil))))
def F_p_writes_card : Fd := fdef 1 1 ((sRet (eAnd (eChain gLe gLe (eC (.int 1)) (eCall gLen (aCons (eVar 0) aNil)) (eC (.int 12))) (eFn F_p_only_signs 1 (aCons (eVar 0) aNil)))))
def F_p_written : Fd := fdef 4 1 ((sSeq (sSet 1 (eLc (wAny (eVar 0)) (tgN 3) eYes (eMeth isS gJoin (eC (.str (Str.ofString ""))) (aCons (eLc (wAny (eVar 3)) (tgN 2) eYes (eFn F_p_sign_of 1 (aCons (eVar 2) aNil)) [2]) aNil)) [3]))
    (sRet (eMeth isS gJoin (eC (.str (Str.ofString "\n"))) (aCons (eVar 1) aNil)))))
end Go
set_option Elab.async false
set_option linter.all false
set_option maxRecDepth 100000
namespace Go
open PySem PySem.Spec PyProof.Rows L2 Mi

theorem sizeLine_le {n : Nat} (h : n ≤ 16777216) : n ≤ sizeLine := by rw [sizeLine_eq]; exact h
/-- the dice stand at n -/
def DiceAt (st : Sto) (n : Nat) : Prop := ∃ (xs : List Int) (i m r : Int), st[n]? = some (.lst [.rol (xs.map D.int), .int i, .int m, .int r]) ∧ 0 ≤ i ∧ 0 ≤ m ∧ m < 2147483647 ∧ 0 ≤ r
/-- the dice at n are drawn from; else the store only grows -/
structure Ev (n : Nat) (st st' : Sto) : Prop where
  le : st.length ≤ st'.length
  keep : ∀ m, m < st.length → m ≠ n → st'[m]? = st[m]?
  dice : DiceAt st' n
theorem DiceAt.lt {st : Sto} {n : Nat} (h : DiceAt st n) : n < st.length := by
  obtain ⟨xs, i, m, r, h, _⟩ := h
  exact (List.getElem?_eq_some_iff.mp h).1
theorem Ev.refl {n : Nat} {st : Sto} (h : DiceAt st n) : Ev n st st := ⟨Nat.le_refl _, fun _ _ _ => rfl, h⟩
theorem Ev.trans {n : Nat} {a b c : Sto} (x : Ev n a b) (y : Ev n b c) : Ev n a c := ⟨Nat.le_trans x.le y.le, fun m h1 h2 => (y.keep m (Nat.lt_of_lt_of_le h1 x.le) h2).trans (x.keep m h1 h2), y.dice⟩
theorem Ev.app {n : Nat} {st g : Sto} (h : DiceAt st n) : Ev n st (st ++ g) := ⟨by simp, fun m h1 _ => List.getElem?_append_left h1, by
  obtain ⟨xs, i, m, r, e, q⟩ := h
  exact ⟨xs, i, m, r, by rw [List.getElem?_append_left (List.getElem?_eq_some_iff.mp e).1]; exact e, q⟩⟩
theorem Ev.wr {n : Nat} {st : Sto} {xs : List Int} {i m r : Int} (h : n < st.length) (h1 : 0 ≤ i) (h2 : 0 ≤ m) (h3 : m < 2147483647) (h4 : 0 ≤ r) : Ev n st (st.set n (.lst [.rol (xs.map D.int), .int i, .int m, .int r])) :=
  ⟨by simp, fun k _ hk => by rw [List.getElem?_set_ne (Ne.symm hk)], ⟨xs, i, m, r, by rw [List.getElem?_set_self h], h1, h2, h3, h4⟩⟩
theorem ix_int {xs : List Int} {i : Int} (h0 : 0 ≤ i) (h : i < xs.length) : atI (xs.map D.int) i = some (.int (xs[i.toNat]'(by omega))) := by
  unfold atI ixN
  rw [if_pos h0]
  have : i < ((xs.map D.int).length : Nat) := by simpa using h
  rw [if_pos this]
  simp only [Option.bind_some]
  rw [List.getElem?_map, List.getElem?_eq_getElem (by omega)]
  rfl
theorem log2_small {k : Int} (h : 0 < k) (h2 : k < 1000000) : k.natAbs.log2 < 9000 := by
  have : k.natAbs < 2 ^ 20 := by omega
  have := PySem.Flt.log2_lt_of (by decide : 0 < 20) this
  omega
theorem log2_31 {m : Int} (h : 0 ≤ m) (h2 : m < 2147483648) : m.natAbs.log2 < 31 := PySem.Flt.log2_lt_of (by decide) (by omega)
theorem next_to {st : Sto} {n : Nat} {k : Int} {P : D → Sto → Prop} (h : DiceAt st n) (hk : 0 < k) (hk2 : k < 1000000) (hP : ∀ j st', 0 ≤ j → j < k → Ev n st st' → st'.length = st.length → P (.int j) st') : (F_l_next [.loc n, .int k] st).to P := by
  have hn := h.lt
  obtain ⟨xs, i, m, r, e, h1, h2, h3, h4⟩ := h
  have hlog := log2_small hk hk2
  unfold F_l_next
  rw [fdef_to (by rfl)]
  have hs : ∀ o : Ob, (st.set n o)[n]? = some o := fun o => List.getElem?_set_self hn
  have hm : (48271 : Int).natAbs.log2 = 15 := by decide
  have hml := log2_31 h2 (by omega)
  have h7 : Nat.log2 7 < 9000 := by decide
  have h48 : Nat.log2 48271 = 15 := by decide
  simp [e, gGt, gMod, gDiv, gLe, gGe, Mi.gSub, gPow, atI, ixN, hs, hk, hlog, h7, h48]
  by_cases hr : 0 < r
  · exact .inr ⟨hr, hP _ _ (Int.emod_nonneg _ (by omega)) (Int.emod_lt_of_pos _ hk) (.wr hn h1 h2 h3 (Int.ediv_nonneg h4 (by omega))) (by simp)⟩
  · refine .inl ⟨by omega, ?_⟩
    by_cases hi : i + 1 ≤ xs.length
    · refine .inr ⟨hi, ?_⟩
      have hi2 : i < xs.length := by omega
      have hi3 : i.toNat < xs.length := by omega
      simp [h1, hi2, hi3, hs, hk, hlog]
      have fin : ∀ r2 : Int, 0 ≤ r2 → P (.int (xs[i.toNat] % k)) (st.set n (.lst [.rol (xs.map D.int), .int (i + 1), .int m, .int r2])) := fun r2 h0 => hP _ _ (Int.emod_nonneg _ (by omega)) (Int.emod_lt_of_pos _ hk) (.wr hn (by omega) h2 h3 h0) (by simp)
      by_cases hc : 1000000000000000000 ≤ xs[i.toNat]
      · exact .inr ⟨hc, fin _ (Int.ediv_nonneg (by omega) (by omega))⟩
      · exact .inl ⟨by omega, fin _ (Int.le_refl _)⟩
    · refine .inl ⟨by omega, by omega, ?_⟩
      exact hP _ _ (Int.emod_nonneg _ (by omega)) (Int.emod_lt_of_pos _ hk) (.wr hn (by omega) (Int.emod_nonneg _ (by decide)) (Int.emod_lt_of_pos _ (by decide)) h4) (by simp)
/-- the dice are made -/
theorem dice_to {st : Sto} {ns : List Int} {P : D → Sto → Prop} (hl : ns.length ≤ 63) (hP : ∀ st', Ev st.length st st' → P (.loc st.length) st') : (F_l_dice [.rol (ns.map D.int)] st).to P := by
  unfold F_l_dice
  rw [fdef_to (by rfl)]
  simp
  refine for_go (fun _ sl st2 => st2 = st ∧ ∃ m : Int, 0 ≤ m ∧ m < 2147483647 ∧ ∃ d, sl = [some (.rol (ns.map D.int)), some (.int m), d]) ⟨rfl, 0, by decide, by decide, _, rfl⟩ (fun sl st2 h => ?_) fun pre d post sl st2 hall h => ?_
  · obtain ⟨rfl, m, h0, h1, d, rfl⟩ := h
    refine ⟨rfl, ?_⟩
    simp [gGt]
    have hml := log2_31 h0 (by omega)
    have e : ∀ c : Prop, [Decidable c] → (if c then (1 : Int) else 0).natAbs.log2 = 0 := fun c _ => by split <;> decide
    refine ⟨by rw [e]; omega, sizeLine_le (by decide), hP _ ?_⟩
    refine ⟨by simp, fun m h1 _ => List.getElem?_append_left h1, ns, 0, (m * if 2 < (ns.length : Int) then 1 else 0), 0, by simp, by decide, ?_, ?_, by decide⟩
    · split <;> omega
    · split <;> omega
  · obtain ⟨rfl, m, h0, h1, d', rfl⟩ := h
    obtain ⟨v, hv, rfl⟩ : ∃ v ∈ ns, .int v = d := by
      have : d ∈ ns.map D.int := by rw [hall]; simp
      simpa using this
    refine ⟨rfl, _, rfl, ?_⟩
    simp [gMod]
    have hml := log2_31 h0 (by omega)
    have a1 : 0 ≤ v % 2147483647 := Int.emod_nonneg _ (by decide)
    have a2 : v % 2147483647 < 2147483647 := Int.emod_lt_of_pos _ (by decide)
    have hvl := log2_31 a1 (by omega)
    have e1 : Nat.log2 48271 = 15 := by decide
    have e2 : Nat.log2 69621 = 16 := by decide
    exact ⟨by omega, by omega, Int.emod_nonneg _ (by decide), Int.emod_lt_of_pos _ (by decide)⟩
/-! ### columns -/
/-- the 33 columns -/
def colsOf (o : List Int) : List (List Int) := o :: (List.range 10).map fun k : Nat => (k : Int) :: o
def cols : List (List Int) := [([] : List Int), [10], [11]].flatMap colsOf
def eCol (c : List Int) : D := .tup (c.map D.int)
def eCard (c : List (List Int)) : D := .tup (c.map eCol)
theorem cols_len : cols.length = 33 := by simp [cols, colsOf]
theorem range_enc (n : Nat) : rangeD 0 n = (List.range n).map fun k : Nat => D.int k := by
  unfold rangeD
  simp
theorem columns_to {st : Sto} {P : D → Sto → Prop} (hP : ∀ st' p, Gr st st' → st.length ≤ p → st'[p]? = some (.lst (cols.map eCol)) → P (.loc p) st') : (F_l_columns [] st).to P := by
  unfold F_l_columns
  rw [fdef_to (by rfl)]
  simp
  refine ⟨sizeLine_le (by decide), sizeLine_le (by decide), ?_⟩
  refine for_enc eCol [([] : List Int), [10], [11]] (fun os sl st2 => ∃ (p : Nat) (x y : Option D), sl = [some (.loc p), x, y] ∧ Gr (st ++ [.lst [], .lst [.tup [], .tup [.int 10], .tup [.int 11]]]) st2 ∧ st.length ≤ p ∧ st2[p]? = some (.lst ((os.flatMap colsOf).map eCol)))
    ⟨st.length, none, none, rfl, .refl _, Nat.le_refl _, by simp⟩ (fun sl st2 h => ?_) fun pre o post sl st2 hall h => ?_
  · obtain ⟨p, x, y, rfl, h3, h4, h5⟩ := h
    refine ⟨chk_some (h3.get (by simp [eCol])), ?_⟩
    simp
    exact hP st2 p ((Gr.app _ _).trans h3) h4 h5
  · obtain ⟨p, x, y, rfl, h3, h4, h5⟩ := h
    refine ⟨chk_some (h3.get (by simp [eCol])), _, rfl, ?_⟩
    simp
    have hp := (List.getElem?_eq_some_iff.mp h5).1
    rw [gAdd_loc ((Gr.app _ _).get h5) (last_get _ _)]
    have hlen : ∀ l : List (List Int), (l.flatMap colsOf).length = l.length * 11 := fun l => by
      induction l with
      | nil => rfl
      | cons a l ih => rw [List.flatMap_cons, List.length_append, ih]; simp [colsOf]; omega
    have hpre : pre.length ≤ 3 := by
      have := congrArg List.length hall
      simp at this
      omega
    refine ⟨sizeLine_le (by decide), sizeLine_le (by rw [List.length_map, hlen]; simp; omega), ?_⟩
    simp [range_enc]
    have ho : o.length ≤ 1 := by
      have : o ∈ [([] : List Int), [10], [11]] := by rw [hall]; simp
      simp at this
      rcases this with rfl | rfl | rfl <;> simp
    refine ⟨sizeLine_le (by decide), ?_⟩
    refine lc_mapY (fun d => .tup ([d] ++ o.map D.int)) rfl (fun d hd => ⟨_, rfl, ?_⟩) ?_
    · simp [wipeD, eCol]
      exact ⟨sizeLine_le (by decide), sizeLine_le (by omega)⟩
    · rw [gAdd_loc (x := ((pre.flatMap colsOf).map eCol) ++ [eCol o]) (by simp) (last_get _ _)]
      refine ⟨sizeLine_le (by simp [hlen]; omega), _, rfl, (h3.trans (.app _ _)).trans ((Gr.app _ _).trans (.app _ _)), by simp; omega, ?_⟩
      rw [last_get]
      simp [colsOf, eCol]
end Go
set_option Elab.async false
set_option linter.all false
set_option maxRecDepth 100000
namespace Go
open PySem PySem.Spec PyProof.Rows L2 Mi
theorem Ev.get {n : Nat} {a b : Sto} (x : Ev n a b) {m : Nat} {o : Ob} (h : a[m]? = some o) (hm : m ≠ n) : b[m]? = some o := (x.keep m (List.getElem?_eq_some_iff.mp h).1 hm).trans h
theorem Ev.gr {n : Nat} {a b c : Sto} (x : Ev n a b) (y : Gr b c) : Ev n a c := by
  obtain ⟨g, rfl⟩ := y
  exact x.trans (.app x.dice)
theorem DiceAt.gr {n : Nat} {a b : Sto} (h : DiceAt a n) (y : Gr a b) : DiceAt b n := by
  obtain ⟨g, rfl⟩ := y
  exact (Ev.app h).dice
theorem DiceAt.ev {n : Nat} {a b : Sto} (h : DiceAt a n) (y : Gr a b) : Ev n a b := (Ev.refl h).gr y
theorem palette_to {st : Sto} {n : Nat} {P : D → Sto → Prop} (h : DiceAt st n) (hP : ∀ st' p xs, Ev n st st' → st.length ≤ p → st'[p]? = some (.lst (List.map eCol xs)) → xs ≠ [] → xs.Sublist cols → P (.loc p) st') : (F_l_palette [.loc n] st).to P := by
  unfold F_l_palette
  rw [fdef_to (by rfl)]
  simp
  refine columns_to fun st1 e g1 he hev => ?_
  have hn := h.lt
  have hen : e ≠ n := by omega
  have d1 := h.gr g1
  have v1 := h.ev g1
  refine next_to d1 (by decide) (by decide) fun way st2 hw0 hw6 v2 l2 => ?_
  have v12 := v1.trans v2
  have hev2 := v2.get hev hen
  simp
  have peC := PyEnc.int.tup
  have hsub : ∀ (lo hi : Option Int), (cutA cols lo hi).Sublist cols := fun lo hi => cutA_sub _ _ _
  have fin : ∀ (s : Sto) (xs : List (List Int)), Ev n st2 s → xs ≠ [] → xs.Sublist cols → P (.loc s.length) (s ++ [.lst (xs.map eCol)]) := fun s xs v hne hs =>
    hP _ _ xs ((v12.trans v).gr (.app _ _)) (Nat.le_trans (v12.trans v).le (Nat.le_refl _)) (by simp) hne hs
  have hne : ∀ (lo hi : Option Int), HT.sIx 33 0 lo < HT.sIx 33 33 hi → HT.sIx 33 33 hi ≤ 33 → cutA cols lo hi ≠ [] := fun lo hi h1 h2 e => by
    have := cutA_len cols lo hi
    rw [e, cols_len] at this
    simp at this
    omega
  simp [hev2]
  by_cases c0 : way = 0
  · refine .inr ⟨c0, sizeLine_le (by decide), sizeLine_le (by decide), ?_⟩
    refine next_to (v12.dice.gr (.app _ _)) (by decide) (by decide) fun j st3 j0 j1 v3 l3 => ⟨j, rfl, ?_⟩
    have e3 : st3[st2.length]? = some (.lst [.tup [], .tup [.int 1], .tup [.int 2]]) := v3.get (by simp) (by have := v12.le; omega)
    rw [e3]
    show P (.loc st3.length) (st3 ++ [.lst (cutD ([([] : List Int), [1], [2]].map eCol) (some j) none)])
    rw [cutD_map]
    refine fin st3 _ ((v2.dice.ev (.app _ _)).trans v3) ?_ ((cutA_sub _ _ _).trans (by decide))
    have : j = 0 ∨ j = 1 := by omega
    rcases this with rfl | rfl <;> decide
  refine .inl ⟨c0, ?_⟩
  by_cases c1 : way = 1
  · refine .inr ⟨c1, ?_⟩
    rw [cutD_map]
    exact fin st2 _ (.refl v2.dice) (hne _ _ (by decide) (by decide)) (hsub _ _)
  refine .inl ⟨c1, ?_⟩
  by_cases c2 : way = 2
  · refine .inr ⟨c2, ?_⟩
    refine next_to v2.dice (by decide) (by decide) fun i st3 i0 i1 v3 l3 => ⟨i, rfl, ?_⟩
    refine next_to v3.dice (by decide) (by decide) fun j st4 j0 j1 v4 l4 => ?_
    simp
    rw [(v3.trans v4).get hev2 hen]
    dsimp only
    rw [cutD_map]
    refine fin st4 _ (v3.trans v4) (hne _ _ ?_ ?_) (hsub _ _)
    · have hi : i = 0 ∨ i = 1 := by omega
      have hj : j = 0 ∨ j = 1 ∨ j = 2 ∨ j = 3 := by omega
      rcases hi with rfl | rfl <;> rcases hj with rfl | rfl | rfl | rfl <;> decide
    · exact HT.sIx_le _ _ (Nat.le_refl _) _
  refine .inl ⟨c2, ?_⟩
  by_cases c3 : way = 3
  · refine .inr ⟨c3, ?_⟩
    refine hP st2 e cols v12 he hev2 ?_ (List.Sublist.refl _)
    intro z
    have := cols_len
    rw [z] at this
    cases this
  refine .inl ⟨c3, ?_⟩
  refine next_to v2.dice (by decide) (by decide) fun m st3 m0 m1 v3 l3 => ?_
  simp
  refine ⟨⟨by omega, by omega⟩, sizeLine_le (by simp [rangeD]; omega), ?_⟩
  rw [range_enc]
  -- the columns that are found
  refine lc_encY (fun k : Nat => D.int k) _ (fun pre acc s => ∃ ys : List (List Int), acc = ys.map eCol ∧ Ev n st3 s ∧ (∀ y ∈ ys, y ∈ cols) ∧ ys.length = pre.length) ⟨[], rfl, .refl v3.dice, by simp, rfl⟩ (fun acc s hI => ?_) fun pre x post acc s hall hI => ?_
  · obtain ⟨ys, rfl, v4, hy, hl⟩ := hI
    refine ⟨rfl, ?_⟩
    have hev4 : (s ++ [Ob.lst (ys.map eCol)])[e]? = some (.lst (cols.map eCol)) := (Gr.app _ _).get ((v3.trans v4).get hev2 hen)
    refine ⟨_, hev4, sizeLine_le (by rw [List.length_map, cols_len]; decide), ?_⟩
    refine lc_mapE eCol cols (fun c => decide (c ∈ ys)) eCol (chk_some hev4) (fun c hc => ⟨_, rfl, ?_, fun _ => ?_⟩) ?_
    · simp [wipeD]
      refine (iff_of_eq (in_loc (neg := false) peC (by decide) (x := c) (xs := ys) (st := s ++ [.lst (ys.map eCol)]) (n := s.length) (by simp [eCol]))).mpr ?_
      simp
    · simp [wipeD]
    · refine hP _ _ _ ((v12.trans (v3.trans v4)).gr ((Gr.app _ _).trans (.app _ _))) ?_ (last_get _ _) ?_ List.filter_sublist
      · have := (v12.trans (v3.trans v4)).le
        simp
        omega
      · intro z
        cases ys with
        | nil =>
          simp at hl
          omega
        | cons y ys =>
          have : y ∈ cols.filter fun c => decide (c ∈ y :: ys) := by
            rw [List.mem_filter]
            exact ⟨hy y List.mem_cons_self, by simp⟩
          rw [z] at this
          cases this
  · obtain ⟨ys, rfl, v4, hy, hl⟩ := hI
    refine ⟨rfl, _, rfl, ?_⟩
    simp [wipeD]
    refine next_to v4.dice (by decide) (by decide) fun j s2 j0 j1 v5 l5 => ?_
    have := (v3.trans (v4.trans v5)).get hev2 hen
    simp only [gIx_loc, this]
    rw [at_enc eCol j0 (by rw [cols_len]; omega)]
    refine ⟨ys ++ [cols[j.toNat]'(by rw [cols_len]; omega)], by simp, v4.trans v5, ?_, by simp [hl]⟩
    intro y hy'
    rcases List.mem_append.mp hy' with z | z
    · exact hy y z
    · have : y = cols[j.toNat]'(by rw [cols_len]; omega) := by simpa using z
      rw [this]
      exact List.getElem_mem _
end Go
set_option Elab.async false
set_option linter.all false
set_option maxRecDepth 100000
namespace Go
open PySem PySem.Spec PyProof.Rows L2 Mi
theorem Ev.put {n p : Nat} {a b : Sto} {o : Ob} (x : Ev n a b) (hp : a.length ≤ p) (hn : n < a.length) : Ev n a (b.set p o) :=
  ⟨by rw [List.length_set]; exact x.le, fun m h1 h2 => by rw [List.getElem?_set_ne (by omega)]; exact x.keep m h1 h2, by
    obtain ⟨xs, i, m, r, e, q⟩ := x.dice
    exact ⟨xs, i, m, r, by rw [List.getElem?_set_ne (by omega)]; exact e, q⟩⟩
def PalAt (st : Sto) (n p : Nat) (xs : List (List Int)) : Prop := p ≠ n ∧ st[p]? = some (.lst (xs.map eCol)) ∧ xs ≠ [] ∧ xs.Sublist cols
theorem PalAt.ev {st st' : Sto} {n p : Nat} {xs : List (List Int)} (h : PalAt st n p xs) (v : Ev n st st') : PalAt st' n p xs := ⟨h.1, v.get h.2.1 h.1, h.2.2⟩
abbrev Pals (st : Sto) (n : Nat) (ps : List Nat) (pal : List (List (List Int))) : Prop := Paired (PalAt st n) ps pal
theorem Pals.ev {st st' : Sto} {n : Nat} {ps : List Nat} {pal : List (List (List Int))} (h : Pals st n ps pal) (v : Ev n st st') : Pals st' n ps pal := Paired.mapP h fun _ _ q => q.ev v
theorem paired_app {α β : Type} {R : α → β → Prop} : ∀ {as as' : List α} {bs bs' : List β}, Paired R as bs → Paired R as' bs' → Paired R (as ++ as') (bs ++ bs')
  | _, _, _, _, .nil, h => h
  | _, _, _, _, .cons r t, h => .cons r (paired_app t h)
def IPals (n : Nat) (st2 : Sto) (k : Nat) (acc : List D) (s : Sto) : Prop := ∃ (ps : List Nat) (pal : List (List (List Int))), acc = ps.map D.loc ∧ Ev n st2 s ∧ Pals s n ps pal ∧ ps.length = k
theorem palettes_to {st : Sto} {n : Nat} {P : D → Sto → Prop} (h : DiceAt st n) (hP : ∀ st' q ps pal, Ev n st st' → st.length ≤ q → st'[q]? = some (.lst (List.map D.loc ps)) → 0 < ps.length → ps.length ≤ 12 → Pals st' n ps pal → P (.loc q) st') : (F_l_palettes [.loc n] st).to P := by
  unfold F_l_palettes
  rw [fdef_to (by rfl)]
  simp
  refine next_to h (by decide) (by decide) fun a st1 a0 a1 v1 l1 => ?_
  simp
  refine ⟨sizeLine_le (by decide), ?_⟩
  refine next_to (v1.dice.gr (.app _ _)) (by decide) (by decide) fun b st2 b0 b1 v2 l2 => ?_
  have hn := h.lt
  have e2 : st2[st1.length]? = some (.lst [.int (1 + a), .int 12]) := v2.get (by simp) (by omega)
  simp [e2]
  have v12 : Ev n st st2 := (v1.gr (.app _ _)).trans v2
  obtain ⟨w, hw, hw0, hw1⟩ : ∃ w : Int, atI [D.int (1 + a), D.int 12] (if b = 7 then 1 else 0) = some (.int w) ∧ 1 ≤ w ∧ w ≤ 12 := by
    by_cases hb : b = 7
    · rw [if_pos hb]
      exact ⟨12, rfl, by decide, by decide⟩
    · rw [if_neg hb]
      exact ⟨1 + a, rfl, by omega, by omega⟩
  rw [hw]
  simp
  refine ⟨⟨by omega, by omega⟩, sizeLine_le (by simp [rangeD]; omega), ?_⟩
  rw [range_enc]
  refine lc_encY (fun k : Nat => D.int k) _ (fun pre acc s => IPals n st2 pre.length acc s) ⟨[], [], rfl, .refl v2.dice, .nil, rfl⟩ (fun acc s hI => ?_) fun pre x post acc s hall hI => ?_
  · obtain ⟨ps, pal, rfl, v3, hp, hl⟩ := hI
    refine ⟨rfl, hP _ _ ps pal ((v12.trans v3).gr (.app _ _)) ?_ (last_get _ _) ?_ ?_ (hp.ev (v3.dice.ev (.app _ _)))⟩
    · exact (v12.trans v3).le
    · rw [hl]; simp; omega
    · rw [hl]; simp; omega
  · obtain ⟨ps, pal, rfl, v3, hp, hl⟩ := hI
    refine ⟨rfl, _, rfl, ?_⟩
    simp [wipeD]
    refine palette_to v3.dice fun s' p xs v4 hle hx hne hs => ?_
    have hpn : p ≠ n := by
      have := v3.dice.lt
      omega
    exact ⟨ps ++ [p], pal ++ [xs], by simp, v3.trans v4, paired_app (hp.ev v4) (.cons ⟨hpn, hx, hne, hs⟩ .nil), by simp [hl]⟩
/-- a card with a column of each palette -/
abbrev CardOf (pal : List (List (List Int))) (c : List (List Int)) : Prop := Paired (fun x xs => x ∈ xs) c pal
def IDeck (n q : Nat) (most : Int) (pal : List (List (List Int))) (st : Sto) (k : Nat) (sl : Sl) (s : Sto) : Prop := ∃ (cards : List (List (List Int))) (x y : Option D), sl = [some (.loc n), some (.loc q), some (.int most), some (.loc st.length), x, y] ∧ Ev n st s ∧ s[st.length]? = some (.lst (cards.map eCard)) ∧ cards.length = k ∧ ∀ c ∈ cards, CardOf pal c
def ICard (n : Nat) (st s : Sto) (ps : List Nat) (pal : List (List (List Int))) (cards : List (List (List Int))) (pre : List Nat) (acc : List D) (s3 : Sto) : Prop := ∃ (cs : List (List Int)) (pl1 pl2 : List (List (List Int))) (post2 : List Nat), acc = cs.map eCol ∧ Ev n s s3 ∧ s3[st.length]? = some (.lst (cards.map eCard)) ∧ ps = pre ++ post2 ∧ pal = pl1 ++ pl2 ∧ Pals s3 n post2 pl2 ∧ CardOf pl1 cs ∧ cs.length = pre.length
theorem deck_to {st : Sto} {n q : Nat} {ps : List Nat} {pal : List (List (List Int))} {most : Int} {P : D → Sto → Prop} (h : DiceAt st n) (hq : st[q]? = some (.lst (List.map D.loc ps))) (hqn : q ≠ n) (hps : Pals st n ps pal) (hm0 : 0 ≤ most) (hm1 : most < 1000) (hps12 : ps.length ≤ 12)
    (hP : ∀ st' p cards, Ev n st st' → st.length ≤ p → st'[p]? = some (.lst (List.map eCard cards)) → cards.length ≤ most → (∀ c ∈ cards, CardOf pal c) → P (.loc p) st') : (F_l_deck [.loc n, .loc q, .int most] st).to P := by
  unfold F_l_deck
  rw [fdef_to (by rfl)]
  simp
  have hn := h.lt
  refine next_to (h.gr (.app _ _)) (by omega) (by omega) fun a st1 a0 a1 v1 l1 => ?_
  simp
  refine ⟨⟨by omega, by omega⟩, ?_⟩
  rw [range_enc]
  have v01 : Ev n st st1 := (h.ev (.app _ _)).trans v1
  refine for_enc (fun k : Nat => D.int k) _ (fun pre sl s => IDeck n q most pal st pre.length sl s)
    ⟨[], none, none, rfl, v01, v1.get (by simp) (by omega), rfl, by simp⟩ (fun sl s hI => ?_) fun pre x post sl s hall hI => ?_
  · obtain ⟨cards, x, y, rfl, v2, hc, hl, hcs⟩ := hI
    refine ⟨rfl, ?_⟩
    simp
    refine hP s _ cards v2 (Nat.le_refl _) hc ?_ hcs
    rw [hl]
    simp
    omega
  · obtain ⟨cards, x', y, rfl, v2, hc, hl, hcs⟩ := hI
    refine ⟨rfl, _, rfl, ?_⟩
    simp [hc]
    have hq2 := v2.get hq hqn
    refine ⟨_, hq2, sizeLine_le (by simp; omega), ?_⟩
    have hp2 : Pals s n ps pal := hps.ev v2
    -- the columns of a card
    refine lc_encY D.loc ps (fun pre acc s3 => ICard n st s ps pal cards pre acc s3)
      ⟨[], [], pal, ps, rfl, .refl v2.dice, hc, rfl, rfl, hp2, .nil, rfl⟩ (fun acc s3 hI => ?_) fun pre2 p post2 acc s3 hall2 hI => ?_
    · obtain ⟨cs, pl1, pl2, post2, rfl, v3, hc3, hps2, hpal, hp3, hcd, hcl⟩ := hI
      have e0 : post2 = [] := by
        have := congrArg List.length hps2
        simp at this
        exact this
      subst e0
      cases hp3
      rw [List.append_nil] at hpal
      subst hpal
      refine ⟨chk_some (v3.get hq2 hqn), ?_⟩
      have hlt := (List.getElem?_eq_some_iff.mp hc3).1
      have hne : st.length ≠ s3.length := by omega
      simp [List.getElem?_append_left hlt, hc3]
      have hk : pre.length < (a : Int) := by
        have := congrArg List.length hall
        simp at this
        omega
      refine ⟨Nat.lt_of_lt_of_le (show cards.length < 1000 by omega) (sizeLine_le (by decide)), cards ++ [cs], some (.int x), y, by simp, ?_, ?_, by simp [hl], ?_⟩
      · exact ((v2.trans v3).gr (.app _ _)).put (Nat.le_refl _) hn
      · rw [List.getElem?_set_self (by simp; omega)]
        simp [eCard]
      · intro c hc'
        rcases List.mem_append.mp hc' with z | z
        · exact hcs c z
        · have : c = cs := by simpa using z
          rw [this]
          exact hcd
    · obtain ⟨cs, pl1, pl2, post3, rfl, v3, hc3, hps2, hpal, hp3, hcd, hcl⟩ := hI
      have e0 : post3 = p :: post2 := by
        rw [hall2] at hps2
        exact (List.append_cancel_left hps2).symm
      subst e0
      cases hp3 with
      | cons r rr =>
        rename_i xs pl3
        refine ⟨chk_some (v3.get hq2 hqn), _, rfl, ?_⟩
        simp [wipeD, r.2.1]
        have hx0 : 0 < xs.length := List.length_pos_iff.mpr r.2.2.1
        have hx33 : xs.length ≤ 33 := by
          have := r.2.2.2.length_le
          rw [cols_len] at this
          exact this
        refine next_to v3.dice (by omega) (by omega) fun j s4 j0 j1 v4 l4 => ?_
        have r4 := r.ev v4
        simp only [gIx_loc, r4.2.1]
        rw [at_enc eCol j0 (by omega)]
        exact ⟨cs ++ [xs[j.toNat]'(by omega)], pl1 ++ [xs], pl3, post2, by simp, v3.trans v4, v4.get hc3 (by omega), by rw [hps2]; simp, by rw [hpal]; simp, Paired.mapP rr fun _ _ q => q.ev v4, paired_app hcd (.cons (List.getElem_mem _) .nil), by simp [hcl]⟩
end Go
set_option Elab.async false
set_option linter.all false
set_option maxRecDepth 100000
namespace Go
open PySem PySem.Spec PyProof.Rows L2 Mi
/-! ### like -/
theorem kb1 : kitB "int" "str" = some false := by decide +kernel
theorem kb2 : kitB "int" "int" = some true := by decide +kernel
theorem kb3 : kitB "int" "bool" = some false := by decide +kernel
theorem kb4 : kitB "str" "str" = some true := by decide +kernel
theorem kb5 : kitB "NoneType" "str" = some false := by decide +kernel
theorem kb6 : kitB "NoneType" "int" = some false := by decide +kernel
theorem kb7 : kitB "tuple" "str" = some false := by decide +kernel
theorem kb8 : kitB "tuple" "int" = some false := by decide +kernel
theorem kb9 : kitB "tuple" "tuple" = some true := by decide +kernel
theorem kb10 : kitB "tuple" "list" = some false := by decide +kernel
theorem kb11 : kitB "list" "str" = some false := by decide +kernel
theorem kb12 : kitB "list" "int" = some false := by decide +kernel
theorem kb13 : kitB "list" "tuple" = some false := by decide +kernel
theorem kb14 : kitB "list" "list" = some true := by decide +kernel
theorem isi_to {st : Sto} {d : D} {a T : String} {b : Bool} {P : D → Sto → Prop} (h : tyD st d = some a) (hb : kitB a T = some b) : (gIsi [d, .ty T] st).to P = P (.bl b) st := by
  unfold gIsi
  dsimp only
  rw [h]
  dsimp only
  rw [hb]
  rfl
def Lk (k : Nat) (st : Sto) (x y : D) : Prop := F_l_like k [x, y] st = .ok (.bl true) st
theorem like_int (k : Nat) (st : Sto) (i : Int) : Lk (k + 1) st (.int i) (.int i) := by
  refine is_ok ?_
  unfold F_l_like
  rw [fdef_to (by rfl)]
  simp [isi_to (st := st) (d := .int i) (a := "int") rfl kb1, isi_to (st := st) (d := .int i) (a := "int") rfl kb2, isi_to (st := st) (d := .int i) (a := "int") rfl kb3]
theorem like_str (k : Nat) (st : Sto) (i : Str) : Lk (k + 1) st (.str i) (.str i) := by
  refine is_ok ?_
  unfold F_l_like
  rw [fdef_to (by rfl)]
  simp [isi_to (st := st) (d := .str i) (a := "str") rfl kb4]
theorem like_non (k : Nat) (st : Sto) : Lk (k + 1) st .non .non := by
  refine is_ok ?_
  unfold F_l_like
  rw [fdef_to (by rfl)]
  simp [isi_to (st := st) (d := .non) (a := "NoneType") rfl kb5, isi_to (st := st) (d := .non) (a := "NoneType") rfl kb6]
theorem at_nat' {xs : List D} {i : Nat} {x : D} (h : xs[i]? = some x) : atI xs (i : Int) = some x := by
  have hl := (List.getElem?_eq_some_iff.mp h).1
  unfold atI ixN
  rw [if_pos (by omega), if_pos (by omega)]
  simpa using h
/-- the loop over two sequences -/
theorem like_go {k : Nat} {st : Sto} {dx dy : D} {xs ys : List D} (hl : xs.length = ys.length) (h : ∀ (i : Nat) (x y : D), xs[i]? = some x → ys[i]? = some y → Lk k st x y)
    (hx : ∀ (i : Nat) (x : D) (P : D → Sto → Prop), xs[i]? = some x → (gIx dx (.int i) st).to P = P x st) (hy : ∀ (i : Nat) (y : D) (P : D → Sto → Prop), ys[i]? = some y → (gIx dy (.int i) st).to P = P y st) {N : Sl → Sto → Prop} {T : D → Sto → Prop} (hN : ∀ z, N [some dx, some dy, z] st) :
    (forGo none (rangeD 0 ys.length) (tgN 2) (sIf (eNot (eFn (F_l_like k) 2 (aCons (eIx (eVar 0) (eVar 2)) (aCons (eIx (eVar 1) (eVar 2)) aNil)))) (sRet (eC (.bl false))) sPass) (rangeD 0 ys.length) [some dx, some dy, none] st).to N T no no := by
  rw [range_enc]
  refine for_enc (fun k : Nat => D.int k) _ (fun _ sl s => ∃ z, sl = [some dx, some dy, z] ∧ s = st) ⟨none, rfl, rfl⟩ (fun sl s hI => ?_) fun pre i post sl s hall hI => ?_
  · obtain ⟨z, rfl, rfl⟩ := hI
    exact ⟨rfl, hN z⟩
  · obtain ⟨z, rfl, rfl⟩ := hI
    have hi : i < ys.length := by
      have : i ∈ List.range ys.length := by rw [hall]; simp
      simpa using this
    refine ⟨rfl, _, rfl, ?_⟩
    have e1 : xs[i]? = some (xs[i]'(by omega)) := List.getElem?_eq_getElem _
    have e2 : ys[i]? = some ys[i] := List.getElem?_eq_getElem hi
    simp
    rw [hx i _ _ e1, hy i _ _ e2]
    rw [show F_l_like k [xs[i]'(by omega), ys[i]] s = .ok (.bl true) s from h i _ _ e1 e2]
    simp
theorem like_tup {k : Nat} {st : Sto} {xs ys : List D} (hl : xs.length = ys.length) (hs : ys.length < 1000000) (h : ∀ (i : Nat) (x y : D), xs[i]? = some x → ys[i]? = some y → Lk k st x y) : Lk (k + 1) st (.tup xs) (.tup ys) := by
  refine is_ok ?_
  unfold F_l_like
  rw [fdef_to (by rfl)]
  simp [isi_to (st := st) (d := .tup xs) (a := "tuple") rfl kb9, isi_to (st := st) (d := .tup xs) (a := "tuple") rfl kb10, isi_to (st := st) (d := .tup ys) (a := "tuple") rfl kb7, isi_to (st := st) (d := .tup ys) (a := "tuple") rfl kb8, isi_to (st := st) (d := .tup ys) (a := "tuple") rfl kb9, isi_to (st := st) (d := .tup ys) (a := "tuple") rfl kb10, hl]
  refine ⟨by omega, like_go hl h (fun i x P e => ?_) (fun i x P e => ?_) fun _ => rfl⟩
  · rw [gIx_tup, at_nat' e]
  · rw [gIx_tup, at_nat' e]
theorem like_loc {k n m : Nat} {st : Sto} {xs ys : List D} (hn : st[n]? = some (.lst xs)) (hm : st[m]? = some (.lst ys)) (hl : xs.length = ys.length) (hs : ys.length < 1000000) (h : ∀ (i : Nat) (x y : D), xs[i]? = some x → ys[i]? = some y → Lk k st x y) : Lk (k + 1) st (.loc n) (.loc m) := by
  refine is_ok ?_
  unfold F_l_like
  rw [fdef_to (by rfl)]
  have tn : tyD st (.loc n) = some "list" := by simp [tyD, hn]
  have tm : tyD st (.loc m) = some "list" := by simp [tyD, hm]
  simp [isi_to tn kb13, isi_to tn kb14, isi_to tm kb11, isi_to tm kb12, isi_to tm kb13, isi_to tm kb14, hn, hm, hl]
  refine ⟨by omega, like_go hl h (fun i x P e => ?_) (fun i x P e => ?_) fun _ => rfl⟩
  · simp only [gIx_loc, hn, at_nat' e]
  · simp only [gIx_loc, hm, at_nat' e]
/-- what is made of likes -/
theorem like_same {k : Nat} {st : Sto} {α : Type} {enc : α → D} (h : ∀ a, Lk k st (enc a) (enc a)) (xs : List α) (i : Nat) (x y : D) (hx : (xs.map enc)[i]? = some x) (hy : (xs.map enc)[i]? = some y) : Lk k st x y := by
  rw [hx] at hy
  cases hy
  rw [List.getElem?_map] at hx
  cases e : xs[i]? with
  | none => rw [e] at hx; cases hx
  | some a =>
    rw [e] at hx
    cases hx
    exact h a
theorem like_col (k : Nat) (st : Sto) (c : List Int) (h : c.length < 1000000) : Lk (k + 2) st (eCol c) (eCol c) := like_tup rfl (by simpa using h) (like_same (enc := D.int) (like_int k st) c)
theorem like_sameM {k : Nat} {st : Sto} {α : Type} {enc : α → D} (xs : List α) (h : ∀ a, a ∈ xs → Lk k st (enc a) (enc a)) (i : Nat) (x y : D) (hx : (xs.map enc)[i]? = some x) (hy : (xs.map enc)[i]? = some y) : Lk k st x y := by
  rw [hx] at hy
  cases hy
  have := List.mem_of_getElem? hx
  obtain ⟨a, ha, rfl⟩ := List.mem_map.mp this
  exact h a ha
/-- a card of few columns of few holes -/
def Small (c : List (List Int)) : Prop := c.length ≤ 1000 ∧ ∀ x ∈ c, x.length ≤ 1000
theorem like_card (k : Nat) (st : Sto) (c : List (List Int)) (h : Small c) : Lk (k + 3) st (eCard c) (eCard c) := like_tup rfl (by have := h.1; simp; omega) (like_sameM (enc := eCol) c fun x hx => like_col k st x (by have := h.2 x hx; omega))
/-- two lists of the same cards -/
theorem like_deck {k n m : Nat} {st : Sto} {cards : List (List (List Int))} (hn : st[n]? = some (.lst (cards.map eCard))) (hm : st[m]? = some (.lst (cards.map eCard))) (hl : cards.length < 1000000) (hs : ∀ c ∈ cards, Small c) : Lk (k + 4) st (.loc n) (.loc m) :=
  like_loc hn hm rfl (by simpa using hl) (like_sameM (enc := eCard) cards fun c hc => like_card k st c (hs c hc))
end Go
set_option Elab.async false
set_option linter.all false
set_option maxRecDepth 100000
namespace Go
open PySem PySem.Spec PyProof.Rows L2 Mi
/-! ### passes -/
structure Pas where
  at_ : Int
  places : List Int
  falling : Bool
deriving DecidableEq
def ePas (p : Pas) : D := .tup [.int p.at_, .tup (p.places.map D.int), .bl p.falling]
def GoodPas (p : Pas) : Prop := 0 ≤ p.at_ ∧ p.at_ < 12
def GoodCol (x : List Int) : Prop := x.length ≤ 2 ∧ ∀ h ∈ x, 0 ≤ h ∧ h < 12
def GoodCard (c : List (List Int)) : Prop := c.length ≤ 12 ∧ ∀ x ∈ c, GoodCol x
theorem good_nil : GoodCol [] := ⟨by simp, by simp⟩
def colAt (c : List (List Int)) (i : Int) : List Int := c.getD i.toNat []
theorem colAt_good {c : List (List Int)} (h : GoodCard c) (i : Int) : GoodCol (colAt c i) := by
  unfold colAt
  rw [List.getD_eq_getElem?_getD]
  cases e : c[i.toNat]? with
  | none => exact good_nil
  | some x => exact h.2 x (List.mem_of_getElem? e)
def isIn (places col : List Int) (h : Nat) : Bool := decide ((h : Int) ∈ places) && decide ((h : Int) ∈ col)
def pktC (places col : List Int) : Nat := match (List.range 12).find? (isIn places col) with
  | some h => h + 1
  | none => 0
def pkt (p : Pas) (c : List (List Int)) : Nat := pktC p.places (colAt c p.at_)
theorem pktC_lt (a b : List Int) : pktC a b < 13 := by
  unfold pktC
  cases e : (List.range 12).find? (isIn a b) with
  | none => simp
  | some h =>
    have := List.mem_of_find?_eq_some e
    simp at this
    simp
    omega
def byPk (deck : List (List (List Int))) (p : Pas) (k : Nat) : List (List (List Int)) := deck.filter fun c => decide (pkt p c = k)
def turn (f : Bool) (k : Nat) : Nat := if f then 12 - k else k
def passedS (deck : List (List (List Int))) (p : Pas) : List (List (List Int)) := (List.range 13).flatMap fun k => byPk deck p (turn p.falling k)
def sortedS (deck : List (List (List Int))) (ps : List Pas) : List (List (List Int)) := ps.foldl passedS deck
theorem parts_perm {α : Type} (f : α → Nat) (l : List α) : ∀ n, ((List.range n).flatMap fun k => l.filter fun c => decide (f c = k)).Perm (l.filter fun c => decide (f c < n))
  | 0 => by simp
  | n + 1 => by
    rw [List.range_succ, List.flatMap_append]
    refine ((parts_perm f l n).append_right _).trans ?_
    have h := List.filter_append_perm (fun c => decide (f c < n)) (l.filter fun c => decide (f c < n + 1))
    rw [List.filter_filter, List.filter_filter] at h
    have e1 : (l.filter fun a => decide (f a < n) && decide (f a < n + 1)) = l.filter fun c => decide (f c < n) := by
      congr 1; funext a; rw [← Bool.decide_and]; congr 1; simp; omega
    have e2 : (l.filter fun a => !decide (f a < n) && decide (f a < n + 1)) = l.filter fun c => decide (f c = n) := by
      congr 1; funext a; rw [← decide_not, ← Bool.decide_and]; congr 1; simp; omega
    rw [e1, e2] at h
    simpa using h
theorem turns (f : Bool) : (List.range 13).map (turn f) = if f then (List.range 13).reverse else List.range 13 := by cases f <;> decide
theorem passedS_eq (deck : List (List (List Int))) (p : Pas) : passedS deck p = (if p.falling then (List.range 13).reverse else List.range 13).flatMap fun k => byPk deck p k := by
  rw [← turns, List.flatMap_map]
  rfl
theorem passed_perm (deck : List (List (List Int))) (p : Pas) : (passedS deck p).Perm deck := by
  rw [passedS_eq]
  have h := parts_perm (pkt p) deck 13
  have e : (deck.filter fun c => decide (pkt p c < 13)) = deck := List.filter_eq_self.mpr fun c _ => decide_eq_true (pktC_lt _ _)
  rw [e] at h
  cases p.falling with
  | false => exact h
  | true => exact ((List.reverse_perm _).flatMap_right _).trans h
theorem sorted_perm (ps : List Pas) : ∀ deck, (sortedS deck ps).Perm deck := by
  induction ps with
  | nil => exact fun _ => .refl _
  | cons p ps ih => exact fun deck => (ih (passedS deck p)).trans (passed_perm deck p)
structure GoodDeck (deck : List (List (List Int))) : Prop where
  len : deck.length ≤ 1000
  card : ∀ c ∈ deck, GoodCard c
theorem GoodDeck.perm {a b : List (List (List Int))} (h : GoodDeck b) (p : a.Perm b) : GoodDeck a := ⟨by rw [p.length_eq]; exact h.len, fun c hc => h.card c (p.mem_iff.mp hc)⟩
/-! the program's -/
theorem pocket_of_to {st : Sto} {col places : List Int} {P : D → Sto → Prop} (hP : P (.int (pktC places col : Nat)) st) : (F_p_pocket_of [eCol col, .tup (places.map D.int)] st).to P := by
  unfold F_p_pocket_of
  rw [fdef_to (by rfl)]
  simp
  rw [range_enc]
  refine for_enc (fun k : Nat => D.int k) (List.range 12) (fun pre sl s => s = st ∧ (∃ z, sl = [some (eCol col), some (.tup (places.map D.int)), z]) ∧ ∀ h ∈ pre, isIn places col h = false) ⟨rfl, ⟨none, rfl⟩, by simp⟩ (fun sl s hI => ?_) fun pre x post sl s hall hI => ?_
  · obtain ⟨rfl, ⟨z, rfl⟩, hn⟩ := hI
    have e : (List.range 12).find? (isIn places col) = none := List.find?_eq_none.mpr fun h hh => by rw [hn h hh]; decide
    unfold pktC at hP
    rw [e] at hP
    exact ⟨rfl, by simpa using hP⟩
  · obtain ⟨rfl, ⟨z, rfl⟩, hn⟩ := hI
    refine ⟨rfl, _, rfl, ?_⟩
    simp
    rw [in_tup (x := (x : Int)) (xs := places) (enc := D.int) PyEnc.int (by decide)]
    have done : isIn places col x = true → pktC places col = x + 1 := fun hx => by
      unfold pktC
      have e : (List.range 12).find? (isIn places col) = some x := by
        rw [hall, List.find?_append, List.find?_eq_none.mpr fun h hh => by rw [hn h hh]; decide]
        simp [hx]
      rw [e]
    have go : isIn places col x = false → ∀ h, h ∈ pre ∨ h = x → isIn places col h = false := fun hx h hh => by
      rcases hh with q | rfl
      · exact hn h q
      · exact hx
    by_cases h1 : (x : Int) ∈ places
    · refine .inr ⟨by simp [h1], ?_⟩
      unfold eCol
      rw [in_tup (x := (x : Int)) (xs := col) (enc := D.int) PyEnc.int (by decide)]
      by_cases h2 : (x : Int) ∈ col
      · have hx : isIn places col x = true := by simp [isIn, h1, h2]
        rw [done hx] at hP
        refine .inr ⟨by simp [h2], ?_⟩
        simpa using hP
      · have hx : isIn places col x = false := by simp [isIn, h2]
        exact .inl ⟨by simp [h2], rfl, go hx⟩
    · have hx : isIn places col x = false := by simp [isIn, h1]
      exact .inl ⟨by simp [h1], rfl, go hx⟩
theorem column_at_to {st : Sto} {c : List (List Int)} {i : Int} {P : D → Sto → Prop} (h0 : 0 ≤ i) (hP : P (eCol (colAt c i)) st) : (F_p_column_at [eCard c, .int i] st).to P := by
  unfold F_p_column_at
  rw [fdef_to (by rfl)]
  unfold eCard
  simp [gLe, gLt, h0]
  by_cases h : i < c.length
  · refine .inr ⟨h, ?_⟩
    rw [at_enc eCol h0 h]
    have : colAt c i = c[i.toNat]'(by omega) := by
      unfold colAt
      rw [List.getD_eq_getElem?_getD, List.getElem?_eq_getElem (by omega)]
      rfl
    rw [this] at hP
    exact hP
  · refine .inl ⟨by omega, ?_⟩
    have : colAt c i = [] := by
      unfold colAt
      rw [List.getD_eq_getElem?_getD, List.getElem?_eq_none (by omega)]
      rfl
    rw [this] at hP
    exact hP
end Go
set_option Elab.async false
set_option linter.all false
set_option maxRecDepth 100000
namespace Go
open PySem PySem.Spec PyProof.Rows L2 Mi
theorem map_range_set {α : Type} (f : Nat → α) (n i : Nat) (v : α) : ((List.range n).map f).set i v = (List.range n).map fun k => if k = i then v else f k := by
  apply List.ext_getElem
  · simp
  · intro j h1 h2
    rw [List.getElem_set]
    simp
    by_cases h : i = j
    · subst h; simp
    · rw [if_neg h, if_neg (Ne.symm h)]
theorem byPk_snoc (deck : List (List (List Int))) (p : Pas) (k : Nat) (x : List (List Int)) : byPk (deck ++ [x]) p k = if k = pkt p x then byPk deck p k ++ [x] else byPk deck p k := by
  unfold byPk
  rw [List.filter_append, List.filter_cons]
  by_cases h : pkt p x = k
  · simp [h]
  · rw [if_neg (Ne.symm h)]; simp [h]
def pkOb (deck : List (List (List Int))) (p : Pas) (k : Nat) : Ob := .lst ((byPk deck p k).map eCard)
def pkObs (deck : List (List (List Int))) (p : Pas) : List Ob := (List.range 13).map (pkOb deck p)
def locs (n : Nat) : List Nat := (List.range 13).map fun k => n + k
def pkAll (n : Nat) (deck : List (List (List Int))) (p : Pas) : List Ob := pkObs deck p ++ [.lst ((locs n).map D.loc)]
theorem pkObs_len (deck : List (List (List Int))) (p : Pas) : (pkObs deck p).length = 13 := by simp [pkObs]
theorem pkAll_top (st : Sto) (n : Nat) (deck : List (List (List Int))) (p : Pas) : (st ++ pkAll n deck p)[st.length + 13]? = some (.lst ((locs n).map D.loc)) := by
  rw [List.getElem?_append_right (by omega)]
  have : st.length + 13 - st.length = 13 := by omega
  rw [this]
  unfold pkAll
  rw [List.getElem?_append_right (by simp [pkObs_len])]
  simp [pkObs_len]
theorem pkAll_get (st : Sto) (n : Nat) (deck : List (List (List Int))) (p : Pas) {k : Nat} (hk : k < 13) : (st ++ pkAll n deck p)[st.length + k]? = some (pkOb deck p k) := by
  rw [List.getElem?_append_right (by omega)]
  have : st.length + k - st.length = k := by omega
  rw [this]
  unfold pkAll
  rw [List.getElem?_append_left (by simp [pkObs_len]; omega)]
  unfold pkObs
  rw [List.getElem?_map, List.getElem?_range hk]
  rfl
theorem pkAll_set (st : Sto) (n : Nat) (deck : List (List (List Int))) (p : Pas) (x : List (List Int)) : (st ++ pkAll n deck p).set (st.length + pkt p x) (.lst ((byPk deck p (pkt p x)).map eCard ++ [eCard x])) = st ++ pkAll n (deck ++ [x]) p := by
  rw [List.set_append_right _ _ (by omega)]
  have : st.length + pkt p x - st.length = pkt p x := by omega
  rw [this]
  unfold pkAll
  rw [List.set_append_left _ _ (by rw [pkObs_len]; exact pktC_lt _ _)]
  unfold pkObs
  rw [map_range_set]
  congr 2
  apply List.map_congr_left
  intro k _
  unfold pkOb
  rw [byPk_snoc]
  by_cases h : k = pkt p x
  · subst h; simp
  · rw [if_neg h, if_neg h]
def IPk (st : Sto) (q : Nat) (p : Pas) (pre : List (List (List Int))) (sl : Sl) (s : Sto) : Prop := s = st ++ pkAll st.length pre p ∧ ∃ x y z, sl = [some (.loc q), some (ePas p), some (.int p.at_), some (.tup (p.places.map D.int)), x, some (.loc (st.length + 13)), y, z]
theorem pockets_to {st : Sto} {q : Nat} {deck : List (List (List Int))} {p : Pas} {P : D → Sto → Prop} (hq : st[q]? = some (.lst (deck.map eCard))) (hl : deck.length ≤ 1000) (hp : GoodPas p) (hP : P (.loc (st.length + 13)) (st ++ pkAll st.length deck p)) : (F_p_pockets [.loc q, ePas p] st).to P := by
  unfold F_p_pockets
  rw [fdef_to (by rfl)]
  simp
  refine ⟨_, rfl, ?_⟩
  simp
  refine ⟨sizeLine_le (by decide), ?_⟩
  rw [show rangeD 0 13 = _ from range_enc 13]
  refine lc_encY (fun k : Nat => D.int k) (List.range 13) (fun pre acc s => s = st ++ List.replicate pre.length (.lst []) ∧ acc = (List.range pre.length).map fun k => D.loc (st.length + k)) ⟨by simp, by simp⟩ (fun acc s hI => ?_) fun pre x post acc s hall hI => ?_
  · obtain ⟨rfl, rfl⟩ := hI
    refine ⟨rfl, ?_⟩
    have hq2 : (st ++ pkAll st.length [] p)[q]? = some (.lst (deck.map eCard)) := (Gr.app _ _).get hq
    have e : st ++ List.replicate (List.range 13).length (Ob.lst []) ++ [Ob.lst ((List.range (List.range 13).length).map fun k => D.loc (st.length + k))] = st ++ pkAll st.length [] p := by
      rw [List.append_assoc]
      congr 1
    rw [e]
    have e2 : (st ++ List.replicate (List.range 13).length (Ob.lst [])).length = st.length + 13 := by simp
    rw [e2]
    refine ⟨_, hq2, ?_⟩
    refine for_enc eCard deck (IPk st q p) ⟨rfl, _, _, _, rfl⟩ (fun sl s hI => ?_) fun pre x post sl s hall hI => ?_
    · obtain ⟨rfl, x, y, z, rfl⟩ := hI
      exact ⟨chk_some ((Gr.app _ _).get hq), hP⟩
    · obtain ⟨rfl, a, y, z, rfl⟩ := hI
      refine ⟨chk_some ((Gr.app _ _).get hq), _, rfl, ?_⟩
      simp
      refine column_at_to hp.1 ?_
      refine pocket_of_to ?_
      simp [pkAll_top]
      rw [at_nat' (i := pktC p.places (colAt x p.at_)) (x := D.loc (st.length + pkt p x)) ?_]
      · have hk : pkt p x < 13 := pktC_lt _ _
        dsimp only
        rw [isL_loc, pkAll_get _ _ _ _ hk]
        simp only [gAppend_to, pkAll_get _ _ _ _ hk]
        unfold pkOb
        have hb : (byPk pre p (pkt p x)).length ≤ pre.length := List.length_filter_le _ _
        have hpl : pre.length ≤ deck.length := by rw [hall]; simp
        refine ⟨rfl, Nat.lt_of_lt_of_le (show _ < 1001 by rw [List.length_map]; omega) (sizeLine_le (by decide)), ?_, _, _, _, rfl⟩
        exact pkAll_set _ _ _ _ _
      · unfold locs
        rw [List.map_map, List.getElem?_map, List.getElem?_range (pktC_lt _ _)]
        rfl
  · obtain ⟨rfl, rfl⟩ := hI
    refine ⟨rfl, _, rfl, ?_⟩
    simp
    refine ⟨?_, by rw [List.range_succ]; simp⟩
    rw [List.replicate_succ']
end Go
set_option Elab.async false
set_option linter.all false
set_option maxRecDepth 100000
namespace Go
open PySem PySem.Spec PyProof.Rows L2 Mi
def IPs (st2 : Sto) (deck : List (List (List Int))) (p : Pas) (pre : List Nat) (acc : List D) (s : Sto) : Prop := s = st2 ∧ acc = (pre.flatMap fun k => byPk deck p k).map eCard
theorem passed_end {st st2 : Sto} {deck : List (List (List Int))} {p : Pas} {ks : List Nat} {g : Option Nat} {P : D → Sto → Prop} (hl : deck.length ≤ 1000) (sl : Sl) (hs : ∀ k, k < 13 → st2[st.length + k]? = some (pkOb deck p k)) (hks : ∀ k ∈ ks, k < 13)
    (hg : chk g (ks.map fun k => D.loc (st.length + k)) st2 = true) (hsl : ∃ a b c d x y, sl = [a, b, c, d, x, y]) (hsz : (ks.flatMap fun k => byPk deck p k).length ≤ 1000) (hP : P (.loc st2.length) (st2 ++ [.lst ((ks.flatMap fun k => byPk deck p k).map eCard)])) :
    (lc2Go g (ks.map fun k => D.loc (st.length + k)) (tgN 4) eYes (wAny (eVar 4)) (tgN 5) eYes (eVar 5) [5] (wipeD sl [4, 5]) (ks.map fun k => D.loc (st.length + k)) st2).to fun ys s => ys.length ≤ sizeLine ∧ P (.loc s.length) (s ++ [.lst ys]) := by
  obtain ⟨a, b, c, d, x, y, rfl⟩ := hsl
  refine lc2_enc (fun k => D.loc (st.length + k)) ks (IPs st2 deck p) ⟨rfl, rfl⟩ (fun acc s hI => ?_) fun pre k post acc s hall hI => ?_
  · obtain ⟨rfl, rfl⟩ := hI
    exact ⟨hg, sizeLine_le (by rw [List.length_map]; omega), hP⟩
  · obtain ⟨rfl, rfl⟩ := hI
    have hk := hs k (hks k (by rw [hall]; simp))
    refine ⟨hg, _, rfl, ?_⟩
    simp [wipeD]
    refine ⟨_, hk, ?_⟩
    refine lc_mapEY eCard (byPk deck p k) eCard (chk_some hk) (fun z hz => ⟨_, rfl, ?_⟩) ?_
    · simp
    · exact ⟨rfl, by simp⟩
theorem passed_to {st : Sto} {q : Nat} {deck : List (List (List Int))} {p : Pas} {P : D → Sto → Prop} (hq : st[q]? = some (.lst (deck.map eCard))) (hl : deck.length ≤ 1000) (hp : GoodPas p) (hP : ∀ st' r, Gr st st' → st.length ≤ r → st'[r]? = some (.lst ((passedS deck p).map eCard)) → P (.loc r) st') : (F_p_passed [.loc q, ePas p] st).to P := by
  unfold F_p_passed
  rw [fdef_to (by rfl)]
  simp
  refine pockets_to hq hl hp ?_
  have hlen : (passedS deck p).length ≤ 1000 := by rw [(passed_perm deck p).length_eq]; exact hl
  have top := pkAll_top st st.length deck p
  unfold ePas
  simp [atI, ixN]
  rw [passedS_eq] at hlen
  rw [passedS_eq] at hP
  by_cases hf : p.falling = true
  · refine .inr ⟨hf, ?_⟩
    rw [if_pos hf] at hP hlen
    rw [top]
    simp only [true_and]
    have e : (pkAll st.length deck p).set 13 (.lst (((locs st.length).map D.loc).reverse)) = pkObs deck p ++ [.lst ((List.range 13).reverse.map fun k => D.loc (st.length + k))] := by
      unfold pkAll
      rw [List.set_append_right _ _ (by simp [pkObs_len])]
      simp [pkObs_len, locs, List.map_reverse]
    rw [e]
    have top2 : (st ++ (pkObs deck p ++ [.lst ((List.range 13).reverse.map fun k => D.loc (st.length + k))]))[st.length + 13]? = some (.lst ((List.range 13).reverse.map fun k => D.loc (st.length + k))) := by
      rw [List.getElem?_append_right (by omega)]
      have : st.length + 13 - st.length = 13 := by omega
      rw [this, List.getElem?_append_right (by simp [pkObs_len])]
      simp [pkObs_len]
    refine ⟨_, top2, ?_⟩
    refine passed_end hl _ (fun k hk => ?_) (by simp) (chk_some top2) ⟨_, _, _, _, _, _, rfl⟩ hlen ?_
    · rw [← List.append_assoc, List.getElem?_append_left (by simp [pkObs_len]; omega)]
      rw [List.getElem?_append_right (by omega)]
      have : st.length + k - st.length = k := by omega
      rw [this]
      unfold pkObs
      rw [List.getElem?_map, List.getElem?_range hk]
      rfl
    · exact hP _ _ ((Gr.app _ _).trans (.app _ _)) (by simp) (last_get _ _)
  · refine .inl ⟨by simpa using hf, ?_⟩
    rw [if_neg hf] at hP hlen
    refine ⟨_, top, ?_⟩
    have e : (locs st.length).map D.loc = (List.range 13).map fun k => D.loc (st.length + k) := by
      unfold locs
      rw [List.map_map]
      rfl
    rw [e] at top ⊢
    refine passed_end hl _ (fun k hk => pkAll_get _ _ _ _ hk) (by simp) (chk_some top) ⟨_, _, _, _, _, _, rfl⟩ hlen ?_
    exact hP _ _ ((Gr.app _ _).trans (.app _ _)) (by simp) (last_get _ _)
def ISb (st : Sto) (q a : Nat) (deck : List (List (List Int))) (pre : List Pas) (sl : Sl) (s : Sto) : Prop := Gr st s ∧ ∃ r z, st.length ≤ r ∧ sl = [some (.loc q), some (.loc a), some (.loc r), z] ∧ s[r]? = some (.lst ((sortedS deck pre).map eCard))
theorem sortedS_snoc (deck : List (List (List Int))) (ps : List Pas) (p : Pas) : sortedS deck (ps ++ [p]) = passedS (sortedS deck ps) p := by simp [sortedS]
theorem sorted_by_to {st : Sto} {q a : Nat} {deck : List (List (List Int))} {ps : List Pas} {P : D → Sto → Prop} (hq : st[q]? = some (.lst (deck.map eCard))) (ha : st[a]? = some (.lst (ps.map ePas))) (hl : deck.length ≤ 1000) (hp : ∀ p ∈ ps, GoodPas p) (hP : ∀ st' r, Gr st st' → st.length ≤ r → st'[r]? = some (.lst ((sortedS deck ps).map eCard)) → P (.loc r) st') : (F_p_sorted_by [.loc q, .loc a] st).to P := by
  unfold F_p_sorted_by
  rw [fdef_to (by rfl)]
  simp [hq]
  have ha2 : (st ++ [Ob.lst (deck.map eCard)])[a]? = some (.lst (ps.map ePas)) := (Gr.app _ _).get ha
  refine ⟨_, ha2, ?_⟩
  refine for_enc ePas ps (ISb st q a deck) ⟨.app _ _, _, _, Nat.le_refl _, rfl, last_get _ _⟩ (fun sl s hI => ?_) fun pre p post sl s hall hI => ?_
  · obtain ⟨g, r, z, h1, rfl, h2⟩ := hI
    refine ⟨chk_some (g.get ha), ?_⟩
    simp
    exact hP _ _ g h1 h2
  · obtain ⟨g, r, z, h1, rfl, h2⟩ := hI
    refine ⟨chk_some (g.get ha), _, rfl, ?_⟩
    simp
    refine passed_to h2 (by rw [(sorted_perm _ _).length_eq]; exact hl) (hp p (by rw [hall]; simp)) fun st' r' g' h3 h4 => ?_
    refine ⟨g.trans g', r', _, Nat.le_trans g.le h3, rfl, ?_⟩
    rw [sortedS_snoc]
    exact h4
end Go
set_option Elab.async false
set_option linter.all false
set_option maxRecDepth 100000
namespace Go
open PySem PySem.Spec PyProof.Rows L2 Mi
/-! the law's own look -/
theorem atI_app {xs : List D} {x : D} {i : Nat} (h : xs[i]? = some x) : atI xs (i : Int) = some x := at_nat' h
theorem column_to {st : Sto} {c : List (List Int)} {i : Int} {P : D → Sto → Prop} (h0 : 0 ≤ i) (h1 : i < 12) (hc : c.length ≤ 1000) (hP : ∀ st', Gr st st' → P (eCol (colAt c i)) st') : (F_l_column [eCard c, .int i] st).to P := by
  unfold F_l_column
  rw [fdef_to (by rfl)]
  unfold eCard
  simp
  refine ⟨sizeLine_le (by decide), ?_⟩
  rw [gMul_loc (x := [.tup []]) (by simp)]
  refine ⟨⟨by decide, by decide, sizeLine_le (by decide)⟩, ?_⟩
  have e1 : (st ++ [Ob.lst (c.map eCol)] ++ [Ob.lst [D.tup []]] ++ [Ob.lst (List.replicate (12 : Int).toNat [D.tup []]).flatten])[st.length]? = some (.lst (c.map eCol)) := by simp
  have e2 : (st ++ [Ob.lst (c.map eCol)] ++ [Ob.lst [D.tup []]] ++ [Ob.lst (List.replicate (12 : Int).toNat [D.tup []]).flatten])[(st ++ [Ob.lst (c.map eCol)] ++ [Ob.lst [D.tup []]]).length]? = some (.lst (List.replicate (12 : Int).toNat [D.tup []]).flatten) := last_get _ _
  simp only [List.append_assoc, List.cons_append, List.nil_append] at e1 e2
  simp only [List.append_assoc, List.cons_append, List.nil_append]
  rw [gAdd_loc e1 e2]
  refine ⟨sizeLine_le (by simp; omega), ?_⟩
  have hx : ((c.map eCol) ++ (List.replicate (12 : Int).toNat [D.tup []]).flatten)[i.toNat]? = some (eCol (colAt c i)) := by
    have er : (List.replicate (12 : Int).toNat [D.tup []]).flatten = List.replicate 12 (D.tup []) := by rfl
    rw [er]
    unfold colAt
    rw [List.getD_eq_getElem?_getD]
    by_cases h : i.toNat < c.length
    · rw [List.getElem?_append_left (by simpa using h), List.getElem?_map, List.getElem?_eq_getElem h]
      rfl
    · rw [List.getElem?_append_right (by simp; omega), List.getElem?_replicate, if_pos (by simp; omega), List.getElem?_eq_none (by omega)]
      rfl
  obtain ⟨j, rfl⟩ : ∃ j : Nat, i = j := ⟨i.toNat, by omega⟩
  simp only [gIx_loc, List.getElem?_append_right (Nat.le_refl _), Nat.sub_self, List.getElem?_cons_zero]
  rw [at_nat' (by simpa using hx)]
  exact hP _ (((Gr.app _ _).trans (.app _ _)))
theorem pocket_to {st : Sto} {c : List (List Int)} {p : Pas} {P : D → Sto → Prop} (hc : GoodCard c) (hp : GoodPas p) (hP : ∀ st', Gr st st' → P (.int (pkt p c : Nat)) st') : (F_l_pocket [eCard c, ePas p] st).to P := by
  unfold F_l_pocket
  rw [fdef_to (by rfl)]
  unfold ePas
  simp [atI, ixN]
  refine column_to hp.1 hp.2 (by have := hc.1; omega) fun st1 g1 => ?_
  have gc := colAt_good hc p.at_
  unfold eCol
  refine .inr (.inr (.inl ⟨_, rfl, sizeLine_le (by simp; have := gc.1; omega), ?_⟩))
  refine lc_mapE D.int (colAt c p.at_) (fun h => decide (h ∈ p.places)) (fun h => .int (h + 1)) rfl (fun h hh => ⟨_, rfl, ?_, fun _ => ?_⟩) ?_
  · simp [wipeD, atI, ixN]
    rw [in_tup (x := h) (xs := p.places) (enc := D.int) PyEnc.int (by decide)]
    simp
  · simp [wipeD]
  · refine ⟨sizeLine_le (by decide), ?_⟩
    have ef : ∀ l : List Int, l.map (fun h => D.int (h + 1)) = (l.map (· + 1)).map D.int := fun l => by simp
    rw [ef]
    generalize hxs : ((colAt c p.at_).filter fun h => decide (h ∈ p.places)) = xs
    have hx2 : xs.length ≤ 2 := by
      have := List.length_filter_le (fun h => decide (h ∈ p.places)) (colAt c p.at_)
      rw [hxs] at this
      have := gc.1
      omega
    rw [gAdd_loc (x := (xs.map (· + 1)).map D.int) (y := [D.int 99]) (by simp) (by simp)]
    refine ⟨sizeLine_le (by simp; omega), ?_⟩
    have em : (xs.map (· + 1)).map D.int ++ [D.int 99] = (xs.map (· + 1) ++ [99]).map D.int := by simp
    rw [em]
    have mem : ∀ h : Nat, h < 12 → (isIn p.places (colAt c p.at_) h = true ↔ (h : Int) ∈ xs) := fun h _ => by
      rw [← hxs]
      simp [isIn, and_comm]
    have inn : ∀ y ∈ xs, ∃ h : Nat, h < 12 ∧ y = h := fun y hy => by
      rw [← hxs] at hy
      have := gc.2 y (List.mem_filter.mp hy).1
      exact ⟨y.toNat, by omega, by omega⟩
    have G : Gr st (st1 ++ [Ob.lst ((xs.map (· + 1)).map D.int)] ++ [Ob.lst [D.int 99]] ++ [Ob.lst ((xs.map (· + 1) ++ [99]).map D.int)]) := ((g1.trans (.app _ _)).trans (.app _ _)).trans (.app _ _)
    simp only [List.append_assoc, List.cons_append, List.nil_append] at G ⊢
    unfold pkt pktC at hP
    cases e : (List.range 12).find? (isIn p.places (colAt c p.at_)) with
    | none =>
      rw [e] at hP
      have hx0 : xs = [] := by
        cases xs with
        | nil => rfl
        | cons y ys =>
          obtain ⟨h, h1, rfl⟩ := inn y List.mem_cons_self
          exact absurd ((mem h h1).mpr List.mem_cons_self) (List.find?_eq_none.mp e h (by simpa using h1))
      subst hx0
      rw [gMin_loc (xs := [99]) (m := 99) (by simp) (by simp) (by simp)]
      simp [gMod]
      have := hP _ G
      simpa using this
    | some h =>
      rw [e] at hP
      obtain ⟨h1, h2, h3⟩ := List.find?_range_eq_some.mp e
      have hh : h < 12 := by simpa using h2
      rw [gMin_loc (xs := xs.map (· + 1) ++ [99]) (m := (h : Int) + 1) (by simp) ?_ ?_]
      · simp [gMod]
        have := hP _ G
        have e9 : ((h : Int) + 1) % 99 = (h : Int) + 1 := by omega
        rw [e9]
        simpa using this
      · have := (mem h hh).mp h1
        simp
        exact .inl this
      · intro y hy
        rcases List.mem_append.mp hy with z | z
        · obtain ⟨y', hy', rfl⟩ := List.mem_map.mp z
          obtain ⟨k, hk, rfl⟩ := inn y' hy'
          have := (mem k hk).mpr hy'
          have : ¬ k < h := fun q => by
            have := h3 k q
            simp_all
          omega
        · simp at z
          omega
end Go
set_option Elab.async false
set_option linter.all false
set_option maxRecDepth 100000
namespace Go
open PySem PySem.Spec PyProof.Rows L2 Mi
def IBp (st : Sto) (p : Pas) (k : Nat) (pre : List (List (List Int))) (acc : List D) (s : Sto) : Prop := Gr st s ∧ acc = (byPk pre p k).map eCard
theorem byPk_app (a b : List (List (List Int))) (p : Pas) (k : Nat) : byPk (a ++ b) p k = byPk a p k ++ byPk b p k := List.filter_append _ _
def IPd (st : Sto) (q : Nat) (deck : List (List (List Int))) (p : Pas) (pre : List Nat) (sl : Sl) (s : Sto) : Prop := Gr st s ∧ ∃ r x y z, st.length ≤ r ∧ sl = [some (.loc q), some (ePas p), some (.loc r), x, y, z] ∧ s[r]? = some (.lst ((pre.flatMap fun k => byPk deck p (turn p.falling k)).map eCard))
theorem flat_len (deck : List (List (List Int))) (p : Pas) (pre : List Nat) : (pre.flatMap fun k => byPk deck p (turn p.falling k)).length ≤ pre.length * deck.length := by
  induction pre with
  | nil => simp
  | cons k pre ih =>
    rw [List.flatMap_cons, List.length_append, List.length_cons, Nat.add_mul, Nat.one_mul, Nat.add_comm]
    exact Nat.add_le_add ih (List.length_filter_le _ _)
theorem law_passed_to {st : Sto} {q : Nat} {deck : List (List (List Int))} {p : Pas} {P : D → Sto → Prop} (hq : st[q]? = some (.lst (deck.map eCard))) (hd : GoodDeck deck) (hp : GoodPas p) (hP : ∀ st' r, Gr st st' → st.length ≤ r → st'[r]? = some (.lst ((passedS deck p).map eCard)) → P (.loc r) st') : (F_l_passed [.loc q, ePas p] st).to P := by
  unfold F_l_passed
  rw [fdef_to (by rfl)]
  simp
  rw [show rangeD 0 13 = _ from range_enc 13]
  refine for_enc (fun k : Nat => D.int k) (List.range 13) (IPd st q deck p) ⟨.app _ _, _, _, _, _, Nat.le_refl _, rfl, last_get _ _⟩ (fun sl s hI => ?_) fun pre x post sl s hall hI => ?_
  · obtain ⟨g, r, x, y, z, h1, rfl, h2⟩ := hI
    refine ⟨rfl, ?_⟩
    simp
    exact hP _ _ g h1 h2
  · obtain ⟨g, r, x', y, z, h1, rfl, h2⟩ := hI
    have hx : x < 13 := by
      have : x ∈ List.range 13 := by rw [hall]; simp
      simpa using this
    have hpre : pre.length ≤ 13 := by
      have := congrArg List.length hall
      simp at this
      omega
    refine ⟨rfl, _, rfl, ?_⟩
    simp
    refine ⟨sizeLine_le (by decide), ?_⟩
    have e1 : (gIx (ePas p) (.int 2) (s ++ [Ob.lst [D.int x, D.int (12 - (x : Int))]])) = .ok (.bl p.falling) (s ++ [Ob.lst [D.int x, D.int (12 - (x : Int))]]) := rfl
    simp [Mi.gSub, e1]
    have e2 : atI [D.int (x : Int), D.int (12 - (x : Int))] (if p.falling = true then 1 else 0) = some (.int (turn p.falling x : Nat)) := by
      unfold turn
      cases p.falling with
      | true =>
        have : ((12 - x : Nat) : Int) = 12 - (x : Int) := by omega
        simp [atI, ixN, this]
      | false => simp [atI, ixN]
    rw [e2]
    simp
    have g2 : Gr st (s ++ [Ob.lst [D.int x, D.int (12 - (x : Int))]]) := g.trans (.app _ _)
    have hq2 := g2.get hq
    refine ⟨_, hq2, sizeLine_le (by rw [List.length_map]; have := hd.len; omega), ?_⟩
    refine lc_enc eCard deck (IBp (s ++ [Ob.lst [D.int x, D.int (12 - (x : Int))]]) p (turn p.falling x)) ⟨.refl _, rfl⟩ (fun acc s3 hI => ?_) fun pre2 c post2 acc s3 hall2 hI => ?_
    · obtain ⟨g3, rfl⟩ := hI
      refine ⟨chk_some (g3.get hq2), ?_⟩
      rw [gAdd_loc (x := (pre.flatMap fun k => byPk deck p (turn p.falling k)).map eCard) (y := (byPk deck p (turn p.falling x)).map eCard) ((Gr.app _ _).get (g3.get ((Gr.app _ _).get h2))) (last_get _ _)]
      refine ⟨sizeLine_le ?_, ?_⟩
      · have h5 := flat_len deck p pre
        have h6 : (byPk deck p (turn p.falling x)).length ≤ deck.length := List.length_filter_le _ _
        have h7 : pre.length * deck.length ≤ 13 * 1000 := Nat.mul_le_mul hpre hd.len
        have h8 := hd.len
        rw [List.length_map, List.length_map]
        omega
      · refine ⟨((g2.trans g3).trans (.app _ _)).trans (.app _ _), _, _, _, _, ?_, rfl, ?_⟩
        · have := (g2.trans g3).le
          simp
          omega
        · rw [last_get]
          simp
    · obtain ⟨g3, rfl⟩ := hI
      refine ⟨chk_some (g3.get hq2), _, rfl, ?_⟩
      simp [wipeD]
      refine pocket_to (hd.card c (by rw [hall2]; simp)) hp fun s4 g4 => ?_
      unfold IBp
      rw [byPk_snoc]
      have e3 : ((pkt p c : Nat) : Int) = (turn p.falling x : Nat) ↔ turn p.falling x = pkt p c := by omega
      simp [e3]
      by_cases h : turn p.falling x = pkt p c
      · exact .inr ⟨h, g3.trans g4, by rw [if_pos h]; simp⟩
      · exact .inl ⟨h, g3.trans g4, by rw [if_neg h]⟩
def IBy (st : Sto) (a : Nat) (deck : List (List (List Int))) (pre : List Pas) (sl : Sl) (s : Sto) : Prop := Gr st s ∧ ∃ r z, sl = [some (.loc r), some (.loc a), z] ∧ s[r]? = some (.lst ((sortedS deck pre).map eCard))
theorem by_to {st : Sto} {q a : Nat} {deck : List (List (List Int))} {ps : List Pas} {P : D → Sto → Prop} (hq : st[q]? = some (.lst (deck.map eCard))) (ha : st[a]? = some (.lst (ps.map ePas))) (hd : GoodDeck deck) (hp : ∀ p ∈ ps, GoodPas p) (hP : ∀ st' r, Gr st st' → st'[r]? = some (.lst ((sortedS deck ps).map eCard)) → P (.loc r) st') : (F_l_by [.loc q, .loc a] st).to P := by
  unfold F_l_by
  rw [fdef_to (by rfl)]
  simp
  refine ⟨_, ha, ?_⟩
  refine for_enc ePas ps (IBy st a deck) ⟨.refl _, _, _, rfl, hq⟩ (fun sl s hI => ?_) fun pre p post sl s hall hI => ?_
  · obtain ⟨g, r, z, rfl, h2⟩ := hI
    refine ⟨chk_some (g.get ha), ?_⟩
    simp
    exact hP _ _ g h2
  · obtain ⟨g, r, z, rfl, h2⟩ := hI
    refine ⟨chk_some (g.get ha), _, rfl, ?_⟩
    simp
    refine law_passed_to h2 (hd.perm (sorted_perm _ _)) (hp p (by rw [hall]; simp)) fun st' r' g' h3 h4 => ?_
    refine ⟨g.trans g', r', _, rfl, ?_⟩
    rw [sortedS_snoc]
    exact h4
/-- passes that are drawn -/
def IPl (n : Nat) (st : Sto) (acc : List D) (s : Sto) (pre : List Nat) : Prop := ∃ xs : List Int, acc = xs.map D.int ∧ Ev n st s ∧ xs.length ≤ pre.length
theorem pass_to {st : Sto} {n q : Nat} {hs : List Int} {P : D → Sto → Prop} (h : DiceAt st n) (hq : st[q]? = some (.lst (hs.map D.int))) (hqn : q ≠ n) (hne : hs ≠ []) (hl : hs.length ≤ 12) (hh : ∀ x ∈ hs, 0 ≤ x ∧ x < 12) (hP : ∀ st' p, Ev n st st' → GoodPas p → p.at_ ∈ hs → P (ePas p) st') : (F_l_pass [.loc n, .loc q] st).to P := by
  unfold F_l_pass
  rw [fdef_to (by rfl)]
  simp
  refine ⟨sizeLine_le (by decide), ?_⟩
  have hn := h.lt
  have hqlt := (List.getElem?_eq_some_iff.mp hq).1
  have h0 : 0 < hs.length := List.length_pos_iff.mpr hne
  rw [show rangeD 0 12 = _ from range_enc 12]
  refine lc_enc (fun k : Nat => D.int k) (List.range 12) (fun pre acc s => IPl n st acc s pre) ⟨[], rfl, .refl h, by simp⟩ (fun acc s hI => ?_) fun pre x post acc s hall hI => ?_
  · obtain ⟨xs, rfl, v, hxs⟩ := hI
    refine ⟨rfl, ?_⟩
    have v2 := v.trans (v.dice.ev (.app _ [Ob.lst (xs.map D.int)]))
    refine next_to v2.dice (by decide) (by decide) fun j s1 j0 j1 v3 l3 => ?_
    have rest : ∀ s2 : Sto, Ev n st s2 → ∀ pl : List Int, (F_l_next [.loc n, .int (hs.length : Nat)] s2).to fun y st2 => (gIx (.loc q) y st2).to fun x st1 => (F_l_next [.loc n, .int 3] st1).to fun x_1 st1 => (gEq x_1 (D.int 2) st1).to fun x_2 st1 => 3 ≤ sizeLine ∧ P (.tup [x, .tup (pl.map D.int), x_2]) st1 := by
      intro s2 w pl
      refine next_to w.dice (by omega) (by omega) fun i s3 i0 i1 w2 _ => ?_
      have hq3 := (w.trans w2).get hq hqn
      simp only [gIx_loc, hq3]
      rw [at_enc D.int i0 i1]
      dsimp only
      refine next_to (w.trans w2).dice (by decide) (by decide) fun k s4 k0 k1 w3 _ => ?_
      have := List.getElem_mem (l := hs) (n := i.toNat) (by omega)
      simp
      exact ⟨sizeLine_le (by decide), hP s4 ⟨_, pl, decide (k = 2)⟩ ((w.trans w2).trans w3) (hh _ this) this⟩
    have w1 := v2.trans v3
    have hq1 := w1.get hq hqn
    simp [hq1]
    by_cases c1 : j = 1
    · refine .inr ⟨c1, sizeLine_le (by decide), sizeLine_le (by decide), ?_⟩
      have w2 := w1.trans (w1.dice.ev (.app _ [Ob.lst [D.tup (rangeD 0 10), D.tup [D.int 10, D.int 11], D.tup (List.map (fun k : Nat => D.int k) (List.range 12))]]))
      refine next_to w2.dice (by decide) (by decide) fun i s3 i0 i1 w3 _ => ?_
      have e3 : s3[s1.length]? = some (.lst [D.tup (rangeD 0 10), D.tup [D.int 10, D.int 11], D.tup (List.map (fun k : Nat => D.int k) (List.range 12))]) := w3.get (by simp) (by have := w1.le; omega)
      have hq3 := (w2.trans w3).get hq hqn
      simp only [gIx_loc, e3, hq3]
      have hi : i = 0 ∨ i = 1 ∨ i = 2 := by omega
      have er : (List.range 12).map (fun k : Nat => D.int k) = ((List.range 12).map fun k : Nat => (k : Int)).map D.int := by rw [List.map_map]; rfl
      have er2 : rangeD 0 10 = ((List.range 10).map fun k : Nat => (k : Int)).map D.int := by rw [List.map_map]; exact range_enc 10
      have R := rest s3 (w2.trans w3)
      rcases hi with rfl | rfl | rfl
      · have := R ((List.range 10).map fun k : Nat => (k : Int))
        rw [← er2] at this
        simpa [atI, ixN] using this
      · have := R [10, 11]
        simpa [atI, ixN] using this
      · have := R ((List.range 12).map fun k : Nat => (k : Int))
        rw [← er] at this
        simpa [atI, ixN] using this
    · refine .inl ⟨c1, ?_⟩
      have := rest s1 w1 xs
      simpa using this
  · obtain ⟨xs, rfl, v, hxs⟩ := hI
    refine ⟨rfl, _, rfl, ?_⟩
    simp [wipeD]
    refine next_to v.dice (by decide) (by decide) fun j s1 j0 j1 v3 l3 => ?_
    simp
    by_cases h1 : j = 1
    · exact .inr ⟨h1, xs ++ [(x : Int)], by simp, v.trans v3, by simp; omega⟩
    · exact .inl ⟨h1, xs, rfl, v.trans v3, by simp; omega⟩
end Go
set_option Elab.async false
set_option linter.all false
set_option maxRecDepth 100000
namespace Go
open PySem PySem.Spec PyProof.Rows L2 Mi
/-! ### like says something of any two decks -/
def LkT (k : Nat) (st : Sto) (x y : D) : Prop := ∃ b, F_l_like k [x, y] st = .ok (.bl b) st
theorem is_okb {r : R D} {st : Sto} (h : r.to fun x s => (∃ b, x = .bl b) ∧ s = st) : ∃ b, r = .ok (.bl b) st := by
  obtain ⟨x, s, rfl, ⟨b, rfl⟩, rfl⟩ := h.ok
  exact ⟨b, rfl⟩
theorem likeT_int (k : Nat) (st : Sto) (i j : Int) : LkT (k + 1) st (.int i) (.int j) := by
  refine is_okb ?_
  unfold F_l_like
  rw [fdef_to (by rfl)]
  simp [isi_to (st := st) (d := .int i) (a := "int") rfl kb1, isi_to (st := st) (d := .int i) (a := "int") rfl kb2, isi_to (st := st) (d := .int i) (a := "int") rfl kb3, isi_to (st := st) (d := .int j) (a := "int") rfl kb1, isi_to (st := st) (d := .int j) (a := "int") rfl kb2, isi_to (st := st) (d := .int j) (a := "int") rfl kb3]
  omega
theorem likeT_go {k : Nat} {st : Sto} {dx dy : D} {xs ys : List D} (hl : xs.length = ys.length) (h : ∀ (i : Nat) (x y : D), xs[i]? = some x → ys[i]? = some y → LkT k st x y)
    (hx : ∀ (i : Nat) (x : D) (P : D → Sto → Prop), xs[i]? = some x → (gIx dx (.int i) st).to P = P x st) (hy : ∀ (i : Nat) (y : D) (P : D → Sto → Prop), ys[i]? = some y → (gIx dy (.int i) st).to P = P y st) {N : Sl → Sto → Prop} {T : D → Sto → Prop} (hN : ∀ z, N [some dx, some dy, z] st) (hT : T (.bl false) st) :
    (forGo none (rangeD 0 ys.length) (tgN 2) (sIf (eNot (eFn (F_l_like k) 2 (aCons (eIx (eVar 0) (eVar 2)) (aCons (eIx (eVar 1) (eVar 2)) aNil)))) (sRet (eC (.bl false))) sPass) (rangeD 0 ys.length) [some dx, some dy, none] st).to N T no no := by
  rw [range_enc]
  refine for_enc (fun k : Nat => D.int k) _ (fun _ sl s => ∃ z, sl = [some dx, some dy, z] ∧ s = st) ⟨none, rfl, rfl⟩ (fun sl s hI => ?_) fun pre i post sl s hall hI => ?_
  · obtain ⟨z, rfl, rfl⟩ := hI
    exact ⟨rfl, hN z⟩
  · obtain ⟨z, rfl, rfl⟩ := hI
    have hi : i < ys.length := by
      have : i ∈ List.range ys.length := by rw [hall]; simp
      simpa using this
    refine ⟨rfl, _, rfl, ?_⟩
    have e1 : xs[i]? = some (xs[i]'(by omega)) := List.getElem?_eq_getElem _
    have e2 : ys[i]? = some ys[i] := List.getElem?_eq_getElem hi
    simp
    rw [hx i _ _ e1, hy i _ _ e2]
    obtain ⟨b, hb⟩ := h i _ _ e1 e2
    rw [hb]
    cases b with
    | true => simp
    | false => simpa using hT
theorem likeT_tup {k : Nat} {st : Sto} {xs ys : List D} (hs : ys.length < 1000000) (h : xs.length = ys.length → ∀ (i : Nat) (x y : D), xs[i]? = some x → ys[i]? = some y → LkT k st x y) : LkT (k + 1) st (.tup xs) (.tup ys) := by
  refine is_okb ?_
  unfold F_l_like
  rw [fdef_to (by rfl)]
  simp [isi_to (st := st) (d := .tup xs) (a := "tuple") rfl kb9, isi_to (st := st) (d := .tup xs) (a := "tuple") rfl kb10, isi_to (st := st) (d := .tup ys) (a := "tuple") rfl kb7, isi_to (st := st) (d := .tup ys) (a := "tuple") rfl kb8, isi_to (st := st) (d := .tup ys) (a := "tuple") rfl kb9, isi_to (st := st) (d := .tup ys) (a := "tuple") rfl kb10]
  by_cases hl : (xs.length : Int) = ys.length
  · refine .inl ⟨hl, by omega, likeT_go (by omega) (h (by omega)) (fun i x P e => ?_) (fun i x P e => ?_) (fun _ => ?_) ?_⟩
    · rw [gIx_tup, at_nat' e]
    · rw [gIx_tup, at_nat' e]
    · simp
    · simp
  · exact .inr hl
theorem likeT_loc {k n m : Nat} {st : Sto} {xs ys : List D} (hn : st[n]? = some (.lst xs)) (hm : st[m]? = some (.lst ys)) (hs : ys.length < 1000000) (h : xs.length = ys.length → ∀ (i : Nat) (x y : D), xs[i]? = some x → ys[i]? = some y → LkT k st x y) : LkT (k + 1) st (.loc n) (.loc m) := by
  refine is_okb ?_
  unfold F_l_like
  rw [fdef_to (by rfl)]
  have tn : tyD st (.loc n) = some "list" := by simp [tyD, hn]
  have tm : tyD st (.loc m) = some "list" := by simp [tyD, hm]
  simp [isi_to tn kb13, isi_to tn kb14, isi_to tm kb11, isi_to tm kb12, isi_to tm kb13, isi_to tm kb14, hn, hm]
  by_cases hl : (xs.length : Int) = ys.length
  · refine .inl ⟨hl, by omega, likeT_go (by omega) (h (by omega)) (fun i x P e => ?_) (fun i x P e => ?_) (fun _ => ?_) ?_⟩
    · simp only [gIx_loc, hn, at_nat' e]
    · simp only [gIx_loc, hm, at_nat' e]
    · simp
    · simp
  · exact .inr hl
theorem likeT_map {k : Nat} {st : Sto} {α : Type} {enc : α → D} {xs ys : List α} (h : ∀ a ∈ xs, ∀ b ∈ ys, LkT k st (enc a) (enc b)) (i : Nat) (x y : D) (hx : (xs.map enc)[i]? = some x) (hy : (ys.map enc)[i]? = some y) : LkT k st x y := by
  obtain ⟨a, ha, rfl⟩ := List.mem_map.mp (List.mem_of_getElem? hx)
  obtain ⟨b, hb, rfl⟩ := List.mem_map.mp (List.mem_of_getElem? hy)
  exact h a ha b hb
theorem likeT_card (k : Nat) (st : Sto) {c d : List (List Int)} (hd : GoodCard d) : LkT (k + 3) st (eCard c) (eCard d) :=
  likeT_tup (by have := hd.1; simp; omega) fun _ => likeT_map (enc := eCol) fun x _ y hy => likeT_tup (by have := (hd.2 y hy).1; simp; omega) fun _ => likeT_map (enc := D.int) fun i _ j _ => likeT_int k st i j
theorem likeT_deck {k n m : Nat} {st : Sto} {a b : List (List (List Int))} (hn : st[n]? = some (.lst (a.map eCard))) (hm : st[m]? = some (.lst (b.map eCard))) (hb : GoodDeck b) : LkT (k + 4) st (.loc n) (.loc m) :=
  likeT_loc hn hm (by have := hb.len; simp; omega) fun _ => likeT_map (enc := eCard) fun c _ d hd => likeT_card k st (hb.card d hd)
theorem GoodCard.small {c : List (List Int)} (h : GoodCard c) : Small c := ⟨by have := h.1; omega, fun x hx => by have := (h.2 x hx).1; omega⟩
theorem like_good {k n m : Nat} {st : Sto} {cards : List (List (List Int))} (hn : st[n]? = some (.lst (cards.map eCard))) (hm : st[m]? = some (.lst (cards.map eCard))) (hg : GoodDeck cards) : F_l_like (k + 4) [.loc n, .loc m] st = .ok (.bl true) st :=
  like_deck hn hm (by have := hg.len; omega) fun c hc => (hg.card c hc).small
/-! ### == of passes, columns, cards -/
def peCol (c : List Int) : PyData := .tuple (c.map PyData.int)
def peCard (c : List (List Int)) : PyData := .tuple (c.map peCol)
theorem peC : PyEnc eCol peCol 1 := PyEnc.int.tup
theorem peK : PyEnc eCard peCard 2 := peC.tup
def pePas (p : Pas) : PyData := .tuple [.int p.at_, .tuple (p.places.map PyData.int), .bool p.falling]
theorem peP : PyEnc ePas pePas 2 := ⟨fun st k p hk => by
    cases k with
    | zero => omega
    | succ k =>
      cases k with
      | zero => omega
      | succ k =>
        have h := PyEnc.int.tup.py st (k + 1) p.places (by omega)
        unfold ePas pePas
        show (Mi.alls (Mi.py st (k + 1)) [.int p.at_, .tup (p.places.map D.int), .bl p.falling]).map PyData.tuple = _
        have h2 : Mi.py st (k + 1) (.bl p.falling) = some (.bool p.falling) := rfl
        simp only [Mi.alls, h, h2, py_int']
        rfl, fun a b => by
    cases a; cases b
    simp [pePas, PyData.eqv, PyData.eqvAll, PyEnc.int.eqs]
    rename_i x y z u v w
    rw [Bool.beq_eq_decide_eq]
    cases z <;> cases w <;> simp [Bool.beq_eq_decide_eq]⟩
theorem card_ofPal {n : Nat} {st : Sto} {ps : List Nat} {pal : List (List (List Int))} {c : List (List Int)} (h : Pals st n ps pal) (hl : ps.length ≤ 12) (hc : CardOf pal c) : GoodCard c := by
  have good : ∀ x ∈ cols, GoodCol x := by unfold GoodCol; decide
  have l1 : ∀ {α β : Type} {R : α → β → Prop} {as : List α} {bs : List β}, Paired R as bs → as.length = bs.length := fun h => by
    induction h with
    | nil => rfl
    | cons _ _ ih => simp [ih]
  refine ⟨by rw [l1 hc, ← l1 h]; exact hl, ?_⟩
  have all : ∀ xs ∈ pal, xs.Sublist cols := by
    clear hc hl
    induction h with
    | nil => simp
    | cons r t ih =>
      intro xs hx
      rcases List.mem_cons.mp hx with rfl | q
      · exact r.2.2.2
      · exact ih xs q
  clear h hl
  induction hc with
  | nil => simp
  | cons r t ih =>
    intro x hx
    rcases List.mem_cons.mp hx with rfl | q
    · exact good _ ((all _ List.mem_cons_self).mem r)
    · exact ih (fun xs hxs => all xs (List.mem_cons_of_mem _ hxs)) x q
/-- the old part of the store stays -/
structure Kp (a b : Sto) : Prop where
  le : a.length ≤ b.length
  keep : ∀ m, m < a.length → b[m]? = a[m]?
theorem Kp.refl (a : Sto) : Kp a a := ⟨Nat.le_refl _, fun _ _ => rfl⟩
theorem Kp.trans {a b c : Sto} (x : Kp a b) (y : Kp b c) : Kp a c := ⟨Nat.le_trans x.le y.le, fun m h => (y.keep m (Nat.lt_of_lt_of_le h x.le)).trans (x.keep m h)⟩
theorem Kp.get {a b : Sto} (x : Kp a b) {n : Nat} {o : Ob} (h : a[n]? = some o) : b[n]? = some o := (x.keep n (List.getElem?_eq_some_iff.mp h).1).trans h
theorem gr_kp {a b : Sto} (x : Gr a b) : Kp a b := ⟨x.le, fun m h => by
  obtain ⟨g, rfl⟩ := x
  exact List.getElem?_append_left h⟩
theorem Kp.put {a b : Sto} {p : Nat} {o : Ob} (x : Kp a b) (hp : a.length ≤ p) : Kp a (b.set p o) := ⟨by rw [List.length_set]; exact x.le, fun m h => by rw [List.getElem?_set_ne (by omega)]; exact x.keep m h⟩
end Go
set_option Elab.async false
set_option linter.all false
set_option maxRecDepth 100000
namespace Go
open PySem PySem.Spec PyProof.Rows L2 Mi
def F_l_main : Fd := fdef 14 1 ((sSeq (sSet 1 (eFn F_l_dice 1 (aCons (eVar 0) aNil)))
    (sSeq (sSet 2 (eFn F_l_deck 3 (aCons (eVar 1) (aCons (eFn F_l_palettes 1 (aCons (eVar 1) aNil)) (aCons (eC (.int 20)) aNil)))))
    (sSeq (sSet 3 (eLc (wRng1 (aCons (eFn F_l_next 2 (aCons (eVar 1) (aCons (eC (.int 6)) aNil))) aNil)) (tgN 4) eYes (eFn F_l_pass 2 (aCons (eVar 1) (aCons (eListRg (eC (.int 12))) aNil))) [4]))
    (sSeq (sSet 5 (eCall gList (aCons (eVar 2) aNil)))
    (sSeq (sFor (wAny (eVar 3)) (tgN 6)
    (sSeq (sSet 7 (eLst aNil))
    (sSeq (sFor (wRng1 (aCons (eC (.int 13)) aNil)) (tgN 8)
    (sExpr (eMeth isL gAppend (eVar 7) (aCons (eLc (wAny (eVar 5)) (tgN 9) (eEq (eFn F_l_pocket 2 (aCons (eVar 9) (aCons (eVar 6) aNil))) (eVar 8)) (eVar 9) [9]) aNil))))
    (sSeq (sFor (wRng1 (aCons (eC (.int 2)) aNil)) (tgN 10)
    (sSeq (sSet 11 (eFn F_p_pockets 2 (aCons (eVar 5) (aCons (eVar 6) aNil))))
    (sSeq (sIf (eNot (eFn (F_l_like 6) 2 (aCons (eVar 11) (aCons (eVar 7) aNil)))) (sRet (eC (.bl false))) sPass)
    (sFor (wAny (eVar 11)) (tgN 12)
    (sExpr (eMeth isL gAppend (eVar 12) (aCons (eTup aNil) aNil)))))))
    (sSeq (sSet 5 (eFn F_p_passed 2 (aCons (eVar 5) (aCons (eVar 6) aNil))))
    (sIf (eAnd (eNot (eFn (F_l_like 6) 2 (aCons (eVar 5) (aCons (eFn F_l_by 2 (aCons (eVar 2) (aCons (eSl (eVar 3) oNone (oSome (eAdd (eM_index1 (eVar 3) (aCons (eVar 6) aNil)) (eC (.int 1))))) aNil))) aNil)))) (eEq (eM_count1 (eVar 3) (aCons (eVar 6) aNil)) (eC (.int 1)))) (sRet (eC (.bl false))) sPass))))))
    (sSeq (sSet 13 (eLst (aCons (eCall gList (aCons (eVar 2) aNil)) (aCons (eCall gList (aCons (eVar 3) aNil)) aNil))))
    (sSeq (sSet 11 (eFn F_p_sorted_by 2 (aCons (eIx (eVar 13) (eC (.int 0))) (aCons (eIx (eVar 13) (eC (.int 1))) aNil))))
    (sSeq (sIf (eOr (eNot (eFn (F_l_like 6) 2 (aCons (eVar 11) (aCons (eFn F_l_by 2 (aCons (eVar 2) (aCons (eVar 3) aNil))) aNil)))) (eOr (eNe (eVar 13) (eLst (aCons (eVar 2) (aCons (eVar 3) aNil)))) (eNe (eVar 11) (eVar 5)))) (sRet (eC (.bl false))) sPass)
    (sSeq (sExpr (eMeth isL gAppend (eVar 11) (aCons (eTup aNil) aNil)))
    (sRet (eAnd (eEq (eIx (eVar 13) (eC (.int 0))) (eVar 2)) (eFn (F_l_like 6) 2 (aCons (eFn F_p_sorted_by 2 (aCons (eVar 2) (aCons (eVar 3) aNil))) (aCons (eVar 5) aNil)))))))))))))))
end Go
set_option Elab.async false
set_option linter.all false
set_option maxRecDepth 100000
namespace Go
open PySem PySem.Spec PyProof.Rows L2 Mi
theorem paired_get {α β : Type} {R : α → β → Prop} {as : List α} {bs : List β} (h : Paired R as bs) : ∀ {i : Nat} {b : β}, bs[i]? = some b → ∃ a, as[i]? = some a ∧ R a b := by
  induction h with
  | nil => intro i b h; simp at h
  | cons r t ih =>
    intro i b h
    cases i with
    | zero =>
      simp only [List.getElem?_cons_zero, Option.some.injEq] at h
      subst h
      exact ⟨_, rfl, r⟩
    | succ i => simpa using ih (i := i) (b := b) (by simpa using h)
theorem paired_len {α β : Type} {R : α → β → Prop} {as : List α} {bs : List β} (h : Paired R as bs) : as.length = bs.length := by
  induction h with
  | nil => rfl
  | cons _ _ ih => simp [ih]
def IRw (s0 : Sto) (D0 : List (List (List Int))) (p : Pas) (mk : Option D → Option D → Sl) (pre : List Nat) (sl : Sl) (s : Sto) : Prop := ∃ ls x8 x9, sl = mk x8 x9 ∧ Kp s0 s ∧ s[s0.length]? = some (.lst (ls.map D.loc)) ∧ Paired (fun l k => s0.length < l ∧ s[l]? = some (pkOb D0 p k)) ls pre
theorem rows_go {s0 : Sto} {r : Nat} {D0 : List (List (List Int))} {p : Pas} {a0 a1 a2 a3 a4 a8 a9 a10 a11 a12 a13 : Option D} {N B C : Sl → Sto → Prop} {T : D → Sto → Prop} (hr : s0[r]? = some (.lst (D0.map eCard))) (hd : GoodDeck D0) (hp : GoodPas p)
    (hN : ∀ s' ls x8 x9, Kp s0 s' → s'[s0.length]? = some (.lst (ls.map D.loc)) → Paired (fun l k => s0.length < l ∧ s'[l]? = some (pkOb D0 p k)) ls (List.range 13) → N [a0, a1, a2, a3, a4, some (.loc r), some (ePas p), some (.loc s0.length), x8, x9, a10, a11, a12, a13] s') :
    (forGo none (rangeD 0 13) (tgN 8) (sExpr (eMeth isL gAppend (eVar 7) (aCons (eLc (wAny (eVar 5)) (tgN 9) (eEq (eFn F_l_pocket 2 (aCons (eVar 9) (aCons (eVar 6) aNil))) (eVar 8)) (eVar 9) [9]) aNil))) (rangeD 0 13) [a0, a1, a2, a3, a4, some (.loc r), some (ePas p), some (.loc s0.length), a8, a9, a10, a11, a12, a13] (s0 ++ [.lst []])).to N T B C := by
  rw [show rangeD 0 13 = _ from range_enc 13]
  refine for_enc (fun k : Nat => D.int k) (List.range 13) (IRw s0 D0 p (fun x8 x9 => [a0, a1, a2, a3, a4, some (.loc r), some (ePas p), some (.loc s0.length), x8, x9, a10, a11, a12, a13])) ⟨[], _, _, rfl, gr_kp (.app _ _), by simp, .nil⟩ (fun sl s hI => ?_) fun pre x post sl s hall hI => ?_
  · obtain ⟨ls, x8, x9, rfl, k1, h1, h2⟩ := hI
    exact ⟨rfl, hN _ _ _ _ k1 h1 h2⟩
  · obtain ⟨ls, x8, x9, rfl, k1, h1, h2⟩ := hI
    have hpre : pre.length < 13 := by
      have := congrArg List.length hall
      simp at this
      omega
    have hr1 := k1.get hr
    refine ⟨rfl, _, rfl, ?_⟩
    simp [h1]
    refine ⟨_, hr1, sizeLine_le (by rw [List.length_map]; have := hd.len; omega), ?_⟩
    refine lc_enc eCard D0 (IBp s p x) ⟨.refl _, rfl⟩ (fun acc s3 hI => ?_) fun pre2 c post2 acc s3 hall2 hI => ?_
    · obtain ⟨g3, rfl⟩ := hI
      refine ⟨chk_some (g3.get hr1), ?_⟩
      have h13 := (Gr.app s3 [Ob.lst ((byPk D0 p x).map eCard)]).get (g3.get h1)
      rw [h13]
      refine ⟨Nat.lt_of_lt_of_le (show _ < 14 by rw [List.length_map, paired_len h2]; omega) (sizeLine_le (by decide)), ls ++ [s3.length], some (.int x), x9, by simp, ?_, ?_, ?_⟩
      · exact ((k1.trans (gr_kp g3)).trans (gr_kp (.app _ _))).put (Nat.le_refl _)
      · rw [List.getElem?_set_self (by have := (List.getElem?_eq_some_iff.mp h13).1; exact this)]
        simp
      · refine paired_app (Paired.mapP h2 fun l k hk => ⟨hk.1, ?_⟩) (.cons ⟨?_, ?_⟩ .nil)
        · rw [List.getElem?_set_ne (by omega)]
          exact (Gr.app _ _).get (g3.get hk.2)
        · have := (List.getElem?_eq_some_iff.mp (g3.get h1)).1
          exact this
        · have := (List.getElem?_eq_some_iff.mp (g3.get h1)).1
          rw [List.getElem?_set_ne (by omega), last_get]
          rfl
    · obtain ⟨g3, rfl⟩ := hI
      refine ⟨chk_some (g3.get hr1), _, rfl, ?_⟩
      simp [wipeD]
      refine pocket_to (hd.card c (by rw [hall2]; simp)) hp fun s4 g4 => ?_
      unfold IBp
      rw [byPk_snoc]
      have e3 : ((pkt p c : Nat) : Int) = (x : Nat) ↔ x = pkt p c := by omega
      simp [e3]
      by_cases h : x = pkt p c
      · exact .inr ⟨h, g3.trans g4, by rw [if_pos h]; simp⟩
      · exact .inl ⟨h, g3.trans g4, by rw [if_neg h]⟩
def ITn (s0 : Sto) (mk : Option D → Option D → Option D → Sl) (sl : Sl) (s : Sto) : Prop := ∃ x10 x11 x12, sl = mk x10 x11 x12 ∧ Kp s0 s
def IFo (s : Sto) (D0 : List (List (List Int))) (p : Pas) (mk : Option D → Sl) (pre : List Nat) (sl : Sl) (s' : Sto) : Prop := ∃ x12, sl = mk x12 ∧ Kp s s' ∧ s'[s.length + 13]? = some (.lst ((locs s.length).map D.loc)) ∧ ∀ k, pre.length ≤ k → k < 13 → s'[s.length + k]? = some (pkOb D0 p k)
theorem byPk_good {D0 : List (List (List Int))} (hd : GoodDeck D0) (p : Pas) (k : Nat) : GoodDeck (byPk D0 p k) := ⟨Nat.le_trans (List.length_filter_le _ _) hd.len, fun c hc => hd.card c (List.mem_filter.mp hc).1⟩
theorem turns_go {s0 : Sto} {r R : Nat} {D0 : List (List (List Int))} {p : Pas} {ls : List Nat} {a0 a1 a2 a3 a4 a8 a9 a10 a11 a12 a13 : Option D} {N B C : Sl → Sto → Prop} {T : D → Sto → Prop} (hr : s0[r]? = some (.lst (D0.map eCard))) (hd : GoodDeck D0) (hp : GoodPas p) (hR : s0[R]? = some (.lst (ls.map D.loc))) (hls : Paired (fun l k => s0[l]? = some (pkOb D0 p k)) ls (List.range 13))
    (hN : ∀ s' x10 x11 x12, Kp s0 s' → N [a0, a1, a2, a3, a4, some (.loc r), some (ePas p), some (.loc R), a8, a9, x10, x11, x12, a13] s') :
    (forGo none (rangeD 0 2) (tgN 10) (sSeq (sSet 11 (eFn F_p_pockets 2 (aCons (eVar 5) (aCons (eVar 6) aNil)))) (sSeq (sIf (eNot (eFn (F_l_like 6) 2 (aCons (eVar 11) (aCons (eVar 7) aNil)))) (sRet (eC (.bl false))) sPass) (sFor (wAny (eVar 11)) (tgN 12) (sExpr (eMeth isL gAppend (eVar 12) (aCons (eTup aNil) aNil)))))) (rangeD 0 2) [a0, a1, a2, a3, a4, some (.loc r), some (ePas p), some (.loc R), a8, a9, a10, a11, a12, a13] s0).to N T B C := by
  rw [show rangeD 0 2 = _ from range_enc 2]
  refine for_enc (fun k : Nat => D.int k) (List.range 2) (fun _ => ITn s0 (fun x10 x11 x12 => [a0, a1, a2, a3, a4, some (.loc r), some (ePas p), some (.loc R), a8, a9, x10, x11, x12, a13])) ⟨_, _, _, rfl, .refl _⟩ (fun sl s hI => ?_) fun pre x post sl s hall hI => ?_
  · obtain ⟨x10, x11, x12, rfl, k1⟩ := hI
    exact ⟨rfl, hN _ _ _ _ k1⟩
  · obtain ⟨x10, x11, x12, rfl, k1⟩ := hI
    refine ⟨rfl, _, rfl, ?_⟩
    simp
    refine pockets_to (k1.get hr) hd.len hp ?_
    have g : Gr s (s ++ pkAll s.length D0 p) := .app _ _
    have hlk : F_l_like 6 [.loc (s.length + 13), .loc R] (s ++ pkAll s.length D0 p) = .ok (.bl true) (s ++ pkAll s.length D0 p) := by
      refine like_loc (pkAll_top s s.length D0 p) (g.get (k1.get hR)) ?_ ?_ fun i x y hx hy => ?_
      · rw [List.length_map, List.length_map, paired_len hls]; simp [locs]
      · rw [List.length_map, paired_len hls]; simp
      · have hi : i < 13 := by
          have := (List.getElem?_eq_some_iff.mp hx).1
          simpa [locs] using this
        have hx' : x = .loc (s.length + i) := by
          unfold locs at hx
          rw [List.map_map, List.getElem?_map, List.getElem?_range hi] at hx
          simpa using hx.symm
        obtain ⟨l, hl, hl2⟩ := paired_get hls (i := i) (b := i) (by rw [List.getElem?_range hi])
        have hy' : y = .loc l := by
          rw [List.getElem?_map, hl] at hy
          simpa using hy.symm
        subst hx' hy'
        exact like_good (k := 1) (pkAll_get _ _ _ _ hi) (g.get (k1.get hl2)) (byPk_good hd p i)
    simp [hlk]
    refine ⟨_, pkAll_top s s.length D0 p, ?_⟩
    refine for_enc D.loc (locs s.length) (IFo s D0 p (fun z12 => [a0, a1, a2, a3, a4, some (.loc r), some (ePas p), some (.loc R), a8, a9, some (.int x), some (.loc (s.length + 13)), z12, a13])) ⟨_, rfl, gr_kp g, pkAll_top _ _ _ _, fun k _ hk => pkAll_get _ _ _ _ hk⟩ (fun sl s2 hI => ?_) fun pre2 l post2 sl s2 hall2 hI => ?_
    · obtain ⟨z12, rfl, k2, h2, h3⟩ := hI
      exact ⟨chk_some h2, ⟨_, _, _, rfl, k1.trans k2⟩⟩
    · obtain ⟨z12, rfl, k2, h2, h3⟩ := hI
      have hp13 : pre2.length < 13 := by
        have := congrArg List.length hall2
        simp [locs] at this
        omega
      have hl : l = s.length + pre2.length := by
        have h4 : (locs s.length)[pre2.length]? = some l := by rw [hall2]; simp
        unfold locs at h4
        rw [List.getElem?_map, List.getElem?_range hp13] at h4
        simpa using h4.symm
      subst hl
      have h5 := h3 pre2.length (Nat.le_refl _) hp13
      refine ⟨chk_some h2, _, rfl, ?_⟩
      simp [h5, pkOb]
      have hb : (byPk D0 p pre2.length).length ≤ 1000 := (byPk_good hd p _).len
      refine ⟨Nat.lt_of_lt_of_le (show _ < 1001 by omega) (sizeLine_le (by decide)), _, rfl, k2.put (by omega), ?_, fun k hk hk2 => ?_⟩
      · rw [List.getElem?_set_ne (by omega)]
        exact h2
      · have : pre2.length + 1 ≤ k := by simpa using hk
        rw [List.getElem?_set_ne (by omega)]
        exact h3 k (by omega) hk2
end Go
set_option Elab.async false
set_option linter.all false
set_option maxRecDepth 100000
namespace Go
open PySem PySem.Spec PyProof.Rows L2 Mi
def lawTail : Sm := (sSeq (sSet 13 (eLst (aCons (eCall gList (aCons (eVar 2) aNil)) (aCons (eCall gList (aCons (eVar 3) aNil)) aNil))))
    (sSeq (sSet 11 (eFn F_p_sorted_by 2 (aCons (eIx (eVar 13) (eC (.int 0))) (aCons (eIx (eVar 13) (eC (.int 1))) aNil))))
    (sSeq (sIf (eOr (eNot (eFn (F_l_like 6) 2 (aCons (eVar 11) (aCons (eFn F_l_by 2 (aCons (eVar 2) (aCons (eVar 3) aNil))) aNil)))) (eOr (eNe (eVar 13) (eLst (aCons (eVar 2) (aCons (eVar 3) aNil)))) (eNe (eVar 11) (eVar 5)))) (sRet (eC (.bl false))) sPass)
    (sSeq (sExpr (eMeth isL gAppend (eVar 11) (aCons (eTup aNil) aNil)))
    (sRet (eAnd (eEq (eIx (eVar 13) (eC (.int 0))) (eVar 2)) (eFn (F_l_like 6) 2 (aCons (eFn F_p_sorted_by 2 (aCons (eVar 2) (aCons (eVar 3) aNil))) (aCons (eVar 5) aNil)))))))))
theorem eqv_pair (a b c d : PyData) : PyData.eqv (.list [a, b]) (.list [c, d]) = (PyData.eqv a c && PyData.eqv b d) := by
  simp [PyData.eqv, PyData.eqvAll]
/-- behind the loop -/
theorem tail_to {s : Sto} {dk a r : Nat} {cards : List (List (List Int))} {pas : List Pas} {a0 a1 a4 a6 a7 a8 a9 a10 a11 a12 a13 : Option D} (hdk : s[dk]? = some (.lst (cards.map eCard))) (ha : s[a]? = some (.lst (pas.map ePas))) (hr : s[r]? = some (.lst ((sortedS cards pas).map eCard))) (hd : GoodDeck cards) (hp : ∀ p ∈ pas, GoodPas p) :
    (lawTail [a0, a1, some (.loc dk), some (.loc a), a4, some (.loc r), a6, a7, a8, a9, a10, a11, a12, a13] s).to (fun _ _ => False) (fun d _ => d = .bl true) no no := by
  unfold lawTail
  simp [hdk]
  rw [show (s ++ [Ob.lst (cards.map eCard)])[a]? = some (.lst (pas.map ePas)) from (Gr.app _ _).get ha]
  simp
  refine ⟨sizeLine_le (by decide), ?_⟩
  have g0 : Gr s (s ++ [Ob.lst (cards.map eCard), Ob.lst (pas.map ePas), Ob.lst [D.loc s.length, D.loc (s.length + 1)]]) := .app _ _
  have eH : (s ++ [Ob.lst (cards.map eCard), Ob.lst (pas.map ePas), Ob.lst [D.loc s.length, D.loc (s.length + 1)]])[s.length + 2]? = some (.lst [D.loc s.length, D.loc (s.length + 1)]) := by
    rw [List.getElem?_append_right (by omega)]
    simp
  have eh1 : (s ++ [Ob.lst (cards.map eCard), Ob.lst (pas.map ePas), Ob.lst [D.loc s.length, D.loc (s.length + 1)]])[s.length]? = some (.lst (cards.map eCard)) := by
    rw [List.getElem?_append_right (by omega)]
    simp
  have eh2 : (s ++ [Ob.lst (cards.map eCard), Ob.lst (pas.map ePas), Ob.lst [D.loc s.length, D.loc (s.length + 1)]])[s.length + 1]? = some (.lst (pas.map ePas)) := by
    rw [List.getElem?_append_right (by omega)]
    simp
  generalize hs1 : s ++ [Ob.lst (cards.map eCard), Ob.lst (pas.map ePas), Ob.lst [D.loc s.length, D.loc (s.length + 1)]] = s1 at g0 eH eh1 eh2 ⊢
  simp [atI, ixN]
  refine sorted_by_to eh1 eh2 hd.len hp fun s2 f g2 hf0 hf => ?_
  have g12 := g0.trans g2
  refine by_to (g12.get hdk) (g12.get ha) hd hp fun s3 b g3 hb => ?_
  have hsd : GoodDeck (sortedS cards pas) := hd.perm (sorted_perm _ _)
  have hlk : F_l_like 6 [.loc f, .loc b] s3 = .ok (.bl true) s3 := like_good (k := 2) (g3.get hf) hb hsd
  simp [hlk]
  refine ⟨sizeLine_le (by decide), ?_⟩
  have g13 := g12.trans g3
  have g4 : Gr s3 (s3 ++ [Ob.lst [D.loc dk, D.loc a]]) := .app _ _
  have G := g13.trans g4
  have eL : (s3 ++ [Ob.lst [D.loc dk, D.loc a]])[s3.length]? = some (.lst [D.loc dk, D.loc a]) := last_get _ _
  have G1 : Gr s1 (s3 ++ [Ob.lst [D.loc dk, D.loc a]]) := (g2.trans g3).trans g4
  generalize hs4 : s3 ++ [Ob.lst [D.loc dk, D.loc a]] = s4 at g4 G eL G1 ⊢
  have p1 : py s4 64 (.loc (s.length + 2)) = some (.list [.list (cards.map peCard), .list (pas.map pePas)]) := by
    show (match s4[s.length + 2]? with
      | some (.lst xs) => (Mi.alls (Mi.py s4 63) xs).map PyData.list
      | _ => none) = _
    rw [G1.get eH]
    dsimp only
    simp only [Mi.alls]
    rw [peK.loc (k := 63) (G1.get eh1) (by decide), peP.loc (k := 63) (G1.get eh2) (by decide)]
    rfl
  have p2 : py s4 64 (.loc s3.length) = some (.list [.list (cards.map peCard), .list (pas.map pePas)]) := by
    show (match s4[s3.length]? with
      | some (.lst xs) => (Mi.alls (Mi.py s4 63) xs).map PyData.list
      | _ => none) = _
    rw [eL]
    dsimp only
    simp only [Mi.alls]
    rw [peK.loc (k := 63) (G.get hdk) (by decide), peP.loc (k := 63) (G.get ha) (by decide)]
    rfl
  rw [gEq_py (neg := true) rfl p1 p2]
  have e1 : PyData.eqv (.list [.list (cards.map peCard), .list (pas.map pePas)]) (.list [.list (cards.map peCard), .list (pas.map pePas)]) = true := by
    rw [eqv_pair, PyData.eqv, PyData.eqv, peK.eqs, peP.eqs]
    simp
  rw [e1]
  refine ⟨rfl, ?_⟩
  have hf4 := (g3.trans g4).get hf
  rw [eq_loc peK (by decide) hf4 (G.get hr)]
  refine ⟨by simp, ?_⟩
  simp [hf4]
  refine ⟨Nat.lt_of_lt_of_le (show _ < 1001 by have := hsd.len; omega) (sizeLine_le (by decide)), ?_⟩
  have kp : Kp s1 (s4.set f (.lst ((sortedS cards pas).map eCard ++ [D.tup []]))) := (gr_kp G1).put hf0
  have kp0 := (gr_kp g0).trans kp
  rw [show s.length + 1 + 1 = s.length + 2 from rfl, kp.get eH]
  simp
  rw [eq_loc peK (by decide) (kp.get eh1) (kp0.get hdk)]
  simp
  refine sorted_by_to (kp0.get hdk) (kp0.get ha) hd.len hp fun s5 e g5 _ he => ?_
  have hl2 : F_l_like 6 [.loc e, .loc r] s5 = .ok (.bl true) s5 := like_good (k := 2) he (g5.get (kp0.get hr)) hsd
  simp [hl2]
end Go
set_option Elab.async false
set_option linter.all false
set_option maxRecDepth 100000
namespace Go
open PySem PySem.Spec PyProof.Rows L2 Mi
def lawBody : Sm := (sSeq (sSet 7 (eLst aNil))
    (sSeq (sFor (wRng1 (aCons (eC (.int 13)) aNil)) (tgN 8)
    (sExpr (eMeth isL gAppend (eVar 7) (aCons (eLc (wAny (eVar 5)) (tgN 9) (eEq (eFn F_l_pocket 2 (aCons (eVar 9) (aCons (eVar 6) aNil))) (eVar 8)) (eVar 9) [9]) aNil))))
    (sSeq (sFor (wRng1 (aCons (eC (.int 2)) aNil)) (tgN 10)
    (sSeq (sSet 11 (eFn F_p_pockets 2 (aCons (eVar 5) (aCons (eVar 6) aNil))))
    (sSeq (sIf (eNot (eFn (F_l_like 6) 2 (aCons (eVar 11) (aCons (eVar 7) aNil)))) (sRet (eC (.bl false))) sPass)
    (sFor (wAny (eVar 11)) (tgN 12)
    (sExpr (eMeth isL gAppend (eVar 12) (aCons (eTup aNil) aNil)))))))
    (sSeq (sSet 5 (eFn F_p_passed 2 (aCons (eVar 5) (aCons (eVar 6) aNil))))
    (sIf (eAnd (eNot (eFn (F_l_like 6) 2 (aCons (eVar 5) (aCons (eFn F_l_by 2 (aCons (eVar 2) (aCons (eSl (eVar 3) oNone (oSome (eAdd (eM_index1 (eVar 3) (aCons (eVar 6) aNil)) (eC (.int 1))))) aNil))) aNil)))) (eEq (eM_count1 (eVar 3) (aCons (eVar 6) aNil)) (eC (.int 1)))) (sRet (eC (.bl false))) sPass)))))
theorem cutA_take {α : Type} (xs : List α) (n : Nat) (h : n ≤ xs.length) : cutA xs none (some (n : Int)) = xs.take n := by
  have e1 : HT.sIx xs.length 0 none = 0 := rfl
  have e2 : HT.sIx xs.length xs.length (some (n : Int)) = n := by
    unfold HT.sIx
    simp only
    rw [if_neg (by omega)]
    simp
    omega
  unfold cutA
  rw [e1, e2]
  simp
def ILp (s : Sto) (cards : List (List (List Int))) (pas : List Pas) (mk : D → List (Option D) → Sl) (pre : List Pas) (sl : Sl) (s' : Sto) : Prop := ∃ r z, z.length = 8 ∧ sl = mk (.loc r) z ∧ Kp s s' ∧ s'[s.length]? = some (.lst (pas.map ePas)) ∧ s'[r]? = some (.lst ((sortedS cards pre).map eCard))
theorem loop_to {s : Sto} {dk : Nat} {cards : List (List (List Int))} {pas : List Pas} {a0 a1 a4 a6 a7 a8 a9 a10 a11 a12 a13 : Option D} (hdk : s[dk]? = some (.lst (cards.map eCard))) (hd : GoodDeck cards) (hp : ∀ p ∈ pas, GoodPas p) (hl : pas.length ≤ 6) :
    (forGo (some s.length) (pas.map ePas) (tgN 6) lawBody (pas.map ePas) [a0, a1, some (.loc dk), some (.loc s.length), a4, some (.loc (s.length + 1)), a6, a7, a8, a9, a10, a11, a12, a13] (s ++ [.lst (pas.map ePas), .lst (cards.map eCard)])).to (fun sl st => (lawTail sl st).to (fun _ _ => False) (fun d _ => d = .bl true) no no) (fun d _ => d = .bl true) no no := by
  refine for_enc ePas pas (ILp s cards pas (fun r z => [a0, a1, some (.loc dk), some (.loc s.length), a4, some r] ++ z)) ⟨s.length + 1, [a6, a7, a8, a9, a10, a11, a12, a13], rfl, rfl, gr_kp (.app _ _), by simp, by rw [List.getElem?_append_right (by omega)]; simp [sortedS]⟩ (fun sl s' hI => ?_) fun pre p post sl s' hall hI => ?_
  · obtain ⟨r, z, hz, rfl, k1, h1, h2⟩ := hI
    obtain ⟨b6, b7, b8, b9, b10, b11, b12, b13, rfl⟩ : ∃ b6 b7 b8 b9 b10 b11 b12 b13, z = [b6, b7, b8, b9, b10, b11, b12, b13] := by
      match z, hz with
      | [b6, b7, b8, b9, b10, b11, b12, b13], _ => exact ⟨_, _, _, _, _, _, _, _, rfl⟩
    exact ⟨chk_some h1, tail_to (k1.get hdk) h1 h2 hd hp⟩
  · obtain ⟨r, z, hz, rfl, k1, h1, h2⟩ := hI
    obtain ⟨b6, b7, b8, b9, b10, b11, b12, b13, rfl⟩ : ∃ b6 b7 b8 b9 b10 b11 b12 b13, z = [b6, b7, b8, b9, b10, b11, b12, b13] := by
      match z, hz with
      | [b6, b7, b8, b9, b10, b11, b12, b13], _ => exact ⟨_, _, _, _, _, _, _, _, rfl⟩
    have gp := hp p (by rw [hall]; simp)
    have hsd : GoodDeck (sortedS cards pre) := hd.perm (sorted_perm _ _)
    refine ⟨chk_some h1, _, rfl, ?_⟩
    unfold lawBody
    simp
    refine rows_go h2 hsd gp fun s2 ls x8 x9 k2 hR hls => ?_
    refine turns_go (k2.get h2) hsd gp hR (Paired.mapP hls fun _ _ q => q.2) fun s3 x10 x11 x12 k3 => ?_
    have k13 := k1.trans (k2.trans k3)
    have h13 := (k2.trans k3).get h1
    simp
    refine passed_to ((k2.trans k3).get h2) hsd.len gp fun s4 r4 g4 _ h4 => ?_
    have k4 := k13.trans (gr_kp g4)
    have h14 := g4.get h13
    simp [h14]
    rw [index_loc peP (by decide) h14]
    have hmem : p ∈ pas := by rw [hall]; simp
    cases hf : pas.findIdx? (· == p) with
    | none =>
      rw [List.findIdx?_eq_none_iff] at hf
      have := hf p hmem
      simp at this
    | some j =>
      have hj : j < pas.length := by
        obtain ⟨h, _⟩ := List.findIdx?_eq_some_iff_getElem.mp hf
        exact h
      simp [h14]
      have ej : cutD (pas.map ePas) none (some ((j : Int) + 1)) = (pas.take (j + 1)).map ePas := by
        rw [cutD_map]
        have := cutA_take pas (j + 1) hj
        rw [← this]
        rfl
      rw [ej]
      have k5 : Gr s4 (s4 ++ [Ob.lst ((pas.take (j + 1)).map ePas)]) := .app _ _
      have q1 : ∀ p' ∈ pas.take (j + 1), GoodPas p' := fun p' h => hp p' (List.mem_of_mem_take h)
      refine by_to (k5.get (k4.get hdk)) (last_get _ _) hd q1 fun s6 b g6 hb => ?_
      have k6 := (k5.trans g6)
      have hbd : GoodDeck (sortedS cards (pas.take (j + 1))) := hd.perm (sorted_perm _ _)
      have h46 := k6.get h4
      have h16 := k6.get h14
      have done : ILp s cards pas (fun r z => [a0, a1, some (.loc dk), some (.loc s.length), a4, some r] ++ z) (pre ++ [p]) [a0, a1, some (.loc dk), some (.loc s.length), a4, some (.loc r4), some (ePas p), some (.loc s'.length), x8, x9, x10, x11, x12, b13] s6 := by
        refine ⟨r4, [some (ePas p), some (.loc s'.length), x8, x9, x10, x11, x12, b13], rfl, rfl, k4.trans (gr_kp k6), h16, ?_⟩
        rw [sortedS_snoc]
        exact h46
      by_cases hc : pas.count p = 1
      · have ej2 : pas.take (j + 1) = pre ++ [p] := by
          have hn : p ∉ pre := fun hm => by
            rw [hall, List.count_append, List.count_cons_self] at hc
            have := List.count_pos_iff.mpr hm
            omega
          have : j = pre.length := by
            obtain ⟨h, hj1, hj2⟩ := List.findIdx?_eq_some_iff_getElem.mp hf
            have e1 : pas[pre.length]'(by rw [hall]; simp) = p := by
              simp [hall]
            rcases Nat.lt_trichotomy j pre.length with q | q | q
            · have e2 : pas[j] = pre[j] := by
                simp only [hall]
                rw [List.getElem_append_left q]
              have : pas[j] = p := by simpa using hj1
              rw [e2] at this
              exact absurd (this ▸ List.getElem_mem q) hn
            · exact q
            · have := hj2 pre.length q
              simp [e1] at this
          subst this
          rw [hall]
          simp [List.take_append]
          exact List.take_of_length_le (by omega)
        rw [ej2, sortedS_snoc] at hb
        have hlk : F_l_like 6 [.loc r4, .loc b] s6 = .ok (.bl true) s6 := like_good (k := 2) h46 hb (hsd.perm (passed_perm _ _))
        simp [hlk]
        exact done
      · obtain ⟨bb, hlk⟩ : LkT 6 s6 (.loc r4) (.loc b) := likeT_deck (k := 2) h46 hb hbd
        rw [hlk]
        cases bb with
        | true => simp; exact done
        | false =>
          simp [h16]
          rw [count_loc peP (by decide) h16]
          simp
          have hc2 : ¬ ((pas.count p : Nat) : Int) = 1 := by omega
          exact ⟨hc2, done⟩
end Go
set_option Elab.async false
set_option linter.all false
set_option maxRecDepth 100000
namespace Go
open PySem PySem.Spec PyProof.Rows L2 Mi
def IPas (n : Nat) (st0 : Sto) (pre : List Nat) (acc : List D) (s : Sto) : Prop := ∃ ps : List Pas, acc = ps.map ePas ∧ Ev n st0 s ∧ (∀ p ∈ ps, GoodPas p) ∧ ps.length ≤ pre.length
theorem law_true (ns : List Int) (hl : ns.length ≤ 63) (hb : ∀ z ∈ ns, Builtin.Int.intBits z ≤ 1048576) : ∃ st, F_l_main [.rol (ns.map D.int)] [] = .ok (.bl true) st := by
  suffices h : (F_l_main [.rol (ns.map D.int)] []).to fun d _ => d = .bl true by
    obtain ⟨d, st, h1, rfl⟩ := h.ok
    exact ⟨st, h1⟩
  unfold F_l_main
  rw [fdef_to (by rfl)]
  change ((sSeq _ (sSeq _ (sSeq _ (sSeq _ (sSeq (sFor (wAny (eVar 3)) (tgN 6) lawBody) lawTail))))) _ _).to _ _ _ _
  simp
  refine dice_to hl fun st1 v1 => ?_
  have d1 := v1.dice
  simp
  refine palettes_to d1 fun st2 q ps pal v2 hq0 hq hp0 hp12 hpal => ?_
  have d2 := v2.dice
  have hqn : q ≠ 0 := by have := v1.dice.lt; omega
  refine deck_to d2 hq (by simpa using hqn) hpal (by decide) (by decide) hp12 fun st3 dk cards v3 hdk0 hdk hcl hcc => ?_
  have d3 := v3.dice
  simp
  refine next_to d3 (by decide) (by decide) fun m st4 m0 m1 v4 l4 => ?_
  refine ⟨m, rfl, ⟨by omega, by omega⟩, sizeLine_le (by simp [rangeD]; omega), ?_⟩
  rw [range_enc]
  have hd : GoodDeck cards := ⟨by omega, fun c hc => card_ofPal hpal hp12 (hcc c hc)⟩
  have hdkn : dk ≠ 0 := by have := d2.lt; omega
  have hdk4 := v4.get hdk hdkn
  refine lc_encY (fun k : Nat => D.int k) _ (IPas 0 st4) ⟨[], rfl, .refl v4.dice, by simp, by simp⟩ (fun acc s hI => ?_) fun pre x post acc s hall hI => ?_
  · obtain ⟨pas, rfl, v5, hpas, hpl⟩ := hI
    refine ⟨rfl, ?_⟩
    have hdk5 := v5.get hdk4 hdkn
    have hdk6 : (s ++ [Ob.lst (pas.map ePas)])[dk]? = some (.lst (cards.map eCard)) := (Gr.app _ _).get hdk5
    rw [hdk6]
    have hpl6 : pas.length ≤ 6 := by simp at hpl; omega
    exact loop_to hdk5 hd hpas hpl6
  · obtain ⟨pas, rfl, v5, hpas, hpl⟩ := hI
    refine ⟨rfl, _, rfl, ?_⟩
    simp [wipeD]
    rw [show rangeD 0 12 = ((List.range 12).map fun k : Nat => (k : Int)).map D.int by rw [List.map_map]; exact range_enc 12]
    refine pass_to (v5.dice.gr (.app _ _)) (last_get _ _) (by have := v5.dice.lt; omega) (by decide) (by decide) (by decide) fun s2 p v6 gp _ => ?_
    refine ⟨pas ++ [p], by simp, v5.trans ((v5.dice.ev (.app _ _)).trans v6), fun p' hp' => ?_, by simp; omega⟩
    rcases List.mem_append.mp hp' with z | z
    · exact hpas p' z
    · have : p' = p := by simpa using z
      rw [this]
      exact gp
end Go
set_option Elab.async false
set_option linter.all false
set_option maxRecDepth 100000
set_option maxHeartbeats 4000000
namespace Go
open PySem PySem.Spec PyProof.Rows L2 Mi
def topS (i : Nat) : Stmt := PySem.Challenge.pw_holedeck_k03_pockets.main.body.getD i (.Pass ⟨0, 0, 0, 0⟩)
abbrev s_l_dice : Stmt := topS 9
abbrev s_l_next : Stmt := topS 10
abbrev s_l_deck : Stmt := topS 18
abbrev s_p_pocket_of : Stmt := topS 4
abbrev s_p_column_at : Stmt := topS 2
abbrev s_p_pockets : Stmt := topS 5
abbrev s_p_passed : Stmt := topS 6
abbrev s_p_sorted_by : Stmt := topS 7
abbrev s_l_columns : Stmt := topS 12
abbrev s_l_palette : Stmt := topS 17
abbrev s_l_palettes : Stmt := topS 19
abbrev s_l_pass : Stmt := topS 25
abbrev s_l_like : Stmt := topS 11
abbrev s_l_column : Stmt := topS 13
abbrev s_l_pocket : Stmt := topS 22
abbrev s_l_passed : Stmt := topS 23
abbrev s_l_by : Stmt := topS 24
abbrev s_l_main : Stmt := topS 26
/-- what the top has left -/
structure Txt (K : PySem.W.Frag) (mg : Str → Option Value) : Prop where
  b_bool : mg "bool" = none
  b_int : mg "int" = none
  b_isinstance : mg "isinstance" = none
  b_len : mg "len" = none
  b_list : mg "list" = none
  b_min : mg "min" = none
  b_range : mg "range" = none
  b_str : mg "str" = none
  b_tuple : mg "tuple" = none
  t_l_dice : There K mg "_law_dice" s_l_dice ["_law_script"]
  t_l_next : There K mg "_law_next" s_l_next ["_law_dice_here", "_law_many"]
  t_l_deck : There K mg "_law_deck" s_l_deck ["_law_d", "_law_palettes_here", "_law_most"]
  t_p_pocket_of : There K mg "pocket_of" s_p_pocket_of ["column", "places"]
  t_p_column_at : There K mg "column_at" s_p_column_at ["card", "at"]
  t_p_pockets : There K mg "pockets" s_p_pockets ["deck", "one"]
  t_p_passed : There K mg "passed" s_p_passed ["deck", "one"]
  t_p_sorted_by : There K mg "sorted_by" s_p_sorted_by ["deck", "passes"]
  t_l_columns : There K mg "_law_columns" s_l_columns []
  t_l_palette : There K mg "_law_palette" s_l_palette ["_law_d"]
  t_l_palettes : There K mg "_law_palettes" s_l_palettes ["_law_d"]
  t_l_pass : There K mg "_law_pass" s_l_pass ["_law_d", "_law_columns_here"]
  t_l_like : There K mg "_law_like" s_l_like ["_law_found", "_law_due"]
  t_l_column : There K mg "_law_column" s_l_column ["_law_card", "_law_at"]
  t_l_pocket : There K mg "_law_pocket" s_l_pocket ["_law_card", "_law_one"]
  t_l_passed : There K mg "_law_passed" s_l_passed ["_law_deck_here", "_law_one"]
  t_l_by : There K mg "_law_by" s_l_by ["_law_deck_here", "_law_passes"]
  t_l_main : There K mg "law" s_l_main ["_law_script"]
  g_HOLES : CN K mg "HOLES" (.int 12)
/-! derivations -/
theorem sc_l_dice : FnScope ["_law_script", "_law_mixed", "_law_cell"] ["_law_script"] (defScope s_l_dice) := ⟨rfl, rfl, rfl, by decide +kernel, rfl, by decide +kernel, by decide +kernel⟩
theorem ok_l_dice {P : Program} {w : World} {K : PySem.W.Frag} {mg : Str → Option Value} {base : Heap} (T : Txt K mg) : Here P w K mg base 1 "_law_dice" ["_law_script"] 1 F_l_dice := by
  have nd := sc_l_dice.nd
  refine here T.t_l_dice sc_l_dice rfl fun f cdv A outer st H E hr => ?_
  exact (ss_cons (s_set (i := 1) nd d_int)
    (ss_cons (s_for (vs := [2]) PassesOwn.never rfl (i_any (d_var 0)) (g_name 2 nd) (tg_name (i := 2) (by decide))
    (ss_one (s_set (i := 1) nd (d_mod (d_add (d_add (d_mul (d_var 1) d_int) (d_mul (d_mod (d_var 2) d_int) d_int)) d_int) d_int))))
    (ss_one (s_ret (d_lst (a_cons (d_var 0) (a_cons d_int (a_cons (d_mul (d_var 1) (d_intOf T.b_int (a_cons (d_gt (d_len T.b_len (a_cons (d_var 0) a_nil)) d_int) a_nil))) (a_cons d_int a_nil)))))))))
theorem sc_l_next : FnScope ["_law_dice_here", "_law_many", "_law_found", "_law_cell"] ["_law_dice_here", "_law_many"] (defScope s_l_next) := ⟨rfl, rfl, rfl, by decide +kernel, rfl, by decide +kernel, by decide +kernel⟩
theorem ok_l_next {P : Program} {w : World} {K : PySem.W.Frag} {mg : Str → Option Value} {base : Heap} (T : Txt K mg) : Here P w K mg base 1 "_law_next" ["_law_dice_here", "_law_many"] 2 F_l_next := by
  have nd := sc_l_next.nd
  refine here T.t_l_next sc_l_next rfl fun f cdv A outer st H E hr => ?_
  exact (ss_cons (s_if (t_gt (d_ix (d_var 0) d_int) d_int) (ss_cons (s_set (i := 2) nd (d_mod (d_ix (d_var 0) d_int) (d_var 1)))
    (ss_cons (s_put (d_div (d_ix (d_var 0) d_int) (d_var 1)) (d_var 0) d_int)
    (ss_one (s_ret (d_var 2))))) ss_nil)
    (ss_cons (s_put (d_add (d_ix (d_var 0) d_int) d_int) (d_var 0) d_int)
    (ss_cons (s_if (t_le (d_ix (d_var 0) d_int) (d_len T.b_len (a_cons (d_ix (d_var 0) d_int) a_nil))) (ss_cons (s_set (i := 3) nd (d_ix (d_ix (d_var 0) d_int) (d_sub (d_ix (d_var 0) d_int) d_int)))
    (ss_cons (s_put (d_if (t_ge (d_var 3) (d_pow d_int d_int)) (d_div (d_var 3) (d_var 1)) d_int) (d_var 0) d_int)
    (ss_one (s_ret (d_mod (d_var 3) (d_var 1)))))) ss_nil)
    (ss_cons (s_put (d_mod (d_mul (d_ix (d_var 0) d_int) d_int) d_int) (d_var 0) d_int)
    (ss_one (s_ret (d_mod (d_div (d_ix (d_var 0) d_int) d_int) (d_var 1))))))))
theorem sc_l_deck : FnScope ["_law_d", "_law_palettes_here", "_law_most", "_law_deck_here", "_law_k", "_law_palette_here"] ["_law_d", "_law_palettes_here", "_law_most"] (defScope s_l_deck) := ⟨rfl, rfl, rfl, by decide +kernel, rfl, by decide +kernel, by decide +kernel⟩
theorem ok_l_deck {P : Program} {w : World} {K : PySem.W.Frag} {mg : Str → Option Value} {base : Heap} (T : Txt K mg) (H_l_next : Here P w K mg base 1 "_law_next" ["_law_dice_here", "_law_many"] 2 F_l_next) : Here P w K mg base 2 "_law_deck" ["_law_d", "_law_palettes_here", "_law_most"] 3 F_l_deck := by
  have nd := sc_l_deck.nd
  refine here T.t_l_deck sc_l_deck rfl fun f cdv A outer st H E hr => ?_
  exact (ss_cons (s_set (i := 3) nd (d_lst a_nil))
    (ss_cons (s_for (vs := [4]) PassesOwn.never rfl (i_rng1 T.b_range (a_cons (d_fnH H_l_next (hr.mono (by decide)) (a_cons (d_var 0) (a_cons (d_add (d_var 2) d_int) a_nil))) a_nil)) (g_name 4 nd) (tg_name (i := 4) (by decide))
    (ss_one (s_expr (d_append (d_var 3) (a_cons (d_tupleOf T.b_tuple (a_cons (d_lc (own := [("_law_palette_here", 5)]) rfl nd (blkOk_by (by kernel_rfl)) (i_any (d_var 1)) (tg_name (i := 5) (by decide)) (fun _ _ _ _ _ => (g_name 5 nd)) (fun _ _ _ _ _ => c_yes) (fun _ _ _ _ _ => (d_ix (d_var 5) (d_fnH H_l_next (hr.mono (by decide)) (a_cons (d_var 0) (a_cons (d_len T.b_len (a_cons (d_var 5) a_nil)) a_nil)))))) a_nil)) a_nil)))))
    (ss_one (s_ret (d_var 3)))))
theorem sc_p_pocket_of : FnScope ["column", "places", "hole"] ["column", "places"] (defScope s_p_pocket_of) := ⟨rfl, rfl, rfl, by decide +kernel, rfl, by decide +kernel, by decide +kernel⟩
theorem ok_p_pocket_of {P : Program} {w : World} {K : PySem.W.Frag} {mg : Str → Option Value} {base : Heap} (T : Txt K mg) : Here P w K mg base 1 "pocket_of" ["column", "places"] 2 F_p_pocket_of := by
  have nd := sc_p_pocket_of.nd
  refine here T.t_p_pocket_of sc_p_pocket_of rfl fun f cdv A outer st H E hr => ?_
  exact (ss_cons (s_for (vs := [2]) PassesOwn.never rfl (i_rng1 T.b_range (a_cons (d_gl T.g_HOLES) a_nil)) (g_name 2 nd) (tg_name (i := 2) (by decide))
    (ss_one (s_if (PW.pt (w_and (t_in (hu65 hr) (d_var 2) (d_var 1)) (w_and1 (t_in (hu65 hr) (d_var 2) (d_var 0))))) (ss_one (s_ret (d_add (d_var 2) d_int))) ss_nil)))
    (ss_one (s_ret d_int)))
theorem sc_p_column_at : FnScope ["card", "at"] ["card", "at"] (defScope s_p_column_at) := ⟨rfl, rfl, rfl, by decide +kernel, rfl, by decide +kernel, by decide +kernel⟩
theorem ok_p_column_at {P : Program} {w : World} {K : PySem.W.Frag} {mg : Str → Option Value} {base : Heap} (T : Txt K mg) : Here P w K mg base 1 "column_at" ["card", "at"] 2 F_p_column_at := by
  have nd := sc_p_column_at.nd
  refine here T.t_p_column_at sc_p_column_at rfl fun f cdv A outer st H E hr => ?_
  exact (ss_cons (s_if (t_chain op_le op_lt two_le two_lt d_int (d_var 1) (d_len T.b_len (a_cons (d_var 0) a_nil))) (ss_one (s_ret (d_ix (d_var 0) (d_var 1)))) ss_nil)
    (ss_one (s_ret (d_tup a_nil))))
theorem sc_p_pockets : FnScope ["deck", "one", "at", "places", "_", "decks", "card", "number"] ["deck", "one"] (defScope s_p_pockets) := ⟨rfl, rfl, rfl, by decide +kernel, rfl, by decide +kernel, by decide +kernel⟩
theorem ok_p_pockets {P : Program} {w : World} {K : PySem.W.Frag} {mg : Str → Option Value} {base : Heap} (T : Txt K mg) (H_p_pocket_of : Here P w K mg base 1 "pocket_of" ["column", "places"] 2 F_p_pocket_of) (H_p_column_at : Here P w K mg base 1 "column_at" ["card", "at"] 2 F_p_column_at) : Here P w K mg base 2 "pockets" ["deck", "one"] 2 F_p_pockets := by
  have nd := sc_p_pockets.nd
  refine here T.t_p_pockets sc_p_pockets rfl fun f cdv A outer st H E hr => ?_
  exact (ss_cons (s_tgt (vs := [2, 3, 4]) (d_var 1) (pg_tup rfl (pgs_cons (g_name 2 nd) (pgs_cons (g_name 3 nd) (pgs_cons (g_name 4 nd) pgs_nil)))) (tg_tup (tgs_cons (tg_name (i := 2) (by decide)) (tgs_cons (tg_name (i := 3) (by decide)) (tgs_cons (tg_name (i := 4) (by decide)) tgs_nil))) (tgsCons_len (tgsCons_len (tgsCons_len tgsNil_len)))))
    (ss_cons (s_setLc (i := 5) (own := [("_", 4)]) rfl nd (sw_true rfl rfl rfl (by decide +kernel)) (blkOk_by (by kernel_rfl)) (i_rng1 T.b_range (a_cons (d_add (d_gl T.g_HOLES) d_int) a_nil)) (tg_name (i := 4) (by decide)) (fun _ _ _ _ _ => (g_name 4 nd)) (fun _ _ _ _ _ => c_yes) (fun _ _ _ _ _ => (d_lst a_nil)))
    (ss_cons (s_for (vs := [6]) PassesOwn.never rfl (i_any (d_var 0)) (g_name 6 nd) (tg_name (i := 6) (by decide))
    (ss_cons (s_set (i := 7) nd (d_fnH H_p_pocket_of (hr.mono (by decide)) (a_cons (d_fnH H_p_column_at (hr.mono (by decide)) (a_cons (d_var 6) (a_cons (d_var 2) a_nil))) (a_cons (d_var 3) a_nil))))
    (ss_one (s_expr (d_append (d_ix (d_var 5) (d_var 7)) (a_cons (d_var 6) a_nil))))))
    (ss_one (s_ret (d_var 5))))))
theorem sc_p_passed : FnScope ["deck", "one", "decks", "falling", "part", "card"] ["deck", "one"] (defScope s_p_passed) := ⟨rfl, rfl, rfl, by decide +kernel, rfl, by decide +kernel, by decide +kernel⟩
theorem ok_p_passed {P : Program} {w : World} {K : PySem.W.Frag} {mg : Str → Option Value} {base : Heap} (T : Txt K mg) (H_p_pockets : Here P w K mg base 2 "pockets" ["deck", "one"] 2 F_p_pockets) : Here P w K mg base 3 "passed" ["deck", "one"] 2 F_p_passed := by
  have nd := sc_p_passed.nd
  refine here T.t_p_passed sc_p_passed rfl fun f cdv A outer st H E hr => ?_
  exact (ss_cons (s_set (i := 2) nd (d_fnH H_p_pockets (hr.mono (by decide)) (a_cons (d_var 0) (a_cons (d_var 1) a_nil))))
    (ss_cons (s_set (i := 3) nd (d_ix (d_var 1) d_int))
    (ss_cons (s_if (d_test (d_var 3)) (ss_one (s_expr (d_M_reverse0 hr (d_var 2)))) ss_nil)
    (ss_one (s_ret (d_lc2 (own := [("part", 4), ("card", 5)]) (vs1 := [5]) rfl nd (blkOk_by (by kernel_rfl)) (by decide) (i_any (d_var 2)) (tg_name (i := 4) (by decide)) (tg_name (i := 5) (by decide)) (fun _ _ _ _ _ => (g_name 4 nd)) (fun _ _ _ _ _ => c_yes) (fun _ _ _ _ _ => (i_any (d_var 4))) (fun _ _ _ _ _ => (g_name 5 nd)) (fun _ _ _ _ _ => c_yes) (fun _ _ _ _ _ => (d_var 5))))))))
theorem sc_p_sorted_by : FnScope ["deck", "passes", "laid", "one"] ["deck", "passes"] (defScope s_p_sorted_by) := ⟨rfl, rfl, rfl, by decide +kernel, rfl, by decide +kernel, by decide +kernel⟩
theorem ok_p_sorted_by {P : Program} {w : World} {K : PySem.W.Frag} {mg : Str → Option Value} {base : Heap} (T : Txt K mg) (H_p_passed : Here P w K mg base 3 "passed" ["deck", "one"] 2 F_p_passed) : Here P w K mg base 4 "sorted_by" ["deck", "passes"] 2 F_p_sorted_by := by
  have nd := sc_p_sorted_by.nd
  refine here T.t_p_sorted_by sc_p_sorted_by rfl fun f cdv A outer st H E hr => ?_
  exact (ss_cons (s_set (i := 2) nd (d_listOf T.b_list (a_cons (d_var 0) a_nil)))
    (ss_cons (s_for (vs := [3]) PassesOwn.never rfl (i_any (d_var 1)) (g_name 3 nd) (tg_name (i := 3) (by decide))
    (ss_one (s_set (i := 2) nd (d_fnH H_p_passed (hr.mono (by decide)) (a_cons (d_var 2) (a_cons (d_var 3) a_nil))))))
    (ss_one (s_ret (d_var 2)))))
theorem sc_l_columns : FnScope ["_law_found", "_law_over", "_law_figure_here"] [] (defScope s_l_columns) := ⟨rfl, rfl, rfl, by decide +kernel, rfl, by decide +kernel, by decide +kernel⟩
theorem ok_l_columns {P : Program} {w : World} {K : PySem.W.Frag} {mg : Str → Option Value} {base : Heap} (T : Txt K mg) : Here P w K mg base 1 "_law_columns" [] 0 F_l_columns := by
  have nd := sc_l_columns.nd
  refine here T.t_l_columns sc_l_columns rfl fun f cdv A outer st H E hr => ?_
  exact (ss_cons (s_set (i := 0) nd (d_lst a_nil))
    (ss_cons (s_for (vs := [1]) PassesOwn.never rfl (i_any (d_lst (a_cons (d_tup a_nil) (a_cons (d_tup (a_cons d_int a_nil)) (a_cons (d_tup (a_cons d_int a_nil)) a_nil))))) (g_name 1 nd) (tg_name (i := 1) (by decide))
    (ss_one (s_set (i := 0) nd (d_add (d_add (d_var 0) (d_lst (a_cons (d_var 1) a_nil))) (d_lc (own := [("_law_figure_here", 2)]) rfl nd (blkOk_by (by kernel_rfl)) (i_rng1 T.b_range (a_cons d_int a_nil)) (tg_name (i := 2) (by decide)) (fun _ _ _ _ _ => (g_name 2 nd)) (fun _ _ _ _ _ => c_yes) (fun _ _ _ _ _ => (d_add (d_tup (a_cons (d_var 2) a_nil)) (d_var 1))))))))
    (ss_one (s_ret (d_var 0)))))
theorem sc_l_palette : FnScope ["_law_d", "_law_every", "_law_way", "_law_found", "_law_k", "_law_column_here"] ["_law_d"] (defScope s_l_palette) := ⟨rfl, rfl, rfl, by decide +kernel, rfl, by decide +kernel, by decide +kernel⟩
theorem ok_l_palette {P : Program} {w : World} {K : PySem.W.Frag} {mg : Str → Option Value} {base : Heap} (T : Txt K mg) (H_l_columns : Here P w K mg base 1 "_law_columns" [] 0 F_l_columns) (H_l_next : Here P w K mg base 1 "_law_next" ["_law_dice_here", "_law_many"] 2 F_l_next) : Here P w K mg base 2 "_law_palette" ["_law_d"] 1 F_l_palette := by
  have nd := sc_l_palette.nd
  refine here T.t_l_palette sc_l_palette rfl fun f cdv A outer st H E hr => ?_
  exact (ss_cons (s_set (i := 1) nd (d_fn0H H_l_columns (hr.mono (by decide))))
    (ss_cons (s_set (i := 2) nd (d_fnH H_l_next (hr.mono (by decide)) (a_cons (d_var 0) (a_cons d_int a_nil))))
    (ss_cons (s_if (t_eq hr.units (d_var 2) d_int) (ss_one (s_ret (d_sl (d_lst (a_cons (d_tup a_nil) (a_cons (d_tup (a_cons d_int a_nil)) (a_cons (d_tup (a_cons d_int a_nil)) a_nil)))) (o_some (d_fnH H_l_next (hr.mono (by decide)) (a_cons (d_var 0) (a_cons d_int a_nil)))) o_none))) ss_nil)
    (ss_cons (s_if (t_eq hr.units (d_var 2) d_int) (ss_one (s_ret (d_sl (d_var 1) (o_some d_int) (o_some d_int)))) ss_nil)
    (ss_cons (s_if (t_eq hr.units (d_var 2) d_int) (ss_one (s_ret (d_sl (d_var 1) (o_some (d_fnH H_l_next (hr.mono (by decide)) (a_cons (d_var 0) (a_cons d_int a_nil)))) (o_some (d_add d_int (d_fnH H_l_next (hr.mono (by decide)) (a_cons (d_var 0) (a_cons d_int a_nil)))))))) ss_nil)
    (ss_cons (s_if (t_eq hr.units (d_var 2) d_int) (ss_one (s_ret (d_var 1))) ss_nil)
    (ss_cons (s_set (i := 3) nd (d_lc (own := [("_law_k", 4)]) rfl nd (blkOk_by (by kernel_rfl)) (i_rng1 T.b_range (a_cons (d_add d_int (d_fnH H_l_next (hr.mono (by decide)) (a_cons (d_var 0) (a_cons d_int a_nil)))) a_nil)) (tg_name (i := 4) (by decide)) (fun _ _ _ _ _ => (g_name 4 nd)) (fun _ _ _ _ _ => c_yes) (fun _ _ _ _ _ => (d_ix (d_var 1) (d_fnH H_l_next (hr.mono (by decide)) (a_cons (d_var 0) (a_cons d_int a_nil)))))))
    (ss_one (s_ret (d_lc (own := [("_law_column_here", 5)]) rfl nd (blkOk_by (by kernel_rfl)) (i_any (d_var 1)) (tg_name (i := 5) (by decide)) (fun _ _ _ _ _ => (g_name 5 nd)) (fun _ _ _ _ _ => (c_if (t_in (hu65 hr) (d_var 5) (d_var 3)))) (fun _ _ _ _ _ => (d_var 5))))))))))))
theorem sc_l_palettes : FnScope ["_law_d", "_law_k"] ["_law_d"] (defScope s_l_palettes) := ⟨rfl, rfl, rfl, by decide +kernel, rfl, by decide +kernel, by decide +kernel⟩
theorem ok_l_palettes {P : Program} {w : World} {K : PySem.W.Frag} {mg : Str → Option Value} {base : Heap} (T : Txt K mg) (H_l_next : Here P w K mg base 1 "_law_next" ["_law_dice_here", "_law_many"] 2 F_l_next) (H_l_palette : Here P w K mg base 2 "_law_palette" ["_law_d"] 1 F_l_palette) : Here P w K mg base 3 "_law_palettes" ["_law_d"] 1 F_l_palettes := by
  have nd := sc_l_palettes.nd
  refine here T.t_l_palettes sc_l_palettes rfl fun f cdv A outer st H E hr => ?_
  exact (ss_one (s_ret (d_lc (own := [("_law_k", 1)]) rfl nd (blkOk_by (by kernel_rfl)) (i_rng1 T.b_range (a_cons (d_ix (d_lst (a_cons (d_add d_int (d_fnH H_l_next (hr.mono (by decide)) (a_cons (d_var 0) (a_cons d_int a_nil)))) (a_cons d_int a_nil))) (d_intOf T.b_int (a_cons (d_eq hr.units (d_fnH H_l_next (hr.mono (by decide)) (a_cons (d_var 0) (a_cons d_int a_nil))) d_int) a_nil))) a_nil)) (tg_name (i := 1) (by decide)) (fun _ _ _ _ _ => (g_name 1 nd)) (fun _ _ _ _ _ => c_yes) (fun _ _ _ _ _ => (d_fnH H_l_palette (hr.mono (by decide)) (a_cons (d_var 0) a_nil))))))
theorem sc_l_pass : FnScope ["_law_d", "_law_columns_here", "_law_places", "_law_place"] ["_law_d", "_law_columns_here"] (defScope s_l_pass) := ⟨rfl, rfl, rfl, by decide +kernel, rfl, by decide +kernel, by decide +kernel⟩
theorem ok_l_pass {P : Program} {w : World} {K : PySem.W.Frag} {mg : Str → Option Value} {base : Heap} (T : Txt K mg) (H_l_next : Here P w K mg base 1 "_law_next" ["_law_dice_here", "_law_many"] 2 F_l_next) : Here P w K mg base 2 "_law_pass" ["_law_d", "_law_columns_here"] 2 F_l_pass := by
  have nd := sc_l_pass.nd
  refine here T.t_l_pass sc_l_pass rfl fun f cdv A outer st H E hr => ?_
  exact (ss_cons (s_set (i := 2) nd (d_tupleOf T.b_tuple (a_cons (d_lc (own := [("_law_place", 3)]) rfl nd (blkOk_by (by kernel_rfl)) (i_rng1 T.b_range (a_cons d_int a_nil)) (tg_name (i := 3) (by decide)) (fun _ _ _ _ _ => (g_name 3 nd)) (fun _ _ _ _ _ => (c_if (t_eq hr.units (d_fnH H_l_next (hr.mono (by decide)) (a_cons (d_var 0) (a_cons d_int a_nil))) d_int))) (fun _ _ _ _ _ => (d_var 3))) a_nil)))
    (ss_cons (s_if (t_eq hr.units (d_fnH H_l_next (hr.mono (by decide)) (a_cons (d_var 0) (a_cons d_int a_nil))) d_int) (ss_one (s_set (i := 2) nd (d_ix (d_lst (a_cons (d_tupRg rfl T.b_tuple T.b_range d_int) (a_cons (d_tup (a_cons d_int (a_cons d_int a_nil))) (a_cons (d_tupRg rfl T.b_tuple T.b_range d_int) a_nil)))) (d_fnH H_l_next (hr.mono (by decide)) (a_cons (d_var 0) (a_cons d_int a_nil)))))) ss_nil)
    (ss_one (s_ret (d_tup (a_cons (d_ix (d_var 1) (d_fnH H_l_next (hr.mono (by decide)) (a_cons (d_var 0) (a_cons (d_len T.b_len (a_cons (d_var 1) a_nil)) a_nil)))) (a_cons (d_var 2) (a_cons (d_eq hr.units (d_fnH H_l_next (hr.mono (by decide)) (a_cons (d_var 0) (a_cons d_int a_nil))) d_int) a_nil))))))))
theorem sc_l_like : FnScope ["_law_found", "_law_due", "_law_k"] ["_law_found", "_law_due"] (defScope s_l_like) := ⟨rfl, rfl, rfl, by decide +kernel, rfl, by decide +kernel, by decide +kernel⟩
theorem ok_l_like {P : Program} {w : World} {K : PySem.W.Frag} {mg : Str → Option Value} {base : Heap} (T : Txt K mg) : ∀ fuel : Nat, Here P w K mg base (1 + fuel) "_law_like" ["_law_found", "_law_due"] 2 (F_l_like fuel)
  | 0 => here_bad T.t_l_like sc_l_like rfl
  | fuel + 1 => by
    have ih := ok_l_like (P := P) (w := w) (base := base) T fuel
    have nd := sc_l_like.nd
    refine here (k := 1 + fuel) T.t_l_like sc_l_like rfl fun f cdv A outer st H E hr => ?_
    exact (ss_cons (s_if (d_test (d_isi T.b_isinstance (a_cons (d_var 1) (a_cons (d_type T.b_str (by decide +kernel)) a_nil)))) (ss_one (s_ret (d_and (d_isi T.b_isinstance (a_cons (d_var 0) (a_cons (d_type T.b_str (by decide +kernel)) a_nil))) (d_one (d_eq hr.units (d_var 0) (d_var 1)))))) ss_nil)
    (ss_cons (s_if (d_test (d_isi T.b_isinstance (a_cons (d_var 1) (a_cons (d_type T.b_int (by decide +kernel)) a_nil)))) (ss_one (s_ret (d_and (d_isi T.b_isinstance (a_cons (d_var 0) (a_cons (d_type T.b_int (by decide +kernel)) a_nil))) (d_and (d_not (d_isi T.b_isinstance (a_cons (d_var 0) (a_cons (d_type T.b_bool (by decide +kernel)) a_nil)))) (d_one (d_eq hr.units (d_var 0) (d_var 1))))))) ss_nil)
    (ss_cons (s_if (t_isN (d_var 1)) (ss_one (s_ret (d_isN (d_var 0)))) ss_nil)
    (ss_cons (s_if (PW.pt (w_or (t_ne hr.units (d_isi T.b_isinstance (a_cons (d_var 1) (a_cons (d_type T.b_tuple (by decide +kernel)) a_nil))) (d_isi T.b_isinstance (a_cons (d_var 0) (a_cons (d_type T.b_tuple (by decide +kernel)) a_nil)))) (w_or1 (t_ne hr.units (d_isi T.b_isinstance (a_cons (d_var 1) (a_cons (d_type T.b_list (by decide +kernel)) a_nil))) (d_isi T.b_isinstance (a_cons (d_var 0) (a_cons (d_type T.b_list (by decide +kernel)) a_nil))))))) (ss_one (s_ret d_bl)) ss_nil)
    (ss_cons (s_if (t_ne hr.units (d_len T.b_len (a_cons (d_var 0) a_nil)) (d_len T.b_len (a_cons (d_var 1) a_nil))) (ss_one (s_ret d_bl)) ss_nil)
    (ss_cons (s_for (vs := [2]) PassesOwn.never rfl (i_rng1 T.b_range (a_cons (d_len T.b_len (a_cons (d_var 1) a_nil)) a_nil)) (g_name 2 nd) (tg_name (i := 2) (by decide))
    (ss_one (s_if (t_not (d_test (d_fnH ih (hr.mono (by omega)) (a_cons (d_ix (d_var 0) (d_var 2)) (a_cons (d_ix (d_var 1) (d_var 2)) a_nil))))) (ss_one (s_ret d_bl)) ss_nil)))
    (ss_one (s_ret d_bl))))))))
theorem sc_l_column : FnScope ["_law_card", "_law_at"] ["_law_card", "_law_at"] (defScope s_l_column) := ⟨rfl, rfl, rfl, by decide +kernel, rfl, by decide +kernel, by decide +kernel⟩
theorem ok_l_column {P : Program} {w : World} {K : PySem.W.Frag} {mg : Str → Option Value} {base : Heap} (T : Txt K mg) : Here P w K mg base 1 "_law_column" ["_law_card", "_law_at"] 2 F_l_column := by
  have nd := sc_l_column.nd
  refine here T.t_l_column sc_l_column rfl fun f cdv A outer st H E hr => ?_
  exact (ss_one (s_ret (d_ix (d_add (d_listOf T.b_list (a_cons (d_var 0) a_nil)) (d_mul (d_lst (a_cons (d_tup a_nil) a_nil)) d_int)) (d_var 1))))
theorem sc_l_pocket : FnScope ["_law_card", "_law_one", "_law_some", "_law_place"] ["_law_card", "_law_one"] (defScope s_l_pocket) := ⟨rfl, rfl, rfl, by decide +kernel, rfl, by decide +kernel, by decide +kernel⟩
theorem ok_l_pocket {P : Program} {w : World} {K : PySem.W.Frag} {mg : Str → Option Value} {base : Heap} (T : Txt K mg) (H_l_column : Here P w K mg base 1 "_law_column" ["_law_card", "_law_at"] 2 F_l_column) : Here P w K mg base 2 "_law_pocket" ["_law_card", "_law_one"] 2 F_l_pocket := by
  have nd := sc_l_pocket.nd
  refine here T.t_l_pocket sc_l_pocket rfl fun f cdv A outer st H E hr => ?_
  exact (ss_cons (s_setLc (i := 2) (own := [("_law_place", 3)]) rfl nd (sw_true rfl rfl rfl (by decide +kernel)) (blkOk_by (by kernel_rfl)) (i_any (d_fnH H_l_column (hr.mono (by decide)) (a_cons (d_var 0) (a_cons (d_ix (d_var 1) d_int) a_nil)))) (tg_name (i := 3) (by decide)) (fun _ _ _ _ _ => (g_name 3 nd)) (fun _ _ _ _ _ => (c_if (t_in (hu65 hr) (d_var 3) (d_ix (d_var 1) d_int)))) (fun _ _ _ _ _ => (d_add (d_var 3) d_int)))
    (ss_one (s_ret (d_mod (d_min rfl T.b_min (a_cons (d_add (d_var 2) (d_lst (a_cons d_int a_nil))) a_nil)) d_int))))
theorem sc_l_passed : FnScope ["_law_deck_here", "_law_one", "_law_found", "_law_turn", "_law_pocket_here", "_law_card"] ["_law_deck_here", "_law_one"] (defScope s_l_passed) := ⟨rfl, rfl, rfl, by decide +kernel, rfl, by decide +kernel, by decide +kernel⟩
theorem ok_l_passed {P : Program} {w : World} {K : PySem.W.Frag} {mg : Str → Option Value} {base : Heap} (T : Txt K mg) (H_l_pocket : Here P w K mg base 2 "_law_pocket" ["_law_card", "_law_one"] 2 F_l_pocket) : Here P w K mg base 3 "_law_passed" ["_law_deck_here", "_law_one"] 2 F_l_passed := by
  have nd := sc_l_passed.nd
  refine here T.t_l_passed sc_l_passed rfl fun f cdv A outer st H E hr => ?_
  exact (ss_cons (s_set (i := 2) nd (d_lst a_nil))
    (ss_cons (s_for (vs := [3]) PassesOwn.never rfl (i_rng1 T.b_range (a_cons d_int a_nil)) (g_name 3 nd) (tg_name (i := 3) (by decide))
    (ss_cons (s_set (i := 4) nd (d_ix (d_lst (a_cons (d_var 3) (a_cons (d_sub d_int (d_var 3)) a_nil))) (d_intOf T.b_int (a_cons (d_ix (d_var 1) d_int) a_nil))))
    (ss_one (s_set (i := 2) nd (d_add (d_var 2) (d_lc (own := [("_law_card", 5)]) rfl nd (blkOk_by (by kernel_rfl)) (i_any (d_var 0)) (tg_name (i := 5) (by decide)) (fun _ _ _ _ _ => (g_name 5 nd)) (fun _ _ _ _ _ => (c_if (t_eq hr.units (d_fnH H_l_pocket (hr.mono (by decide)) (a_cons (d_var 5) (a_cons (d_var 1) a_nil))) (d_var 4)))) (fun _ _ _ _ _ => (d_var 5))))))))
    (ss_one (s_ret (d_var 2)))))
theorem sc_l_by : FnScope ["_law_deck_here", "_law_passes", "_law_one"] ["_law_deck_here", "_law_passes"] (defScope s_l_by) := ⟨rfl, rfl, rfl, by decide +kernel, rfl, by decide +kernel, by decide +kernel⟩
theorem ok_l_by {P : Program} {w : World} {K : PySem.W.Frag} {mg : Str → Option Value} {base : Heap} (T : Txt K mg) (H_l_passed : Here P w K mg base 3 "_law_passed" ["_law_deck_here", "_law_one"] 2 F_l_passed) : Here P w K mg base 4 "_law_by" ["_law_deck_here", "_law_passes"] 2 F_l_by := by
  have nd := sc_l_by.nd
  refine here T.t_l_by sc_l_by rfl fun f cdv A outer st H E hr => ?_
  exact (ss_cons (s_for (vs := [2]) PassesOwn.never rfl (i_any (d_var 1)) (g_name 2 nd) (tg_name (i := 2) (by decide))
    (ss_one (s_set (i := 0) nd (d_fnH H_l_passed (hr.mono (by decide)) (a_cons (d_var 0) (a_cons (d_var 2) a_nil))))))
    (ss_one (s_ret (d_var 0))))
theorem sc_l_main : FnScope ["_law_script", "_law_d", "_law_deck_here", "_law_passes", "_law_k", "_law_now", "_law_one", "_law_rows", "_law_pocket_here", "_law_card", "_law_turn", "_law_found", "_law_row", "_law_handed"] ["_law_script"] (defScope s_l_main) := ⟨rfl, rfl, rfl, by decide +kernel, rfl, by decide +kernel, by decide +kernel⟩
theorem ok_all {P : Program} {w : World} {K : PySem.W.Frag} {mg : Str → Option Value} {base : Heap} (T : Txt K mg) {f : Addr} {fd : FuncData} (F : Fun K "law" "law" s_l_main f fd) : FnOk P w K mg base CX0 8 f fd ["_law_script"] (spD K 1 F_l_main) := by
  have H_l_dice := ok_l_dice (P := P) (w := w) (base := base) T
  have H_l_next := ok_l_next (P := P) (w := w) (base := base) T
  have H_l_deck := ok_l_deck (P := P) (w := w) (base := base) T H_l_next
  have H_p_pocket_of := ok_p_pocket_of (P := P) (w := w) (base := base) T
  have H_p_column_at := ok_p_column_at (P := P) (w := w) (base := base) T
  have H_p_pockets := ok_p_pockets (P := P) (w := w) (base := base) T H_p_pocket_of H_p_column_at
  have H_p_passed := ok_p_passed (P := P) (w := w) (base := base) T H_p_pockets
  have H_p_sorted_by := ok_p_sorted_by (P := P) (w := w) (base := base) T H_p_passed
  have H_l_columns := ok_l_columns (P := P) (w := w) (base := base) T
  have H_l_palette := ok_l_palette (P := P) (w := w) (base := base) T H_l_columns H_l_next
  have H_l_palettes := ok_l_palettes (P := P) (w := w) (base := base) T H_l_next H_l_palette
  have H_l_pass := ok_l_pass (P := P) (w := w) (base := base) T H_l_next
  have H_l_like := ok_l_like (P := P) (w := w) (base := base) T 6
  have H_l_column := ok_l_column (P := P) (w := w) (base := base) T
  have H_l_pocket := ok_l_pocket (P := P) (w := w) (base := base) T H_l_column
  have H_l_passed := ok_l_passed (P := P) (w := w) (base := base) T H_l_pocket
  have H_l_by := ok_l_by (P := P) (w := w) (base := base) T H_l_passed
  have nd := sc_l_main.nd
  refine fn_body F sc_l_main rfl fun cdv A outer st H E hr => ?_
  exact (ss_cons (s_set (i := 1) nd (d_fnH H_l_dice (hr.mono (by decide)) (a_cons (d_var 0) a_nil)))
    (ss_cons (s_set (i := 2) nd (d_fnH H_l_deck (hr.mono (by decide)) (a_cons (d_var 1) (a_cons (d_fnH H_l_palettes (hr.mono (by decide)) (a_cons (d_var 1) a_nil)) (a_cons d_int a_nil)))))
    (ss_cons (s_setLc (i := 3) (own := [("_law_k", 4)]) rfl nd (sw_true rfl rfl rfl (by decide +kernel)) (blkOk_by (by kernel_rfl)) (i_rng1 T.b_range (a_cons (d_fnH H_l_next (hr.mono (by decide)) (a_cons (d_var 1) (a_cons d_int a_nil))) a_nil)) (tg_name (i := 4) (by decide)) (fun _ _ _ _ _ => (g_name 4 nd)) (fun _ _ _ _ _ => c_yes) (fun _ _ _ _ _ => (d_fnH H_l_pass (hr.mono (by decide)) (a_cons (d_var 1) (a_cons (d_listRg rfl T.b_list T.b_range d_int) a_nil)))))
    (ss_cons (s_set (i := 5) nd (d_listOf T.b_list (a_cons (d_var 2) a_nil)))
    (ss_cons (s_for (vs := [6]) PassesOwn.never rfl (i_any (d_var 3)) (g_name 6 nd) (tg_name (i := 6) (by decide))
    (ss_cons (s_set (i := 7) nd (d_lst a_nil))
    (ss_cons (s_for (vs := [8]) PassesOwn.never rfl (i_rng1 T.b_range (a_cons d_int a_nil)) (g_name 8 nd) (tg_name (i := 8) (by decide))
    (ss_one (s_expr (d_append (d_var 7) (a_cons (d_lc (own := [("_law_card", 9)]) rfl nd (blkOk_by (by kernel_rfl)) (i_any (d_var 5)) (tg_name (i := 9) (by decide)) (fun _ _ _ _ _ => (g_name 9 nd)) (fun _ _ _ _ _ => (c_if (t_eq hr.units (d_fnH H_l_pocket (hr.mono (by decide)) (a_cons (d_var 9) (a_cons (d_var 6) a_nil))) (d_var 8)))) (fun _ _ _ _ _ => (d_var 9))) a_nil)))))
    (ss_cons (s_for (vs := [10]) PassesOwn.never rfl (i_rng1 T.b_range (a_cons d_int a_nil)) (g_name 10 nd) (tg_name (i := 10) (by decide))
    (ss_cons (s_set (i := 11) nd (d_fnH H_p_pockets (hr.mono (by decide)) (a_cons (d_var 5) (a_cons (d_var 6) a_nil))))
    (ss_cons (s_if (t_not (d_test (d_fnH H_l_like (hr.mono (by decide)) (a_cons (d_var 11) (a_cons (d_var 7) a_nil))))) (ss_one (s_ret d_bl)) ss_nil)
    (ss_one (s_for (vs := [12]) PassesOwn.never rfl (i_any (d_var 11)) (g_name 12 nd) (tg_name (i := 12) (by decide))
    (ss_one (s_expr (d_append (d_var 12) (a_cons (d_tup a_nil) a_nil)))))))))
    (ss_cons (s_set (i := 5) nd (d_fnH H_p_passed (hr.mono (by decide)) (a_cons (d_var 5) (a_cons (d_var 6) a_nil))))
    (ss_one (s_if (PW.pt (w_and (t_not (d_test (d_fnH H_l_like (hr.mono (by decide)) (a_cons (d_var 5) (a_cons (d_fnH H_l_by (hr.mono (by decide)) (a_cons (d_var 2) (a_cons (d_sl (d_var 3) o_none (o_some (d_add (d_M_index1 hr (d_var 3) (a_cons (d_var 6) a_nil)) d_int))) a_nil))) a_nil))))) (w_and1 (t_eq hr.units (d_M_count1 hr (d_var 3) (a_cons (d_var 6) a_nil)) d_int)))) (ss_one (s_ret d_bl)) ss_nil)))))))
    (ss_cons (s_set (i := 13) nd (d_lst (a_cons (d_listOf T.b_list (a_cons (d_var 2) a_nil)) (a_cons (d_listOf T.b_list (a_cons (d_var 3) a_nil)) a_nil))))
    (ss_cons (s_set (i := 11) nd (d_fnH H_p_sorted_by (hr.mono (by decide)) (a_cons (d_ix (d_var 13) d_int) (a_cons (d_ix (d_var 13) d_int) a_nil))))
    (ss_cons (s_if (PW.pt (w_or (t_not (d_test (d_fnH H_l_like (hr.mono (by decide)) (a_cons (d_var 11) (a_cons (d_fnH H_l_by (hr.mono (by decide)) (a_cons (d_var 2) (a_cons (d_var 3) a_nil))) a_nil))))) (w_or (t_ne hr.units (d_var 13) (d_lst (a_cons (d_var 2) (a_cons (d_var 3) a_nil)))) (w_or1 (t_ne hr.units (d_var 11) (d_var 5)))))) (ss_one (s_ret d_bl)) ss_nil)
    (ss_cons (s_expr (d_append (d_var 11) (a_cons (d_tup a_nil) a_nil)))
    (ss_one (s_ret (d_and (d_eq hr.units (d_ix (d_var 13) d_int) (d_var 2)) (d_one (d_fnH H_l_like (hr.mono (by decide)) (a_cons (d_fnH H_p_sorted_by (hr.mono (by decide)) (a_cons (d_var 2) (a_cons (d_var 3) a_nil))) (a_cons (d_var 5) a_nil))))))))))))))))
theorem bind_main {K : PySem.W.Frag} {f : Addr} {fd : FuncData} (F : Fun K "law" "law" s_l_main f fd) (s : Shared) (v : Value) : BindsTo s fd ⟨[v], []⟩ [("_law_script", v)] := by
  obtain ⟨oc, od, kV, doc, pm, an, cdv, ct, osl, rfl, lk, hcd⟩ := F.ex
  exact .of_eq rfl
end Go
open PySem PySem.W PyProof.Rows
set_option maxHeartbeats 0 in
theorem PySem.Challenge.cw_holedeck_k03_pockets_holds : PySem.Challenge.rw_holedeck_k03_pockets.Holds :=
  by
  w_on; o_law; k_head; (case hw => w_witness2)
  k_fill
  refine L2.walk_ofB (l := PySem.Challenge.rw_holedeck_k03_pockets) (n := 63) (k := 8) (x := "_law_script") (CX := fun _ => L2.CX0) (sp := fun w => Mi.spD _ 1 Go.F_l_main) rfl (by decide) rfl ⟨rfl, by decide, by decide⟩ (fun w h Y => PySem.W.kIn_of Y) ?F (fun w H a ns hl hb hO hS => Mi.law_sp hO hS (Go.law_true ns hl hb)) (fun _ _ _ _ _ h => h)
  case F =>
    intro w mg fa h KX G hmg
    refine' Mi.with_there "_law_dice" Go.s_l_dice ["_law_script"] KX G ?a ?l ?c ?k ?b (fun t_l_dice => ?_)
    (case a => k_is); (case l => k_is); (case c => k_is); (case k => k_is)
    (case b => exact fun _ _ _ _ _ _ us hl => match us, hl with | [_], _ => rfl)
    refine' Mi.with_there "_law_next" Go.s_l_next ["_law_dice_here", "_law_many"] KX G ?a ?l ?c ?k ?b (fun t_l_next => ?_)
    (case a => k_is); (case l => k_is); (case c => k_is); (case k => k_is)
    (case b => exact fun _ _ _ _ _ _ us hl => match us, hl with | [_, _], _ => rfl)
    refine' Mi.with_there "_law_deck" Go.s_l_deck ["_law_d", "_law_palettes_here", "_law_most"] KX G ?a ?l ?c ?k ?b (fun t_l_deck => ?_)
    (case a => k_is); (case l => k_is); (case c => k_is); (case k => k_is)
    (case b => exact fun _ _ _ _ _ _ us hl => match us, hl with | [_, _, _], _ => rfl)
    refine' Mi.with_there "pocket_of" Go.s_p_pocket_of ["column", "places"] KX G ?a ?l ?c ?k ?b (fun t_p_pocket_of => ?_)
    (case a => k_is); (case l => k_is); (case c => k_is); (case k => k_is)
    (case b => exact fun _ _ _ _ _ _ us hl => match us, hl with | [_, _], _ => rfl)
    refine' Mi.with_there "column_at" Go.s_p_column_at ["card", "at"] KX G ?a ?l ?c ?k ?b (fun t_p_column_at => ?_)
    (case a => k_is); (case l => k_is); (case c => k_is); (case k => k_is)
    (case b => exact fun _ _ _ _ _ _ us hl => match us, hl with | [_, _], _ => rfl)
    refine' Mi.with_there "pockets" Go.s_p_pockets ["deck", "one"] KX G ?a ?l ?c ?k ?b (fun t_p_pockets => ?_)
    (case a => k_is); (case l => k_is); (case c => k_is); (case k => k_is)
    (case b => exact fun _ _ _ _ _ _ us hl => match us, hl with | [_, _], _ => rfl)
    refine' Mi.with_there "passed" Go.s_p_passed ["deck", "one"] KX G ?a ?l ?c ?k ?b (fun t_p_passed => ?_)
    (case a => k_is); (case l => k_is); (case c => k_is); (case k => k_is)
    (case b => exact fun _ _ _ _ _ _ us hl => match us, hl with | [_, _], _ => rfl)
    refine' Mi.with_there "sorted_by" Go.s_p_sorted_by ["deck", "passes"] KX G ?a ?l ?c ?k ?b (fun t_p_sorted_by => ?_)
    (case a => k_is); (case l => k_is); (case c => k_is); (case k => k_is)
    (case b => exact fun _ _ _ _ _ _ us hl => match us, hl with | [_, _], _ => rfl)
    refine' Mi.with_there "_law_columns" Go.s_l_columns [] KX G ?a ?l ?c ?k ?b (fun t_l_columns => ?_)
    (case a => k_is); (case l => k_is); (case c => k_is); (case k => k_is)
    (case b => exact fun _ _ _ _ _ _ us hl => match us, hl with | [], _ => rfl)
    refine' Mi.with_there "_law_palette" Go.s_l_palette ["_law_d"] KX G ?a ?l ?c ?k ?b (fun t_l_palette => ?_)
    (case a => k_is); (case l => k_is); (case c => k_is); (case k => k_is)
    (case b => exact fun _ _ _ _ _ _ us hl => match us, hl with | [_], _ => rfl)
    refine' Mi.with_there "_law_palettes" Go.s_l_palettes ["_law_d"] KX G ?a ?l ?c ?k ?b (fun t_l_palettes => ?_)
    (case a => k_is); (case l => k_is); (case c => k_is); (case k => k_is)
    (case b => exact fun _ _ _ _ _ _ us hl => match us, hl with | [_], _ => rfl)
    refine' Mi.with_there "_law_pass" Go.s_l_pass ["_law_d", "_law_columns_here"] KX G ?a ?l ?c ?k ?b (fun t_l_pass => ?_)
    (case a => k_is); (case l => k_is); (case c => k_is); (case k => k_is)
    (case b => exact fun _ _ _ _ _ _ us hl => match us, hl with | [_, _], _ => rfl)
    refine' Mi.with_there "_law_like" Go.s_l_like ["_law_found", "_law_due"] KX G ?a ?l ?c ?k ?b (fun t_l_like => ?_)
    (case a => k_is); (case l => k_is); (case c => k_is); (case k => k_is)
    (case b => exact fun _ _ _ _ _ _ us hl => match us, hl with | [_, _], _ => rfl)
    refine' Mi.with_there "_law_column" Go.s_l_column ["_law_card", "_law_at"] KX G ?a ?l ?c ?k ?b (fun t_l_column => ?_)
    (case a => k_is); (case l => k_is); (case c => k_is); (case k => k_is)
    (case b => exact fun _ _ _ _ _ _ us hl => match us, hl with | [_, _], _ => rfl)
    refine' Mi.with_there "_law_pocket" Go.s_l_pocket ["_law_card", "_law_one"] KX G ?a ?l ?c ?k ?b (fun t_l_pocket => ?_)
    (case a => k_is); (case l => k_is); (case c => k_is); (case k => k_is)
    (case b => exact fun _ _ _ _ _ _ us hl => match us, hl with | [_, _], _ => rfl)
    refine' Mi.with_there "_law_passed" Go.s_l_passed ["_law_deck_here", "_law_one"] KX G ?a ?l ?c ?k ?b (fun t_l_passed => ?_)
    (case a => k_is); (case l => k_is); (case c => k_is); (case k => k_is)
    (case b => exact fun _ _ _ _ _ _ us hl => match us, hl with | [_, _], _ => rfl)
    refine' Mi.with_there "_law_by" Go.s_l_by ["_law_deck_here", "_law_passes"] KX G ?a ?l ?c ?k ?b (fun t_l_by => ?_)
    (case a => k_is); (case l => k_is); (case c => k_is); (case k => k_is)
    (case b => exact fun _ _ _ _ _ _ us hl => match us, hl with | [_, _], _ => rfl)
    refine' Mi.with_there "law" Go.s_l_main ["_law_script"] KX G ?a ?l ?c ?k ?b (fun t_l_main => ?_)
    (case a => k_is); (case l => k_is); (case c => k_is); (case k => k_is)
    (case b => exact fun _ _ _ _ _ _ us hl => match us, hl with | [_], _ => rfl)
    refine' Mi.with_none "bool" KX G ?z (fun b_bool => ?_)
    (case z => k_is)
    refine' Mi.with_none "int" KX G ?z (fun b_int => ?_)
    (case z => k_is)
    refine' Mi.with_none "isinstance" KX G ?z (fun b_isinstance => ?_)
    (case z => k_is)
    refine' Mi.with_none "len" KX G ?z (fun b_len => ?_)
    (case z => k_is)
    refine' Mi.with_none "list" KX G ?z (fun b_list => ?_)
    (case z => k_is)
    refine' Mi.with_none "min" KX G ?z (fun b_min => ?_)
    (case z => k_is)
    refine' Mi.with_none "range" KX G ?z (fun b_range => ?_)
    (case z => k_is)
    refine' Mi.with_none "str" KX G ?z (fun b_str => ?_)
    (case z => k_is)
    refine' Mi.with_none "tuple" KX G ?z (fun b_tuple => ?_)
    (case z => k_is)
    refine' Mi.with_int "HOLES" 12 KX G ?z (fun g_HOLES => ?_)
    (case z => k_is)
    have T : Go.Txt _ mg := { t_l_dice := t_l_dice, t_l_next := t_l_next, t_l_deck := t_l_deck, t_p_pocket_of := t_p_pocket_of, t_p_column_at := t_p_column_at, t_p_pockets := t_p_pockets, t_p_passed := t_p_passed, t_p_sorted_by := t_p_sorted_by, t_l_columns := t_l_columns, t_l_palette := t_l_palette, t_l_palettes := t_l_palettes, t_l_pass := t_l_pass, t_l_like := t_l_like, t_l_column := t_l_column, t_l_pocket := t_l_pocket, t_l_passed := t_l_passed, t_l_by := t_l_by, t_l_main := t_l_main, b_bool := b_bool, b_int := b_int, b_isinstance := b_isinstance, b_len := b_len, b_list := b_list, b_min := b_min, b_range := b_range, b_str := b_str, b_tuple := b_tuple, g_HOLES := g_HOLES }
    obtain ⟨f, fd, F, hm, _⟩ := t_l_main
    have e : PySem.Value.ref f = PySem.Value.ref fa := Option.some.inj (hm.symm.trans hmg)
    cases e
    exact ⟨fd, Go.bind_main F, fun base _ _ => Go.ok_all T F⟩
