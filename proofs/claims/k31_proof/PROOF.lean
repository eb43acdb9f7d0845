import PyProof.Rows.All
import HandS.ForMost
import HandS.Style
import HandS.TupAny
import HandS.TupMul
import HandS.Conv
import HandS.Walk
import HandS.Zip
import HandS.SortInts
import KE.KeyNested
import HandS.Deep
import KE.GoesMore
import PyProof.CallFns
import HandS.IsInst
import HandS.SetFor
import HandS.Wide
import HandS.Strs
import PyProof.ListMulRoad
import PyProof.FactsAll.tuple_2
import HandS.NoneIn
import PySem.Challenge.RW_shareforsure_k31_rises_shares_pulls
set_option Elab.async false
set_option linter.all false
set_option maxRecDepth 100000
section
/-! Values with tuples and frozen lists as plain data, changing lists and dicts at places; what holds between them and the layer's heap. -/
namespace VI
open PySem PySem.Spec PyProof.Rows L2

inductive IV where
  | non | bl (b : Bool) | int (i : Int) | str (x : Str) | tup (xs : List IV) | fl (xs : List IV) | fz (xs : List IV) | loc (l : Nat)
/-- other things that stand at a place: a dict whose keys are nested tuples, an object of an own class -/
inductive IX where
  | dN (kvs : List (NestedKey × IV)) | ob (c : Str) (fs : List (Str × IV))
/-- what stands at a place -/
inductive IO where
  | lst (xs : List IV) | dK (kvs : List (Key × IV)) | oth (t : IX)
abbrev Mem := List IO
abbrev Sl := List (Option IV)
/-- an exception: its class, its fields -/
structure Ex where
  cls : Str
  fs : List (Str × IV)
inductive Ret (α : Type) where
  | ok (a : α) (h : Mem) | ex (e : Ex) (h : Mem) | bad
def Ret.bind {α β : Type} (r : Ret α) (f : α → Mem → Ret β) : Ret β := match r with
  | .ok a h => f a h
  | .ex e h => .ex e h
  | .bad => .bad
@[simp] theorem Ret.bind_ok {α β : Type} (a : α) (h : Mem) (f : α → Mem → Ret β) : (Ret.ok a h).bind f = f a h := rfl
@[simp] theorem Ret.bind_bad {α β : Type} (f : α → Mem → Ret β) : (Ret.bad : Ret α).bind f = .bad := rfl
@[simp] theorem Ret.bind_ex {α β : Type} (e : Ex) (h : Mem) (f : α → Mem → Ret β) : (Ret.ex e h : Ret α).bind f = .ex e h := rfl

/-- a list of the written part -/
def KL (K : PySem.W.Frag) (a : Addr) (xs : List V) : Prop := ∃ (o : Obj) (its : Array Value) (n : Nat), K.lookup a = some o ∧ o.cls = .type "list" ∧ o.dict = none ∧ o.data = .seq its n ∧ its.size ≤ sizeLine ∧ Vals xs its.toList
section
variable (K : PySem.W.Frag)
mutual
inductive VR : List Addr → List Addr → Hp → IV → V → Prop
  | non {μ z H} : VR μ z H .non .non
  | bl {μ z H} (b : Bool) : VR μ z H (.bl b) (.bl b)
  | int {μ z H} (i : Int) : VR μ z H (.int i) (.int i)
  | str {μ z H} (x : Str) : VR μ z H (.str x) (.str x)
  | tup {μ z H} {a : Addr} {xs : List IV} {vs : List V} : SqT K H a vs → VRs μ z H xs vs → VR μ z H (.tup xs) (.ref a)
  | fl {μ z H} {a : Addr} {xs : List IV} {vs : List V} : H a = some (.lst vs) → a ∉ μ → a ∉ z → VRs μ z H xs vs → VR μ z H (.fl xs) (.ref a)
  | fz {μ z H} {a : Addr} {xs : List IV} {vs : List V} : ((∃ o, H a = some (.frz o (.lst vs))) ∨ KL K a vs) → VRs μ z H xs vs → VR μ z H (.fz xs) (.ref a)
  | loc {μ z H} {a : Addr} {l : Nat} : μ[l]? = some a → VR μ z H (.loc l) (.ref a)
inductive VRs : List Addr → List Addr → Hp → List IV → List V → Prop
  | nil {μ z H} : VRs μ z H [] []
  | cons {μ z H} {x : IV} {v : V} {xs : List IV} {vs : List V} : VR μ z H x v → VRs μ z H xs vs → VRs μ z H (x :: xs) (v :: vs)
end
end

/-- what may not change: tuples, locked things -/
def Imm : HO → Prop
  | .tup _ => True
  | .frz _ _ => True
  | _ => False
/-- from one heap to a later one: places are added, all but the places' objects stay -/
structure Step (μ : List Addr) (H : Hp) (μ' : List Addr) (H' : Hp) : Prop where
  ext : ∃ ns, μ' = μ ++ ns ∧ ∀ a ∈ ns, H a = none
  keep : ∀ a o, H a = some o → a ∉ μ → H' a = some o
  imm : ∀ a o, H a = some o → Imm o → H' a = some o
  there : ∀ a o, H a = some o → ∃ o', H' a = some o'

section
variable {K : PySem.W.Frag} {μ μ1 μ2 μ' z : List Addr} {H H1 H2 H' : Hp}
theorem Step.refl : Step μ H μ H := ⟨⟨[], by simp, by simp⟩, fun _ _ h _ => h, fun _ _ h _ => h, fun _ o h => ⟨o, h⟩⟩
theorem Step.trans (s : Step μ H μ1 H1) (t : Step μ1 H1 μ2 H2) : Step μ H μ2 H2 := by
  obtain ⟨n1, e1, f1⟩ := s.ext
  obtain ⟨n2, e2, f2⟩ := t.ext
  refine ⟨⟨n1 ++ n2, by rw [e2, e1, List.append_assoc], fun a ha => ?_⟩, fun a o h n => ?_, fun a o h i => t.imm a o (s.imm a o h i) i, fun a o h => ?_⟩
  · rcases List.mem_append.mp ha with q | q
    · exact f1 a q
    · cases e : H a with
      | none => rfl
      | some o =>
        obtain ⟨o', e'⟩ := s.there a o e
        rw [f2 a q] at e'
        cases e'
  · refine t.keep a o (s.keep a o h n) fun m => ?_
    rw [e1] at m
    rcases List.mem_append.mp m with q | q
    · exact n q
    · rw [f1 a q] at h
      cases h
  · obtain ⟨o1, h1⟩ := s.there a o h
    exact t.there a o1 h1
theorem Step.get (s : Step μ H μ' H') {l : Nat} {a : Addr} (h : μ[l]? = some a) : μ'[l]? = some a := by
  obtain ⟨ns, e, _⟩ := s.ext
  rw [e, List.getElem?_append_left (List.getElem?_eq_some_iff.mp h).1]
  exact h
theorem Step.out (s : Step μ H μ' H') {a : Addr} {o : HO} (h : H a = some o) (n : a ∉ μ) : a ∉ μ' := by
  obtain ⟨ns, e, f⟩ := s.ext
  rw [e]
  intro m
  rcases List.mem_append.mp m with q | q
  · exact n q
  · rw [f a q] at h
    cases h
theorem Rd.there {a : Addr} {u : HO} (h : Rd H a u) : ∃ o, H a = some o := by
  rcases h with h | ⟨o, h⟩
  · exact ⟨_, h⟩
  · exact ⟨_, h⟩
mutual
theorem VR.step (s : Step μ H μ' H') : ∀ {x : IV} {v : V}, VR K μ z H x v → VR K μ' z H' x v
  | _, _, .non => .non
  | _, _, .bl b => .bl b
  | _, _, .int i => .int i
  | _, _, .str x => .str x
  | _, _, .tup h r => by
    refine .tup ?_ (VRs.step s r)
    rcases h with (h | ⟨o, h⟩) | h
    · exact .inl (.inl (s.imm _ _ h trivial))
    · exact .inl (.inr ⟨o, s.imm _ _ h trivial⟩)
    · exact .inr h
  | _, _, .fl h n m r => .fl (s.keep _ _ h n) (s.out h n) m (VRs.step s r)
  | _, _, .fz h r => .fz (h.imp (fun ⟨o, e⟩ => ⟨o, s.imm _ _ e trivial⟩) id) (VRs.step s r)
  | _, _, .loc h => .loc (s.get h)
theorem VRs.step (s : Step μ H μ' H') : ∀ {xs : List IV} {vs : List V}, VRs K μ z H xs vs → VRs K μ' z H' xs vs
  | _, _, .nil => .nil
  | _, _, .cons r t => .cons (VR.step s r) (VRs.step s t)
end
theorem VRs.length : ∀ {xs : List IV} {vs : List V}, VRs K μ z H xs vs → xs.length = vs.length
  | _, _, .nil => rfl
  | _, _, .cons _ t => by rw [List.length_cons, List.length_cons, VRs.length t]
theorem VRs.get : ∀ {xs : List IV} {vs : List V} {i : Nat} {x : IV}, VRs K μ z H xs vs → xs[i]? = some x → ∃ v, vs[i]? = some v ∧ VR K μ z H x v
  | _, _, _, _, .nil, e => by simp at e
  | _, _, 0, _, .cons r _, e => by
    simp at e
    subst e
    exact ⟨_, rfl, r⟩
  | _, _, i + 1, x, .cons _ t, e => by
    obtain ⟨u, h1, h2⟩ := VRs.get (i := i) (x := x) t (by simpa using e)
    exact ⟨u, by simpa using h1, h2⟩
theorem VRs.get' : ∀ {xs : List IV} {vs : List V} {i : Nat} {v : V}, VRs K μ z H xs vs → vs[i]? = some v → ∃ x, xs[i]? = some x ∧ VR K μ z H x v
  | _, _, _, _, .nil, e => by simp at e
  | _, _, 0, _, .cons r _, e => by
    simp at e
    subst e
    exact ⟨_, rfl, r⟩
  | _, _, i + 1, x, .cons _ t, e => by
    obtain ⟨u, h1, h2⟩ := VRs.get' (i := i) (v := x) t (by simpa using e)
    exact ⟨u, by simpa using h1, h2⟩
theorem VRs.append : ∀ {xs ys : List IV} {vs ws : List V}, VRs K μ z H xs vs → VRs K μ z H ys ws → VRs K μ z H (xs ++ ys) (vs ++ ws)
  | _, _, _, _, .nil, s => s
  | _, _, _, _, .cons r t, s => .cons r (VRs.append t s)
theorem VRs.set {x : IV} {v : V} (r : VR K μ z H x v) : ∀ {xs : List IV} {vs : List V} (i : Nat), VRs K μ z H xs vs → VRs K μ z H (xs.set i x) (vs.set i v)
  | _, _, _, .nil => .nil
  | _, _, 0, .cons _ t => .cons r t
  | _, _, i + 1, .cons q t => .cons q (VRs.set r i t)
theorem VRs.take : ∀ {xs : List IV} {vs : List V} (n : Nat), VRs K μ z H xs vs → VRs K μ z H (xs.take n) (vs.take n)
  | _, _, 0, _ => .nil
  | _, _, _ + 1, .nil => .nil
  | _, _, n + 1, .cons r t => .cons r (VRs.take n t)
theorem VRs.drop : ∀ {xs : List IV} {vs : List V} (n : Nat), VRs K μ z H xs vs → VRs K μ z H (xs.drop n) (vs.drop n)
  | _, _, 0, r => r
  | _, _, _ + 1, .nil => .nil
  | _, _, n + 1, .cons _ t => VRs.drop n t
theorem VRs.rep {xs : List IV} {vs : List V} (r : VRs K μ z H xs vs) : ∀ n : Nat, VRs K μ z H (List.replicate n xs).flatten (List.replicate n vs).flatten
  | 0 => .nil
  | n + 1 => by
    rw [List.replicate_succ, List.replicate_succ, List.flatten_cons, List.flatten_cons]
    exact r.append (VRs.rep r n)
theorem VRs.rev : ∀ {xs : List IV} {vs : List V}, VRs K μ z H xs vs → VRs K μ z H xs.reverse vs.reverse
  | _, _, .nil => .nil
  | _, _, .cons r t => by
    rw [List.reverse_cons, List.reverse_cons]
    exact (VRs.rev t).append (.cons r .nil)
theorem VRs.erase : ∀ {xs : List IV} {vs : List V} (n : Nat), VRs K μ z H xs vs → VRs K μ z H (xs.eraseIdx n) (vs.eraseIdx n)
  | _, _, _, .nil => .nil
  | _, _, 0, .cons _ t => t
  | _, _, n + 1, .cons r t => .cons r (VRs.erase n t)
theorem VRs.last : ∀ {xs : List IV} {vs : List V}, VRs K μ z H xs vs → VRs K μ z H xs.dropLast vs.dropLast := fun {xs vs} r => by
  rw [List.dropLast_eq_take, List.dropLast_eq_take, r.length]
  exact r.take _
theorem VRs.ints : ∀ {ns : List Int} {vs : List V}, VRs K μ z H (ns.map IV.int) vs → vs = ns.map V.int
  | [], _, .nil => rfl
  | n :: ns, _, .cons r t => by
    cases r
    rw [VRs.ints t]
    rfl
theorem VRs.ofInts : ∀ ns : List Int, VRs K μ z H (ns.map IV.int) (ns.map V.int)
  | [] => .nil
  | n :: ns => .cons (.int n) (VRs.ofInts ns)
theorem VRs.bls : ∀ {ns : List Bool} {vs : List V}, VRs K μ z H (ns.map IV.bl) vs → vs = ns.map V.bl
  | [], _, .nil => rfl
  | n :: ns, _, .cons r t => by
    cases r
    rw [VRs.bls t]
    rfl
end

/-! ### the heap -/
inductive KRs (K : PySem.W.Frag) (μ z : List Addr) (H : Hp) : List (Key × IV) → List (Key × V) → Prop
  | nil : KRs K μ z H [] []
  | cons {k : Key} {x : IV} {v : V} {xs : List (Key × IV)} {vs : List (Key × V)} : VR K μ z H x v → KRs K μ z H xs vs → KRs K μ z H ((k, x) :: xs) ((k, v) :: vs)
/-- an object's fields -/
inductive FRs (K : PySem.W.Frag) (μ z : List Addr) (H : Hp) : List (Str × IV) → List (Str × V) → Prop
  | nil : FRs K μ z H [] []
  | cons {k : Str} {x : IV} {v : V} {xs : List (Str × IV)} {vs : List (Str × V)} : VR K μ z H x v → FRs K μ z H xs vs → FRs K μ z H ((k, x) :: xs) ((k, v) :: vs)
mutual
/-- a key as a value -/
def ivN : NestedKey → IV
  | .none => .non
  | .num i => .int i
  | .text x => .str x
  | .tup ks => .tup (ivNs ks)
def ivNs : List NestedKey → List IV
  | [] => []
  | k :: ks => ivN k :: ivNs ks
end
mutual
/-- a key's hash, no text being in it -/
def hashN : NestedKey → Int
  | .none => reduceHash 0xFCA86420
  | .num i => hashInt i
  | .text _ => 0
  | .tup ks => reduceHash (Builtin.Tuple.tupleHashOf (hashNs ks))
def hashNs : List NestedKey → List Int
  | [] => []
  | k :: ks => hashN k :: hashNs ks
end
/-- the entries of a dict with nested keys: the key, where its tuple stands, the value -/
inductive NRs (K : PySem.W.Frag) (μ z : List Addr) (H : Hp) : List (NestedKey × IV) → List (NestedKey × Addr × V) → Prop
  | nil : NRs K μ z H [] []
  | cons {k : NestedKey} {x : IV} {b : Addr} {v : V} {xs : List (NestedKey × IV)} {vs : List (NestedKey × Addr × V)} : VR K μ z H (ivN k) (.ref b) → VR K μ z H x v → NRs K μ z H xs vs → NRs K μ z H ((k, x) :: xs) ((k, b, v) :: vs)
/-- at a stands a dict of these entries -/
def isN (a : Addr) (es : List (NestedKey × Addr × V)) (h : Heap) : Prop := ∃ (o : Obj) (arr : Array DictEntry) (ep : Nat) (us : List Value), h.get? a = some o ∧ o.ExactDict ∧ o.data = .dict arr ep ∧ Vals (es.map (·.2.2)) us ∧ arr.toList = (es.zip us).map (fun p => ⟨hashN p.1.1, .ref p.1.2.1, p.2⟩)
inductive XR (K : PySem.W.Frag) (μ z : List Addr) (H : Hp) (a : Addr) : IX → HO → Prop
  | ob {c : Str} {C dx : Addr} {fs vs} : PySem.W.nsIn K mainGlobals c = some (some (.ref C)) → FRs K μ z H fs vs → XR K μ z H a (.ob c fs) (.ins C dx vs)
  | dN {xs es} : NRs K μ z H xs es → XR K μ z H a (.dN xs) (.ext (isN a es))
inductive OR (K : PySem.W.Frag) (μ z : List Addr) (H : Hp) (a : Addr) : IO → HO → Prop
  | lst {xs vs} : VRs K μ z H xs vs → OR K μ z H a (.lst xs) (.lst vs)
  | dK {xs vs} : KRs K μ z H xs vs → OR K μ z H a (.dK xs) (.dK vs)
  | oth {t u} : XR K μ z H a t u → OR K μ z H a (.oth t) u
structure HR (K : PySem.W.Frag) (μ z : List Addr) (h : Mem) (H : Hp) : Prop where
  len : h.length = μ.length
  nd : μ.Nodup
  ob : ∀ (l : Nat) (a : Addr) (o : IO), μ[l]? = some a → h[l]? = some o → ∃ u, H a = some u ∧ OR K μ z H a o u
  zz : ∀ a ∈ z, a ∉ μ ∧ ∃ o, H a = some o
section
variable {K : PySem.W.Frag} {μ μ1 μ2 μ' z : List Addr} {H H1 H2 H' : Hp} {h h' : Mem}
theorem KRs.step (s : Step μ H μ' H') : ∀ {xs : List (Key × IV)} {vs : List (Key × V)}, KRs K μ z H xs vs → KRs K μ' z H' xs vs
  | _, _, .nil => .nil
  | _, _, .cons r t => .cons (r.step s) (KRs.step s t)
theorem KRs.length : ∀ {xs : List (Key × IV)} {vs : List (Key × V)}, KRs K μ z H xs vs → xs.length = vs.length
  | _, _, .nil => rfl
  | _, _, .cons _ t => by rw [List.length_cons, List.length_cons, KRs.length t]
theorem FRs.step (s : Step μ H μ' H') : ∀ {xs : List (Str × IV)} {vs : List (Str × V)}, FRs K μ z H xs vs → FRs K μ' z H' xs vs
  | _, _, .nil => .nil
  | _, _, .cons r t => .cons (r.step s) (FRs.step s t)
theorem NRs.step (s : Step μ H μ' H') : ∀ {xs : List (NestedKey × IV)} {vs : List (NestedKey × Addr × V)}, NRs K μ z H xs vs → NRs K μ' z H' xs vs
  | _, _, .nil => .nil
  | _, _, .cons q r t => .cons (q.step s) (r.step s) (NRs.step s t)
theorem XR.step (s : Step μ H μ' H') {a : Addr} {o : IX} {u : HO} (r : XR K μ z H a o u) : XR K μ' z H' a o u := by
  cases r with
  | ob h r => exact .ob h (r.step s)
  | dN r => exact .dN (r.step s)
theorem OR.step (s : Step μ H μ' H') {a : Addr} {o : IO} {u : HO} (r : OR K μ z H a o u) : OR K μ' z H' a o u := by
  cases r with
  | lst r => exact .lst (r.step s)
  | dK r => exact .dK (r.step s)
  | oth r => exact .oth (r.step s)
theorem HR.mem (r : HR K μ z h H) {a : Addr} (m : a ∈ μ) : ∃ u, H a = some u := by
  obtain ⟨l, hl⟩ := List.mem_iff_getElem?.mp m
  have h2 : l < h.length := by
    rw [r.len]
    exact (List.getElem?_eq_some_iff.mp hl).1
  obtain ⟨u, e, _⟩ := r.ob l a h[l] hl (List.getElem?_eq_getElem h2)
  exact ⟨u, e⟩
theorem HR.fresh (r : HR K μ z h H) {a : Addr} (n : H a = none) : a ∉ μ ∧ a ∉ z := by
  refine ⟨fun m => ?_, fun m => ?_⟩
  · obtain ⟨u, e⟩ := r.mem m
    rw [n] at e
    cases e
  · obtain ⟨_, u, e⟩ := r.zz a m
    rw [n] at e
    cases e
/-- the place's object -/
theorem HR.at (r : HR K μ z h H) {l : Nat} {o : IO} (e : h[l]? = some o) : ∃ a u, μ[l]? = some a ∧ H a = some u ∧ OR K μ z H a o u := by
  have h2 : l < μ.length := by
    rw [← r.len]
    exact (List.getElem?_eq_some_iff.mp e).1
  obtain ⟨u, e1, e2⟩ := r.ob l μ[l] o (List.getElem?_eq_getElem h2) e
  exact ⟨_, u, List.getElem?_eq_getElem h2, e1, e2⟩
/-- something new that is no place -/
theorem Step.new {p : Addr} {o : HO} (n : H p = none) : Step μ H μ (upd H p o) :=
  ⟨⟨[], by simp, by simp⟩, fun a u e _ => by rw [upd_ne (ne_of_none e n)]; exact e, fun a u e _ => by rw [upd_ne (ne_of_none e n)]; exact e, fun a u e => ⟨u, by rw [upd_ne (ne_of_none e n)]; exact e⟩⟩
theorem HR.step (r : HR K μ z h H) (s : Step μ H μ H') (k : ∀ a ∈ μ, H' a = H a) : HR K μ z h H' :=
  ⟨r.len, r.nd, fun l a o e1 e2 => by
    obtain ⟨u, e3, q⟩ := r.ob l a o e1 e2
    exact ⟨u, by rw [k a (List.mem_of_getElem? e1)]; exact e3, q.step s⟩, fun a m => ⟨(r.zz a m).1, by
    obtain ⟨o, e⟩ := (r.zz a m).2
    exact s.there a o e⟩⟩
theorem HR.new (r : HR K μ z h H) {p : Addr} {o : HO} (n : H p = none) : HR K μ z h (upd H p o) :=
  r.step (Step.new n) fun a m => upd_ne fun e => (r.fresh n).1 (e ▸ m)
/-- a place's object changes -/
theorem Step.put (r : HR K μ z h H) {l : Nat} {a : Addr} {o : HO} (e : μ[l]? = some a) {u : HO} (ea : H a = some u) (ni : ¬ Imm u) : Step μ H μ (upd H a o) := by
  have m := List.mem_of_getElem? e
  refine ⟨⟨[], by simp, by simp⟩, fun b w q n => ?_, fun b w q i => ?_, fun b w q => ?_⟩
  · have nb0 : b ≠ a := fun zz => n (by rw [zz]; exact m)
    rw [upd_ne nb0]
    exact q
  · have nb : b ≠ a := fun z => by
      subst z
      rw [ea] at q
      cases q
      exact ni i
    rw [upd_ne nb]
    exact q
  · by_cases hb : b = a
    · subst hb
      exact ⟨o, upd_same⟩
    · exact ⟨w, by rw [upd_ne hb]; exact q⟩
theorem HR.put (r : HR K μ z h H) {l : Nat} {a : Addr} {o : HO} {i : IO} (e : μ[l]? = some a) (s : Step μ H μ (upd H a o)) (q : OR K μ z (upd H a o) a i o) : HR K μ z (h.set l i) (upd H a o) := by
  refine ⟨by rw [List.length_set]; exact r.len, r.nd, fun k b w e1 e2 => ?_, fun b m => ⟨(r.zz b m).1, ?_⟩⟩
  · by_cases hk : k = l
    · subst hk
      rw [e] at e1
      cases e1
      have hl : k < h.length := by
        rw [r.len]
        exact (List.getElem?_eq_some_iff.mp e).1
      rw [List.getElem?_set_self hl] at e2
      cases e2
      exact ⟨o, upd_same, q⟩
    · rw [List.getElem?_set_ne (Ne.symm hk)] at e2
      obtain ⟨u, e3, q3⟩ := r.ob k b w e1 e2
      refine ⟨u, ?_, q3.step s⟩
      have nb : b ≠ a := fun z => by
        subst z
        obtain ⟨h1, g1⟩ := List.getElem?_eq_some_iff.mp e
        obtain ⟨h2, g2⟩ := List.getElem?_eq_some_iff.mp e1
        exact hk ((List.getElem_inj r.nd).mp (g2.trans g1.symm))
      rw [upd_ne nb]
      exact e3
  · obtain ⟨o', e'⟩ := (r.zz b m).2
    exact s.there b o' e'
/-- a frozen new thing becomes a place -/
theorem Step.alloc {p : Addr} (s : Step μ H μ' H') (n : H p = none) (n' : p ∉ μ') : Step μ H (μ' ++ [p]) H' := by
  obtain ⟨ns, e, f⟩ := s.ext
  refine ⟨⟨ns ++ [p], by rw [e, List.append_assoc], fun a m => ?_⟩, s.keep, s.imm, s.there⟩
  rcases List.mem_append.mp m with q | q
  · exact f a q
  · rw [List.mem_singleton.mp q]
    exact n
mutual
theorem VR.unhide {p : Addr} : ∀ {x : IV} {v : V}, VR K μ (p :: z) H x v → VR K (μ ++ [p]) z H x v
  | _, _, .non => .non
  | _, _, .bl b => .bl b
  | _, _, .int i => .int i
  | _, _, .str x => .str x
  | _, _, .tup h r => .tup h (VRs.unhide r)
  | _, _, .fl h n m r => .fl h (fun q => by
      rcases List.mem_append.mp q with q | q
      · exact n q
      · exact m (by rw [List.mem_singleton.mp q]; exact List.mem_cons_self)) (fun q => m (List.mem_cons_of_mem _ q)) (VRs.unhide r)
  | _, _, .fz h r => .fz h (VRs.unhide r)
  | _, _, .loc h => .loc (by rw [List.getElem?_append_left (List.getElem?_eq_some_iff.mp h).1]; exact h)
theorem VRs.unhide {p : Addr} : ∀ {xs : List IV} {vs : List V}, VRs K μ (p :: z) H xs vs → VRs K (μ ++ [p]) z H xs vs
  | _, _, .nil => .nil
  | _, _, .cons r t => .cons (VR.unhide r) (VRs.unhide t)
end
mutual
theorem VR.show {p : Addr} : ∀ {x : IV} {v : V}, VR K μ (p :: z) H x v → VR K μ z H x v
  | _, _, .non => .non
  | _, _, .bl b => .bl b
  | _, _, .int i => .int i
  | _, _, .str x => .str x
  | _, _, .tup h r => .tup h (VRs.show r)
  | _, _, .fl h n m r => .fl h n (fun q => m (List.mem_cons_of_mem _ q)) (VRs.show r)
  | _, _, .fz h r => .fz h (VRs.show r)
  | _, _, .loc h => .loc h
theorem VRs.show {p : Addr} : ∀ {xs : List IV} {vs : List V}, VRs K μ (p :: z) H xs vs → VRs K μ z H xs vs
  | _, _, .nil => .nil
  | _, _, .cons r t => .cons (VR.show r) (VRs.show t)
end
mutual
theorem VR.hide {p : Addr} (n : H p = none ∨ p ∈ μ) : ∀ {x : IV} {v : V}, VR K μ z H x v → VR K μ (p :: z) H x v
  | _, _, .non => .non
  | _, _, .bl b => .bl b
  | _, _, .int i => .int i
  | _, _, .str x => .str x
  | _, _, .tup h r => .tup h (VRs.hide n r)
  | _, _, .fl h n1 m r => .fl h n1 (fun q => by
      rcases List.mem_cons.mp q with q | q
      · subst q
        rcases n with n | n
        · rw [n] at h
          cases h
        · exact n1 n
      · exact m q) (VRs.hide n r)
  | _, _, .fz h r => .fz h (VRs.hide n r)
  | _, _, .loc h => .loc h
theorem VRs.hide {p : Addr} (n : H p = none ∨ p ∈ μ) : ∀ {xs : List IV} {vs : List V}, VRs K μ z H xs vs → VRs K μ (p :: z) H xs vs
  | _, _, .nil => .nil
  | _, _, .cons r t => .cons (VR.hide n r) (VRs.hide n t)
end
theorem KRs.unhide {p : Addr} : ∀ {xs : List (Key × IV)} {vs : List (Key × V)}, KRs K μ (p :: z) H xs vs → KRs K (μ ++ [p]) z H xs vs
  | _, _, .nil => .nil
  | _, _, .cons r t => .cons r.unhide (KRs.unhide t)
theorem KRs.show {p : Addr} : ∀ {xs : List (Key × IV)} {vs : List (Key × V)}, KRs K μ (p :: z) H xs vs → KRs K μ z H xs vs
  | _, _, .nil => .nil
  | _, _, .cons r t => .cons r.show (KRs.show t)
theorem KRs.hide {p : Addr} (n : H p = none ∨ p ∈ μ) : ∀ {xs : List (Key × IV)} {vs : List (Key × V)}, KRs K μ z H xs vs → KRs K μ (p :: z) H xs vs
  | _, _, .nil => .nil
  | _, _, .cons r t => .cons (r.hide n) (KRs.hide n t)
theorem FRs.unhide {p : Addr} : ∀ {xs : List (Str × IV)} {vs : List (Str × V)}, FRs K μ (p :: z) H xs vs → FRs K (μ ++ [p]) z H xs vs
  | _, _, .nil => .nil
  | _, _, .cons r t => .cons r.unhide (FRs.unhide t)
theorem FRs.show {p : Addr} : ∀ {xs : List (Str × IV)} {vs : List (Str × V)}, FRs K μ (p :: z) H xs vs → FRs K μ z H xs vs
  | _, _, .nil => .nil
  | _, _, .cons r t => .cons r.show (FRs.show t)
theorem FRs.hide {p : Addr} (n : H p = none ∨ p ∈ μ) : ∀ {xs : List (Str × IV)} {vs : List (Str × V)}, FRs K μ z H xs vs → FRs K μ (p :: z) H xs vs
  | _, _, .nil => .nil
  | _, _, .cons r t => .cons (r.hide n) (FRs.hide n t)
theorem NRs.unhide {p : Addr} : ∀ {xs : List (NestedKey × IV)} {vs : List (NestedKey × Addr × V)}, NRs K μ (p :: z) H xs vs → NRs K (μ ++ [p]) z H xs vs
  | _, _, .nil => .nil
  | _, _, .cons q r t => .cons q.unhide r.unhide (NRs.unhide t)
theorem NRs.show {p : Addr} : ∀ {xs : List (NestedKey × IV)} {vs : List (NestedKey × Addr × V)}, NRs K μ (p :: z) H xs vs → NRs K μ z H xs vs
  | _, _, .nil => .nil
  | _, _, .cons q r t => .cons q.show r.show (NRs.show t)
theorem NRs.hide {p : Addr} (n : H p = none ∨ p ∈ μ) : ∀ {xs : List (NestedKey × IV)} {vs : List (NestedKey × Addr × V)}, NRs K μ z H xs vs → NRs K μ (p :: z) H xs vs
  | _, _, .nil => .nil
  | _, _, .cons q r t => .cons (q.hide n) (r.hide n) (NRs.hide n t)
theorem OR.unhide {p a : Addr} {o : IO} {u : HO} (r : OR K μ (p :: z) H a o u) : OR K (μ ++ [p]) z H a o u := by
  cases r with
  | lst r => exact .lst r.unhide
  | dK r => exact .dK r.unhide
  | oth r =>
    cases r with
    | ob h r => exact .oth (.ob h r.unhide)
    | dN r => exact .oth (.dN r.unhide)
theorem OR.show {p a : Addr} {o : IO} {u : HO} (r : OR K μ (p :: z) H a o u) : OR K μ z H a o u := by
  cases r with
  | lst r => exact .lst r.show
  | dK r => exact .dK r.show
  | oth r =>
    cases r with
    | ob h r => exact .oth (.ob h r.show)
    | dN r => exact .oth (.dN r.show)
theorem OR.hide {p a : Addr} (n : H p = none ∨ p ∈ μ) {o : IO} {u : HO} (r : OR K μ z H a o u) : OR K μ (p :: z) H a o u := by
  cases r with
  | lst r => exact .lst (r.hide n)
  | dK r => exact .dK (r.hide n)
  | oth r =>
    cases r with
    | ob h r => exact .oth (.ob h (r.hide n))
    | dN r => exact .oth (.dN (r.hide n))
theorem HR.show {p : Addr} (r : HR K μ (p :: z) h H) : HR K μ z h H :=
  ⟨r.len, r.nd, fun l a o e1 e2 => by
    obtain ⟨u, e3, q⟩ := r.ob l a o e1 e2
    exact ⟨u, e3, q.show⟩, fun a m => r.zz a (List.mem_cons_of_mem _ m)⟩
theorem HR.unhide {p : Addr} (r : HR K μ (p :: z) h H) (hz : p ∉ z) {o : IO} {u : HO} (e : H p = some u) (q : OR K μ (p :: z) H p o u) : HR K (μ ++ [p]) z (h ++ [o]) H := by
  have np : p ∉ μ := (r.zz p List.mem_cons_self).1
  refine ⟨by rw [List.length_append, List.length_append, r.len]; rfl, ?_, fun l a w e1 e2 => ?_, fun a m => ⟨fun m2 => ?_, (r.zz a (List.mem_cons_of_mem _ m)).2⟩⟩
  · exact List.nodup_append.mpr ⟨r.nd, by simp, fun a ha b hb => by
      rw [List.mem_singleton.mp hb]
      intro z2
      exact np (z2 ▸ ha)⟩
  · by_cases hl : l < μ.length
    · rw [List.getElem?_append_left hl] at e1
      rw [List.getElem?_append_left (by rw [r.len]; exact hl)] at e2
      obtain ⟨u2, e3, q2⟩ := r.ob l a w e1 e2
      exact ⟨u2, e3, q2.unhide⟩
    · rw [List.getElem?_append_right (by omega)] at e1
      rw [List.getElem?_append_right (by rw [r.len]; omega), r.len] at e2
      have hz2 : l - μ.length = 0 := by
        cases hh : l - μ.length with
        | zero => rfl
        | succ n =>
          rw [hh] at e1
          simp at e1
      rw [hz2] at e1 e2
      simp at e1 e2
      subst e1
      subst e2
      exact ⟨u, e, q.unhide⟩
  · rcases List.mem_append.mp m2 with m2 | m2
    · exact (r.zz a (List.mem_cons_of_mem _ m)).1 m2
    · rw [List.mem_singleton.mp m2] at m
      exact hz m
/-- a new thing is hidden -/
theorem HR.hideNew (r : HR K μ z h H) {p : Addr} {o : HO} (n : H p = none) : HR K μ (p :: z) h (upd H p o) := by
  have r2 := r.new (o := o) n
  refine ⟨r.len, r.nd, fun l a w e1 e2 => ?_, fun a m => ?_⟩
  · obtain ⟨u, e3, q⟩ := r.ob l a w e1 e2
    have na : a ≠ p := fun zz => (r.fresh n).1 (by rw [← zz]; exact List.mem_of_getElem? e1)
    exact ⟨u, by rw [upd_ne na]; exact e3, (q.hide (.inl n)).step (Step.new n)⟩
  · rcases List.mem_cons.mp m with e | m
    · subst e
      exact ⟨(r.fresh n).1, o, upd_same⟩
    · exact r2.zz a m
end

/-! ### slots -/
structure ER (K : PySem.W.Frag) (μ z : List Addr) (H : Hp) (ρ : Sl) (σ : L2.St) : Prop where
  len : ρ.length = σ.length
  at' : ∀ (i : Nat) (x : IV), ρ[i]? = some (some x) → ∃ v, σ[i]? = some (some v) ∧ VR K μ z H x v
section
variable {K : PySem.W.Frag} {μ μ1 μ2 μ' z : List Addr} {H H1 H2 H' : Hp} {ρ : Sl} {σ : L2.St}
theorem ER.step (r : ER K μ z H ρ σ) (s : Step μ H μ' H') : ER K μ' z H' ρ σ := ⟨r.len, fun i x e => by
  obtain ⟨v, h1, h2⟩ := r.at' i x e
  exact ⟨v, h1, h2.step s⟩⟩
theorem ER.set (r : ER K μ z H ρ σ) {x : IV} {v : V} (q : VR K μ z H x v) (i : Nat) : ER K μ z H (ρ.set i (some x)) (σ.set i (some v)) := ⟨by rw [List.length_set, List.length_set]; exact r.len, fun j y e => by
  by_cases hj : j = i
  · subst hj
    by_cases hl : j < ρ.length
    · rw [List.getElem?_set_self hl] at e
      cases e
      exact ⟨v, by rw [List.getElem?_set_self (by rw [← r.len]; exact hl)], q⟩
    · rw [List.getElem?_eq_none (by rw [List.length_set]; omega)] at e
      cases e
  · rw [List.getElem?_set_ne (Ne.symm hj)] at e
    obtain ⟨w, h1, h2⟩ := r.at' j y e
    exact ⟨w, by rw [List.getElem?_set_ne (Ne.symm hj)]; exact h1, h2⟩⟩
theorem ER.hide {p : Addr} (n : H p = none ∨ p ∈ μ) (r : ER K μ z H ρ σ) : ER K μ (p :: z) H ρ σ := ⟨r.len, fun i x e => by
  obtain ⟨v, h1, h2⟩ := r.at' i x e
  exact ⟨v, h1, h2.hide n⟩⟩
end
end VI
end

section
/-! The judgements over plain values: what an expression, a test, a statement, a loop, a comprehension, a def comes to. -/
namespace VI
open PySem PySem.Spec PyProof.Rows L2

/-- what is wanted of an exception -/
abbrev XI := Ex → List Addr → Hp → Prop
def noX : XI := fun _ _ _ => False
def post {α : Type} (K : PySem.W.Frag) (E : XI) (μ z : List Addr) (H : Hp) (r : Ret α) (k : List Addr → Mem → Hp → α → Prop) : Prop := match r with
  | .ok v h' => ∀ μ' H', Step μ H μ' H' → HR K μ' z h' H' → k μ' h' H' v
  | .ex e h' => ∀ μ' H', Step μ H μ' H' → HR K μ' z h' H' → E e μ' H'
  | .bad => False
section
variable {α β : Type} {K : PySem.W.Frag} {E : XI} {μ μ1 z : List Addr} {H H1 : Hp}
theorem post.mono {r : Ret α} {k k' : List Addr → Mem → Hp → α → Prop} (p : post K E μ z H r k) (h : ∀ μ' h' H' v, Step μ H μ' H' → HR K μ' z h' H' → k μ' h' H' v → k' μ' h' H' v) : post K E μ z H r k' := by
  cases r with
  | ok v h' => exact fun μ' H' s r => h μ' h' H' v s r (p μ' H' s r)
  | ex e h' => exact p
  | bad => exact p
theorem post.later {r : Ret α} {k : List Addr → Mem → Hp → α → Prop} (p : post K E μ z H r k) (s : Step μ H μ1 H1) : post K E μ1 z H1 r k := by
  cases r with
  | ok v h' => exact fun μ' H' t r => p μ' H' (s.trans t) r
  | ex e h' => exact fun μ' H' t r => p μ' H' (s.trans t) r
  | bad => exact p
theorem post.bind {r : Ret α} {f : α → Mem → Ret β} {k : List Addr → Mem → Hp → β → Prop} (p : post K E μ z H (r.bind f) k) : post K E μ z H r fun μ1 h1 H1 v => post K E μ1 z H1 (f v h1) k := by
  cases r with
  | ok v h' => exact fun μ' H' s r => post.later p s
  | ex e h' => exact p
  | bad => exact p
theorem post.now {v : α} {h : Mem} {k : List Addr → Mem → Hp → α → Prop} (p : post K E μ z H (.ok v h) k) (r : HR K μ z h H) : k μ h H v := p μ H Step.refl r
end
def postF (K : PySem.W.Frag) (E : XI) (μ z : List Addr) (H : Hp) (r : Ret (List IV)) (Q : VK) : Prop := match r with
  | .ok xs h' => ∀ μ' p ws H', Step μ H μ' H' → H p = none → H' p = some (.lst ws) → HR K μ' (p :: z) h' H' → VRs K μ' (p :: z) H' xs ws → Q (.ref p) H'
  | .ex e h' => ∀ μ' H', Step μ H μ' H' → HR K μ' z h' H' → E e μ' H'
  | .bad => False
theorem postF.later {K : PySem.W.Frag} {E : XI} {μ μ1 z : List Addr} {H H1 : Hp} {r : Ret (List IV)} {Q : VK} (p : postF K E μ z H r Q) (s : Step μ H μ1 H1) : postF K E μ1 z H1 r Q := by
  cases r with
  | ok v h' =>
    intro μ' q ws H' t n e hr vr
    refine p μ' q ws H' (s.trans t) ?_ e hr vr
    cases hq : H q with
    | none => rfl
    | some o =>
      obtain ⟨o', e'⟩ := s.there q o hq
      rw [n] at e'
      cases e'
  | ex e h' => exact fun μ' H' t r => p μ' H' (s.trans t) r
  | bad => exact p
theorem postF.bind {α : Type} {K : PySem.W.Frag} {E : XI} {μ z : List Addr} {H : Hp} {r : Ret α} {f : α → Mem → Ret (List IV)} {Q : VK} (p : postF K E μ z H (r.bind f) Q) : post K E μ z H r fun μ1 h1 H1 v => postF K E μ1 z H1 (f v h1) Q := by
  cases r with
  | ok v h' => exact fun μ' H' s r => postF.later p s
  | ex e h' => exact p
  | bad => exact p

/-! ### denotations -/
abbrev Den := Sl → Mem → Ret IV
abbrev DenA := Sl → Mem → Ret (List IV)
abbrev DenT := Sl → Mem → Ret Bool
/-- one value more, whatever is behind it -/
abbrev VQ (K : PySem.W.Frag) (z : List Addr) (Q : VK) : List Addr → Mem → Hp → IV → Prop := fun μ' _ H' v => ∀ w, VR K μ' z H' v w → Q w H'
def tD (K : PySem.W.Frag) (E : XI) (d : Den) : TE := fun σ H Q => ∃ μ z h ρ, HR K μ z h H ∧ ER K μ z H ρ σ ∧ post K E μ z H (d ρ h) (VQ K z Q)
/-- a new list that nobody else holds -/
def tF (K : PySem.W.Frag) (E : XI) (d : DenA) : TE := fun σ H Q => ∃ μ z h ρ, HR K μ z h H ∧ ER K μ z H ρ σ ∧ postF K E μ z H (d ρ h) Q
def tAr (K : PySem.W.Frag) (E : XI) (d : DenA) : TA := fun σ H Q => ∃ μ z h ρ, HR K μ z h H ∧ ER K μ z H ρ σ ∧ post K E μ z H (d ρ h) fun μ' _ H' vs => ∀ ws, VRs K μ' z H' vs ws → Q ws H'
def tT (K : PySem.W.Frag) (E : XI) (d : DenT) : TT := fun σ H Q => ∃ μ z h ρ, HR K μ z h H ∧ ER K μ z H ρ σ ∧ post K E μ z H (d ρ h) fun _ _ H' b => Q b H'
section
variable {X : Cx} {E : XI} {e : Expr} {es : List Expr} {pos : Pos}
theorem PE_imp {t t' : TE} (h : PE X e t) (i : ∀ σ H Q, t' σ H Q → t σ H Q) : PE X e t' := ⟨fun pins s σ H Q I q => h.run pins s σ H Q I (i σ H Q q)⟩
theorem PT_imp {t t' : TT} (h : PT X e t) (i : ∀ σ H Q, t' σ H Q → t σ H Q) : PT X e t' := ⟨fun pins s σ H Q I q => h.run pins s σ H Q I (i σ H Q q)⟩
theorem PA_imp {t t' : TA} (h : PA X es t) (i : ∀ σ H Q, t' σ H Q → t σ H Q) : PA X es t' := ⟨fun pos pins s σ H Q I q => h.run pos pins s σ H Q I (i σ H Q q)⟩
theorem PS_imp {st : Stmt} {t t' : TS} (h : PS X st t) (i : ∀ D σ H, t' D σ H → t D σ H) : PS X st t' := ⟨fun pins s σ H D I q => h.run pins s σ H D I (i D σ H q)⟩
theorem PSs_imp {st : List Stmt} {t t' : TS} (h : PSs X st t) (i : ∀ D σ H, t' D σ H → t D σ H) : PSs X st t' := ⟨fun pins s σ H D I q => h.run pins s σ H D I (i D σ H q)⟩
/-- one part first -/
theorem tD_of {K : PySem.W.Frag} {μ z : List Addr} {h : Mem} {ρ : Sl} {σ : L2.St} {H : Hp} {d : Den} {Q : VK} {k : List Addr → Mem → Hp → IV → Prop} (hr : HR K μ z h H) (er : ER K μ z H ρ σ) (p : post K E μ z H (d ρ h) k)
    (q : ∀ μ' h' H' v w, Step μ H μ' H' → HR K μ' z h' H' → k μ' h' H' v → VR K μ' z H' v w → Q w H') : tD K E d σ H Q := ⟨μ, z, h, ρ, hr, er, p.mono fun μ' h' H' v s r kk w vr => q μ' h' H' v w s r kk vr⟩

/-! ### names, constants -/
def dVar (i : Nat) : Den := fun ρ h => match ρ[i]? with
  | some (some v) => .ok v h
  | _ => .bad
theorem i_var {K : PySem.W.Frag} {i : Nat} : ∀ (σ : L2.St) (H : Hp) (Q : VK), tD K E (dVar i) σ H Q → tVar i σ H Q := by
  rintro σ H Q ⟨μ, z, h, ρ, hr, er, p⟩
  unfold dVar at p
  cases e : ρ[i]? with
  | none => rw [e] at p; exact p.elim
  | some o =>
    cases o with
    | none => rw [e] at p; exact p.elim
    | some v =>
      rw [e] at p
      obtain ⟨w, h1, h2⟩ := er.at' i v e
      exact ⟨w, h1, p μ H Step.refl hr w h2⟩
theorem r_var (i : Nat) {x : Str} (hN : X.N[i]? = some x := by rfl) (hv : Vis X.env.scope x := by first | exact Or.inl rfl | exact Or.inr (Or.inl rfl) | exact Or.inr (Or.inr rfl)) (hd : (x == ("__debug__" : Str)) = false := by decide)
    (hcd : (x == ("__classdict__" : Str)) = false := by decide) : PE X (.Name x pos) (tD X.K E (dVar i)) := PE_imp (pe_var hN hv hd hcd) i_var
def dC (v : IV) : Den := fun _ h => .ok v h
theorem i_c {K : PySem.W.Frag} {v : IV} {w : V} (hv : ∀ μ z H, VR K μ z H v w) : ∀ (σ : L2.St) (H : Hp) (Q : VK), tD K E (dC v) σ H Q → tC w σ H Q := by
  rintro σ H Q ⟨μ, z, h, ρ, hr, er, p⟩
  exact p μ H Step.refl hr w (hv μ z H)
theorem r_int {i : Int} {j : Nat} : PE X (.Constant (.int i) j pos) (tD X.K E (dC (.int i))) := PE_imp pe_int (i_c fun _ _ _ => .int i)
theorem r_bl {b : Bool} {j : Nat} : PE X (.Constant (.bool b) j pos) (tD X.K E (dC (.bl b))) := PE_imp pe_bl (i_c fun _ _ _ => .bl b)
theorem r_non {j : Nat} : PE X (.Constant .none j pos) (tD X.K E (dC .non)) := PE_imp pe_non (i_c fun _ _ _ => .non)
theorem r_str {x : Str} {j : Nat} : PE X (.Constant (.str x) j pos) (tD X.K E (dC (.str x))) := PE_imp pe_str (i_c fun _ _ _ => .str x)

/-! ### operations by values -/
/-- f does what r asks -/
def RB (K : PySem.W.Frag) (r : R2) (f : IV → IV → Mem → Ret IV) : Prop := ∀ (E : XI) (μ z : List Addr) (h : Mem) (H : Hp) (v u : IV) (x y : V) (Q : VK), HR K μ z h H → VR K μ z H v x → VR K μ z H u y → post K E μ z H (f v u h) (VQ K z Q) → r x y H Q
def dBin (f : IV → IV → Mem → Ret IV) (a b : Den) : Den := fun ρ h => (a ρ h).bind fun v h1 => (b ρ h1).bind fun u h2 => f v u h2
theorem i_bin {K : PySem.W.Frag} {r : R2} {f : IV → IV → Mem → Ret IV} {a b : Den} (rb : RB K r f) : ∀ (σ : L2.St) (H : Hp) (Q : VK), tD K E (dBin f a b) σ H Q → tOp r (tD K E a) (tD K E b) σ H Q := by
  rintro σ H Q ⟨μ, z, h, ρ, hr, er, p⟩
  refine tD_of hr er p.bind fun μ1 h1 H1 v w s1 hr1 p1 vr1 => ?_
  refine tD_of hr1 (er.step s1) p1.bind fun μ2 h2 H2 u y s2 hr2 p2 vr2 => ?_
  exact rb E μ2 z h2 H2 v u w y Q hr2 (vr1.step s2) vr2 p2
def RU1 (K : PySem.W.Frag) (r : V → Hp → VK → Prop) (f : IV → Mem → Ret IV) : Prop := ∀ (E : XI) (μ z : List Addr) (h : Mem) (H : Hp) (v : IV) (x : V) (Q : VK), HR K μ z h H → VR K μ z H v x → post K E μ z H (f v h) (VQ K z Q) → r x H Q
def dUn (f : IV → Mem → Ret IV) (a : Den) : Den := fun ρ h => (a ρ h).bind fun v h1 => f v h1
theorem i_un {K : PySem.W.Frag} {r : V → Hp → VK → Prop} {f : IV → Mem → Ret IV} {a : Den} (rb : RU1 K r f) : ∀ (σ : L2.St) (H : Hp) (Q : VK), tD K E (dUn f a) σ H Q → tUn r (tD K E a) σ H Q := by
  rintro σ H Q ⟨μ, z, h, ρ, hr, er, p⟩
  refine tD_of hr er p.bind fun μ1 h1 H1 v w s1 hr1 p1 vr1 => ?_
  exact rb E μ1 z h1 H1 v w Q hr1 vr1 p1

/-! ### arguments -/
def aNil : DenA := fun _ h => .ok [] h
def aCons (d : Den) (r : DenA) : DenA := fun ρ h => (d ρ h).bind fun v h1 => (r ρ h1).bind fun vs h2 => .ok (v :: vs) h2
theorem r_nil : PA X [] (tAr X.K E aNil) := PA_imp pa_nil fun σ H Q ⟨μ, z, h, ρ, hr, er, p⟩ => p μ H Step.refl hr [] .nil
theorem r_cons {d : Den} {r : DenA} (h1 : PE X e (tD X.K E d)) (h2 : PA X es (tAr X.K E r)) (hs : starEach (e :: es) X.env = (false, eval e X.env) :: starEach es X.env := by rfl) : PA X (e :: es) (tAr X.K E (aCons d r)) := by
  refine PA_imp (pa_cons h1 h2 hs) ?_
  rintro σ H Q ⟨μ, z, h, ρ, hr, er, p⟩
  refine tD_of hr er p.bind fun μ1 h1 H1 v w s1 hr1 p1 vr1 => ?_
  refine ⟨μ1, z, h1, ρ, hr1, er.step s1, p1.bind.mono fun μ2 h2 H2 vs s2 hr2 p2 ws vr2 => ?_⟩
  exact p2 μ2 H2 Step.refl hr2 (w :: ws) (.cons (vr1.step s2) vr2)
/-- a call by values -/
def RC (K : PySem.W.Frag) (r : List V → Hp → VK → Prop) (f : List IV → Mem → Ret IV) : Prop := ∀ (E : XI) (μ z : List Addr) (h : Mem) (H : Hp) (vs : List IV) (xs : List V) (Q : VK), HR K μ z h H → VRs K μ z H vs xs → post K E μ z H (f vs h) (VQ K z Q) → r xs H Q
def dArg (f : List IV → Mem → Ret IV) (a : DenA) : Den := fun ρ h => (a ρ h).bind fun vs h1 => f vs h1
theorem i_arg {K : PySem.W.Frag} {r : List V → Hp → VK → Prop} {f : List IV → Mem → Ret IV} {a : DenA} (rb : RC K r f) : ∀ (σ : L2.St) (H : Hp) (Q : VK), tD K E (dArg f a) σ H Q → tCB r (tAr K E a) σ H Q := by
  rintro σ H Q ⟨μ, z, h, ρ, hr, er, p⟩
  refine ⟨μ, z, h, ρ, hr, er, p.bind.mono fun μ1 h1 H1 vs s1 hr1 p1 ws vr => ?_⟩
  exact rb E μ1 z h1 H1 vs ws Q hr1 vr p1
/-- .. where a new list comes of it -/
def RCF (K : PySem.W.Frag) (r : List V → Hp → VK → Prop) (f : List IV → Mem → Ret (List IV)) : Prop := ∀ (E : XI) (μ z : List Addr) (h : Mem) (H : Hp) (vs : List IV) (xs : List V) (Q : VK), HR K μ z h H → VRs K μ z H vs xs → postF K E μ z H (f vs h) Q → r xs H Q
def fArg (f : List IV → Mem → Ret (List IV)) (a : DenA) : DenA := fun ρ h => (a ρ h).bind fun vs h1 => f vs h1
theorem i_argF {K : PySem.W.Frag} {r : List V → Hp → VK → Prop} {f : List IV → Mem → Ret (List IV)} {a : DenA} (rb : RCF K r f) : ∀ (σ : L2.St) (H : Hp) (Q : VK), tF K E (fArg f a) σ H Q → tCB r (tAr K E a) σ H Q := by
  rintro σ H Q ⟨μ, z, h, ρ, hr, er, p⟩
  refine ⟨μ, z, h, ρ, hr, er, p.bind.mono fun μ1 h1 H1 vs s1 hr1 p1 ws vr => ?_⟩
  exact rb E μ1 z h1 H1 vs ws Q hr1 vr p1

/-! ### new lists -/
/-- .. left as they are -/
def dFl (d : DenA) : Den := fun ρ h => (d ρ h).bind fun xs h1 => .ok (.fl xs) h1
theorem i_fl {K : PySem.W.Frag} {d : DenA} : ∀ (σ : L2.St) (H : Hp) (Q : VK), tD K E (dFl d) σ H Q → tF K E d σ H Q := by
  rintro σ H Q ⟨μ, z, h, ρ, hr, er, p⟩
  refine ⟨μ, z, h, ρ, hr, er, ?_⟩
  unfold dFl at p
  cases e : d ρ h with
  | ok xs h1 =>
    rw [e] at p
    intro μ' q ws H' s n ea hr' vr
    have nz : q ∉ z := (hr.fresh n).2
    exact p μ' H' s hr'.show _ (.fl ea (hr'.zz q List.mem_cons_self).1 nz vr.show)
  | ex e1 h1 => rw [e] at p; exact p
  | bad => rw [e] at p; exact p
theorem r_fl {d : DenA} (h : PE X e (tF X.K E d)) : PE X e (tD X.K E (dFl d)) := PE_imp h i_fl
/-- .. at a place of their own -/
def dAl (d : DenA) : Den := fun ρ h => (d ρ h).bind fun xs h1 => .ok (.loc h1.length) (h1 ++ [.lst xs])
theorem i_al {K : PySem.W.Frag} {d : DenA} : ∀ (σ : L2.St) (H : Hp) (Q : VK), tD K E (dAl d) σ H Q → tF K E d σ H Q := by
  rintro σ H Q ⟨μ, z, h, ρ, hr, er, p⟩
  refine ⟨μ, z, h, ρ, hr, er, ?_⟩
  unfold dAl at p
  cases e : d ρ h with
  | ok xs h1 =>
    rw [e] at p
    intro μ' q ws H' s n ea hr' vr
    have nz : q ∉ z := (hr.fresh n).2
    have nm : q ∉ μ' := (hr'.zz q List.mem_cons_self).1
    refine p (μ' ++ [q]) H' (s.alloc n nm) (hr'.unhide nz ea (.lst vr)) _ (.loc ?_)
    rw [hr'.len, List.getElem?_append_right (Nat.le_refl _), Nat.sub_self]
    rfl
  | ex e1 h1 => rw [e] at p; exact p
  | bad => rw [e] at p; exact p
theorem r_al {d : DenA} (h : PE X e (tF X.K E d)) : PE X e (tD X.K E (dAl d)) := PE_imp h i_al
/-- a new thing at p: nothing else has changed -/
theorem postF.fresh {K : PySem.W.Frag} {μ z : List Addr} {h : Mem} {H : Hp} {xs : List IV} {ws : List V} {Q : VK} (p : postF K E μ z H (.ok xs h) Q) (hr : HR K μ z h H) (vr : VRs K μ z H xs ws) : ∀ q, H q = none → Q (.ref q) (upd H q (.lst ws)) := fun q n =>
  p μ q ws _ (Step.new n) n upd_same (hr.hideNew n) ((vr.hide (.inl n)).step (Step.new n))
/-- [a, b, ..] -/
def fLst (a : DenA) : DenA := fun ρ h => (a ρ h).bind fun vs h1 => if vs.length ≤ sizeLine then .ok vs h1 else .bad
theorem r_lst {a : DenA} (ha : PA X es (tAr X.K E a)) : PE X (.List es pos) (tF X.K E (fLst a)) := by
  refine PE_imp (pe_lst ha) ?_
  rintro σ H Q ⟨μ, z, h, ρ, hr, er, p⟩
  refine ⟨μ, z, h, ρ, hr, er, p.bind.mono fun μ1 h1 H1 vs s1 hr1 p1 ws vr => ?_⟩
  by_cases hl : vs.length ≤ sizeLine
  · rw [if_pos hl] at p1
    exact ⟨by rw [← vr.length]; exact hl, p1.fresh hr1 vr⟩
  · rw [if_neg hl] at p1
    exact p1.elim
/-- (a, b, ..) -/
def dTup (a : DenA) : Den := fun ρ h => (a ρ h).bind fun vs h1 => if vs.length ≤ sizeLine then .ok (.tup vs) h1 else .bad
theorem tupQ {K : PySem.W.Frag} {μ z : List Addr} {h : Mem} {H : Hp} {xs : List IV} {ws : List V} {Q : VK} (p : post K E μ z H (.ok (.tup xs) h) (VQ K z Q)) (hr : HR K μ z h H) (vr : VRs K μ z H xs ws) : ∀ q, H q = none → Q (.ref q) (upd H q (.tup ws)) := fun q n =>
  p μ _ (Step.new n) (hr.new n) _ (.tup (.inl (.inl upd_same)) (vr.step (Step.new n)))
theorem r_tup {a : DenA} {k : Nat} (ha : PA X es (tAr X.K E a)) : PE X (.Tuple es k pos) (tD X.K E (dTup a)) := by
  refine PE_imp (pe_tup ha) ?_
  rintro σ H Q ⟨μ, z, h, ρ, hr, er, p⟩
  refine ⟨μ, z, h, ρ, hr, er, p.bind.mono fun μ1 h1 H1 vs s1 hr1 p1 ws vr => ?_⟩
  by_cases hl : vs.length ≤ sizeLine
  · rw [if_pos hl] at p1
    exact ⟨by rw [← vr.length]; exact hl, tupQ p1 hr1 vr⟩
  · rw [if_neg hl] at p1
    exact p1.elim

/-! ### tests -/
def dTst (d : Den) : DenT := fun ρ h => (d ρ h).bind fun v h1 => match v with
  | .bl b => .ok b h1
  | _ => .bad
theorem i_tst {K : PySem.W.Frag} {d : Den} : ∀ (σ : L2.St) (H : Hp) (Q : Bool → Hp → Prop), tT K E (dTst d) σ H Q → tD K E d σ H fun x H1 => ∃ c, x = .bl c ∧ Q c H1 := by
  rintro σ H Q ⟨μ, z, h, ρ, hr, er, p⟩
  refine tD_of hr er p.bind fun μ1 h1 H1 v w s1 hr1 p1 vr1 => ?_
  cases v with
  | bl b =>
    cases vr1
    exact ⟨b, rfl, p1 μ1 H1 Step.refl hr1⟩
  | _ => exact p1.elim
theorem r_tst {d : Den} (h : PE X e (tD X.K E d)) (he : ∀ whole, isTrue e X.env whole = (do let v ← whole; standAt e.pos; holding [v] (truthy v)) := by intro _; rfl) : PT X e (tT X.K E (dTst d)) := PT_imp (pt_val h he) i_tst
/-- a comparison -/
theorem r_cmp {op : CmpOp} {r : R2} {f : IV → IV → Mem → Ret IV} {a b : Expr} {da db : Den} (ho : OpR X (compareOp op) r) (rb : RB X.K r f) (ha : PE X a (tD X.K E da)) (hb : PE X b (tD X.K E db)) (hm : behindInMarks op b = false := by first | exact nomark _ | rfl) :
    PE X (.Compare a [op] [b] pos) (tD X.K E (dBin f da db)) := PE_imp (pe_cmpR ho ha hb hm) (i_bin rb)
theorem r_cmpT {op : CmpOp} {r : R2} {f : IV → IV → Mem → Ret IV} {a b : Expr} {da db : Den} (ho : OpR X (compareOp op) r) (rb : RB X.K r f) (ha : PE X a (tD X.K E da)) (hb : PE X b (tD X.K E db)) (hm : behindInMarks op b = false := by first | exact nomark _ | rfl) :
    PT X (.Compare a [op] [b] pos) (tT X.K E (dTst (dBin f da db))) := PT_imp (pt_cmpR ho ha hb hm) fun σ H Q q => i_bin rb σ H _ (i_tst σ H Q q)
theorem r_op {op : Operator} {r : R2} {f : IV → IV → Mem → Ret IV} {a b : Expr} {da db : Den} (ho : OpR X (binaryOp op) r) (rb : RB X.K r f) (ha : PE X a (tD X.K E da)) (hb : PE X b (tD X.K E db)) : PE X (.BinOp a op b pos) (tD X.K E (dBin f da db)) :=
  PE_imp (pe_op ho ha hb) (i_bin rb)
theorem r_un {op : UnaryOp} {r : V → Hp → VK → Prop} {f : IV → Mem → Ret IV} {a : Expr} {da : Den} (ho : UnR X (unaryOp op) r) (rb : RU1 X.K r f) (ha : PE X a (tD X.K E da)) : PE X (.UnaryOp op a pos) (tD X.K E (dUn f da)) :=
  PE_imp (pe_un ho ha) (i_un rb)
def dAndT (a b : DenT) : DenT := fun ρ h => (a ρ h).bind fun c h1 => if c then b ρ h1 else .ok false h1
def dOrT (a b : DenT) : DenT := fun ρ h => (a ρ h).bind fun c h1 => if c then .ok true h1 else b ρ h1
def dNotT (a : DenT) : DenT := fun ρ h => (a ρ h).bind fun c h1 => .ok (!c) h1
theorem PW_imp {t t' : TT} (h : PW X e t) (i : ∀ σ H Q, t' σ H Q → t σ H Q) : PW X e t' := ⟨fun wh pins s σ H Q I q => h.run wh pins s σ H Q I (i σ H Q q)⟩
theorem i_andT {K : PySem.W.Frag} {a b : DenT} : ∀ (σ : L2.St) (H : Hp) (Q : Bool → Hp → Prop), tT K E (dAndT a b) σ H Q → tAnd (tT K E a) (tT K E b) σ H Q := by
  rintro σ H Q ⟨μ, z, h, ρ, hr, er, p⟩
  refine ⟨μ, z, h, ρ, hr, er, p.bind.mono fun μ1 h1 H1 c s1 hr1 p1 => ?_⟩
  cases c with
  | true =>
    rw [if_pos rfl]
    exact ⟨μ1, z, h1, ρ, hr1, er.step s1, p1⟩
  | false =>
    rw [if_neg Bool.false_ne_true]
    exact p1 μ1 H1 Step.refl hr1
theorem i_orT {K : PySem.W.Frag} {a b : DenT} : ∀ (σ : L2.St) (H : Hp) (Q : Bool → Hp → Prop), tT K E (dOrT a b) σ H Q → tOr (tT K E a) (tT K E b) σ H Q := by
  rintro σ H Q ⟨μ, z, h, ρ, hr, er, p⟩
  refine ⟨μ, z, h, ρ, hr, er, p.bind.mono fun μ1 h1 H1 c s1 hr1 p1 => ?_⟩
  cases c with
  | false =>
    rw [if_neg Bool.false_ne_true]
    exact ⟨μ1, z, h1, ρ, hr1, er.step s1, p1⟩
  | true =>
    rw [if_pos rfl]
    exact p1 μ1 H1 Step.refl hr1
theorem r_and1 {a : Expr} {ta : DenT} (h : PT X a (tT X.K E ta)) : PW X (.BoolOp .And [a] pos) (tT X.K E ta) := pw_and1 h
theorem r_or1 {a : Expr} {ta : DenT} (h : PT X a (tT X.K E ta)) : PW X (.BoolOp .Or [a] pos) (tT X.K E ta) := pw_or1 h
theorem r_and {a b : Expr} {rest : List Expr} {ta tb : DenT} (h1 : PT X a (tT X.K E ta)) (h2 : PW X (.BoolOp .And (b :: rest) pos) (tT X.K E tb)) : PW X (.BoolOp .And (a :: b :: rest) pos) (tT X.K E (dAndT ta tb)) := PW_imp (pw_and h1 h2) i_andT
theorem r_or {a b : Expr} {rest : List Expr} {ta tb : DenT} (h1 : PT X a (tT X.K E ta)) (h2 : PW X (.BoolOp .Or (b :: rest) pos) (tT X.K E tb)) : PW X (.BoolOp .Or (a :: b :: rest) pos) (tT X.K E (dOrT ta tb)) := PW_imp (pw_or h1 h2) i_orT
theorem r_not {a : Expr} {ta : DenT} (h1 : PT X a (tT X.K E ta)) : PT X (.UnaryOp .Not a pos) (tT X.K E (dNotT ta)) := PT_imp (pt_not h1) (by
  rintro σ H Q ⟨μ, z, h, ρ, hr, er, p⟩
  exact ⟨μ, z, h, ρ, hr, er, p.bind.mono fun μ1 h1 H1 c s1 hr1 p1 => p1 μ1 H1 Step.refl hr1⟩)
/-- and, or, not of bools as values -/
def dAnd (a b : Den) : Den := fun ρ h => (a ρ h).bind fun c h1 => match c with
  | .bl true => b ρ h1
  | .bl false => .ok (.bl false) h1
  | _ => .bad
def dOr (a b : Den) : Den := fun ρ h => (a ρ h).bind fun c h1 => match c with
  | .bl false => b ρ h1
  | .bl true => .ok (.bl true) h1
  | _ => .bad
def dNot (a : Den) : Den := fun ρ h => (a ρ h).bind fun c h1 => match c with
  | .bl c => .ok (.bl (!c)) h1
  | _ => .bad
theorem r_oneV {op : BoolOp} {a : Expr} {da : Den} (h : PE X a (tD X.K E da)) : PE X (.BoolOp op [a] pos) (tD X.K E da) := pe_one h
theorem r_andV {a b : Expr} {rest : List Expr} {da db : Den} (h1 : PE X a (tD X.K E da)) (h2 : PE X (.BoolOp .And (b :: rest) pos) (tD X.K E db)) : PE X (.BoolOp .And (a :: b :: rest) pos) (tD X.K E (dAnd da db)) := PE_imp (pe_and h1 h2) (by
  rintro σ H Q ⟨μ, z, h, ρ, hr, er, p⟩
  refine tD_of hr er p.bind fun μ1 h1 H1 v w s1 hr1 p1 vr1 => ?_
  cases v with
  | bl c =>
    cases vr1
    refine ⟨c, rfl, ?_⟩
    cases c with
    | true =>
      rw [if_pos rfl]
      exact ⟨μ1, z, h1, ρ, hr1, er.step s1, p1⟩
    | false =>
      rw [if_neg Bool.false_ne_true]
      exact p1 μ1 H1 Step.refl hr1 _ (.bl false)
  | _ => exact p1.elim)
theorem r_orV {a b : Expr} {rest : List Expr} {da db : Den} (h1 : PE X a (tD X.K E da)) (h2 : PE X (.BoolOp .Or (b :: rest) pos) (tD X.K E db)) : PE X (.BoolOp .Or (a :: b :: rest) pos) (tD X.K E (dOr da db)) := PE_imp (pe_or h1 h2) (by
  rintro σ H Q ⟨μ, z, h, ρ, hr, er, p⟩
  refine tD_of hr er p.bind fun μ1 h1 H1 v w s1 hr1 p1 vr1 => ?_
  cases v with
  | bl c =>
    cases vr1
    refine ⟨c, rfl, ?_⟩
    cases c with
    | false =>
      rw [if_neg Bool.false_ne_true]
      exact ⟨μ1, z, h1, ρ, hr1, er.step s1, p1⟩
    | true =>
      rw [if_pos rfl]
      exact p1 μ1 H1 Step.refl hr1 _ (.bl true)
  | _ => exact p1.elim)
theorem r_notV {a : Expr} {da : Den} (h1 : PE X a (tD X.K E da)) : PE X (.UnaryOp .Not a pos) (tD X.K E (dNot da)) := PE_imp (pe_not h1) (by
  rintro σ H Q ⟨μ, z, h, ρ, hr, er, p⟩
  refine tD_of hr er p.bind fun μ1 h1 H1 v w s1 hr1 p1 vr1 => ?_
  cases v with
  | bl c =>
    cases vr1
    exact ⟨c, rfl, p1 μ1 H1 Step.refl hr1 _ (.bl _)⟩
  | _ => exact p1.elim)
def dIf (c : DenT) (a b : Den) : Den := fun ρ h => (c ρ h).bind fun c h1 => if c then a ρ h1 else b ρ h1
theorem r_ifE {c a b : Expr} {tc : DenT} {da db : Den} (hc : PT X c (tT X.K E tc)) (h1 : PE X a (tD X.K E da)) (h2 : PE X b (tD X.K E db)) : PE X (.IfExp c a b pos) (tD X.K E (dIf tc da db)) := PE_imp (pe_ifExp hc h1 h2) (by
  rintro σ H Q ⟨μ, z, h, ρ, hr, er, p⟩
  refine ⟨μ, z, h, ρ, hr, er, p.bind.mono fun μ1 h1 H1 c s1 hr1 p1 => ?_⟩
  cases c with
  | true =>
    rw [if_pos rfl]
    exact ⟨μ1, z, h1, ρ, hr1, er.step s1, p1⟩
  | false =>
    rw [if_neg Bool.false_ne_true]
    exact ⟨μ1, z, h1, ρ, hr1, er.step s1, p1⟩)
end
end VI
end

section
/-! Statements, targets, loops, comprehensions, defs, calls. -/
namespace VI
open PySem PySem.Spec PyProof.Rows L2

inductive Fl where
  | nx | bk | ct | rt (v : IV)
abbrev DenS := Sl → Mem → Ret (Fl × Sl)
def endQ (K : PySem.W.Frag) (z : List Addr) (D : Ends) : List Addr → Mem → Hp → Fl × Sl → Prop := fun μ' _ H' r => match r.1 with
  | .nx => ∀ σ', ER K μ' z H' r.2 σ' → D.nx σ' H'
  | .bk => ∀ σ', ER K μ' z H' r.2 σ' → D.bk σ' H'
  | .ct => ∀ σ', ER K μ' z H' r.2 σ' → D.ct σ' H'
  | .rt v => ∀ w, VR K μ' z H' v w → D.rt w H'
/-- .. with what is still to be done kept by its place -/
def endQ2 (K : PySem.W.Frag) (z : List Addr) (N : List Addr → Mem → Hp → Sl → Prop) (B C : List Addr → Mem → Hp → Sl → Prop) (R : List Addr → Mem → Hp → IV → Prop) : List Addr → Mem → Hp → Fl × Sl → Prop := fun μ' h' H' r => match r.1 with
  | .nx => N μ' h' H' r.2
  | .bk => B μ' h' H' r.2
  | .ct => C μ' h' H' r.2
  | .rt v => R μ' h' H' v
def tS (K : PySem.W.Frag) (E : XI) (d : DenS) : TS := fun D σ H => ∃ μ z h ρ, HR K μ z h H ∧ ER K μ z H ρ σ ∧ post K E μ z H (d ρ h) (endQ2 K z (fun μ' h' H' ρ' => ∀ σ', ER K μ' z H' ρ' σ' → HR K μ' z h' H' → D.nx σ' H') (fun μ' h' H' ρ' => ∀ σ', ER K μ' z H' ρ' σ' → D.bk σ' H') (fun μ' h' H' ρ' => ∀ σ', ER K μ' z H' ρ' σ' → D.ct σ' H') (fun μ' _ H' v => ∀ w, VR K μ' z H' v w → D.rt w H'))
section
variable {X : Cx} {E : XI} {e : Expr} {st : Stmt} {sts : List Stmt} {pos : Pos} {K : PySem.W.Frag}
/-! ### small statements -/
def sNx : DenS := fun ρ h => .ok (.nx, ρ) h
def sSeq (a b : DenS) : DenS := fun ρ h => (a ρ h).bind fun r h1 => match r.1 with
  | .nx => b r.2 h1
  | _ => .ok r h1
theorem r_pass : PS X (.Pass pos) (tS X.K E sNx) := PS_imp ps_pass fun D σ H ⟨μ, z, h, ρ, hr, er, p⟩ => p μ H Step.refl hr σ er hr
theorem r_snil : PSs X [] (tS X.K E sNx) := PSs_imp pss_nil fun D σ H ⟨μ, z, h, ρ, hr, er, p⟩ => p μ H Step.refl hr σ er hr
theorem r_one {a : DenS} (h1 : PS X st (tS X.K E a)) : PSs X [st] (tS X.K E a) := pss_one h1
theorem r_seq {a b : DenS} (h1 : PS X st (tS X.K E a)) (h2 : PSs X sts (tS X.K E b)) : PSs X (st :: sts) (tS X.K E (sSeq a b)) := by
  refine PSs_imp (pss_cons h1 h2) ?_
  rintro D σ H ⟨μ, z, h, ρ, hr, er, p⟩
  refine ⟨μ, z, h, ρ, hr, er, p.bind.mono fun μ1 h1 H1 r s1 hr1 p1 => ?_⟩
  obtain ⟨f, ρ1⟩ := r
  cases f with
  | nx =>
    intro σ' er' hr'
    exact ⟨μ1, z, h1, ρ1, hr1, er', p1⟩
  | bk => exact p1 μ1 H1 Step.refl hr1
  | ct => exact p1 μ1 H1 Step.refl hr1
  | rt v => exact p1 μ1 H1 Step.refl hr1
def sBk : DenS := fun ρ h => .ok (.bk, ρ) h
def sCt : DenS := fun ρ h => .ok (.ct, ρ) h
theorem r_break : PS X (.Break pos) (tS X.K E sBk) := PS_imp ps_break fun D σ H ⟨μ, z, h, ρ, hr, er, p⟩ => p μ H Step.refl hr σ er
theorem r_cont : PS X (.Continue pos) (tS X.K E sCt) := PS_imp ps_continue fun D σ H ⟨μ, z, h, ρ, hr, er, p⟩ => p μ H Step.refl hr σ er
def sRet (d : Den) : DenS := fun ρ h => (d ρ h).bind fun v h1 => .ok (.rt v, ρ) h1
theorem r_ret {d : Den} (he : PE X e (tD X.K E d)) : PS X (.Return (some e) pos) (tS X.K E (sRet d)) := PS_imp (ps_ret he) (by
  rintro D σ H ⟨μ, z, h, ρ, hr, er, p⟩
  refine tD_of hr er p.bind fun μ1 h1 H1 v w s1 hr1 p1 vr1 => ?_
  exact p1 μ1 H1 Step.refl hr1 w vr1)
def sExp (d : Den) : DenS := fun ρ h => (d ρ h).bind fun _ h1 => .ok (.nx, ρ) h1
theorem r_exp {d : Den} (he : PE X e (tD X.K E d)) (hs : swapsWith e none pos.line X.env = pure false := by rfl) : PS X (.Expr e pos) (tS X.K E (sExp d)) := PS_imp (ps_expr he hs) (by
  rintro D σ H ⟨μ, z, h, ρ, hr, er, p⟩
  refine tD_of hr er p.bind fun μ1 h1 H1 v w s1 hr1 p1 vr1 => ?_
  exact p1 μ1 H1 Step.refl hr1 σ (er.step s1) hr1)
def sIf (c : DenT) (a b : DenS) : DenS := fun ρ h => (c ρ h).bind fun c h1 => if c then a ρ h1 else b ρ h1
theorem r_if {c : Expr} {a b : List Stmt} {tc : DenT} {da db : DenS} (hc : PT X c (tT X.K E tc)) (h1 : PSs X a (tS X.K E da)) (h2 : PSs X b (tS X.K E db)) : PS X (.If c a b pos) (tS X.K E (sIf tc da db)) := PS_imp (ps_if hc h1 h2) (by
  rintro D σ H ⟨μ, z, h, ρ, hr, er, p⟩
  refine ⟨μ, z, h, ρ, hr, er, p.bind.mono fun μ1 h1 H1 c s1 hr1 p1 => ?_⟩
  cases c with
  | true =>
    rw [if_pos rfl]
    exact ⟨μ1, z, h1, ρ, hr1, er.step s1, p1⟩
  | false =>
    rw [if_neg Bool.false_ne_true]
    exact ⟨μ1, z, h1, ρ, hr1, er.step s1, p1⟩)

/-! ### targets -/
abbrev Tg := IV → Sl → Option Sl
def gI (K : PySem.W.Frag) (t : Tg) : TG := fun v σ H Q => ∃ μ z ρ iv ρ', ER K μ z H ρ σ ∧ VR K μ z H iv v ∧ t iv ρ = some ρ' ∧ ∀ σ', ER K μ z H ρ' σ' → Q σ' H
def gIs (K : PySem.W.Frag) (t : List IV → Sl → Option Sl) : TGs := fun vs σ H Q => ∃ μ z ρ ivs ρ', ER K μ z H ρ σ ∧ VRs K μ z H ivs vs ∧ t ivs ρ = some ρ' ∧ ∀ σ', ER K μ z H ρ' σ' → Q σ' H
theorem PG_imp {tg : Expr} {t t' : TG} (h : PG X tg t) (i : ∀ v σ H Q, t' v σ H Q → t v σ H Q) : PG X tg t' := ⟨fun pins s σ H v u Q I r q => h.run pins s σ H v u Q I r (i v σ H Q q)⟩
theorem PGs_imp {ts : List Expr} {t t' : TGs} (h : PGs X ts t) (i : ∀ v σ H Q, t' v σ H Q → t v σ H Q) : PGs X ts t' := ⟨fun pins s σ H v u Q I r q => h.run pins s σ H v u Q I r (i v σ H Q q)⟩
def tgN (i : Nat) : Tg := fun v ρ => some (ρ.set i (some v))
theorem r_name {i : Nat} {x : Str} (hN : X.N.Nodup) (hi : X.N[i]? = some x) (hx : Loc X.env.scope x) (hf : X.fn x = true ∨ X.env.scope.names.lookup x = some .local := by first | exact .inl rfl | exact .inr rfl | assumption) : PG X (.Name x pos) (gI X.K (tgN i)) :=
  PG_imp (pg_name hN hi hx hf) (by
    rintro v σ H Q ⟨μ, z, ρ, iv, ρ', er, vr, e, q⟩
    cases e
    exact q _ (er.set vr i))
def tgsNil : List IV → Sl → Option Sl := fun vs ρ => match vs with
  | [] => some ρ
  | _ => none
def tgsCons (t : Tg) (u : List IV → Sl → Option Sl) : List IV → Sl → Option Sl := fun vs ρ => match vs with
  | v :: r => (t v ρ).bind fun ρ1 => u r ρ1
  | [] => none
theorem r_gnil : PGs X [] (gIs X.K tgsNil) := PGs_imp pgs_nil (by
  rintro vs σ H Q ⟨μ, z, ρ, ivs, ρ', er, vr, e, q⟩
  cases vr with
  | nil =>
    cases e
    exact ⟨rfl, q σ er⟩
  | cons _ _ => cases e)
theorem r_gcons {a : Expr} {as : List Expr} {t : Tg} {u : List IV → Sl → Option Sl} (h1 : PG X a (gI X.K t)) (h2 : PGs X as (gIs X.K u))
    (hs : (assignEach (a :: as) X.env).map (·.2) = assign a X.env :: (assignEach as X.env).map (·.2) := by rfl) : PGs X (a :: as) (gIs X.K (tgsCons t u)) := PGs_imp (pgs_cons h1 h2 hs) (by
  rintro vs σ H Q ⟨μ, z, ρ, ivs, ρ', er, vr, e, q⟩
  cases vr with
  | nil => cases e
  | @cons v w rs ws hv hvs =>
    have e' : (t v ρ).bind (fun ρ1 => u rs ρ1) = some ρ' := e
    obtain ⟨ρ1, e1, e2⟩ := Option.bind_eq_some_iff.mp e'
    exact ⟨w, ws, rfl, μ, z, ρ, v, ρ1, er, hv, e1, fun σ1 er1 => ⟨μ, z, ρ1, rs, ρ', er1, hvs, e2, q⟩⟩)
def tgT (n : Nat) (u : List IV → Sl → Option Sl) : Tg := fun v ρ => match v with
  | .tup xs => if xs.length = n then u xs ρ else none
  | _ => none
theorem r_gtup {as : List Expr} {k n : Nat} {u : List IV → Sl → Option Sl} (hc : X.calm = true) (h : PGs X as (gIs X.K u)) (hn : (assignEach as X.env).length = n := by rfl) (hst : (assignEach as X.env).findIdx? (·.1) = none := by rfl) :
    PG X (.Tuple as k pos) (gI X.K (tgT n u)) := PG_imp (pg_tup hc h hn hst) (by
  rintro v σ H Q ⟨μ, z, ρ, iv, ρ', er, vr, e, q⟩
  cases vr with
  | @tup a xs vs hq hvs =>
    have e' : (if xs.length = n then u xs ρ else none) = some ρ' := e
    by_cases hl : xs.length = n
    · rw [if_pos hl] at e'
      exact ⟨a, vs, rfl, hq, by rw [← hvs.length]; exact hl, μ, z, ρ, xs, ρ', er, hvs, e', q⟩
    · rw [if_neg hl] at e'
      cases e'
  | _ => cases e)
/-- target = value -/
def sAsg (t : Tg) (d : Den) : DenS := fun ρ h => (d ρ h).bind fun v h1 => match t v ρ with
  | some ρ' => .ok (.nx, ρ') h1
  | none => .bad
theorem r_set {i : Nat} {x : Str} {d : Den} {pos' : Pos} (hN : X.N.Nodup) (hi : X.N[i]? = some x) (hx : Loc X.env.scope x) (he : PE X e (tD X.K E d)) (hs : swapsWith e (some (.Name x pos')) pos.line X.env = pure false := by rfl) (hf : X.fn x = true ∨ X.env.scope.names.lookup x = some .local := by first | exact .inl rfl | exact .inr rfl | assumption) :
    PS X (.Assign [.Name x pos'] e pos) (tS X.K E (sAsg (tgN i) d)) := PS_imp (ps_set hN hi hx he hs hf) (by
  rintro D σ H ⟨μ, z, h, ρ, hr, er, p⟩
  refine tD_of hr er p.bind fun μ1 h1 H1 v w s1 hr1 p1 vr1 => ?_
  exact p1 μ1 H1 Step.refl hr1 _ ((er.step s1).set vr1 i) hr1)
theorem r_asg {tg : Expr} {t : Tg} {d : Den} (he : PE X e (tD X.K E d)) (hg : PG X tg (gI X.K t)) (hs : swapsWithSole [tg] e pos.line X.env = pure false := by rfl) (hw : swappedStores [tg] e X.env = pure none := by rfl)
    (h1 : (assignEach [tg] X.env).map (·.2) = [assign tg X.env] := by rfl) : PS X (.Assign [tg] e pos) (tS X.K E (sAsg t d)) := PS_imp (ps_asg he hg hs hw h1) (by
  rintro D σ H ⟨μ, z, h, ρ, hr, er, p⟩
  refine tD_of hr er p.bind fun μ1 h1 H1 v w s1 hr1 p1 vr1 => ?_
  cases e1 : t v ρ with
  | none => rw [e1] at p1; exact p1.elim
  | some ρ' =>
    rw [e1] at p1
    exact ⟨μ1, z, ρ, v, ρ', er.step s1, vr1, e1, fun σ' er' => p1 μ1 H1 Step.refl hr1 σ' er' hr1⟩)
/-- name op= value -/
def sAug (i : Nat) (f : IV → IV → Mem → Ret IV) (d : Den) : DenS := fun ρ h => match ρ[i]? with
  | some (some x) => (d ρ h).bind fun v h1 => (f x v h1).bind fun w h2 => .ok (.nx, ρ.set i (some w)) h2
  | _ => .bad
def RIp (K : PySem.W.Frag) (r : TIp) (f : IV → IV → Mem → Ret IV) : Prop := ∀ (E : XI) (μ z : List Addr) (h : Mem) (H : Hp) (v u : IV) (x y : V) (Q : VK), HR K μ z h H → VR K μ z H v x → VR K μ z H u y → post K E μ z H (f v u h) (VQ K z Q) → r x y H Q
theorem r_aug {i : Nat} {x : Str} {op : Operator} {r : TIp} {f : IV → IV → Mem → Ret IV} {d : Den} {pos' : Pos} (hN : X.N.Nodup) (hi : X.N[i]? = some x) (hx : Loc X.env.scope x) (ho : PIp X op r) (rb : RIp X.K r f) (he : PE X e (tD X.K E d)) (hf : X.fn x = true ∨ X.env.scope.names.lookup x = some .local := by first | exact .inl rfl | exact .inr rfl | assumption) :
    PS X (.AugAssign (.Name x pos') op e pos) (tS X.K E (sAug i f d)) := PS_imp (ps_aug hN hi hx he ho hf) (by
  rintro D σ H ⟨μ, z, h, ρ, hr, er, p⟩
  unfold sAug at p
  cases e1 : ρ[i]? with
  | none => rw [e1] at p; exact p.elim
  | some o =>
    cases o with
    | none => rw [e1] at p; exact p.elim
    | some y =>
      rw [e1] at p
      obtain ⟨w, e2, vr⟩ := er.at' i y e1
      refine ⟨w, e2, tD_of hr er p.bind fun μ1 h1 H1 v u s1 hr1 p1 vr1 => ?_⟩
      refine rb E μ1 z h1 H1 y v w u _ hr1 (vr.step s1) vr1 (p1.bind.mono fun μ2 h2 H2 t s2 hr2 p2 u2 vr2 => ?_)
      exact p2 μ2 H2 Step.refl hr2 _ (((er.step s1).step s2).set vr2 i) hr2)

/-! ### loops -/
/-- what is walked, as plain values -/
def tIV (K : PySem.W.Frag) (E : XI) (d : DenA) : TI := fun σ H R => ∃ μ z h ρ, HR K μ z h H ∧ ER K μ z H ρ σ ∧ post K E μ z H (d ρ h) fun μ' _ H' items =>
  ∀ (J : It) (G : Hp → Prop) (Y : Nat → Hp → V → Hp → Prop), Walk J items.length G Y →
    (∀ μ1 z1 h1 H1, Step μ' H' μ1 H1 → (∀ q ∈ z1, q ∈ z ∨ H' q = none) → HR K μ1 z1 h1 H1 → G H1 ∧ ∀ i x H2, i < items.length → Y i H1 x H2 → ∃ v, items[i]? = some v ∧ Step μ1 H1 μ1 H2 ∧ HR K μ1 z1 h1 H2 ∧ VR K μ1 z1 H2 v x) → R J H'
def forV (t : Tg) (b : DenS) : List IV → DenS
  | [], ρ, h => .ok (.nx, ρ) h
  | v :: vs, ρ, h => match t v ρ with
    | none => .bad
    | some ρ1 => (b ρ1 h).bind fun r h1 => match r.1 with
      | .nx => forV t b vs r.2 h1
      | .ct => forV t b vs r.2 h1
      | .bk => .ok (.nx, r.2) h1
      | .rt w => .ok (.rt w, r.2) h1
def sFor (d : DenA) (t : Tg) (b : DenS) : DenS := fun ρ h => (d ρ h).bind fun vs h1 => forV t b vs ρ h1
theorem r_for {tg iter : Expr} {body : List Stmt} {d : DenA} {t : Tg} {b : DenS} (hp : PassesOwn (model X.prog X.w) X.A X.env X.xe) (hc : X.calm = true) (hi : PI X tg iter (tIV X.K E d)) (hg : PG X tg (gI X.K t)) (hb : PSs X body (tS X.K E b))
    (hs : ∀ x, foldedSetIterable iter X.env x = pure x := by intro _; rfl) : PS X (.For tg iter body [] pos) (tS X.K E (sFor d t b)) := PS_imp (ps_for hp hc hi hg hb hs) (by
  rintro D σ H ⟨μ, z, h, ρ, hr, er, p⟩
  refine ⟨μ, z, h, ρ, hr, er, p.bind.mono fun μ1 h1 H1 items s1 hr1 p1 J G Y wk yy => ?_⟩
  generalize hk : (endQ2 X.K z (fun μ' h' H' ρ' => ∀ σ', ER X.K μ' z H' ρ' σ' → HR X.K μ' z h' H' → D.nx σ' H') (fun μ' h' H' ρ' => ∀ σ', ER X.K μ' z H' ρ' σ' → D.bk σ' H') (fun μ' h' H' ρ' => ∀ σ', ER X.K μ' z H' ρ' σ' → D.ct σ' H') (fun μ' _ H' v => ∀ w, VR X.K μ' z H' v w → D.rt w H')) = k at p1
  refine for_it wk (fun i σ' H' => ∃ μ' h' ρ', Step μ1 H1 μ' H' ∧ HR X.K μ' z h' H' ∧ ER X.K μ' z H' ρ' σ' ∧ post X.K E μ' z H' (forV t b (items.drop i) ρ' h') k) ⟨μ1, h1, ρ, Step.refl, hr1, er.step s1, p1⟩ ?_ ?_ ?_
  · rintro i σ' H' hi' ⟨μ', h', ρ', s', hr', er', p'⟩
    exact (yy μ' z h' H' s' (fun q m => .inl m) hr').1
  · rintro i x σ' H' H2 hi' ⟨μ', h', ρ', s', hr', er', p'⟩ y
    obtain ⟨v, ev, s2, hr2, vr⟩ := (yy μ' z h' H' s' (fun q m => .inl m) hr').2 i x H2 hi' y
    have ed : items.drop i = v :: items.drop (i + 1) := by
      rw [List.drop_eq_getElem_cons hi']
      congr 1
      rw [List.getElem?_eq_getElem hi'] at ev
      exact Option.some.inj ev
    rw [ed] at p'
    unfold forV at p'
    cases et : t v ρ' with
    | none => rw [et] at p'; exact p'.elim
    | some ρ1 =>
      rw [et] at p'
      refine ⟨μ', z, ρ', v, ρ1, er'.step s2, vr, et, fun σ3 er3 => ?_⟩
      refine ⟨μ', z, h', ρ1, hr2, er3, ((post.later p' s2).bind).mono fun μ4 h4 H4 r s4 hr4 p4 => ?_⟩
      obtain ⟨f, ρ4⟩ := r
      cases f with
      | nx => exact fun σ5 er5 _ => ⟨μ4, h4, ρ4, (s'.trans s2).trans s4, hr4, er5, p4⟩
      | ct => exact fun σ5 er5 => ⟨μ4, h4, ρ4, (s'.trans s2).trans s4, hr4, er5, p4⟩
      | bk =>
        have p5 := p4 μ4 H4 Step.refl hr4
        rw [← hk] at p5
        exact fun σ5 er5 => p5 σ5 er5 hr4
      | rt w =>
        have p5 := p4 μ4 H4 Step.refl hr4
        rw [← hk] at p5
        exact p5
  · rintro σ' H' ⟨μ', h', ρ', s', hr', er', p'⟩
    rw [List.drop_length] at p'
    have p5 := p' μ' H' Step.refl hr'
    rw [← hk] at p5
    exact p5 σ' er' hr')
def whN (c : DenT) (b : DenS) : Nat → DenS
  | 0, _, _ => .bad
  | n + 1, ρ, h => (c ρ h).bind fun k h1 => if k then (b ρ h1).bind fun r h2 => match r.1 with
      | .nx => whN c b n r.2 h2
      | .ct => whN c b n r.2 h2
      | .bk => .ok (.nx, r.2) h2
      | .rt w => .ok (.rt w, r.2) h2
    else .ok (.nx, ρ) h1
/-- so many turns are enough -/
def fuel : Nat := 1152921504606846976
def sWh (c : DenT) (b : DenS) : DenS := whN c b fuel
theorem r_while {c : Expr} {body : List Stmt} {tc : DenT} {b : DenS} (hp : PassesOwn (model X.prog X.w) X.A X.env X.xe) (hc : PT X c (tT X.K E tc)) (hb : PSs X body (tS X.K E b)) : PS X (.While c body [] pos) (tS X.K E (sWh tc b)) := PS_imp (ps_while hp hc hb) (by
  rintro D σ H ⟨μ, z, h, ρ, hr, er, p⟩
  generalize hk : (endQ2 X.K z (fun μ' h' H' ρ' => ∀ σ', ER X.K μ' z H' ρ' σ' → HR X.K μ' z h' H' → D.nx σ' H') (fun μ' h' H' ρ' => ∀ σ', ER X.K μ' z H' ρ' σ' → D.bk σ' H') (fun μ' h' H' ρ' => ∀ σ', ER X.K μ' z H' ρ' σ' → D.ct σ' H') (fun μ' _ H' v => ∀ w, VR X.K μ' z H' v w → D.rt w H')) = k at p
  refine ⟨fun m σ' H' => ∃ μ' h' ρ', HR X.K μ' z h' H' ∧ ER X.K μ' z H' ρ' σ' ∧ post X.K E μ' z H' (whN tc b m ρ' h') k, ⟨fuel, μ, h, ρ, hr, er, p⟩, ?_⟩
  rintro m σ' H' ⟨μ', h', ρ', hr', er', p'⟩
  cases m with
  | zero => exact p'.elim
  | succ m =>
    unfold whN at p'
    refine ⟨μ', z, h', ρ', hr', er', p'.bind.mono fun μ1 h1 H1 c s1 hr1 p1 => ?_⟩
    cases c with
    | false =>
      rw [if_neg Bool.false_ne_true] at p1 ⊢
      have p5 := p1 μ1 H1 Step.refl hr1
      rw [← hk] at p5
      exact p5 _ (er'.step s1) hr1
    | true =>
      rw [if_pos rfl] at p1 ⊢
      refine ⟨fun σ2 H2 => ∃ μ2 h2 ρ2, HR X.K μ2 z h2 H2 ∧ ER X.K μ2 z H2 ρ2 σ2 ∧ post X.K E μ2 z H2 (whN tc b m ρ2 h2) k, fun σ2 H2 w => ⟨m, Nat.lt_succ_self m, w⟩, ?_⟩
      refine ⟨μ1, z, h1, ρ', hr1, er'.step s1, p1.bind.mono fun μ4 h4 H4 r s4 hr4 p4 => ?_⟩
      obtain ⟨f, ρ4⟩ := r
      cases f with
      | nx => exact fun σ5 er5 _ => ⟨μ4, h4, ρ4, hr4, er5, p4⟩
      | ct => exact fun σ5 er5 => ⟨μ4, h4, ρ4, hr4, er5, p4⟩
      | bk =>
        have p5 := p4 μ4 H4 Step.refl hr4
        rw [← hk] at p5
        exact fun σ5 er5 => p5 σ5 er5 hr4
      | rt w =>
        have p5 := p4 μ4 H4 Step.refl hr4
        rw [← hk] at p5
        exact p5)

/-! ### what is walked -/
mutual
theorem VR.rehide {μ z z1 : List Addr} {H : Hp} (n : ∀ q ∈ z1, q ∈ z ∨ H q = none) : ∀ {x : IV} {v : V}, VR K μ z H x v → VR K μ z1 H x v
  | _, _, .non => .non
  | _, _, .bl b => .bl b
  | _, _, .int i => .int i
  | _, _, .str x => .str x
  | _, _, .tup h r => .tup h (VRs.rehide n r)
  | _, _, .fl h n1 m r => .fl h n1 (fun q => by
      rcases n _ q with q | q
      · exact m q
      · rw [q] at h
        cases h) (VRs.rehide n r)
  | _, _, .fz h r => .fz h (VRs.rehide n r)
  | _, _, .loc h => .loc h
theorem VRs.rehide {μ z z1 : List Addr} {H : Hp} (n : ∀ q ∈ z1, q ∈ z ∨ H q = none) : ∀ {xs : List IV} {vs : List V}, VRs K μ z H xs vs → VRs K μ z1 H xs vs
  | _, _, .nil => .nil
  | _, _, .cons r t => .cons (VR.rehide n r) (VRs.rehide n t)
end
theorem SqT.step {μ μ' : List Addr} {H H' : Hp} {a : Addr} {vs : List V} (s : Step μ H μ' H') (h : SqT K H a vs) : SqT K H' a vs := by
  rcases h with (h | ⟨o, h⟩) | h
  · exact .inl (.inl (s.imm _ _ h trivial))
  · exact .inl (.inr ⟨o, s.imm _ _ h trivial⟩)
  · exact .inr h
theorem Rd.step {μ μ' : List Addr} {H H' : Hp} {a : Addr} {u : HO} (s : Step μ H μ' H') (h : Rd H a u) (n : a ∉ μ) : Rd H' a u := by
  rcases h with h | ⟨o, h⟩
  · exact .inl (s.keep _ _ h n)
  · exact .inr ⟨o, s.keep _ _ h n⟩
theorem PI_imp {tg iter : Expr} {t t' : TI} (h : PI X tg iter t) (i : ∀ σ H Q, t' σ H Q → t σ H Q) : PI X tg iter t' := ⟨fun pins s σ H R I q => h.run pins s σ H R I (i σ H R q)⟩
/-- a tuple, walked -/
def wTup (d : Den) : DenA := fun ρ h => (d ρ h).bind fun v h1 => match v with
  | .tup xs => .ok xs h1
  | _ => .bad
theorem r_wTup {tg : Expr} {d : Den} (he : PE X e (tD X.K E d)) : PI X tg e (tIV X.K E (wTup d)) := PI_imp (pi_tup he) (by
  rintro σ H R ⟨μ, z, h, ρ, hr, er, p⟩
  refine tD_of hr er p.bind fun μ1 h1 H1 v w s1 hr1 p1 vr1 => ?_
  cases vr1 with
  | @tup a xs vs hq hvs =>
    refine ⟨a, rfl, ⟨vs, hq⟩, ?_⟩
    have el : xs.length = vs.length := hvs.length
    refine p1 μ1 H1 Step.refl hr1 _ (fun H => SqT X.K H a vs) (YAt vs) (by rw [el]; exact walk_tup) fun μ2 z2 h2 H2 s2 n2 hr2 => ⟨SqT.step s2 hq, fun i x H3 hi y => ?_⟩
    obtain ⟨rfl, y⟩ := y
    obtain ⟨u, e1, e2⟩ := hvs.get' y
    exact ⟨u, e1, Step.refl, hr2, (e2.rehide n2).step s2⟩
  | _ => exact p1.elim)
/-- a list that stays, walked -/
def wFl (d : Den) : DenA := fun ρ h => (d ρ h).bind fun v h1 => match v with
  | .fl xs => .ok xs h1
  | .fz xs => .ok xs h1
  | _ => .bad
theorem r_wFl {tg : Expr} {d : Den} (he : PE X e (tD X.K E d)) : PI X tg e (tIV X.K E (wFl d)) := PI_imp (pi_list he) (by
  rintro σ H R ⟨μ, z, h, ρ, hr, er, p⟩
  refine tD_of hr er p.bind fun μ1 h1 H1 v w s1 hr1 p1 vr1 => ?_
  cases vr1 with
  | @fl a xs vs hq n m hvs =>
    refine ⟨a, rfl, ⟨vs, .inl (.inl hq)⟩, ?_⟩
    have el : xs.length = vs.length := hvs.length
    refine p1 μ1 H1 Step.refl hr1 _ (fun H => SqL X.K H a vs) (YAt vs) (by rw [el]; exact walk_list) fun μ2 z2 h2 H2 s2 n2 hr2 => ⟨.inl (.inl (s2.keep _ _ hq n)), fun i x H3 hi y => ?_⟩
    obtain ⟨rfl, y⟩ := y
    obtain ⟨u, e1, e2⟩ := hvs.get' y
    exact ⟨u, e1, Step.refl, hr2, (e2.rehide n2).step s2⟩
  | @fz a xs vs hq hvs =>
    have hs : ∀ {μ2 H2}, Step μ1 H1 μ2 H2 → SqL X.K H2 a vs := fun s2 => by
      rcases hq with ⟨o, hq⟩ | hq
      · exact .inl (.inr ⟨o, s2.imm _ _ hq trivial⟩)
      · exact .inr hq
    refine ⟨a, rfl, ⟨vs, hs Step.refl⟩, ?_⟩
    have el : xs.length = vs.length := hvs.length
    refine p1 μ1 H1 Step.refl hr1 _ (fun H => SqL X.K H a vs) (YAt vs) (by rw [el]; exact walk_list) fun μ2 z2 h2 H2 s2 n2 hr2 => ⟨hs s2, fun i x H3 hi y => ?_⟩
    obtain ⟨rfl, y⟩ := y
    obtain ⟨u, e1, e2⟩ := hvs.get' y
    exact ⟨u, e1, Step.refl, hr2, (e2.rehide n2).step s2⟩
  | _ => exact p1.elim)
/-- range(a), range(a, b) -/
def rgI (lo hi : Int) : List IV := (List.range (hi - lo).toNat).map fun i => IV.int (lo + (i : Nat))
def okR (i : Int) : Bool := decide (-(2 ^ 62) ≤ i) && decide (i < 2 ^ 62)
def wRng1 (a : DenA) : DenA := fun ρ h => (a ρ h).bind fun vs h1 => match vs with
  | [.int j] => bif okR j then .ok (rgI 0 j) h1 else .bad
  | _ => .bad
def wRng2 (a : DenA) : DenA := fun ρ h => (a ρ h).bind fun vs h1 => match vs with
  | [.int i, .int j] => bif okR i && okR j then .ok (rgI i j) h1 else .bad
  | _ => .bad
theorem rgI_len (lo hi : Int) : (rgI lo hi).length = (hi - lo).toNat := by
  unfold rgI
  rw [List.length_map, List.length_range]
theorem rgI_walk {lo hi : Int} {μ1 : List Addr} {H1 : Hp} {z : List Addr} {R : It → Hp → Prop} (p : ∀ (J : It) (G : Hp → Prop) (Y : Nat → Hp → V → Hp → Prop), Walk J (rgI lo hi).length G Y →
    (∀ μ2 z2 h2 H2, Step μ1 H1 μ2 H2 → (∀ q ∈ z2, q ∈ z ∨ H1 q = none) → HR K μ2 z2 h2 H2 → G H2 ∧ ∀ i x H3, i < (rgI lo hi).length → Y i H2 x H3 → ∃ v, (rgI lo hi)[i]? = some v ∧ Step μ2 H2 μ2 H3 ∧ HR K μ2 z2 h2 H3 ∧ VR K μ2 z2 H3 v x) → R J H1) : R (Itr lo (hi - lo).toNat) H1 := by
  refine p _ (fun _ => True) (YFn fun i => .int (lo + i)) (by rw [rgI_len]; exact walk_range) fun μ2 z2 h2 H2 s2 n2 hr2 => ⟨trivial, fun i x H3 hi y => ?_⟩
  obtain ⟨rfl, rfl⟩ := y
  rw [rgI_len] at hi
  refine ⟨.int (lo + (i : Nat)), ?_, Step.refl, hr2, .int _⟩
  unfold rgI
  rw [List.getElem?_map, List.getElem?_range hi]
  rfl
theorem okR_of {i : Int} (h : okR i = true) : -(2 ^ 62) ≤ i ∧ i < 2 ^ 62 := by
  unfold okR at h
  rw [Bool.and_eq_true, decide_eq_true_eq, decide_eq_true_eq] at h
  exact h
theorem r_wRng1 {tg a : Expr} {da : DenA} {p : Pos} (hg : Gl X "range") (hm : X.mg "range" = none) (ha : PA X [a] (tAr X.K E da)) (hs : starEach [a] X.env = [(false, eval a X.env)] := by rfl) : PI X tg (.Call (.Name "range" p) [a] [] pos) (tIV X.K E (wRng1 da)) := PI_imp (pi_range1 hg hm ha hs) (by
  rintro σ H R ⟨μ, z, h, ρ, hr, er, p⟩
  refine ⟨μ, z, h, ρ, hr, er, p.bind.mono fun μ1 h1 H1 vs s1 hr1 p1 ws vr => ?_⟩
  cases vr with
  | nil => exact p1.elim
  | cons v r =>
    cases r with
    | nil =>
      cases v with
      | int j =>
        cases hj : okR j with
        | true =>
          simp only [hj, cond_true] at p1
          refine ⟨j, rfl, (okR_of hj).1, (okR_of hj).2, ?_⟩
          have q := rgI_walk (p1 μ1 H1 Step.refl hr1)
          rw [Int.sub_zero] at q
          exact q
        | false =>
          simp only [hj, cond_false] at p1
          exact p1.elim
      | _ => exact p1.elim
    | cons v2 r2 => cases v <;> exact p1.elim)
theorem r_wRng2 {tg a b : Expr} {da : DenA} {p : Pos} (hg : Gl X "range") (hm : X.mg "range" = none) (ha : PA X [a, b] (tAr X.K E da)) (hs : starEach [a, b] X.env = [(false, eval a X.env), (false, eval b X.env)] := by rfl) (hs2 : starEach [b] X.env = [(false, eval b X.env)] := by rfl) : PI X tg (.Call (.Name "range" p) [a, b] [] pos) (tIV X.K E (wRng2 da)) := PI_imp (pi_range2 hg hm ha hs hs2) (by
  rintro σ H R ⟨μ, z, h, ρ, hr, er, p⟩
  refine ⟨μ, z, h, ρ, hr, er, p.bind.mono fun μ1 h1 H1 vs s1 hr1 p1 ws vr => ?_⟩
  cases vr with
  | nil => exact p1.elim
  | cons v r =>
    cases r with
    | nil => cases v <;> exact p1.elim
    | cons v2 r2 =>
      cases r2 with
      | nil =>
        cases v with
        | int i =>
          cases v2 with
          | int j =>
            cases hj : okR i && okR j with
            | true =>
              simp only [hj, cond_true] at p1
              rw [Bool.and_eq_true] at hj
              refine ⟨i, j, rfl, ⟨(okR_of hj.1).1, (okR_of hj.1).2, (okR_of hj.2).1, (okR_of hj.2).2⟩, ?_⟩
              exact rgI_walk (p1 μ1 H1 Step.refl hr1)
            | false =>
              simp only [hj, cond_false] at p1
              exact p1.elim
          | _ => exact p1.elim
        | _ => exact p1.elim
      | cons _ _ => cases v <;> cases v2 <;> exact p1.elim)
end
end VI
end

section
/-! Comprehensions, defs, calls. -/
namespace VI
open PySem PySem.Spec PyProof.Rows L2
section
variable {X : Cx} {E : XI} {e : Expr} {pos : Pos} {K : PySem.W.Frag} {μ μ1 μ' z : List Addr} {H H1 H' : Hp} {h : Mem}

/-! ### the hidden list of a comprehension -/
mutual
theorem VR.mutZ {p : Addr} {o : HO} {ys : List V} (hp : H p = some (.lst ys)) (m : p ∈ z) : ∀ {x : IV} {v : V}, VR K μ z H x v → VR K μ z (upd H p o) x v
  | _, _, .non => .non
  | _, _, .bl b => .bl b
  | _, _, .int i => .int i
  | _, _, .str x => .str x
  | _, _, .tup h r => by
    refine .tup ?_ (VRs.mutZ hp m r)
    rcases h with (h | ⟨o2, h⟩) | h
    · refine .inl (.inl ?_)
      rw [upd_ne]
      · exact h
      · intro e
        rw [e, hp] at h
        cases h
    · refine .inl (.inr ⟨o2, ?_⟩)
      rw [upd_ne]
      · exact h
      · intro e
        rw [e, hp] at h
        cases h
    · exact .inr h
  | _, _, .fl (a := a) h n1 m1 r => by
    have ne : a ≠ p := fun e => m1 (by rw [e]; exact m)
    exact .fl (by rw [upd_ne ne]; exact h) n1 m1 (VRs.mutZ hp m r)
  | _, _, .fz (a := a) h r => by
    refine .fz (h.imp (fun ⟨o2, h2⟩ => ⟨o2, ?_⟩) id) (VRs.mutZ hp m r)
    have ne : a ≠ p := fun e => by
      rw [e, hp] at h2
      cases h2
    rw [upd_ne ne]
    exact h2
  | _, _, .loc h => .loc h
theorem VRs.mutZ {p : Addr} {o : HO} {ys : List V} (hp : H p = some (.lst ys)) (m : p ∈ z) : ∀ {xs : List IV} {vs : List V}, VRs K μ z H xs vs → VRs K μ z (upd H p o) xs vs
  | _, _, .nil => .nil
  | _, _, .cons r t => .cons (VR.mutZ hp m r) (VRs.mutZ hp m t)
end
theorem KRs.mutZ {p : Addr} {o : HO} {ys : List V} (hp : H p = some (.lst ys)) (m : p ∈ z) : ∀ {xs : List (Key × IV)} {vs : List (Key × V)}, KRs K μ z H xs vs → KRs K μ z (upd H p o) xs vs
  | _, _, .nil => .nil
  | _, _, .cons r t => .cons (r.mutZ hp m) (KRs.mutZ hp m t)
theorem FRs.mutZ {p : Addr} {o : HO} {ys : List V} (hp : H p = some (.lst ys)) (m : p ∈ z) : ∀ {xs : List (Str × IV)} {vs : List (Str × V)}, FRs K μ z H xs vs → FRs K μ z (upd H p o) xs vs
  | _, _, .nil => .nil
  | _, _, .cons r t => .cons (r.mutZ hp m) (FRs.mutZ hp m t)
theorem NRs.mutZ {p : Addr} {o : HO} {ys : List V} (hp : H p = some (.lst ys)) (m : p ∈ z) : ∀ {xs : List (NestedKey × IV)} {vs : List (NestedKey × Addr × V)}, NRs K μ z H xs vs → NRs K μ z (upd H p o) xs vs
  | _, _, .nil => .nil
  | _, _, .cons q r t => .cons (q.mutZ hp m) (r.mutZ hp m) (NRs.mutZ hp m t)
theorem OR.mutZ {p a : Addr} {o : HO} {ys : List V} (hp : H p = some (.lst ys)) (m : p ∈ z) {i : IO} {u : HO} (r : OR K μ z H a i u) : OR K μ z (upd H p o) a i u := by
  cases r with
  | lst r => exact .lst (r.mutZ hp m)
  | dK r => exact .dK (r.mutZ hp m)
  | oth r =>
    cases r with
    | ob h r => exact .oth (.ob h (r.mutZ hp m))
    | dN r => exact .oth (.dN (r.mutZ hp m))
theorem HR.mutZ {p : Addr} {o : HO} {ys : List V} (hp : H p = some (.lst ys)) (m : p ∈ z) (r : HR K μ z h H) : HR K μ z h (upd H p o) :=
  ⟨r.len, r.nd, fun l a i e1 e2 => by
    obtain ⟨u, e3, q⟩ := r.ob l a i e1 e2
    have ne : a ≠ p := fun e => (r.zz p m).1 (by rw [← e]; exact List.mem_of_getElem? e1)
    exact ⟨u, by rw [upd_ne ne]; exact e3, q.mutZ hp m⟩, fun a ma => ⟨(r.zz a ma).1, by
    by_cases e : a = p
    · subst e
      exact ⟨o, upd_same⟩
    · rw [upd_ne e]
      exact (r.zz a ma).2⟩⟩
theorem Step.mutNew {p : Addr} {o : HO} (s : Step μ H μ' H') (n : H p = none) : Step μ H μ' (upd H' p o) := by
  have ne : ∀ a u, H a = some u → a ≠ p := fun a u e => ne_of_none e n
  exact ⟨s.ext, fun a u e m => by rw [upd_ne (ne a u e)]; exact s.keep a u e m, fun a u e i => by rw [upd_ne (ne a u e)]; exact s.imm a u e i, fun a u e => by rw [upd_ne (ne a u e)]; exact s.there a u e⟩
def wipeI (ρ : Sl) : List Nat → Sl
  | [] => ρ
  | v :: vs => (wipeI ρ vs).set v none
theorem ER.wipe {ρ : Sl} {σ : L2.St} (r : ER K μ z H ρ σ) : ∀ vs : List Nat, ER K μ z H (wipeI ρ vs) (L2.wipe σ vs)
  | [] => r
  | v :: vs => by
    have ih := ER.wipe r vs
    refine ⟨by unfold wipeI L2.wipe; rw [List.length_set, List.length_set]; exact ih.len, fun i x e1 => ?_⟩
    unfold wipeI at e1
    unfold L2.wipe
    by_cases hi : v = i
    · subst hi
      by_cases hl : v < (wipeI ρ vs).length
      · rw [List.getElem?_set_self hl] at e1; cases e1
      · rw [List.getElem?_eq_none (by rw [List.length_set]; omega)] at e1; cases e1
    · rw [List.getElem?_set_ne hi] at e1 ⊢
      exact ih.at' i x e1

/-! ### [e for t in .. if ..] -/
def nox {α : Type} (r : Ret α) : Ret α := match r with
  | .ex _ _ => .bad
  | r => r
def lcV (t : Tg) (tt : DenT) (el : Den) (ρ : Sl) : List IV → Nat → Mem → Ret (List IV)
  | [], _, h => .ok [] h
  | v :: vs, n, h => match t v ρ with
    | none => .bad
    | some ρ1 => (nox (tt ρ1 h)).bind fun b h1 => if b then (nox (el ρ1 h1)).bind fun y h2 => if n < sizeLine then (lcV t tt el ρ vs (n + 1) h2).bind fun ys h3 => .ok (y :: ys) h3 else .bad
      else lcV t tt el ρ vs n h1
def fLc (d : DenA) (t : Tg) (tt : DenT) (el : Den) (own : List Nat) : DenA := fun ρ h => (d ρ h).bind fun vs h1 => lcV t tt el (wipeI ρ own) vs 0 h1
theorem lcV_noex (t : Tg) (tt : DenT) (el : Den) (ρ : Sl) : ∀ (vs : List IV) (n : Nat) (h : Mem) (e : Ex) (h' : Mem), lcV t tt el ρ vs n h ≠ .ex e h'
  | [], _, _, _, _, q => by cases q
  | v :: vs, n, h, e, h', q => by
    unfold lcV at q
    cases h1 : t v ρ with
    | none => rw [h1] at q; cases q
    | some ρ1 =>
      rw [h1] at q
      simp only at q
      cases h2 : tt ρ1 h with
      | ex _ _ => rw [h2] at q; cases q
      | bad => rw [h2] at q; cases q
      | ok b m =>
        rw [h2] at q
        simp only [nox, Ret.bind_ok] at q
        cases b with
        | false =>
          simp only [Bool.false_eq_true, if_false] at q
          exact lcV_noex t tt el ρ vs n m e h' q
        | true =>
          simp only [if_true] at q
          cases h3 : el ρ1 m with
          | ex _ _ => rw [h3] at q; cases q
          | bad => rw [h3] at q; cases q
          | ok y m2 =>
            rw [h3] at q
            simp only [nox, Ret.bind_ok] at q
            by_cases hn : n < sizeLine
            · rw [if_pos hn] at q
              cases h4 : lcV t tt el ρ vs (n + 1) m2 with
              | ok _ _ => rw [h4] at q; cases q
              | bad => rw [h4] at q; cases q
              | ex e4 h5 => exact lcV_noex t tt el ρ vs (n + 1) m2 e4 h5 h4
            · rw [if_neg hn] at q
              cases q
theorem i_lc {d : DenA} {t : Tg} {tt : DenT} {el : Den} {own : List Nat} : ∀ (σ : L2.St) (H : Hp) (Q : VK), (∀ (σ2 : L2.St) (ρ ρ2 : Sl) (v : IV), t v (wipeI ρ own) = some ρ2 → ∀ μ z H, ER K μ z H ρ2 σ2 → L2.wipe σ2 own = L2.wipe σ own ∨ True) → tF K E (fLc d t tt el own) σ H Q →
    tIV K E d σ H (fun J H1 => ∀ D, H1 D = none → ∃ W : Nat → Nat → Hp → Prop, (∃ m, W 0 m (upd H1 D (.lst []))) ∧ ∀ i m H, W i m H →
      (J.stop i H ∧ Q (.ref D) H) ∨ (J.go i H ∧ ∃ Nx : Hp → Prop, (∀ H', Nx H' → ∃ m', m' < m ∧ W (i + 1) m' H') ∧ ∀ x H', J.yld i H x H' → gI K t x (L2.wipe σ own) H' fun σ2 H2 => tT K noX tt σ2 H2 fun b H3 =>
        if b = true then tD K noX el σ2 H3 fun y H4 => ∃ acc, H4 D = some (.lst acc) ∧ acc.length < sizeLine ∧ Nx (upd H4 D (.lst (acc ++ [y]))) else Nx H3)) := by
  rintro σ H Q - ⟨μ, z, h, ρ, hr, er, p⟩
  refine ⟨μ, z, h, ρ, hr, er, p.bind.mono fun μ1 h1 H1 items s1 hr1 p1 J G Y wk yy D nD => ?_⟩
  -- the invariant
  let Pv : Nat → Hp → Prop := fun i H' => ∃ μ' h' accs ws, Step μ1 H1 μ' H' ∧ HR K μ' (D :: z) h' H' ∧ H' D = some (.lst ws) ∧ VRs K μ' (D :: z) H' accs ws ∧
    postF K E μ1 z H1 ((lcV t tt el (wipeI ρ own) (items.drop i) accs.length h').bind fun ys h3 => .ok (accs ++ ys) h3) Q
  have zz : ∀ q ∈ D :: z, q ∈ z ∨ H1 q = none := fun q m => by
    rcases List.mem_cons.mp m with e | m
    · rw [e]
      exact .inr nD
    · exact .inl m
  have base : ∀ {μ' H'}, Step μ1 H1 μ' H' → ER K μ' (D :: z) H' (wipeI ρ own) (L2.wipe σ own) := fun s => (((er.step s1).hide (.inl nD)).step s).wipe own
  have start : Pv 0 (upd H1 D (.lst [])) := by
    refine ⟨μ1, h1, [], [], Step.new nD, hr1.hideNew nD, upd_same, .nil, ?_⟩
    have e : ((lcV t tt el (wipeI ρ own) (items.drop 0) 0 h1).bind fun ys h3 => Ret.ok ([] ++ ys) h3) = lcV t tt el (wipeI ρ own) items 0 h1 := by
      rw [List.drop_zero]
      cases lcV t tt el (wipeI ρ own) items 0 h1 <;> rfl
    rw [List.length_nil, e]
    exact p1
  refine ⟨fun i m H => m = items.length - i ∧ i ≤ items.length ∧ Pv i H, ⟨items.length, by simp, Nat.zero_le _, start⟩, ?_⟩
  rintro i m H' ⟨rfl, hi, μ', h', accs, ws, s', hr', eD, va, p'⟩
  obtain ⟨gg, step⟩ := yy μ' (D :: z) h' H' s' zz hr'
  by_cases hlt : i < items.length
  · refine .inr ⟨wk.goes i H' hlt gg, Pv (i + 1), fun H2 p2 => ⟨items.length - (i + 1), by omega, rfl, hlt, p2⟩, fun x H2 y => ?_⟩
    obtain ⟨v, ev, s2, hr2, vr⟩ := step i x H2 hlt (wk.yields i H' x H2 hlt gg y)
    have ed : items.drop i = v :: items.drop (i + 1) := by
      rw [List.drop_eq_getElem_cons hlt]
      congr 1
      rw [List.getElem?_eq_getElem hlt] at ev
      exact Option.some.inj ev
    rw [ed] at p'
    unfold lcV at p'
    have nDμ : D ∉ μ' := (hr'.zz D List.mem_cons_self).1
    have eD2 : H2 D = some (.lst ws) := s2.keep D _ eD nDμ
    cases et : t v (wipeI ρ own) with
    | none => rw [et] at p'; exact p'.elim
    | some ρ1 =>
      rw [et] at p'
      refine ⟨μ', D :: z, wipeI ρ own, v, ρ1, base (s'.trans s2), vr, et, fun σ3 er3 => ?_⟩
      refine ⟨μ', D :: z, h', ρ1, hr2, er3, ?_⟩
      simp only at p'
      cases e1 : tt ρ1 h' with
      | ex _ _ => rw [e1] at p'; exact p'.elim
      | bad => rw [e1] at p'; exact p'.elim
      | ok b h2 =>
        rw [e1] at p'
        simp only [nox, Ret.bind_ok] at p'
        intro μ3 H3 s3 hr3
        have eD3 : H3 D = some (.lst ws) := s3.keep D _ eD2 nDμ
        have nDμ3 : D ∉ μ3 := (hr3.zz D List.mem_cons_self).1
        cases b with
        | false =>
          simp only [Bool.false_eq_true, if_false] at p' ⊢
          exact ⟨μ3, h2, accs, ws, (s'.trans s2).trans s3, hr3, eD3, (va.step s2).step s3, p'⟩
        | true =>
          simp only [if_true] at p' ⊢
          refine ⟨μ3, D :: z, h2, ρ1, hr3, er3.step s3, ?_⟩
          cases e2 : el ρ1 h2 with
          | ex _ _ => rw [e2] at p'; exact p'.elim
          | bad => rw [e2] at p'; exact p'.elim
          | ok y2 h3 =>
            rw [e2] at p'
            simp only [nox, Ret.bind_ok] at p'
            by_cases hn : accs.length < sizeLine
            · rw [if_pos hn] at p'
              intro μ4 H4 s4 hr4 w vw
              have eD4 : H4 D = some (.lst ws) := s4.keep D _ eD3 nDμ3
              have va4 := ((va.step s2).step s3).step s4
              refine ⟨ws, eD4, by rw [← va4.length]; exact hn, μ4, h3, accs ++ [y2], ws ++ [w], ?_, ?_, upd_same, ?_, ?_⟩
              · exact (((s'.trans s2).trans s3).trans s4).mutNew nD
              · exact hr4.mutZ eD4 List.mem_cons_self
              · exact (va4.mutZ eD4 List.mem_cons_self).append (.cons (vw.mutZ eD4 List.mem_cons_self) .nil)
              · have e5 : (((lcV t tt el (wipeI ρ own) (items.drop (i + 1)) (accs.length + 1) h3).bind fun ys h4 => Ret.ok (y2 :: ys) h4).bind fun ys h4 => Ret.ok (accs ++ ys) h4) = ((lcV t tt el (wipeI ρ own) (items.drop (i + 1)) (accs ++ [y2]).length h3).bind fun ys h4 => Ret.ok ((accs ++ [y2]) ++ ys) h4) := by
                  rw [List.length_append]
                  show _ = (lcV t tt el (wipeI ρ own) (items.drop (i + 1)) (accs.length + 1) h3).bind _
                  cases lcV t tt el (wipeI ρ own) (items.drop (i + 1)) (accs.length + 1) h3 with
                  | ok ys h4 => show Ret.ok (accs ++ (y2 :: ys)) h4 = Ret.ok ((accs ++ [y2]) ++ ys) h4; rw [List.append_assoc]; rfl
                  | ex _ _ => rfl
                  | bad => rfl
                rw [← e5]
                exact p'
            · rw [if_neg hn] at p'
              exact p'.elim
  · have e : i = items.length := by omega
    subst e
    refine .inl ⟨wk.stops H' gg, ?_⟩
    rw [List.drop_length] at p'
    have p2 : postF K E μ1 z H1 (.ok (accs ++ []) h') Q := p'
    rw [List.append_nil] at p2
    exact p2 μ' D ws H' s' nD eD hr' va
/-! target shapes -/
mutual
inductive Sh where
  | n (i : Nat) | t (ts : Shs)
inductive Shs where
  | nil | cons (s : Sh) (r : Shs)
end
mutual
def Sh.raw (K : PySem.W.Frag) : Sh → TG
  | .n i => gName i
  | .t ts => gTup K ts.len (Shs.raws K ts)
def Shs.raws (K : PySem.W.Frag) : Shs → TGs
  | .nil => gNil
  | .cons s r => gCons (Sh.raw K s) (Shs.raws K r)
def Shs.len : Shs → Nat
  | .nil => 0
  | .cons _ r => Shs.len r + 1
end
mutual
def Sh.tg : Sh → Tg
  | .n i => tgN i
  | .t ts => tgT ts.len (Shs.tgs ts)
def Shs.tgs : Shs → List IV → Sl → Option Sl
  | .nil => tgsNil
  | .cons s r => tgsCons (Sh.tg s) (Shs.tgs r)
end
mutual
def Sh.ns : Sh → List Nat
  | .n i => [i]
  | .t ts => Shs.nss ts
def Shs.nss : Shs → List Nat
  | .nil => []
  | .cons s r => Sh.ns s ++ Shs.nss r
end
def Out (ns : List Nat) (σ σ' : L2.St) : Prop := σ'.length = σ.length ∧ ∀ j, j ∉ ns → σ'[j]? = σ[j]?
theorem Out.trans {ms ns : List Nat} {σ σ1 σ2 : L2.St} (a : Out ms σ σ1) (b : Out ns σ1 σ2) : Out (ms ++ ns) σ σ2 :=
  ⟨b.1.trans a.1, fun j n => (b.2 j fun m => n (List.mem_append_right _ m)).trans (a.2 j fun m => n (List.mem_append_left _ m))⟩
mutual
theorem Sh.imp : ∀ (s : Sh) {v : IV} {w : V} {ρ ρ' : Sl} {σ : L2.St} {Q : L2.St → Hp → Prop}, ER K μ z H ρ σ → VR K μ z H v w → s.tg v ρ = some ρ' → (∀ σ', ER K μ z H ρ' σ' → Out s.ns σ σ' → Q σ' H) → s.raw K w σ H Q
  | .n i, v, w, ρ, ρ', σ, Q, er, vr, e, q => by
    have e' : ρ.set i (some v) = ρ' := Option.some.inj e
    subst e'
    unfold Sh.raw
    refine q _ (er.set vr i) ⟨List.length_set, fun j n => ?_⟩
    have nj : i ≠ j := fun z => n (by unfold Sh.ns; rw [z]; exact List.mem_cons_self)
    exact List.getElem?_set_ne nj
  | .t ts, v, w, ρ, ρ', σ, Q, er, vr, e, q => by
    unfold Sh.tg at e
    unfold Sh.raw
    cases vr with
    | @tup a xs vs hq hvs =>
      have e' : (if xs.length = ts.len then Shs.tgs ts xs ρ else none) = some ρ' := e
      by_cases hl : xs.length = ts.len
      · rw [if_pos hl] at e'
        exact ⟨a, vs, rfl, hq, by rw [← hvs.length]; exact hl, Shs.imp ts er hvs e' q⟩
      · rw [if_neg hl] at e'
        cases e'
    | _ => cases e
theorem Shs.imp : ∀ (s : Shs) {vs : List IV} {ws : List V} {ρ ρ' : Sl} {σ : L2.St} {Q : L2.St → Hp → Prop}, ER K μ z H ρ σ → VRs K μ z H vs ws → s.tgs vs ρ = some ρ' → (∀ σ', ER K μ z H ρ' σ' → Out s.nss σ σ' → Q σ' H) → s.raws K ws σ H Q
  | .nil, vs, ws, ρ, ρ', σ, Q, er, vr, e, q => by
    unfold Shs.tgs at e
    unfold Shs.raws
    cases vr with
    | nil =>
      cases e
      exact ⟨rfl, q σ er ⟨rfl, fun _ _ => rfl⟩⟩
    | cons _ _ => cases e
  | .cons s r, vs, ws, ρ, ρ', σ, Q, er, vr, e, q => by
    unfold Shs.tgs at e
    unfold Shs.raws
    cases vr with
    | nil => cases e
    | @cons v w rs ws hv hvs =>
      have e' : (s.tg v ρ).bind (fun ρ1 => r.tgs rs ρ1) = some ρ' := e
      obtain ⟨ρ1, e1, e2⟩ := Option.bind_eq_some_iff.mp e'
      exact ⟨w, ws, rfl, Sh.imp s er hv e1 fun σ1 er1 o1 => Shs.imp r er1 hvs e2 fun σ2 er2 o2 => q σ2 er2 (by unfold Shs.nss; exact o1.trans o2)⟩
end
theorem wipe_get (σ : L2.St) : ∀ (vs : List Nat) (j : Nat), (L2.wipe σ vs)[j]? = if j ∈ vs then (σ[j]?.map fun _ => none) else σ[j]?
  | [], j => by rw [if_neg (by simp)]; rfl
  | v :: vs, j => by
    unfold L2.wipe
    have ih := wipe_get σ vs j
    by_cases hv : v = j
    · subst hv
      rw [if_pos List.mem_cons_self]
      by_cases hl : v < (L2.wipe σ vs).length
      · rw [List.getElem?_set_self hl]
        rw [L2.wipe_length] at hl
        rw [List.getElem?_eq_getElem hl]
        rfl
      · rw [List.getElem?_eq_none (by rw [List.length_set]; omega)]
        rw [L2.wipe_length] at hl
        rw [List.getElem?_eq_none (by omega)]
        rfl
    · rw [List.getElem?_set_ne hv, ih]
      have : (j ∈ v :: vs) ↔ j ∈ vs := by
        rw [List.mem_cons]
        exact ⟨fun q => q.resolve_left fun e => hv e.symm, .inr⟩
      by_cases hm : j ∈ vs
      · rw [if_pos hm, if_pos (this.mpr hm)]
      · rw [if_neg hm, if_neg fun q => hm (this.mp q)]
theorem Out.wipe {ns own : List Nat} {σ σ' : L2.St} (o : Out ns σ σ') (s : ∀ i ∈ ns, i ∈ own) : L2.wipe σ' own = L2.wipe σ own := by
  apply List.ext_getElem?
  intro j
  rw [wipe_get, wipe_get]
  by_cases hj : j ∈ own
  · rw [if_pos hj, if_pos hj]
    by_cases hl : j < σ.length
    · rw [List.getElem?_eq_getElem hl, List.getElem?_eq_getElem (by rw [o.1]; exact hl)]
      rfl
    · have hl' : ¬ j < σ'.length := by rw [o.1]; exact hl
      rw [List.getElem?_eq_none (Nat.le_of_not_lt hl), List.getElem?_eq_none (Nat.le_of_not_lt hl')]
  · rw [if_neg hj, if_neg hj]
    exact o.2 j fun m => hj (s j m)
theorem wipe_wipe (σ : L2.St) (own : List Nat) : L2.wipe (L2.wipe σ own) own = L2.wipe σ own := by
  apply List.ext_getElem?
  intro j
  rw [wipe_get, wipe_get]
  by_cases hj : j ∈ own
  · rw [if_pos hj, if_pos hj]
    cases σ[j]? <;> rfl
  · rw [if_neg hj, if_neg hj]
def ownOk (s : Sh) (own : List Nat) : Bool := s.ns.all fun i => own.contains i
theorem ownOk_of {s : Sh} {own : List Nat} (h : ownOk s own = true) : ∀ i ∈ s.ns, i ∈ own := fun i m => by
  have := List.all_eq_true.mp h i m
  simpa using this
theorem lc_imp {d : DenA} {s : Sh} {tt : DenT} {el : Den} {own : List Nat} (ho : ownOk s own = true) {σ : L2.St} {H : Hp} {Q : VK} (q : tF K E (fLc d s.tg tt el own) σ H Q) : tLc (tIV K E d) (s.raw K) (tT K noX tt) (tD K noX el) own σ H Q := by
  have q2 := i_lc (K := K) (E := E) σ H Q (fun _ _ _ _ _ _ _ _ _ => .inr trivial) q
  obtain ⟨μ, z, h, ρ, hr, er, p⟩ := q2
  refine ⟨μ, z, h, ρ, hr, er, p.mono fun μ1 h1 H1 items s1 hr1 p1 J G Y wk yy D nD => ?_⟩
  obtain ⟨W, w0, turn⟩ := p1 J G Y wk yy D nD
  refine ⟨W, w0, fun i m H' w => ?_⟩
  rcases turn i m H' w with q | ⟨go, Nx, hN, step⟩
  · exact .inl q
  · refine .inr ⟨go, Nx, hN, fun x H2 y => ?_⟩
    obtain ⟨μ3, z3, ρ3, iv, ρ4, er3, vr3, e3, k3⟩ := step x H2 y
    exact s.imp er3 vr3 e3 fun σ' er' o => ⟨(o.wipe (ownOk_of ho)).trans (wipe_wipe σ own), k3 σ' er'⟩
theorem PTs_imp {ifs : List Expr} {t t' : TT} (h : PTs X ifs t) (i : ∀ σ H Q, t' σ H Q → t σ H Q) : PTs X ifs t' := ⟨fun pins s σ H Q I q => h.run pins s σ H Q I (i σ H Q q)⟩
def dYes : DenT := fun _ h => .ok true h
theorem r_ifs0 : PTs X [] (tT X.K E dYes) := PTs_imp pts_nil fun σ H Q ⟨μ, z, h, ρ, hr, er, p⟩ => p μ H Step.refl hr
theorem r_ifs1 {c : Expr} {t : DenT} (h : PT X c (tT X.K E t)) : PTs X [c] (tT X.K E t) := pts_one h
theorem r_rawN {i : Nat} {x : Str} (hN : X.N.Nodup) (hi : X.N[i]? = some x) (hx : Loc X.env.scope x) (hf : X.fn x = true ∨ X.env.scope.names.lookup x = some .local := by first | exact .inl rfl | exact .inr rfl | assumption) : PG X (.Name x pos) ((Sh.n i).raw X.K) := pg_name hN hi hx hf
theorem r_rawT {as : List Expr} {k : Nat} {ts : Shs} (hc : X.calm = true) (h : PGs X as (ts.raws X.K)) (hn : (assignEach as X.env).length = ts.len := by rfl) (hst : (assignEach as X.env).findIdx? (·.1) = none := by rfl) : PG X (.Tuple as k pos) ((Sh.t ts).raw X.K) := pg_tup hc h hn hst
theorem r_rawsN : PGs X [] (Shs.nil.raws X.K) := pgs_nil
theorem r_rawsC {a : Expr} {as : List Expr} {s : Sh} {r : Shs} (h1 : PG X a (s.raw X.K)) (h2 : PGs X as (r.raws X.K)) (hs : (assignEach (a :: as) X.env).map (·.2) = assign a X.env :: (assignEach as X.env).map (·.2) := by rfl) : PGs X (a :: as) ((Shs.cons s r).raws X.K) := pgs_cons h1 h2 hs
/-- a target of a statement, by its shape -/
theorem r_sh {tg : Expr} {s : Sh} (h : PG X tg (s.raw X.K)) : PG X tg (gI X.K s.tg) := PG_imp h (by
  rintro v σ H Q ⟨μ, z, ρ, iv, ρ', er, vr, e, q⟩
  exact s.imp er vr e fun σ' er' _ => q σ' er')
theorem r_lc {elt tg iter : Expr} {ifs : List Expr} {scope : Scope} {own : List (Str × Nat)} {d : DenA} {s : Sh} {tt : DenT} {el : Den} (hc : X.calm = true) (hN : X.N.Nodup) (hi : PI X tg iter (tIV X.K E d)) (ok : BlkOk X.N X.env.scope scope own) (ho : ownOk s (own.map (·.2)) = true)
    (hg : ∀ (s1 : Shared) (H : Hp) (C : Addr) (cl : List (Str × Addr)) (fp : List Addr), PG (X.blk s1 H scope (compEnvC scope cl C X.env) fp) tg (s.raw X.K))
    (ht : ∀ (s : Shared) (H : Hp) (C : Addr) (cl : List (Str × Addr)) (fp : List Addr), PTs (X.blk s H scope (compEnvC scope cl C X.env) fp) ifs (tT X.K noX tt))
    (he : ∀ (s : Shared) (H : Hp) (C : Addr) (cl : List (Str × Addr)) (fp : List Addr), PE (X.blk s H scope (compEnvC scope cl C X.env) fp) elt (tD X.K noX el)) (hs : ∀ x, foldedSetIterable iter X.env x = pure x := by intro _; rfl) :
    PE X (.ListComp elt [⟨tg, iter, ifs, 0⟩] scope pos) (tF X.K E (fLc d s.tg tt el (own.map (·.2)))) :=
  PE_imp (pe_lc hc hN hi ok hg ht he hs) fun σ H Q q => lc_imp ho q
theorem set_imp {d : Den} {i : Nat} {D : Ends} {σ : L2.St} {H : Hp} (q : tS K E (sAsg (tgN i) d) D σ H) : tD K E d σ H fun x H1 => gName i x σ H1 D.nx := by
  obtain ⟨μ, z, h, ρ, hr, er, p⟩ := q
  refine tD_of hr er p.bind fun μ1 h1 H1 v w s1 hr1 p1 vr1 => ?_
  exact p1 μ1 H1 Step.refl hr1 _ ((er.step s1).set vr1 i) hr1
section
variable {i : Nat} {y : Str} {py : Pos} {elt tg iter : Expr} {ifs : List Expr} {scope : Scope} {own : List (Str × Nat)} {d : DenA} {s : Sh} {tt : DenT} {el : Den} {spos : Pos}
theorem r_setLcF (hc : X.calm = true) (hN : X.N.Nodup) (hy : X.N[i]? = some y) (hyl : X.env.scope.names.lookup y = some .local)
    (hsw : swapsWith (.ListComp elt [⟨tg, iter, ifs, 0⟩] scope pos) (some (.Name y py)) spos.line X.env = pure true) (hi : PI X tg iter (tIV X.K E d)) (ok : BlkOk X.N X.env.scope scope own) (ho : ownOk s (own.map (·.2)) = true)
    (hg : ∀ (s1 : Shared) (H : Hp) (C : Addr) (cl : List (Str × Addr)) (fp : List Addr), PG (X.blk s1 H scope (compEnvC scope cl C X.env) fp) tg (s.raw X.K))
    (ht : ∀ (s : Shared) (H : Hp) (C : Addr) (cl : List (Str × Addr)) (fp : List Addr), PTs (X.blk s H scope (compEnvC scope cl C X.env) fp) ifs (tT X.K noX tt))
    (he : ∀ (s : Shared) (H : Hp) (C : Addr) (cl : List (Str × Addr)) (fp : List Addr), PE (X.blk s H scope (compEnvC scope cl C X.env) fp) elt (tD X.K noX el)) (hs : ∀ x, foldedSetIterable iter X.env x = pure x := by intro _; rfl) :
    PS X (.Assign [.Name y py] (.ListComp elt [⟨tg, iter, ifs, 0⟩] scope pos) spos) (tS X.K E (sAsg (tgN i) (dFl (fLc d s.tg tt el (own.map (·.2)))))) :=
  PS_imp (ps_setLc hc hN hy hyl hsw hi ok hg ht he hs) fun D σ H q => lc_imp ho (i_fl σ H _ (set_imp q))
theorem r_setLcA (hc : X.calm = true) (hN : X.N.Nodup) (hy : X.N[i]? = some y) (hyl : X.env.scope.names.lookup y = some .local)
    (hsw : swapsWith (.ListComp elt [⟨tg, iter, ifs, 0⟩] scope pos) (some (.Name y py)) spos.line X.env = pure true) (hi : PI X tg iter (tIV X.K E d)) (ok : BlkOk X.N X.env.scope scope own) (ho : ownOk s (own.map (·.2)) = true)
    (hg : ∀ (s1 : Shared) (H : Hp) (C : Addr) (cl : List (Str × Addr)) (fp : List Addr), PG (X.blk s1 H scope (compEnvC scope cl C X.env) fp) tg (s.raw X.K))
    (ht : ∀ (s : Shared) (H : Hp) (C : Addr) (cl : List (Str × Addr)) (fp : List Addr), PTs (X.blk s H scope (compEnvC scope cl C X.env) fp) ifs (tT X.K noX tt))
    (he : ∀ (s : Shared) (H : Hp) (C : Addr) (cl : List (Str × Addr)) (fp : List Addr), PE (X.blk s H scope (compEnvC scope cl C X.env) fp) elt (tD X.K noX el)) (hs : ∀ x, foldedSetIterable iter X.env x = pure x := by intro _; rfl) :
    PS X (.Assign [.Name y py] (.ListComp elt [⟨tg, iter, ifs, 0⟩] scope pos) spos) (tS X.K E (sAsg (tgN i) (dAl (fLc d s.tg tt el (own.map (·.2)))))) :=
  PS_imp (ps_setLc hc hN hy hyl hsw hi ok hg ht he hs) fun D σ H q => lc_imp ho (i_al σ H _ (set_imp q))
end

/-! ### defs and calls -/
abbrev FnI := List IV → Mem → Ret IV
def spI (K : PySem.W.Frag) (f : FnI) : Sp := fun vs H Q _ => ∃ μ z h as, HR K μ z h H ∧ VRs K μ z H as vs ∧ post K noX μ z H (f as h) (VQ K z Q)
/-- n slots, of which the first m are parameters -/
def funI (n m : Nat) (b : DenS) : FnI := fun as h => if as.length = m then (b (as.map some ++ List.replicate (n - as.length) none) h).bind fun r h1 => match r.1 with
    | .nx => .ok .non h1
    | .rt v => .ok v h1
    | _ => .bad
  else .bad
theorem er_start {N : List Str} {as : List IV} {vs : List V} (vr : VRs K μ z H as vs) : ER K μ z H (as.map some ++ List.replicate (N.length - as.length) none) (L2.start N vs) := by
  unfold L2.start
  rw [vr.length]
  refine ⟨by rw [List.length_append, List.length_append, List.length_map, List.length_map, vr.length, List.length_replicate, List.length_replicate], fun i x e => ?_⟩
  by_cases hi : i < as.length
  · rw [List.getElem?_append_left (by rw [List.length_map]; exact hi), List.getElem?_map] at e
    rw [List.getElem?_eq_getElem hi] at e
    have e2 : as[i] = x := Option.some.inj (Option.some.inj e)
    obtain ⟨v, h1, h2⟩ := vr.get (i := i) (x := as[i]) (List.getElem?_eq_getElem hi)
    refine ⟨v, ?_, by rw [← e2]; exact h2⟩
    rw [List.getElem?_append_left (by rw [List.length_map, ← vr.length]; exact hi), List.getElem?_map, h1]
    rfl
  · rw [List.getElem?_append_right (by rw [List.length_map]; omega), List.getElem?_replicate] at e
    split at e <;> cases e
section
variable {P : Program} {w : World} {mg : Str → Option Value} {base : Heap}
theorem fn_ok {x qual : Str} {st : Stmt} {f : Addr} {fd : FuncData} {N ps : List Str} {k : Nat} {b : DenS} {m n : Nat} (F : Fun K x qual st f fd) (S : FnScope N ps (defScope st)) (hm : ps.length = m) (hn : N.length = n)
    (hb : ∀ (cdv : Value) (A : Around) (outer : List Env) (s : Shared) (H : Hp) (E : XK), Room k (A.deeper (envOfC qual (defScope st) s.heap.objs.size f cdv)) → PSs (cxOf CX0 P w K mg base N qual (defScope st) f cdv A outer s H E).nox (defBody st) (tS K noX b)) :
    FnOk P w K mg base CX0 (k + 1) f fd ps (spI K (funI n m b)) := by
  subst hm hn
  refine F.ok S (fun vs H Q E h => ?_) (fun cdv A outer s H vs Q E hr h => ⟨tS K noX b, hb cdv A outer s H E hr, ?_⟩)
  · obtain ⟨μ, z, h, as, hr, vr, p⟩ := h
    unfold funI at p
    by_cases hl : as.length = ps.length
    · rw [← vr.length]; exact hl
    · rw [if_neg hl] at p; exact p.elim
  · obtain ⟨μ, z, h, as, hr, vr, p⟩ := h
    unfold funI at p
    by_cases hl : as.length = ps.length
    · rw [if_pos hl] at p
      refine ⟨μ, z, h, _, hr, er_start vr, p.bind.mono fun μ1 h1 H1 r s1 hr1 p1 => ?_⟩
      obtain ⟨fl, ρ1⟩ := r
      cases fl with
      | nx => exact fun σ' er' hr' => p1 μ1 H1 Step.refl hr1 .non .non
      | bk => exact p1.elim
      | ct => exact p1.elim
      | rt v => exact p1 μ1 H1 Step.refl hr1
    · rw [if_neg hl] at p; exact p.elim
end
theorem i_call {f : FnI} {a : DenA} (σ : L2.St) (H : Hp) (Q : VK) (q : tD K noX (dArg f a) σ H Q) : tCall (spI K f) [] E0 (tAr K noX a) σ H Q := by
  obtain ⟨μ, z, h, ρ, hr, er, p⟩ := q
  refine ⟨μ, z, h, ρ, hr, er, p.bind.mono fun μ1 h1 H1 vs s1 hr1 p1 ws vr => ?_⟩
  exact ⟨μ1, z, h1, vs, hr1, by rw [List.append_nil]; exact vr, p1⟩
theorem r_call {k j : Nat} {f : Addr} {fd : FuncData} {ps : List Str} {x : Str} {p : Pos} {es : List Expr} {g : FnI} {a : DenA} (F : FnOk X.prog X.w X.K X.mg X.base CX0 k f fd ps (spI X.K g)) (hr : Room j X.A) (hj : k ≤ j) (hg : Gl X x) (hm : X.mg x = some (.ref f)) (hk : PySem.W.keepIn X.K (.ref f) = true) (hb : Binds X.K fd ps [])
    (ha : PA X (e :: es) (tAr X.K noX a)) (hdb : (x == ("__debug__" : Str)) = false := by decide) (he : starEach (e :: es) X.env = (false, eval e X.env) :: starEach es X.env := by rfl) (hpl : (backTo pos (starEach es X.env)).any (·.1) = false := by rfl) :
    PE X (.Call (.Name x p) (e :: es) [] pos) (tD X.K noX (dArg g a)) := PE_imp (pe_call F (hr.mono hj) hg hm hk hb .nil pass0 ha hdb he hpl) i_call
end
end VI
end

section
/-! Defs and calls while no text of anything is under way (which repr asks). -/
namespace VI
open PySem PySem.Spec PyProof.Rows L2
structure FnG (P : Program) (w : World) (K : PySem.W.Frag) (mg : Str → Option Value) (base : Heap) (CX : CXT) (k : Nat) (f : Addr) (fd : FuncData) (ps : List Str) (sp : Sp) : Prop where
  len : ∀ vs H Q E, sp vs H Q E → vs.length = ps.length
  run : ∀ (A : Around) (outer : List Env) (s : Shared) (H : Hp) (args : Args) (us : List Value) (vs : List V) (Q : VK) (E : XK), Room k A → A.guards = some [] → Env0 P w K mg base A outer s H → BindsTo s fd args (ps.zip us) → Vals vs us →
    sp vs H Q E → codeAny (model P w) A (.call (.ref f) args) (CR CX outer P w H s Q E) s
section
variable {P : Program} {w : World} {K : PySem.W.Frag} {mg : Str → Option Value} {base : Heap} {CX : CXT} {f : Addr} {fd : FuncData} {N ps : List Str} {sp : Sp} {k j : Nat} {x qual : Str} {st : Stmt}
theorem FnG.mono (F : FnG P w K mg base CX j f fd ps sp) (h : j ≤ k) : FnG P w K mg base CX k f fd ps sp :=
  ⟨F.len, fun A outer s H args us vs Q E room => F.run A outer s H args us vs Q E (room.mono h)⟩
/-- a def's promise by its body -/
theorem fnG_of (F : Fun K x qual st f fd) (S : FnScope N ps (defScope st)) (len : ∀ vs H Q E, sp vs H Q E → vs.length = ps.length)
    (body : ∀ (cdv : Value) (A : Around) (outer : List Env) (s : Shared) (H : Hp) (vs : List V) (Q : VK) (E : XK), Room k (A.deeper (envOfC qual (defScope st) s.heap.objs.size f cdv)) → A.guards = some [] → sp vs H Q E →
      ∃ t, PSs (cxOf CX P w K mg base N qual (defScope st) f cdv A outer s H E) (defBody st) t ∧ t { nx := fun _ H' => Q .non H', rt := Q } (L2.start N vs) H) : FnG P w K mg base CX (k + 1) f fd ps sp := by
  obtain ⟨oc, od, kV, doc, pm, an, cdv, ct, osl, rfl, lk, cr⟩ := F.ex
  constructor
  · exact len
  · intro A outer s H args us vs Q E room gds env bnd rel prom
    have arity := len vs H Q E prom
    have kin := env.mod.kin.keeps fun b o he => (env.bs b o he).1
    have lim := env.mod.nolimit.keeps fun b o he => (env.bs b o he).1
    refine codeAny_call_function room.depth (kin _ _ lk) rfl S.co S.gen rfl (PySem.W.codeRec_of kin cr) (bnd _ _ _ _ ?_)
    have slots : ∀ y ∈ ps.zip us, (defScope st).names.lookup y.1 = some .local ∨ ((defScope st).names.lookup y.1 = some .cell ∧ ((cellsFrom (s.heap.objs.size + 1) (defScope st).names []).lookup y.1).isSome = true) := by
      intro y hy
      have hm := S.par y.1 (List.of_mem_zip (a := y.1) (b := y.2) hy).1
      exact hm.imp id fun q => ⟨q, PySem.W.cellsFrom_some _ _ _ (.inl q)⟩
    refine wpAny_newFunctionEnv_cells S.kind slots fun env' he s1 at1 => ?_
    subst he
    refine ⟨lim.keeps at1.toInCall.keep, codeAny_func ?_⟩
    obtain ⟨t, ht, hq⟩ := body cdv A outer s H vs Q E (room.deeper _) gds prom
    have inv := inv_start (CX := CX) (E := E) S room.hd env arity rel at1
    refine wpAny_mono (ht.run [] s1 _ H _ inv hq) ?_ fun _ _ q => q
    intro fl s' q
    cases fl with
    | brk => exact (q.elim fun _ q => q.elim fun _ q => q.2).elim
    | cont => exact (q.elim fun _ q => q.elim fun _ q => q.2).elim
    | next =>
      obtain ⟨σ', H', J, q⟩ := q
      exact ⟨V.non, H', J.os, J.bare, J.base, J.hok, (rfl : Value.none = Value.none), q⟩
    | ret u =>
      obtain ⟨v, σ', H', J, rv, q⟩ := q
      exact ⟨v, H', J.os, J.bare, J.base, J.hok, rv, q⟩
/-- a def that returns what f tells -/
theorem fn_okG {b : DenS} {m n : Nat} (F : Fun K x qual st f fd) (S : FnScope N ps (defScope st)) (hm : ps.length = m) (hn : N.length = n)
    (hb : ∀ (cdv : Value) (A : Around) (outer : List Env) (s : Shared) (H : Hp) (E : XK), Room k (A.deeper (envOfC qual (defScope st) s.heap.objs.size f cdv)) → A.guards = some [] → PSs (cxOf CX0 P w K mg base N qual (defScope st) f cdv A outer s H E).nox (defBody st) (tS K noX b)) :
    FnG P w K mg base CX0 (k + 1) f fd ps (spI K (funI n m b)) := by
  subst hm hn
  refine fnG_of F S (fun vs H Q E h => ?_) (fun cdv A outer s H vs Q E hr hg h => ⟨tS K noX b, (hb cdv A outer s H E hr hg).nox, ?_⟩)
  · obtain ⟨μ, z, h, as, hr, vr, p⟩ := h
    unfold funI at p
    by_cases hl : as.length = ps.length
    · rw [← vr.length]; exact hl
    · rw [if_neg hl] at p; exact p.elim
  · obtain ⟨μ, z, h, as, hr, vr, p⟩ := h
    unfold funI at p
    by_cases hl : as.length = ps.length
    · rw [if_pos hl] at p
      refine ⟨μ, z, h, _, hr, er_start vr, p.bind.mono fun μ1 h1 H1 r s1 hr1 p1 => ?_⟩
      obtain ⟨fl, ρ1⟩ := r
      cases fl with
      | nx => exact fun σ' er' hr' => p1 μ1 H1 Step.refl hr1 .non .non
      | bk => exact p1.elim
      | ct => exact p1.elim
      | rt v => exact p1 μ1 H1 Step.refl hr1
    · rw [if_neg hl] at p; exact p.elim
end
section
variable {X : Cx} {CX : CXT} {k j : Nat} {f : Addr} {fd : FuncData} {ps : List Str} {sp : Sp} {E : XK} {x : Str} {p pos : Pos} {e : Expr} {es : List Expr} {t : TA}
/-- a call of such a def -/
theorem callG {pins : List (Addr × Obj)} {σ : L2.St} {H : Hp} {s : Shared} {Q : VK} {us : List Value} {vs : List V} (F : FnG X.prog X.w X.K X.mg X.base CX k f fd ps sp) (room : Room k X.A) (gds : X.A.guards = some []) (hb : Binds X.K fd ps []) (hx : Passes CX X E)
    (inv : Inv X pins σ H s) (rel : Vals vs us) (prom : sp vs H Q E) : wpAny (model X.prog X.w) X.A (PySem.call (.ref f) us) (EP X pins σ Q) X.xe s := by
  have arity : us.length = ps.length := rel.length.symm.trans (F.len vs H Q E prom)
  have bnd : BindsTo s fd ⟨us, []⟩ (ps.zip us) := by
    have q := hb s us inv.kIn (by rw [List.append_nil]; exact arity)
    rw [List.append_nil] at q
    exact q
  refine wpAny_call (codeAny_mono (F.run X.A X.stack s H ⟨us, []⟩ us vs Q E room gds inv.env0 bnd rel prom) ?_)
  intro r s' q
  match r, q with
  | .error e, q => exact hx pins σ H s e s' inv q
  | .ok (.ret u), q => exact inv.after q
  | .ok .next, q => exact q.elim
  | .ok .brk, q => exact q.elim
  | .ok .cont, q => exact q.elim
theorem pe_callG (F : FnG X.prog X.w X.K X.mg X.base CX k f fd ps sp) (room : Room j X.A) (hj : k ≤ j) (gds : X.A.guards = some []) (hg : Gl X x) (hm : X.mg x = some (.ref f)) (hk : PySem.W.keepIn X.K (.ref f) = true) (hb : Binds X.K fd ps []) (hx : Passes CX X E)
    (ha : PA X (e :: es) t) (hdb : (x == ("__debug__" : Str)) = false := by decide) (he : starEach (e :: es) X.env = (false, eval e X.env) :: starEach es X.env := by rfl) (hpl : (backTo pos (starEach es X.env)).any (·.1) = false := by rfl) :
    PE X (.Call (.Name x p) (e :: es) [] pos) (tCall sp [] E t) := by
  constructor
  intro pins s σ H Q inv q
  refine wpAny_Call_Name_kw (ld_glob inv hg hm (PySem.W.callWith_K (h₀ := X.base) inv.ok.mod.kin hk (thn (ha.run pos pins s σ H _ inv q) ?_) he hpl) hdb)
  rintro us s1 ⟨vs, H1, inv1, rel, prom⟩
  rw [List.append_nil] at prom
  exact ⟨inv1.kIn, callG F (room.mono hj) gds hb hx inv1 rel prom⟩
theorem r_callG {g : FnI} {a : DenA} (F : FnG X.prog X.w X.K X.mg X.base CX0 k f fd ps (spI X.K g)) (room : Room j X.A) (hj : k ≤ j) (gds : X.A.guards = some []) (hg : Gl X x) (hm : X.mg x = some (.ref f)) (hk : PySem.W.keepIn X.K (.ref f) = true) (hb : Binds X.K fd ps [])
    (ha : PA X (e :: es) (tAr X.K noX a)) (hdb : (x == ("__debug__" : Str)) = false := by decide) (he : starEach (e :: es) X.env = (false, eval e X.env) :: starEach es X.env := by rfl) (hpl : (backTo pos (starEach es X.env)).any (·.1) = false := by rfl) :
    PE X (.Call (.Name x p) (e :: es) [] pos) (tD X.K noX (dArg g a)) := PE_imp (pe_callG F room hj gds hg hm hk hb pass0 ha hdb he hpl) i_call
end
/-! ### the law's end -/
section
variable {P : Program} {w : World} {K : PySem.W.Frag} {mg mb : Str → Option Value} {CX : CXT} {k : Nat} {fa a : Addr} {fd : FuncData} {x : Str} {g : FnI}
/-- from a heap in which nothing but the script may be tracked -/
theorem lawG0 {t : Shared} {vs : List Value} {ns : List Int} {H : Hp} (kin : K.In t.heap) (hns : t.heap.Ns mainGlobals mg) (hb : t.heap.Ns builtinsNs mb) (hbb : ∀ x : Str, x ≠ "__name__" → mb x = bootBuiltins x) (hlim : t.heap.NoLimit) (hg : t.gens = #[])
    (ha : t.heap.get? a = some { cls := .type "list", data := .seq vs.toArray }) (room : Room k callerA) (hok : HOk P w H t.heap) (one : ∀ b u, H b = some u → b = a ∧ K.lookup a = none ∧ ∃ o v, u = .frz o v) (rel : VR K [] [] H (.fz (ns.map IV.int)) (.ref a))
    (F : ∀ base : Heap, K.In base → base.Ns mainGlobals mg → FnG P w K mg base CX0 k fa fd [x] (spI K g)) (hbind : ∀ (s : Shared) (u : Value), BindsTo s fd ⟨[u], []⟩ [(x, u)])
    (hsp : ∃ h, g [.fz (ns.map IV.int)] [] = .ok (.bl true) h) :
    codeAny (model P w) callerA (.call (.ref fa) ⟨[.ref a], []⟩) (fun r t' => r = .ok (.ret (.bool true)) ∧ OldK t.heap t'.heap ∧ t'.os = t.os ∧ AllBare t'.gens) t := by
  have dicts : ∀ {b : Addr} {o : Obj} {es : Array DictEntry} {ep : Nat}, t.heap.get? b = some o → o.data = .dict es ep → H b = none := by
    intro b o es ep e d
    cases q : H b with
    | none => rfl
    | some u =>
      have z := (one b u q).1
      subst z
      rw [ha] at e
      rw [← Option.some.inj e] at d
      cases d
  have names : ∀ {b : Addr} {m : Str → Option Value}, t.heap.Ns b m → (hidT t.heap H).Ns b m := fun ⟨o, es, ep, e, d, r⟩ => ⟨o, es, ep, hidT_get e (dicts e d), d, r⟩
  have kinB : K.In (hidT t.heap H) := by
    intro b o e
    refine hidT_get (kin b o e) ?_
    cases q : H b with
    | none => rfl
    | some u =>
      obtain ⟨z, n, _⟩ := one b u q
      rw [z, n] at e
      cases e
  obtain ⟨mc, l1, l2⟩ := hlim
  have md : Mod K mg (hidT t.heap H) := ⟨kinB, names hns, ⟨mb, names hb, hbb⟩, mc, names l1, l2⟩
  have env : Env0 P w K mg (hidT t.heap H) callerA [] t H :=
    { frames := rfl, mod := md, bs := fun b o e => of_hidT e, bsz := Nat.le_of_eq (hidT_size _ _), funs := trivial, frf := fun b m => absurd (show b ∈ ([] : List Addr) from m) List.not_mem_nil, hok := hok, bare := .of_eq hg }
  obtain ⟨h, eg⟩ := hsp
  have prom : spI K g [.ref a] H (fun v _ => v = .bl true) E0 := by
    refine ⟨[], [], [], [.fz (ns.map IV.int)], ⟨rfl, List.nodup_nil, fun l b o e => by simp at e, fun b m => absurd m List.not_mem_nil⟩, .cons rel .nil, ?_⟩
    rw [eg]
    intro μ' H' _ _ w vr
    cases vr
    rfl
  refine codeAny_mono ((F _ kinB (names hns)).run callerA [] t H ⟨[.ref a], []⟩ [.ref a] [.ref a] _ E0 room rfl env (hbind t (.ref a)) (.cons rfl .nil) prom) ?_
  intro r t' q
  match r, q with
  | .error e, q => exact q.elim
  | .ok .next, q => exact q.elim
  | .ok .brk, q => exact q.elim
  | .ok .cont, q => exact q.elim
  | .ok (.ret u), q =>
    obtain ⟨v, H', os, bare, un, hok', rv, ev⟩ := q
    have ev' : v = .bl true := ev
    rw [ev'] at rv
    have eu : u = Value.bool true := rv
    rw [eu]
    refine ⟨rfl, OldK.of_keep fun b o e => ?_, os, bare⟩
    cases z : H b with
    | none => exact un.keep b o e z (fun m => absurd (show b ∈ ([] : List Addr) from m) List.not_mem_nil) List.not_mem_nil
    | some u =>
      obtain ⟨_, _, o2, v2, e2⟩ := one b u z
      subst e2
      have e3 := (hok b _ z).1
      have e4 := (hok' b _ (un.frzs b o2 v2 z)).1
      rw [e] at e3
      rw [Option.some.inj e3]
      exact e4
theorem lawG {t : Shared} {vs : List Value} {ns : List Int} (kin : K.In t.heap) (hns : t.heap.Ns mainGlobals mg) (hb : t.heap.Ns builtinsNs mb) (hbb : ∀ x : Str, x ≠ "__name__" → mb x = bootBuiltins x) (hlim : t.heap.NoLimit) (hg : t.gens = #[])
    (ha : t.heap.get? a = some { cls := .type "list", data := .seq vs.toArray }) (hi : IntsAre vs ns) (hl : ns.length ≤ sizeLine) (room : Room k callerA)
    (F : ∀ base : Heap, K.In base → base.Ns mainGlobals mg → FnG P w K mg base CX0 k fa fd [x] (spI K g)) (hbind : ∀ (s : Shared) (u : Value), BindsTo s fd ⟨[u], []⟩ [(x, u)])
    (hsp : ∃ h, g [.fz (ns.map IV.int)] [] = .ok (.bl true) h) :
    codeAny (model P w) callerA (.call (.ref fa) ⟨[.ref a], []⟩) (fun r t' => r = .ok (.ret (.bool true)) ∧ OldK t.heap t'.heap ∧ t'.os = t.os ∧ AllBare t'.gens) t := by
  have rv := vals_ints hi
  cases hka : K.lookup a with
  | some o =>
    have e := kin a o hka
    rw [ha] at e
    have e2 := Option.some.inj e
    subst e2
    refine lawG0 (H := fun _ => none) kin hns hb hbb hlim hg ha room (fun b u q => by cases q) (fun b u q => by cases q) ?_ F hbind hsp
    exact .fz (.inr ⟨_, vs.toArray, _, hka, rfl, rfl, rfl, by rw [List.size_toArray, hi.length]; exact hl, by simpa using rv⟩) (VRs.ofInts ns)
  | none =>
    let H : Hp := fun b => if b = a then some (.frz { cls := .type "list", data := .seq vs.toArray } (.lst (ns.map V.int))) else none
    have hH : H a = some (.frz { cls := .type "list", data := .seq vs.toArray } (.lst (ns.map V.int))) := if_pos rfl
    have tr : ∀ b u, H b = some u → b = a ∧ u = .frz { cls := .type "list", data := .seq vs.toArray } (.lst (ns.map V.int)) := by
      intro b u q
      by_cases e : b = a
      · subst e
        rw [hH] at q
        exact ⟨rfl, (Option.some.inj q).symm⟩
      · have q2 : (if b = a then some (HO.frz { cls := .type "list", data := .seq vs.toArray } (.lst (ns.map V.int))) else none) = some u := q
        rw [if_neg e] at q2
        cases q2
    refine lawG0 (H := H) kin hns hb hbb hlim hg ha room ?_ ?_ (.fz (.inl ⟨_, hH⟩) (VRs.ofInts ns)) F hbind hsp
    · intro b u q
      obtain ⟨e1, e2⟩ := tr b u q
      subst e1 e2
      exact ⟨ha, by rw [List.length_map]; exact hl, vs, _, rv, ha⟩
    · intro b u q
      obtain ⟨e1, e2⟩ := tr b u q
      exact ⟨e1, hka, _, _, e2⟩
end
/-- the goal behind the head, from what the law's def comes to for every script -/
theorem walkG {l : PySem.W.OpenLaw} {n k : Nat} {q : Program} {loose : List Str} {XP : (Str → Option Value) → Heap → Prop} {YP : World → Heap → Prop} {d : DefRec} {K : Params → PySem.W.Frag} {x : Str} {g : FnI}
    (hn : l.most = some n) (hn2 : n ≤ sizeLine) (hdf : d.params.defaults = []) (hr : Room k callerA) (hY : ∀ (w : World) (h : Heap), YP w h → (K w.params).In h)
    (F : ∀ (w : World) (mg : Str → Option Value) (fa : Addr) (h : Heap), (K w.params).In h → h.Ns mainGlobals mg → mg d.name = some (.ref fa) →
      ∃ fd : FuncData, (∀ (s : Shared) (u : Value), BindsTo s fd ⟨[u], []⟩ [(x, u)]) ∧ ∀ base : Heap, (K w.params).In base → base.Ns mainGlobals mg → FnG l.prog w (K w.params) mg base CX0 k fa fd [x] (spI (K w.params) g))
    (hsp : ∀ ns : List Int, ns.length ≤ n → ∃ h, g [.fz (ns.map IV.int)] [] = .ok (.bl true) h) :
    PySem.W.WalkO q loose XP YP l.row.toRowW d [] (fun f vs => PySem.call f vs) := by
  refine Att.attach_call hn hdf fun w t0 t mg mb fa o pm cd doc a vs ns G Y _ _ _ hmg hobj hints hlen hgens => ?_
  have kin := hY w t.heap Y
  obtain ⟨fd, bnd, fs⟩ := F w mg fa t.heap kin G.T.g hmg
  exact lawG kin G.T.g G.T.b G.T.builtins G.T.nolimit hgens hobj hints (Nat.le_trans hlen hn2) hr fs bnd (hsp ns hlen)
end VI
end

section
/-! Operators, subscripts, calls of built-ins, over plain values. -/
namespace VI
open PySem PySem.Spec PyProof.Rows L2
def lstOf (h : Mem) (v : IV) : Option (List IV) := match v with
  | .fl xs => some xs
  | .loc l => match h[l]? with
    | some (.lst xs) => some xs
    | _ => none
  | _ => none
def seqOf (h : Mem) (v : IV) : Option (List IV) := match v with
  | .tup xs => some xs
  | .fz xs => some xs
  | v => lstOf h v
section
variable {K : PySem.W.Frag} {μ z : List Addr} {H : Hp} {h : Mem} {v : IV} {x : V} {xs : List IV}
theorem lstOf_H (hr : HR K μ z h H) (vr : VR K μ z H v x) (e : lstOf h v = some xs) : ∃ a vs, x = .ref a ∧ H a = some (.lst vs) ∧ VRs K μ z H xs vs := by
  cases vr with
  | fl hq n m r =>
    have e' := Option.some.inj e
    subst e'
    exact ⟨_, _, rfl, hq, r⟩
  | loc hl =>
    unfold lstOf at e
    simp only at e
    split at e
    · rename_i o eo
      have e' := Option.some.inj e
      subst e'
      obtain ⟨u, e1, r⟩ := hr.ob _ _ _ hl eo
      cases r with
      | lst r => exact ⟨_, _, rfl, e1, r⟩
    · cases e
  | _ => cases e
theorem SqL_KL {a : Addr} {vs : List V} (h : (∃ o, H a = some (.frz o (.lst vs))) ∨ KL K a vs) : SqL K H a vs := by
  rcases h with ⟨o, h⟩ | h
  · exact .inl (.inr ⟨o, h⟩)
  · exact .inr h
theorem seqOf_H (hr : HR K μ z h H) (vr : VR K μ z H v x) (e : seqOf h v = some xs) : ∃ a vs, x = .ref a ∧ (SqL K H a vs ∨ SqT K H a vs) ∧ VRs K μ z H xs vs := by
  cases vr with
  | tup hq r =>
    have e' := Option.some.inj e
    subst e'
    exact ⟨_, _, rfl, .inr hq, r⟩
  | fz hq r =>
    have e' := Option.some.inj e
    subst e'
    exact ⟨_, _, rfl, .inl (SqL_KL hq), r⟩
  | fl hq n m r =>
    obtain ⟨a, vs, e1, e2, e3⟩ := lstOf_H (v := .fl _) hr (.fl hq n m r) e
    exact ⟨a, vs, e1, .inl (SqL.of e2), e3⟩
  | loc hl =>
    obtain ⟨a, vs, e1, e2, e3⟩ := lstOf_H (v := .loc _) hr (.loc hl) e
    exact ⟨a, vs, e1, .inl (SqL.of e2), e3⟩
  | _ => cases e
theorem flQ {E : XI} {ws : List V} {Q : VK} (p : post K E μ z H (.ok (.fl xs) h) (VQ K z Q)) (hr : HR K μ z h H) (vr : VRs K μ z H xs ws) : ∀ q, H q = none → Q (.ref q) (upd H q (.lst ws)) := fun q n =>
  p μ _ (Step.new n) (hr.new n) _ (.fl upd_same (hr.fresh n).1 (hr.fresh n).2 (vr.step (Step.new n)))
end

/-! ### ints -/
def intF (c : Int → Int → Bool) (g : Int → Int → IV) : IV → IV → Mem → Ret IV := fun v u h => match v, u with
  | .int i, .int j => bif c i j then .ok (g i j) h else .bad
  | _, _ => .bad
theorem rb_int {K : PySem.W.Frag} {C : Int → Int → Prop} {G : Int → Int → V} {c : Int → Int → Bool} {g : Int → Int → IV} (hc : ∀ i j, c i j = true → C i j) (hg : ∀ i j μ z H, VR K μ z H (g i j) (G i j)) : RB K (rI C G) (intF c g) := by
  intro E μ z h H v u x y Q hr v1 v2 p
  cases v1 with
  | int i =>
    cases v2 with
    | int j =>
      unfold intF at p
      cases e : c i j with
      | true =>
        simp only [e, cond_true] at p
        exact ⟨i, j, rfl, rfl, hc i j e, p μ H Step.refl hr _ (hg i j μ z H)⟩
      | false =>
        simp only [e, cond_false] at p
        exact p.elim
    | _ => exact p.elim
  | _ => exact p.elim
theorem rb_int0 {K : PySem.W.Frag} {G : Int → Int → V} {g : Int → Int → IV} (hg : ∀ i j μ z H, VR K μ z H (g i j) (G i j)) : RB K (rI0 G) (intF (fun _ _ => true) g) := by
  intro E μ z h H v u x y Q hr v1 v2 p
  cases v1 with
  | int i =>
    cases v2 with
    | int j => exact ⟨i, j, rfl, rfl, p μ H Step.refl hr _ (hg i j μ z H)⟩
    | _ => exact p.elim
  | _ => exact p.elim
def subF := intF (fun _ _ => true) fun i j => .int (i - j)
def cMul (i j : Int) : Bool := (decide (-18446744073709551616 < i) && decide (i < 18446744073709551616)) || (decide (-18446744073709551616 < j) && decide (j < 18446744073709551616))
def mulF := intF cMul fun i j => .int (i * j)
def cDiv (i j : Int) : Bool := decide (j ≠ 0) && decide (j.natAbs < 1073741824)
def divF := intF cDiv fun i j => .int (i.fdiv j)
def modF := intF (fun _ j => decide (j ≠ 0)) fun i j => .int (i.fmod j)
def cPow (i j : Int) : Bool := decide (0 ≤ j) && decide (j ≤ 1000000) && decide (i.natAbs < 18446744073709551616)
def powF := intF cPow fun i j => .int (i ^ j.toNat)
def cmpF (p : Int → Int → Bool) := intF (fun _ _ => true) fun i j => .bl (p i j)
section
variable {X : Cx} {E : XI} {e a b : Expr} {pos : Pos} {da db : Den}
theorem r_sub (ha : PE X a (tD X.K E da)) (hb : PE X b (tD X.K E db)) : PE X (.BinOp a .Sub b pos) (tD X.K E (dBin subF da db)) := r_op op_sub (rb_int0 fun _ _ _ _ _ => .int _) ha hb
theorem r_mul (ha : PE X a (tD X.K E da)) (hb : PE X b (tD X.K E db)) : PE X (.BinOp a .Mult b pos) (tD X.K E (dBin mulF da db)) := r_op op_mul (rb_int (fun i j h => by
  unfold cMul at h
  rw [Bool.or_eq_true, Bool.and_eq_true, Bool.and_eq_true, decide_eq_true_eq, decide_eq_true_eq, decide_eq_true_eq, decide_eq_true_eq] at h
  unfold CMul
  have e : (18446744073709551616 : Int) = 2 ^ 64 := by decide
  rw [e] at h
  exact h) fun _ _ _ _ _ => .int _) ha hb
theorem r_div (ha : PE X a (tD X.K E da)) (hb : PE X b (tD X.K E db)) : PE X (.BinOp a .FloorDiv b pos) (tD X.K E (dBin divF da db)) := r_op op_fdivN (rb_int (fun i j h => by
  unfold cDiv at h
  rw [Bool.and_eq_true, decide_eq_true_eq, decide_eq_true_eq] at h
  exact h) fun _ _ _ _ _ => .int _) ha hb
theorem r_mod (ha : PE X a (tD X.K E da)) (hb : PE X b (tD X.K E db)) : PE X (.BinOp a .Mod b pos) (tD X.K E (dBin modF da db)) := r_op op_modN (rb_int (fun i j h => of_decide_eq_true h) fun _ _ _ _ _ => .int _) ha hb
theorem r_pow (ha : PE X a (tD X.K E da)) (hb : PE X b (tD X.K E db)) : PE X (.BinOp a .Pow b pos) (tD X.K E (dBin powF da db)) := r_op op_pow (rb_int (fun i j h => by
  unfold cPow at h
  rw [Bool.and_eq_true, Bool.and_eq_true, decide_eq_true_eq, decide_eq_true_eq, decide_eq_true_eq] at h
  have e : (18446744073709551616 : Nat) = 2 ^ 64 := by decide
  rw [e] at h
  exact ⟨h.1.1, h.1.2, h.2⟩) fun _ _ _ _ _ => .int _) ha hb
def ltF := cmpF fun i j => decide (i < j)
def leF := cmpF fun i j => decide (i ≤ j)
def gtF := cmpF fun i j => decide (j < i)
def geF := cmpF fun i j => decide (j ≤ i)
theorem rb_lt {K : PySem.W.Frag} : RB K (rI0 fun i j => .bl (decide (i < j))) ltF := rb_int0 fun _ _ _ _ _ => .bl _
theorem rb_le {K : PySem.W.Frag} : RB K (rI0 fun i j => .bl (decide (i ≤ j))) leF := rb_int0 fun _ _ _ _ _ => .bl _
theorem rb_gt {K : PySem.W.Frag} : RB K (rI0 fun i j => .bl (decide (j < i))) gtF := rb_int0 fun _ _ _ _ _ => .bl _
theorem rb_ge {K : PySem.W.Frag} : RB K (rI0 fun i j => .bl (decide (j ≤ i))) geF := rb_int0 fun _ _ _ _ _ => .bl _
def negF : IV → Mem → Ret IV := fun v h => match v with
  | .int i => .ok (.int (-i)) h
  | _ => .bad
theorem r_neg (ha : PE X a (tD X.K E da)) : PE X (.UnaryOp .USub a pos) (tD X.K E (dUn negF da)) := r_un un_neg (by
  intro E μ z h H v x Q hr vr p
  cases vr with
  | int i => exact ⟨i, rfl, p μ H Step.refl hr _ (.int _)⟩
  | _ => exact p.elim) ha

/-! ### + -/
def addF : IV → IV → Mem → Ret IV := fun v u h => match v with
  | .int i => match u with
    | .int j => .ok (.int (i + j)) h
    | _ => .bad
  | .str s => match u with
    | .str t => bif decide (s.length + t.length ≤ sizeLine) then .ok (.str (s ++ t)) h else .bad
    | _ => .bad
  | .tup xs => match u with
    | .tup ys => bif decide (xs.length + ys.length ≤ sizeLine) then .ok (.tup (xs ++ ys)) h else .bad
    | _ => .bad
  | v => match lstOf h v, lstOf h u with
    | some xs, some ys => bif decide (xs.length + ys.length ≤ sizeLine) then .ok (.fl (xs ++ ys)) h else .bad
    | _, _ => .bad
def rAddA (K : PySem.W.Frag) : R2 := fun x y H Q => rI0 (fun i j => .int (i + j)) x y H Q ∨ ((∃ i j, x = .str i ∧ y = .str j ∧ i.length + j.length ≤ sizeLine ∧ Q (.str (i ++ j)) H) ∨ (rCatA K x y H Q ∨ rCat x y H Q))
theorem op_addA : OpR X (binaryOp .Add) (rAddA X.K) := op_add.or (op_add_str.or (op_catA.or op_cat))
theorem cond_dec {c : Prop} [Decidable c] {α : Type} {a b : α} {P : α → Prop} (p : P (bif decide c then a else b)) : (c ∧ P a) ∨ (¬ c ∧ P b) := by
  by_cases h : c
  · rw [decide_eq_true h] at p
    exact .inl ⟨h, p⟩
  · rw [decide_eq_false h] at p
    exact .inr ⟨h, p⟩
theorem add_lists {K : PySem.W.Frag} {μ z : List Addr} {h : Mem} {H : Hp} {v u : IV} {x y : V} {Q : VK} (hr : HR K μ z h H) (v1 : VR K μ z H v x) (v2 : VR K μ z H u y)
    (p : post K E μ z H (match lstOf h v, lstOf h u with
    | some xs, some ys => bif decide (xs.length + ys.length ≤ sizeLine) then .ok (.fl (xs ++ ys)) h else .bad
    | _, _ => .bad) (VQ K z Q)) : rCat x y H Q := by
  cases e1 : lstOf h v with
  | none => rw [e1] at p; exact p.elim
  | some xs =>
    cases e2 : lstOf h u with
    | none => rw [e1, e2] at p; exact p.elim
    | some ys =>
      rw [e1, e2] at p
      simp only at p
      rcases cond_dec (P := fun r => post K E μ z H r (VQ K z Q)) p with ⟨hl, p⟩ | ⟨hl, p⟩
      · obtain ⟨a, vs, ex, ha, ra⟩ := lstOf_H hr v1 e1
        obtain ⟨b, ws, ey, hb, rb⟩ := lstOf_H hr v2 e2
        exact ⟨a, b, vs, ws, ex, ey, ha, hb, by rw [← ra.length, ← rb.length]; exact hl, flQ p hr (ra.append rb)⟩
      · exact p.elim
theorem rb_add {K : PySem.W.Frag} : RB K (rAddA K) addF := by
  intro E μ z h H v u x y Q hr v1 v2 p
  unfold addF at p
  cases v1 with
  | int i =>
    cases v2 with
    | int j => exact .inl ⟨i, j, rfl, rfl, p μ H Step.refl hr _ (.int _)⟩
    | _ => exact p.elim
  | str s =>
    cases v2 with
    | str t =>
      rcases cond_dec (P := fun r => post K E μ z H r (VQ K z Q)) p with ⟨hl, p⟩ | ⟨hl, p⟩
      · exact .inr (.inl ⟨s, t, rfl, rfl, hl, p μ H Step.refl hr _ (.str _)⟩)
      · exact p.elim
    | _ => exact p.elim
  | @tup a xs vs hq r =>
    cases v2 with
    | @tup b ys ws hq2 r2 =>
      rcases cond_dec (P := fun r => post K E μ z H r (VQ K z Q)) p with ⟨hl, p⟩ | ⟨hl, p⟩
      · refine .inr (.inr (.inl ⟨a, b, vs, ws, rfl, rfl, hq, hq2, by rw [← r.length, ← r2.length]; exact hl, fun e => ?_, fun _ e => ?_, fun _ _ => tupQ p hr (r.append r2)⟩))
        · subst e
          cases r
          exact p μ H Step.refl hr _ (.tup hq2 r2)
        · subst e
          cases r2
          rw [List.append_nil] at p
          exact p μ H Step.refl hr _ (.tup hq r)
      · exact p.elim
    | _ => exact p.elim
  | fl hq n m r => exact .inr (.inr (.inr (add_lists (v := .fl _) hr (.fl hq n m r) v2 p)))
  | loc hl => exact .inr (.inr (.inr (add_lists (v := .loc _) hr (.loc hl) v2 p)))
  | fz hq r => exact .inr (.inr (.inr (add_lists (v := .fz _) hr (.fz hq r) v2 p)))
  | non => exact .inr (.inr (.inr (add_lists (v := .non) hr .non v2 p)))
  | bl b => exact .inr (.inr (.inr (add_lists (v := .bl b) hr (.bl b) v2 p)))
theorem r_add (ha : PE X a (tD X.K E da)) (hb : PE X b (tD X.K E db)) : PE X (.BinOp a .Add b pos) (tD X.K E (dBin addF da db)) := r_op op_addA rb_add ha hb

/-! ### None -/
def isNF : IV → IV → Mem → Ret IV := fun v u h => match u with
  | .non => .ok (.bl (match v with
    | .non => true
    | _ => false)) h
  | _ => .bad
def notNF : IV → IV → Mem → Ret IV := fun v u h => match u with
  | .non => .ok (.bl (match v with
    | .non => false
    | _ => true)) h
  | _ => .bad
theorem rb_isN {K : PySem.W.Frag} : RB K (fun x y H Q => y = .non ∧ Q (.bl (decide (x = .non))) H) isNF := by
  intro E μ z h H v u x y Q hr v1 v2 p
  cases v2 with
  | non => cases v1 <;> exact ⟨rfl, p μ H Step.refl hr _ (.bl _)⟩
  | _ => exact p.elim
theorem rb_notN {K : PySem.W.Frag} : RB K (fun x y H Q => y = .non ∧ Q (.bl (!decide (x = .non))) H) notNF := by
  intro E μ z h H v u x y Q hr v1 v2 p
  cases v2 with
  | non => cases v1 <;> exact ⟨rfl, p μ H Step.refl hr _ (.bl _)⟩
  | _ => exact p.elim

/-! ### data -/
def allS {α : Type} : List (Option α) → Option (List α)
  | [] => some []
  | none :: _ => none
  | some x :: r => match allS r with
    | some xs => some (x :: xs)
    | none => none
def toD (h : Mem) : Nat → IV → Option PyData
  | 0, _ => none
  | n + 1, v => match v with
    | .non => some .none
    | .bl b => some (.bool b)
    | .int i => some (.int i)
    | .str s => some (.str s)
    | .tup xs => (allS (xs.map (toD h n))).map .tuple
    | .fl xs => (allS (xs.map (toD h n))).map .list
    | .fz xs => (allS (xs.map (toD h n))).map .list
    | .loc l => match h[l]? with
      | some (.lst xs) => (allS (xs.map (toD h n))).map .list
      | _ => none
theorem dp_all {K : PySem.W.Frag} {μ z : List Addr} {H : Hp} {f : IV → Option PyData} (hf : ∀ v x d, VR K μ z H v x → f v = some d → Dp K H x d) : ∀ {xs : List IV} {vs : List V} {ds : List PyData}, VRs K μ z H xs vs → allS (xs.map f) = some ds → DpAll K H vs ds
  | [], _, ds, .nil, e => by
    have e' := Option.some.inj e
    subst e'
    exact .nil
  | v :: xs, _, ds, .cons r t, e => by
    rw [List.map_cons] at e
    cases e1 : f v with
    | none => rw [e1] at e; cases e
    | some d =>
      rw [e1] at e
      unfold allS at e
      cases e2 : allS (xs.map f) with
      | none => rw [e2] at e; cases e
      | some ds2 =>
        rw [e2] at e
        have e' := Option.some.inj e
        subst e'
        exact .cons (hf _ _ _ r e1) (dp_all hf t e2)
theorem dp_of {K : PySem.W.Frag} {μ z : List Addr} {h : Mem} {H : Hp} (hr : HR K μ z h H) : ∀ (n : Nat) (v : IV) (x : V) (d : PyData), VR K μ z H v x → toD h n v = some d → Dp K H x d
  | 0, _, _, _, _, e => by cases e
  | n + 1, v, x, d, vr, e => by
    unfold toD at e
    have ih := fun v x d r e => dp_of hr n v x d r e
    cases vr with
    | non => have e' := Option.some.inj e; subst e'; exact .non
    | bl b => have e' := Option.some.inj e; subst e'; exact .bl b
    | int i => have e' := Option.some.inj e; subst e'; exact .int i
    | str s => have e' := Option.some.inj e; subst e'; exact .str s
    | tup hq r =>
      obtain ⟨ds, e1, e2⟩ := Option.map_eq_some_iff.mp e
      subst e2
      exact .tup hq (dp_all ih r e1)
    | fl hq n m r =>
      obtain ⟨ds, e1, e2⟩ := Option.map_eq_some_iff.mp e
      subst e2
      exact .lst (SqL.of hq) (dp_all ih r e1)
    | fz hq r =>
      obtain ⟨ds, e1, e2⟩ := Option.map_eq_some_iff.mp e
      subst e2
      exact .lst (SqL_KL hq) (dp_all ih r e1)
    | loc hl =>
      simp only at e
      split at e
      · rename_i xs eo
        obtain ⟨ds, e1, e2⟩ := Option.map_eq_some_iff.mp e
        subst e2
        obtain ⟨u, e3, r⟩ := hr.ob _ _ _ hl eo
        cases r with
        | lst r => exact .lst (SqL.of e3) (dp_all ih r e1)
      · cases e
/-- the depth that a comparison allows -/
def deep : Nat := 66
def dataF (g : PyData → PyData → Bool) : IV → IV → Mem → Ret IV := fun v u h => match toD h deep v, toD h deep u with
  | some d, some e => bif SeqAt.shaped d && SeqAt.shaped e then .ok (.bl (g d e)) h else .bad
  | _, _ => .bad
def eqF : IV → IV → Mem → Ret IV := fun v u h => match v, u with
  | .int i, .int j => .ok (.bl (decide (i = j))) h
  | .str i, .str j => .ok (.bl (decide (i = j))) h
  | v, u => dataF (fun d e => PyData.eqv d e) v u h
def neF : IV → IV → Mem → Ret IV := fun v u h => match v, u with
  | .int i, .int j => .ok (.bl (!decide (i = j))) h
  | .str i, .str j => .ok (.bl (!decide (i = j))) h
  | v, u => dataF (fun d e => !PyData.eqv d e) v u h
theorem rb_eqG {K : PySem.W.Frag} {g : PyData → PyData → Bool} : RB K (fun x y H Q => ∃ d e, Dp K H x d ∧ Dp K H y e ∧ SeqAt.shaped d = true ∧ SeqAt.shaped e = true ∧ Q (.bl (g d e)) H) (dataF g) := by
  intro E μ z h H v u x y Q hr v1 v2 p
  unfold dataF at p
  cases e1 : toD h deep v with
  | none => rw [e1] at p; exact p.elim
  | some d =>
    cases e2 : toD h deep u with
    | none => rw [e1, e2] at p; exact p.elim
    | some e =>
      rw [e1, e2] at p
      simp only at p
      cases e3 : SeqAt.shaped d && SeqAt.shaped e with
      | false => simp only [e3, cond_false] at p; exact p.elim
      | true =>
        simp only [e3, cond_true] at p
        rw [Bool.and_eq_true] at e3
        exact ⟨d, e, dp_of hr _ _ _ _ v1 e1, dp_of hr _ _ _ _ v2 e2, e3.1, e3.2, p μ H Step.refl hr _ (.bl _)⟩
def rEqA (K : PySem.W.Frag) : R2 := fun x y H Q => rEq x y H Q ∨ rEqD K x y H Q
def rNeA (K : PySem.W.Frag) : R2 := fun x y H Q => rNe x y H Q ∨ rNeD K x y H Q
theorem op_eqA (hu : X.A.units + 64 < cLine) : OpR X (compareOp .Eq) (rEqA X.K) := op_eq.or (op_eqD hu)
theorem op_neA (hu : X.A.units + 64 < cLine) : OpR X (compareOp .NotEq) (rNeA X.K) := op_ne.or (op_neD hu)
theorem dec_i {i j : Int} : decide (V.int i = V.int j) = decide (i = j) := by
  by_cases e : i = j
  · subst e
    simp
  · have n : V.int i ≠ V.int j := fun z => e (V.int.inj z)
    rw [decide_eq_false e, decide_eq_false n]
theorem dec_s {i j : Str} : decide (V.str i = V.str j) = decide (i = j) := by
  by_cases e : i = j
  · subst e
    simp
  · have n : V.str i ≠ V.str j := fun z => e (V.str.inj z)
    rw [decide_eq_false e, decide_eq_false n]
theorem rb_eq {K : PySem.W.Frag} : RB K (rEqA K) eqF := by
  intro E μ z h H v u x y Q hr v1 v2 p
  have gen : post K E μ z H (dataF (fun d e => PyData.eqv d e) v u h) (VQ K z Q) → rEqA K x y H Q := fun p => .inr (rb_eqG (g := fun d e => PyData.eqv d e) E μ z h H v u x y Q hr v1 v2 p)
  unfold eqF at p
  split at p
  · cases v1
    cases v2
    refine .inl ⟨rfl, ?_⟩
    rw [dec_i]
    exact p μ H Step.refl hr _ (.bl _)
  · cases v1
    cases v2
    refine .inl ⟨rfl, ?_⟩
    rw [dec_s]
    exact p μ H Step.refl hr _ (.bl _)
  · exact gen p
theorem rb_ne {K : PySem.W.Frag} : RB K (rNeA K) neF := by
  intro E μ z h H v u x y Q hr v1 v2 p
  have gen : post K E μ z H (dataF (fun d e => !PyData.eqv d e) v u h) (VQ K z Q) → rNeA K x y H Q := fun p => .inr (rb_eqG (g := fun d e => !PyData.eqv d e) E μ z h H v u x y Q hr v1 v2 p)
  unfold neF at p
  split at p
  · cases v1
    cases v2
    refine .inl ⟨rfl, ?_⟩
    rw [dec_i]
    exact p μ H Step.refl hr _ (.bl _)
  · cases v1
    cases v2
    refine .inl ⟨rfl, ?_⟩
    rw [dec_s]
    exact p μ H Step.refl hr _ (.bl _)
  · exact gen p

/-! ### items -/
def ixF : IV → IV → Mem → Ret IV := fun v u h => match u with
  | .int i => match v with
    | .str s => bif decide (s.length ≤ sizeLine) then (match atI s.cps.toList i with
      | some c => .ok (.str ⟨#[c]⟩) h
      | none => .bad) else .bad
    | v => match seqOf h v with
      | some xs => (match atI xs i with
        | some y => .ok y h
        | none => .bad)
      | none => .bad
  | _ => .bad
theorem atI_VRs {K : PySem.W.Frag} {μ z : List Addr} {H : Hp} {xs : List IV} {vs : List V} {i : Int} {y : IV} (r : VRs K μ z H xs vs) (e : atI xs i = some y) : ∃ w, atI vs i = some w ∧ VR K μ z H y w := by
  unfold atI at e ⊢
  rw [← r.length]
  obtain ⟨j, e1, e2⟩ := Option.bind_eq_some_iff.mp e
  obtain ⟨w, e3, vr⟩ := r.get e2
  exact ⟨w, by rw [e1]; exact e3, vr⟩
theorem ix_seqs {K : PySem.W.Frag} {μ z : List Addr} {h : Mem} {H : Hp} {v : IV} {x : V} {i : Int} {Q : VK} (hr : HR K μ z h H) (v1 : VR K μ z H v x)
    (p : post K E μ z H (match seqOf h v with
      | some xs => (match atI xs i with
        | some y => .ok y h
        | none => .bad)
      | none => .bad) (VQ K z Q)) : rIx K x (.int i) H Q := by
  cases e1 : seqOf h v with
  | none => rw [e1] at p; exact p.elim
  | some xs =>
    rw [e1] at p
    simp only at p
    cases e2 : atI xs i with
    | none => rw [e2] at p; exact p.elim
    | some y =>
      rw [e2] at p
      obtain ⟨a, vs, ex, hq, r⟩ := seqOf_H hr v1 e1
      obtain ⟨w, e3, vr⟩ := atI_VRs r e2
      have q := p μ H Step.refl hr w vr
      rcases hq with hq | hq
      · exact .inl ⟨a, vs, i, w, ex, rfl, hq, e3, q⟩
      · exact .inr (.inl ⟨a, vs, i, w, ex, rfl, hq, e3, q⟩)
theorem rb_ix {K : PySem.W.Frag} : RB K (rIx K) ixF := by
  intro E μ z h H v u x y Q hr v1 v2 p
  cases v2 with
  | int i =>
    cases v1 with
    | str s =>
      have p2 : post K E μ z H (bif decide (s.length ≤ sizeLine) then (match atI s.cps.toList i with
        | some c => Ret.ok (IV.str ⟨#[c]⟩) h
        | none => .bad) else .bad) (VQ K z Q) := p
      rcases cond_dec (P := fun r => post K E μ z H r (VQ K z Q)) p2 with ⟨hl, p⟩ | ⟨hl, p⟩
      · cases e : atI s.cps.toList i with
        | none => rw [e] at p; exact p.elim
        | some c =>
          rw [e] at p
          exact .inr (.inr ⟨s, i, c, rfl, rfl, hl, e, p μ H Step.refl hr _ (.str _)⟩)
      · exact p.elim
    | tup hq r => exact ix_seqs (v := .tup _) hr (.tup hq r) p
    | fl hq n m r => exact ix_seqs (v := .fl _) hr (.fl hq n m r) p
    | fz hq r => exact ix_seqs (v := .fz _) hr (.fz hq r) p
    | loc hl => exact ix_seqs (v := .loc _) hr (.loc hl) p
    | non => exact ix_seqs (v := .non) hr .non p
    | bl b => exact ix_seqs (v := .bl b) hr (.bl b) p
    | int j => exact ix_seqs (v := .int j) hr (.int j) p
  | _ => exact p.elim
theorem r_ix (ha : PE X a (tD X.K E da)) (hb : PE X b (tD X.K E db)) (hs : PlainIx b := by exact fun _ _ => rfl) : PE X (.Subscript a b pos) (tD X.K E (dBin ixF da db)) := PE_imp (pe_ix ix_seq ha hb hs) (i_bin rb_ix)
end
end VI
end

section
/-! Built-ins, methods, slices, stores, over plain values. -/
namespace VI
open PySem PySem.Spec PyProof.Rows L2
section
variable {X : Cx} {E : XI} {e a b : Expr} {es : List Expr} {pos p : Pos} {da db dc : Den} {K : PySem.W.Frag}
/-! ### calls by name -/
theorem r_blt {id : String} {x : Str} {r : List V → Hp → VK → Prop} {f : List IV → Mem → Ret IV} {a : DenA} (hc : CallR X (.builtin id) r) (rb : RC X.K r f) (hg : Gl X x) (hm : X.mg x = none) (hv : bootBuiltins x = some (.builtin id)) (ha : PA X (e :: es) (tAr X.K E a)) (hn : x ≠ "__name__" := by decide) (hdb : (x == ("__debug__" : Str)) = false := by decide)
    (hs : starEach (e :: es) X.env = (false, eval e X.env) :: starEach es X.env := by rfl) (hpl : (backTo pos (starEach es X.env)).any (·.1) = false := by rfl) : PE X (.Call (.Name x p) (e :: es) [] pos) (tD X.K E (dArg f a)) := PE_imp (pe_callB hc hg hm hv ha hn hdb hs hpl) (i_arg rb)
theorem r_ty {T : String} {x : Str} {r : List V → Hp → VK → Prop} {f : List IV → Mem → Ret IV} {a : DenA} (hc : CallR X (.type T) r) (rb : RC X.K r f) (hg : Gl X x) (hm : X.mg x = none) (hv : bootBuiltins x = some (.type T)) (ha : PA X (e :: es) (tAr X.K E a)) (hn : x ≠ "__name__" := by decide) (hdb : (x == ("__debug__" : Str)) = false := by decide)
    (hs : starEach (e :: es) X.env = (false, eval e X.env) :: starEach es X.env := by rfl) (hpl : (backTo pos (starEach es X.env)).any (·.1) = false := by rfl) : PE X (.Call (.Name x p) (e :: es) [] pos) (tD X.K E (dArg f a)) := PE_imp (pe_callTy hc hg hm hv ha hn hdb hs hpl) (i_arg rb)
theorem r_bltF {id : String} {x : Str} {r : List V → Hp → VK → Prop} {f : List IV → Mem → Ret (List IV)} {a : DenA} (hc : CallR X (.builtin id) r) (rb : RCF X.K r f) (hg : Gl X x) (hm : X.mg x = none) (hv : bootBuiltins x = some (.builtin id)) (ha : PA X (e :: es) (tAr X.K E a)) (hn : x ≠ "__name__" := by decide) (hdb : (x == ("__debug__" : Str)) = false := by decide)
    (hs : starEach (e :: es) X.env = (false, eval e X.env) :: starEach es X.env := by rfl) (hpl : (backTo pos (starEach es X.env)).any (·.1) = false := by rfl) : PE X (.Call (.Name x p) (e :: es) [] pos) (tF X.K E (fArg f a)) := PE_imp (pe_callB hc hg hm hv ha hn hdb hs hpl) (i_argF rb)
theorem r_tyF {T : String} {x : Str} {r : List V → Hp → VK → Prop} {f : List IV → Mem → Ret (List IV)} {a : DenA} (hc : CallR X (.type T) r) (rb : RCF X.K r f) (hg : Gl X x) (hm : X.mg x = none) (hv : bootBuiltins x = some (.type T)) (ha : PA X (e :: es) (tAr X.K E a)) (hn : x ≠ "__name__" := by decide) (hdb : (x == ("__debug__" : Str)) = false := by decide)
    (hs : starEach (e :: es) X.env = (false, eval e X.env) :: starEach es X.env := by rfl) (hpl : (backTo pos (starEach es X.env)).any (·.1) = false := by rfl) : PE X (.Call (.Name x p) (e :: es) [] pos) (tF X.K E (fArg f a)) := PE_imp (pe_callTy hc hg hm hv ha hn hdb hs hpl) (i_argF rb)

/-! ### len, abs, max, min, int -/
def lenF : List IV → Mem → Ret IV := fun vs h => match vs with
  | [v] => (match v with
    | .str s => bif decide (s.length ≤ sizeLine) then .ok (.int s.length) h else .bad
    | v => match seqOf h v with
      | some xs => .ok (.int xs.length) h
      | none => .bad)
  | _ => .bad
def rLenA (K : PySem.W.Frag) : List V → Hp → VK → Prop := fun xs H Q => (∃ p ys, xs = [.ref p] ∧ (SqL K H p ys ∨ SqT K H p ys) ∧ Q (.int ys.length) H) ∨ (∃ z, xs = [.str z] ∧ z.length ≤ sizeLine ∧ Q (.int z.length) H)
theorem call_lenA : CallR X (.builtin "len") (rLenA X.K) := call_len_seq.or call_len_str
theorem rc_len : RC K (rLenA K) lenF := by
  intro E μ z h H vs xs Q hr vr p
  cases vr with
  | nil => exact p.elim
  | @cons v x vs xs v1 t =>
    cases t with
    | cons _ _ => exact p.elim
    | nil =>
      have seqs : post K E μ z H (match seqOf h v with
          | some xs => .ok (.int xs.length) h
          | none => .bad) (VQ K z Q) → rLenA K [x] H Q := fun p => by
        cases e1 : seqOf h v with
        | none => rw [e1] at p; exact p.elim
        | some ys =>
          rw [e1] at p
          obtain ⟨a, ws, ex, hq, r⟩ := seqOf_H hr v1 e1
          subst ex
          refine .inl ⟨a, ws, rfl, hq, ?_⟩
          rw [← r.length]
          exact p μ H Step.refl hr _ (.int _)
      cases v with
      | str s =>
        cases v1
        rcases cond_dec (P := fun r => post K E μ z H r (VQ K z Q)) (show post K E μ z H (bif decide (s.length ≤ sizeLine) then .ok (.int s.length) h else .bad) (VQ K z Q) from p) with ⟨hl, p⟩ | ⟨hl, p⟩
        · exact .inr ⟨s, rfl, hl, p μ H Step.refl hr _ (.int _)⟩
        · exact p.elim
      | non => exact seqs p
      | bl _ => exact seqs p
      | int _ => exact seqs p
      | tup _ => exact seqs p
      | fl _ => exact seqs p
      | fz _ => exact seqs p
      | loc _ => exact seqs p
/-- one int in, one int out -/
def int1F (g : Int → Int) : List IV → Mem → Ret IV := fun vs h => match vs with
  | [.int i] => .ok (.int (g i)) h
  | _ => .bad
def int2F (g : Int → Int → Int) : List IV → Mem → Ret IV := fun vs h => match vs with
  | [.int i, .int j] => .ok (.int (g i j)) h
  | _ => .bad
theorem rc_int1 {g : Int → Int} : RC K (fun xs H Q => ∃ i, xs = [.int i] ∧ Q (.int (g i)) H) (int1F g) := by
  intro E μ z h H vs xs Q hr vr p
  cases vr with
  | nil => exact p.elim
  | cons v1 t =>
    cases t with
    | nil =>
      cases v1 with
      | int i => exact ⟨i, rfl, p μ H Step.refl hr _ (.int _)⟩
      | _ => exact p.elim
    | cons _ _ => cases v1 <;> exact p.elim
theorem rc_int2 {g : Int → Int → Int} : RC K (fun xs H Q => ∃ i j, xs = [.int i, .int j] ∧ Q (.int (g i j)) H) (int2F g) := by
  intro E μ z h H vs xs Q hr vr p
  cases vr with
  | nil => exact p.elim
  | cons v1 t =>
    cases t with
    | nil => cases v1 <;> exact p.elim
    | cons v2 t =>
      cases t with
      | nil =>
        cases v1 with
        | int i =>
          cases v2 with
          | int j => exact ⟨i, j, rfl, p μ H Step.refl hr _ (.int _)⟩
          | _ => exact p.elim
        | _ => exact p.elim
      | cons _ _ => cases v1 <;> cases v2 <;> exact p.elim
def absF := int1F fun i => if i < 0 then -i else i
def maxF := int2F fun i j => if j > i then j else i
def minF := int2F fun i j => if j < i then j else i
theorem rc_abs : RC K (fun xs H Q => ∃ i, xs = [.int i] ∧ Q (.int (if i < 0 then -i else i)) H) absF := rc_int1
theorem rc_max : RC K (fun xs H Q => ∃ i j, xs = [.int i, .int j] ∧ Q (.int (if j > i then j else i)) H) maxF := rc_int2
theorem rc_min : RC K (fun xs H Q => ∃ i j, xs = [.int i, .int j] ∧ Q (.int (if j < i then j else i)) H) minF := rc_int2
def toIntF : List IV → Mem → Ret IV := fun vs h => match vs with
  | [.int i] => .ok (.int i) h
  | [.bl b] => .ok (.int (if b then 1 else 0)) h
  | _ => .bad
theorem rc_toInt : RC K (fun xs H Q => (∃ i, xs = [.int i] ∧ Q (.int i) H) ∨ ∃ k, xs = [.bl k] ∧ Q (.int (if k then 1 else 0)) H) toIntF := by
  intro E μ z h H vs xs Q hr vr p
  cases vr with
  | nil => exact p.elim
  | cons v1 t =>
    cases t with
    | nil =>
      cases v1 with
      | int i => exact .inl ⟨i, rfl, p μ H Step.refl hr _ (.int _)⟩
      | bl b => exact .inr ⟨b, rfl, p μ H Step.refl hr _ (.int _)⟩
      | _ => exact p.elim
    | cons _ _ => cases v1 <;> exact p.elim

/-! ### list, tuple, sum, sorted -/
def listF : List IV → Mem → Ret (List IV) := fun vs h => match vs with
  | [v] => match seqOf h v with
    | some xs => .ok xs h
    | none => .bad
  | _ => .bad
theorem rc_list : RCF K (fun xs H Q => ∃ p ys, xs = [.ref p] ∧ (SqL K H p ys ∨ SqT K H p ys) ∧ ∀ l, H l = none → Q (.ref l) (upd H l (.lst ys))) listF := by
  intro E μ z h H vs xs Q hr vr p
  cases vr with
  | nil => exact p.elim
  | @cons v x vs xs v1 t =>
    cases t with
    | cons _ _ => exact p.elim
    | nil =>
      unfold listF at p
      simp only at p
      cases e1 : seqOf h v with
      | none => rw [e1] at p; exact p.elim
      | some ys =>
        rw [e1] at p
        obtain ⟨a, ws, ex, hq, r⟩ := seqOf_H hr v1 e1
        subst ex
        exact ⟨a, ws, rfl, hq, p.fresh hr r⟩
def tupleF : List IV → Mem → Ret IV := fun vs h => match vs with
  | [v] => match seqOf h v with
    | some xs => .ok (.tup xs) h
    | none => .bad
  | _ => .bad
theorem rc_tuple : RC K (fun xs H Q => ∃ p ys, xs = [.ref p] ∧ ((SqL K H p ys ∧ ∀ l, H l = none → Q (.ref l) (upd H l (.tup ys))) ∨ (SqT K H p ys ∧ Q (.ref p) H))) tupleF := by
  intro E μ z h H vs xs Q hr vr p
  cases vr with
  | nil => exact p.elim
  | @cons v x vs xs v1 t =>
    cases t with
    | cons _ _ => exact p.elim
    | nil =>
      unfold tupleF at p
      simp only at p
      cases e1 : seqOf h v with
      | none => rw [e1] at p; exact p.elim
      | some ys =>
        rw [e1] at p
        obtain ⟨a, ws, ex, hq, r⟩ := seqOf_H hr v1 e1
        subst ex
        rcases hq with hq | hq
        · exact ⟨a, ws, rfl, .inl ⟨hq, tupQ p hr r⟩⟩
        · exact ⟨a, ws, rfl, .inr ⟨hq, p μ H Step.refl hr _ (.tup hq r)⟩⟩
def lsq (h : Mem) (v : IV) : Option (List IV) := match v with
  | .fz xs => some xs
  | v => lstOf h v
theorem lsq_H {μ z : List Addr} {H : Hp} {h : Mem} {v : IV} {x : V} {xs : List IV} (hr : HR K μ z h H) (vr : VR K μ z H v x) (e : lsq h v = some xs) : ∃ a vs, x = .ref a ∧ SqL K H a vs ∧ VRs K μ z H xs vs := by
  cases vr with
  | fz hq r =>
    have e' := Option.some.inj e
    subst e'
    exact ⟨_, _, rfl, SqL_KL hq, r⟩
  | fl hq n m r =>
    obtain ⟨a, vs, e1, e2, e3⟩ := lstOf_H (v := .fl _) hr (.fl hq n m r) e
    exact ⟨a, vs, e1, SqL.of e2, e3⟩
  | loc hl =>
    obtain ⟨a, vs, e1, e2, e3⟩ := lstOf_H (v := .loc _) hr (.loc hl) e
    exact ⟨a, vs, e1, SqL.of e2, e3⟩
  | _ => cases e
def asI : IV → Option Int
  | .int i => some i
  | _ => none
def asB : IV → Option Bool
  | .bl i => some i
  | _ => none
theorem ints_of : ∀ {xs : List IV} {ns : List Int}, allS (xs.map asI) = some ns → xs = ns.map IV.int
  | [], ns, e => by
    have e' := Option.some.inj e
    subst e'
    rfl
  | v :: xs, ns, e => by
    cases v with
    | int i =>
      rw [List.map_cons, show asI (.int i) = some i from rfl] at e
      unfold allS at e
      cases e1 : allS (xs.map asI) with
      | none => rw [e1] at e; cases e
      | some ms =>
        rw [e1] at e
        have e' := Option.some.inj e
        subst e'
        rw [ints_of e1]
        rfl
    | _ => cases e
theorem bls_of : ∀ {xs : List IV} {ns : List Bool}, allS (xs.map asB) = some ns → xs = ns.map IV.bl
  | [], ns, e => by
    have e' := Option.some.inj e
    subst e'
    rfl
  | v :: xs, ns, e => by
    cases v with
    | bl i =>
      rw [List.map_cons, show asB (.bl i) = some i from rfl] at e
      unfold allS at e
      cases e1 : allS (xs.map asB) with
      | none => rw [e1] at e; cases e
      | some ms =>
        rw [e1] at e
        have e' := Option.some.inj e
        subst e'
        rw [bls_of e1]
        rfl
    | _ => cases e
/-- of a list of ints -/
def intsF (g : List Int → IV) : List IV → Mem → Ret IV := fun vs h => match vs with
  | [v] => match (lsq h v).bind fun xs => allS (xs.map asI) with
    | some ns => .ok (g ns) h
    | none => .bad
  | _ => .bad
theorem ints_at {μ z : List Addr} {H : Hp} {h : Mem} {v : IV} {x : V} {ns : List Int} (hr : HR K μ z h H) (vr : VR K μ z H v x) (e : ((lsq h v).bind fun xs => allS (xs.map asI)) = some ns) : ∃ a, x = .ref a ∧ SqL K H a (ns.map V.int) := by
  obtain ⟨xs, e1, e2⟩ := Option.bind_eq_some_iff.mp e
  obtain ⟨a, ws, ex, hq, r⟩ := lsq_H hr vr e1
  rw [ints_of e2] at r
  rw [r.ints] at hq
  exact ⟨a, ex, hq⟩
def sumF := intsF fun ns => .int ns.sum
theorem rc_sum : RC K (rSum K) sumF := by
  intro E μ z h H vs xs Q hr vr p
  cases vr with
  | nil => exact p.elim
  | @cons v x vs xs v1 t =>
    cases t with
    | cons _ _ => exact p.elim
    | nil =>
      unfold sumF intsF at p
      simp only at p
      cases e1 : (lsq h v).bind fun xs => allS (xs.map asI) with
      | none => rw [e1] at p; exact p.elim
      | some ns =>
        rw [e1] at p
        obtain ⟨a, ex, hq⟩ := ints_at hr v1 e1
        subst ex
        exact ⟨a, ns, rfl, hq, p μ H Step.refl hr _ (.int _)⟩
/-- the ints in their order -/
def ins (x : Int) : List Int → List Int
  | [] => [x]
  | y :: r => if x ≤ y then x :: y :: r else y :: ins x r
def isort : List Int → List Int
  | [] => []
  | x :: r => ins x (isort r)
theorem ins_perm (x : Int) : ∀ l : List Int, (ins x l).Perm (x :: l)
  | [] => .refl _
  | y :: r => by
    unfold ins
    split
    · exact .refl _
    · exact ((ins_perm x r).cons y).trans (.swap x y r)
theorem isort_perm : ∀ l : List Int, (isort l).Perm l
  | [] => .refl _
  | x :: r => (ins_perm x (isort r)).trans ((isort_perm r).cons x)
theorem ins_mem {x y : Int} {l : List Int} (h : y ∈ ins x l) : y = x ∨ y ∈ l := by
  have := (ins_perm x l).mem_iff.mp h
  exact List.mem_cons.mp this
theorem ins_sorted (x : Int) : ∀ l : List Int, l.Pairwise (· ≤ ·) → (ins x l).Pairwise (· ≤ ·)
  | [], _ => List.pairwise_singleton _ _
  | y :: r, h => by
    unfold ins
    split
    · rename_i hxy
      refine List.pairwise_cons.mpr ⟨fun w hw => ?_, h⟩
      rcases List.mem_cons.mp hw with e | e
      · rw [e]; exact hxy
      · exact Int.le_trans hxy ((List.pairwise_cons.mp h).1 w e)
    · rename_i hxy
      refine List.pairwise_cons.mpr ⟨fun w hw => ?_, ins_sorted x r (List.pairwise_cons.mp h).2⟩
      rcases ins_mem hw with e | e
      · rw [e]; omega
      · exact (List.pairwise_cons.mp h).1 w e
theorem isort_sorted : ∀ l : List Int, (isort l).Pairwise (· ≤ ·)
  | [] => .nil
  | x :: r => ins_sorted x _ (isort_sorted r)
theorem sorted_one : ∀ {l m : List Int}, l.Perm m → l.Pairwise (· ≤ ·) → m.Pairwise (· ≤ ·) → l = m
  | [], m, p, _, _ => by rw [List.nil_perm.mp p]
  | x :: l, [], p, _, _ => by cases List.perm_nil.mp p
  | x :: l, y :: m, p, h1, h2 => by
    have hx : x ∈ y :: m := p.mem_iff.mp List.mem_cons_self
    have hy : y ∈ x :: l := p.mem_iff.mpr List.mem_cons_self
    have e : x = y := by
      rcases List.mem_cons.mp hx with e | hx
      · exact e
      · rcases List.mem_cons.mp hy with e | hy
        · exact e.symm
        · have a1 := (List.pairwise_cons.mp h2).1 x hx
          have a2 := (List.pairwise_cons.mp h1).1 y hy
          omega
    subst e
    rw [sorted_one (List.Perm.cons_inv p) (List.pairwise_cons.mp h1).2 (List.pairwise_cons.mp h2).2]
def sortF : List IV → Mem → Ret (List IV) := fun vs h => match vs with
  | [v] => match (lsq h v).bind fun xs => allS (xs.map asI) with
    | some ns => .ok ((isort ns).map .int) h
    | none => .bad
  | _ => .bad
theorem rc_sort : RCF K (rSortedI K) sortF := by
  intro E μ z h H vs xs Q hr vr p
  cases vr with
  | nil => exact p.elim
  | @cons v x vs xs v1 t =>
    cases t with
    | cons _ _ => exact p.elim
    | nil =>
      unfold sortF at p
      simp only at p
      cases e1 : (lsq h v).bind fun xs => allS (xs.map asI) with
      | none => rw [e1] at p; exact p.elim
      | some ns =>
        rw [e1] at p
        obtain ⟨a, ex, hq⟩ := ints_at hr v1 e1
        subst ex
        refine ⟨a, ns, rfl, hq, fun ns' q pm so nq => ?_⟩
        have e : ns' = isort ns := sorted_one (pm.trans (isort_perm ns).symm) so (isort_sorted ns)
        rw [e]
        exact p.fresh hr (VRs.ofInts _) q nq
/-- list(range(a)), list(range(a, b)) -/
def fRg1 (d : Den) : DenA := fun ρ h => (d ρ h).bind fun v h1 => match v with
  | .int j => bif okR j && decide (j.toNat ≤ 16777216) then .ok (rgI 0 j) h1 else .bad
  | _ => .bad
def fRg2 (d d2 : Den) : DenA := fun ρ h => (d ρ h).bind fun v h1 => (d2 ρ h1).bind fun u h2 => match v, u with
  | .int i, .int j => bif okR i && okR j && decide ((j - i).toNat ≤ 16777216) then .ok (rgI i j) h2 else .bad
  | _, _ => .bad
theorem rgI_rel {μ z : List Addr} {H : Hp} (i j : Int) : VRs K μ z H (rgI i j) (rgV i j) := by
  have e1 : rgI i j = ((List.range (j - i).toNat).map fun k => i + (k : Nat)).map IV.int := by
    unfold rgI
    rw [List.map_map]
    rfl
  have e2 : rgV i j = ((List.range (j - i).toNat).map fun k => i + (k : Nat)).map V.int := by
    unfold rgV
    rw [List.map_map]
    rfl
  rw [e1, e2]
  exact VRs.ofInts _
theorem r_listRg1 {p2 pos2 : Pos} (hc : X.calm = true) (hg : Gl X "list") (hm : X.mg "list" = none) (hg2 : Gl X "range") (hm2 : X.mg "range" = none) (ha : PE X a (tD X.K E da)) (na : starEach [a] X.env = (false, eval a X.env) :: starEach [] X.env := by rfl)
    (na2 : starEach [.Call (.Name "range" p2) [a] [] pos2] X.env = (false, eval (.Call (.Name "range" p2) [a] [] pos2) X.env) :: starEach [] X.env := by rfl) : PE X (.Call (.Name "list" p) [.Call (.Name "range" p2) [a] [] pos2] [] pos) (tF X.K E (fRg1 da)) := PE_imp (pe_listRg hc hg hm (prg_1 hg2 hm2 ha na) na2) (by
  rintro σ H Q ⟨μ, z, h, ρ, hr, er, p⟩
  refine tD_of hr er p.bind fun μ1 h1 H1 v w s1 hr1 p1 vr1 => ?_
  cases vr1 with
  | int j =>
    refine ⟨j, rfl, ?_⟩
    have p2 : postF X.K E μ1 z H1 (bif okR j && decide (j.toNat ≤ 16777216) then .ok (rgI 0 j) h1 else .bad) Q := p1
    cases ec : okR j && decide (j.toNat ≤ 16777216) with
    | false => simp only [ec, cond_false] at p2; exact p2.elim
    | true =>
      simp only [ec, cond_true] at p2
      rw [Bool.and_eq_true, decide_eq_true_eq] at ec
      exact ⟨⟨by omega, by omega, (okR_of ec.1).1, (okR_of ec.1).2, by rw [Int.sub_zero]; exact ec.2⟩, p2.fresh hr1 (rgI_rel 0 j)⟩
  | _ => exact p1.elim)
theorem r_listRg2 {p2 pos2 : Pos} (hc : X.calm = true) (hg : Gl X "list") (hm : X.mg "list" = none) (hg2 : Gl X "range") (hm2 : X.mg "range" = none) (ha : PE X a (tD X.K E da)) (hb : PE X b (tD X.K E db)) (na : starEach [a, b] X.env = (false, eval a X.env) :: starEach [b] X.env := by rfl) (nb : starEach [b] X.env = (false, eval b X.env) :: starEach [] X.env := by rfl)
    (hpl : (backTo pos2 (starEach [b] X.env)).any (·.1) = false := by rfl)
    (na2 : starEach [.Call (.Name "range" p2) [a, b] [] pos2] X.env = (false, eval (.Call (.Name "range" p2) [a, b] [] pos2) X.env) :: starEach [] X.env := by rfl) : PE X (.Call (.Name "list" p) [.Call (.Name "range" p2) [a, b] [] pos2] [] pos) (tF X.K E (fRg2 da db)) := PE_imp (pe_listRg hc hg hm (prg_2 hg2 hm2 ha hb na nb hpl) na2) (by
  rintro σ H Q ⟨μ, z, h, ρ, hr, er, p⟩
  refine tD_of hr er p.bind fun μ1 h1 H1 v w s1 hr1 p1 vr1 => ?_
  refine tD_of hr1 (er.step s1) p1.bind fun μ2 h2 H2 u y s2 hr2 p2 vr2 => ?_
  cases vr1 with
  | int i =>
    cases vr2 with
    | int j =>
      refine ⟨i, j, rfl, rfl, ?_⟩
      have p3 : postF X.K E μ2 z H2 (bif okR i && okR j && decide ((j - i).toNat ≤ 16777216) then .ok (rgI i j) h2 else .bad) Q := p2
      cases ec : okR i && okR j && decide ((j - i).toNat ≤ 16777216) with
      | false => simp only [ec, cond_false] at p3; exact p3.elim
      | true =>
        simp only [ec, cond_true] at p3
        rw [Bool.and_eq_true, Bool.and_eq_true, decide_eq_true_eq] at ec
        exact ⟨⟨(okR_of ec.1.1).1, (okR_of ec.1.1).2, (okR_of ec.1.2).1, (okR_of ec.1.2).2, ec.2⟩, p3.fresh hr2 (rgI_rel i j)⟩
    | _ => exact p2.elim
  | _ => cases vr2 <;> exact p2.elim)

/-! ### [..] * n, slices -/
def fRep (d d2 : Den) : DenA := fun ρ h => (d ρ h).bind fun v h1 => (d2 ρ h1).bind fun u h2 => match u with
  | .int k => (match lstOf h2 v with
    | some xs => bif decide (-9223372036854775808 ≤ k) && decide (k < 9223372036854775808) && decide (xs.length * k.toNat ≤ sizeLine) then .ok (List.replicate k.toNat xs).flatten h2 else .bad
    | none => .bad)
  | _ => .bad
theorem r_rep (ha : PE X a (tD X.K E da)) (hb : PE X b (tD X.K E db)) : PE X (.BinOp a .Mult b pos) (tF X.K E (fRep da db)) := PE_imp (pe_op op_rep ha hb) (by
  rintro σ H Q ⟨μ, z, h, ρ, hr, er, p⟩
  refine tD_of hr er p.bind fun μ1 h1 H1 v w s1 hr1 p1 vr1 => ?_
  refine tD_of hr1 (er.step s1) p1.bind fun μ2 h2 H2 u y s2 hr2 p2 vr2 => ?_
  cases vr2 with
  | int k =>
    simp only at p2
    cases e1 : lstOf h2 v with
    | none => rw [e1] at p2; exact p2.elim
    | some xs =>
      rw [e1] at p2
      simp only at p2
      cases ec : decide (-9223372036854775808 ≤ k) && decide (k < 9223372036854775808) && decide (xs.length * k.toNat ≤ sizeLine) with
      | false => simp only [ec, cond_false] at p2; exact p2.elim
      | true =>
        simp only [ec, cond_true] at p2
        rw [Bool.and_eq_true, Bool.and_eq_true, decide_eq_true_eq, decide_eq_true_eq, decide_eq_true_eq] at ec
        obtain ⟨l, vs, ex, hl, r⟩ := lstOf_H hr2 (vr1.step s2) e1
        exact ⟨l, k, vs, ex, rfl, hl, by omega, by omega, by rw [← r.length]; exact ec.2, p2.fresh hr2 (r.rep _)⟩
  | _ => exact p2.elim)
/-- a part of a slice -/
abbrev DenO := Sl → Mem → Ret (Option Int)
def tOr' (K : PySem.W.Frag) (E : XI) (d : DenO) : TO := fun σ H Q => ∃ μ z h ρ, HR K μ z h H ∧ ER K μ z H ρ σ ∧ post K E μ z H (d ρ h) fun _ _ H' o => Q o H'
theorem PO_imp {o : Option Expr} {t t' : TO} (h : PO X o t) (i : ∀ σ H Q, t' σ H Q → t σ H Q) : PO X o t' := ⟨fun pins s σ H Q I q => h.run pins s σ H Q I (i σ H Q q)⟩
def oNone : DenO := fun _ h => .ok none h
def oSome (d : Den) : DenO := fun ρ h => (d ρ h).bind fun v h1 => match v with
  | .int i => .ok (some i) h1
  | _ => .bad
theorem r_oNone : PO X none (tOr' X.K E oNone) := PO_imp po_none fun σ H Q ⟨μ, z, h, ρ, hr, er, p⟩ => p μ H Step.refl hr
theorem r_oSome (ha : PE X a (tD X.K E da)) : PO X (some a) (tOr' X.K E (oSome da)) := PO_imp (po_some ha) (by
  rintro σ H Q ⟨μ, z, h, ρ, hr, er, p⟩
  refine tD_of hr er p.bind fun μ1 h1 H1 v w s1 hr1 p1 vr1 => ?_
  cases vr1 with
  | int i => exact ⟨i, rfl, p1 μ1 H1 Step.refl hr1⟩
  | _ => exact p1.elim)
def cutI (xs : List IV) (lo hi : Option Int) : List IV := (xs.drop (HT.sIx xs.length 0 lo)).take (HT.sIx xs.length xs.length hi - HT.sIx xs.length 0 lo)
theorem cut_rel {μ z : List Addr} {H : Hp} {xs : List IV} {vs : List V} (r : VRs K μ z H xs vs) (lo hi : Option Int) : VRs K μ z H (cutI xs lo hi) (cutV vs lo hi) := by
  unfold cutI cutV
  rw [r.length]
  exact (r.drop _).take _
def fCut (d : Den) (lo hi : DenO) : DenA := fun ρ h => (d ρ h).bind fun v h1 => (lo ρ h1).bind fun l h2 => (hi ρ h2).bind fun u h3 => match lsq h3 v with
  | some xs => .ok (cutI xs l u) h3
  | none => .bad
def dCutT (d : Den) (lo hi : DenO) : Den := fun ρ h => (d ρ h).bind fun v h1 => (lo ρ h1).bind fun l h2 => (hi ρ h2).bind fun u h3 => match v with
  | .tup xs => .ok (.tup (cutI xs l u)) h3
  | _ => .bad
theorem r_cutL {lo hi : Option Expr} {dl dh : DenO} {p2 : Pos} (ha : PE X a (tD X.K E da)) (hl : PO X lo (tOr' X.K E dl)) (hh : PO X hi (tOr' X.K E dh)) : PE X (.Subscript a (.Slice lo hi none p2) pos) (tF X.K E (fCut da dl dh)) := PE_imp (pe_slice sl_list ha hl hh) (by
  rintro σ H Q ⟨μ, z, h, ρ, hr, er, p⟩
  refine tD_of hr er p.bind fun μ1 h1 H1 v w s1 hr1 p1 vr1 => ?_
  refine ⟨μ1, z, h1, ρ, hr1, er.step s1, p1.bind.mono fun μ2 h2 H2 l s2 hr2 p2 => ?_⟩
  refine ⟨μ2, z, h2, ρ, hr2, (er.step s1).step s2, p2.bind.mono fun μ3 h3 H3 u s3 hr3 p3 => ?_⟩
  cases e1 : lsq h3 v with
  | none => rw [e1] at p3; exact p3.elim
  | some xs =>
    rw [e1] at p3
    obtain ⟨a, vs, ex, hq, r⟩ := lsq_H hr3 ((vr1.step s2).step s3) e1
    exact ⟨a, vs, ex, hq, p3.fresh hr3 (cut_rel r l u)⟩)
theorem r_cutT {lo hi : Option Expr} {dl dh : DenO} {p2 : Pos} (ha : PE X a (tD X.K E da)) (hl : PO X lo (tOr' X.K E dl)) (hh : PO X hi (tOr' X.K E dh)) : PE X (.Subscript a (.Slice lo hi none p2) pos) (tD X.K E (dCutT da dl dh)) := PE_imp (pe_slice sl_tupA ha hl hh) (by
  rintro σ H Q ⟨μ, z, h, ρ, hr, er, p⟩
  refine tD_of hr er p.bind fun μ1 h1 H1 v w s1 hr1 p1 vr1 => ?_
  refine ⟨μ1, z, h1, ρ, hr1, er.step s1, p1.bind.mono fun μ2 h2 H2 l s2 hr2 p2 => ?_⟩
  refine ⟨μ2, z, h2, ρ, hr2, (er.step s1).step s2, p2.bind.mono fun μ3 h3 H3 u s3 hr3 p3 => ?_⟩
  have vr3 := (vr1.step s2).step s3
  cases vr3 with
  | @tup a xs vs hq r =>
    refine ⟨a, vs, rfl, hq, fun e => ?_, fun _ => tupQ p3 hr3 (cut_rel r l u)⟩
    have ec : cutI xs l u = xs := by
      unfold cutI
      rw [r.length, e.1, e.2, List.drop_zero, Nat.sub_zero, ← r.length, List.take_length]
    have p4 : post X.K E μ3 z H3 (.ok (.tup (cutI xs l u)) h3) (VQ X.K z Q) := p3
    rw [ec] at p4
    exact p4 μ3 H3 Step.refl hr3 _ (.tup hq r)
  | _ => exact p3.elim)
def fRev (d : Den) : DenA := fun ρ h => (d ρ h).bind fun v h1 => match lsq h1 v with
  | some xs => .ok xs.reverse h1
  | none => .bad
theorem r_rev {k : Nat} {p1 p2 p3 : Pos} (ha : PE X a (tD X.K E da)) : PE X (.Subscript a (.Slice none none (some (.UnaryOp .USub (.Constant (.int 1) k p1) p2)) p3) pos) (tF X.K E (fRev da)) := PE_imp (pe_revL ha) (by
  rintro σ H Q ⟨μ, z, h, ρ, hr, er, p⟩
  refine tD_of hr er p.bind fun μ1 h1 H1 v w s1 hr1 p1 vr1 => ?_
  cases e1 : lsq h1 v with
  | none => rw [e1] at p1; exact p1.elim
  | some xs =>
    rw [e1] at p1
    obtain ⟨a, vs, ex, hq, r⟩ := lsq_H hr1 vr1 e1
    exact ⟨a, vs, ex, hq, p1.fresh hr1 r.rev⟩)

/-! ### methods of lists -/
def RM (K : PySem.W.Frag) (r : V → List V → Hp → VK → Prop) (f : IV → List IV → Mem → Ret IV) : Prop := ∀ (E : XI) (μ z : List Addr) (h : Mem) (H : Hp) (v : IV) (vs : List IV) (x : V) (xs : List V) (Q : VK), HR K μ z h H → VR K μ z H v x → VRs K μ z H vs xs → post K E μ z H (f v vs h) (VQ K z Q) → r x xs H Q
def isL (h : Mem) (v : IV) : Bool := (lstOf h v).isSome
def dML (f : IV → List IV → Mem → Ret IV) (d : Den) (a : DenA) : Den := fun ρ h => (d ρ h).bind fun v h1 => bif isL h1 v then (a ρ h1).bind fun vs h2 => f v vs h2 else .bad
theorem isL_ty {μ z : List Addr} {H : Hp} {h : Mem} {v : IV} {x : V} (hr : HR K μ z h H) (vr : VR K μ z H v x) (e : isL h v = true) : tyV K "list" x H := by
  unfold isL at e
  obtain ⟨xs, e1⟩ := Option.isSome_iff_exists.mp e
  obtain ⟨a, vs, ex, hq, r⟩ := lstOf_H hr vr e1
  subst ex
  exact .inl ⟨rfl, vs, SqL.of hq⟩
theorem i_ml {r : V → List V → Hp → VK → Prop} {f : IV → List IV → Mem → Ret IV} {d : Den} {a : DenA} (rb : RM K r f) : ∀ (σ : L2.St) (H : Hp) (Q : VK), tD K E (dML f d a) σ H Q → tBM K "list" r (tD K E d) (tAr K E a) σ H Q := by
  rintro σ H Q ⟨μ, z, h, ρ, hr, er, p⟩
  refine tD_of hr er p.bind fun μ1 h1 H1 v w s1 hr1 p1 vr1 => ?_
  cases e1 : isL h1 v with
  | false => simp only [e1, cond_false] at p1; exact p1.elim
  | true =>
    simp only [e1, cond_true] at p1
    refine ⟨isL_ty hr1 vr1 e1, μ1, z, h1, ρ, hr1, er.step s1, p1.bind.mono fun μ2 h2 H2 vs s2 hr2 p2 ws vr2 => ?_⟩
    exact rb E μ2 z h2 H2 v vs w ws Q hr2 (vr1.step s2) vr2 p2
theorem i_ml0 {r : V → List V → Hp → VK → Prop} {f : IV → List IV → Mem → Ret IV} {d : Den} (rb : RM K r f) : ∀ (σ : L2.St) (H : Hp) (Q : VK), tD K E (dML f d aNil) σ H Q → tBM0 K "list" r (tD K E d) σ H Q := by
  rintro σ H Q ⟨μ, z, h, ρ, hr, er, p⟩
  refine tD_of hr er p.bind fun μ1 h1 H1 v w s1 hr1 p1 vr1 => ?_
  cases e1 : isL h1 v with
  | false => simp only [e1, cond_false] at p1; exact p1.elim
  | true =>
    simp only [e1, cond_true] at p1
    exact ⟨isL_ty hr1 vr1 e1, rb E μ1 z h1 H1 v [] w [] Q hr1 vr1 .nil p1⟩
/-- the list at a place becomes another -/
theorem putL {μ z : List Addr} {H : Hp} {h : Mem} {l : Nat} {a : Addr} {vs ws : List V} {xs : List IV} (hr : HR K μ z h H) (hl : μ[l]? = some a) (ha : H a = some (.lst vs)) (r : VRs K μ z H xs ws) :
    Step μ H μ (upd H a (.lst ws)) ∧ HR K μ z (h.set l (.lst xs)) (upd H a (.lst ws)) := by
  have s : Step μ H μ (upd H a (.lst ws)) := Step.put hr hl ha (fun i => i)
  exact ⟨s, hr.put hl s (.lst (r.step s))⟩
theorem at_lst {μ z : List Addr} {H : Hp} {h : Mem} {l : Nat} {a : Addr} {xs : List IV} (hr : HR K μ z h H) (hl : μ[l]? = some a) (e : h[l]? = some (.lst xs)) : ∃ vs, H a = some (.lst vs) ∧ VRs K μ z H xs vs := by
  obtain ⟨u, e3, r⟩ := hr.ob _ _ _ hl e
  cases r with
  | lst r => exact ⟨_, e3, r⟩
def appF : IV → List IV → Mem → Ret IV := fun v vs h => match v, vs with
  | .loc l, [y] => (match h[l]? with
    | some (.lst xs) => bif decide (xs.length < sizeLine) then .ok .non (h.set l (.lst (xs ++ [y]))) else .bad
    | _ => .bad)
  | _, _ => .bad
theorem rm_app : RM K rAppend appF := by
  intro E μ z h H v vs x xs Q hr vr rs p
  cases vr with
  | @loc a l hl =>
    cases rs with
    | nil => exact p.elim
    | @cons y w ys ws r1 t =>
      cases t with
      | cons _ _ => exact p.elim
      | nil =>
        unfold appF at p
        simp only at p
        cases eo : h[l]? with
        | none => rw [eo] at p; exact p.elim
        | some o =>
          cases o with
          | dK _ => rw [eo] at p; exact p.elim
          | oth _ => rw [eo] at p; exact p.elim
          | lst zs =>
            rw [eo] at p
            simp only at p
            rcases cond_dec (P := fun r => post K E μ z H r (VQ K z Q)) p with ⟨hlt, p⟩ | ⟨_, p⟩
            · obtain ⟨us, e3, r⟩ := at_lst hr hl eo
              obtain ⟨st, hr'⟩ := putL hr hl e3 (r.append (.cons r1 .nil))
              exact ⟨a, us, w, rfl, rfl, e3, by rw [← r.length]; exact hlt, p μ _ st hr' _ .non⟩
            · exact p.elim
  | _ => exact p.elim
def popF : IV → List IV → Mem → Ret IV := fun v vs h => match v, vs with
  | .loc l, [] => (match h[l]? with
    | some (.lst xs) => (match xs[xs.length - 1]? with
      | some y => .ok y (h.set l (.lst xs.dropLast))
      | none => .bad)
    | _ => .bad)
  | _, _ => .bad
theorem rm_pop : RM K rPop popF := by
  intro E μ z h H v vs x xs Q hr vr rs p
  cases vr with
  | @loc a l hl =>
    cases rs with
    | cons _ _ => exact p.elim
    | nil =>
      unfold popF at p
      simp only at p
      cases eo : h[l]? with
      | none => rw [eo] at p; exact p.elim
      | some o =>
        cases o with
        | dK _ => rw [eo] at p; exact p.elim
        | oth _ => rw [eo] at p; exact p.elim
        | lst zs =>
          rw [eo] at p
          simp only at p
          cases ey : zs[zs.length - 1]? with
          | none => rw [ey] at p; exact p.elim
          | some y =>
            rw [ey] at p
            obtain ⟨us, e3, r⟩ := at_lst hr hl eo
            obtain ⟨st, hr'⟩ := putL hr hl e3 r.last
            obtain ⟨w, e4, vr⟩ := r.get ey
            exact ⟨a, us, w, rfl, rfl, e3, by rw [← r.length]; exact e4, p μ _ st hr' _ (vr.step st)⟩
  | _ => exact p.elim
def popAtF : IV → List IV → Mem → Ret IV := fun v vs h => match v, vs with
  | .loc l, [.int i] => (match h[l]? with
    | some (.lst xs) => (match ixN xs.length i with
      | some k => bif decide (-9223372036854775808 ≤ i) && decide (i < 9223372036854775808) then (match xs[k]? with
        | some y => .ok y (h.set l (.lst (xs.eraseIdx k)))
        | none => .bad) else .bad
      | none => .bad)
    | _ => .bad)
  | _, _ => .bad
theorem rm_popAt : RM K rPopAt popAtF := by
  intro E μ z h H v vs x xs Q hr vr rs p
  cases vr with
  | @loc a l hl =>
    cases rs with
    | nil => exact p.elim
    | cons r1 t =>
      cases t with
      | cons _ _ => cases r1 <;> exact p.elim
      | nil =>
        cases r1 with
        | int i =>
          unfold popAtF at p
          simp only at p
          cases eo : h[l]? with
          | none => rw [eo] at p; exact p.elim
          | some o =>
            cases o with
            | dK _ => rw [eo] at p; exact p.elim
            | oth _ => rw [eo] at p; exact p.elim
            | lst zs =>
              rw [eo] at p
              simp only at p
              cases ek : ixN zs.length i with
              | none => rw [ek] at p; exact p.elim
              | some k =>
                rw [ek] at p
                simp only at p
                cases ec : decide (-9223372036854775808 ≤ i) && decide (i < 9223372036854775808) with
                | false => simp only [ec, cond_false] at p; exact p.elim
                | true =>
                  simp only [ec, cond_true] at p
                  rw [Bool.and_eq_true, decide_eq_true_eq, decide_eq_true_eq] at ec
                  cases ey : zs[k]? with
                  | none => rw [ey] at p; exact p.elim
                  | some y =>
                    rw [ey] at p
                    obtain ⟨us, e3, r⟩ := at_lst hr hl eo
                    obtain ⟨st, hr'⟩ := putL hr hl e3 (r.erase k)
                    obtain ⟨w, e4, vr⟩ := r.get ey
                    exact ⟨a, us, i, k, w, rfl, rfl, e3, by omega, by omega, by rw [← r.length]; exact (ixN_seq ek).1, e4, p μ _ st hr' _ (vr.step st)⟩
        | _ => exact p.elim
  | _ => exact p.elim

/-! ### stores -/
/-- o[i] = e, by values: the list's, the dict's -/
def putF : IV → IV → IV → Mem → Ret Unit := fun o i v h => match o, i with
  | .loc l, .int k => (match h[l]? with
    | some (.lst xs) => (match ixN xs.length k with
      | some j => .ok () (h.set l (.lst (xs.set j v)))
      | none => .bad)
    | _ => .bad)
  | _, _ => .bad
theorem put_list {E : XI} {μ z : List Addr} {H : Hp} {h : Mem} {o i v : IV} {x y w : V} {Q : Hp → Prop} (hr : HR K μ z h H) (v1 : VR K μ z H o x) (v2 : VR K μ z H i y) (v3 : VR K μ z H v w) (p : post K E μ z H (putF o i v h) fun _ _ H' _ => Q H') : rSetL x y w H Q := by
  cases v1 with
  | @loc a l hl =>
    cases v2 with
    | int k =>
      unfold putF at p
      simp only at p
      cases eo : h[l]? with
      | none => rw [eo] at p; exact p.elim
      | some o =>
        cases o with
        | dK _ => rw [eo] at p; exact p.elim
        | oth _ => rw [eo] at p; exact p.elim
        | lst zs =>
          rw [eo] at p
          simp only at p
          cases ek : ixN zs.length k with
          | none => rw [ek] at p; exact p.elim
          | some j =>
            rw [ek] at p
            obtain ⟨us, e3, r⟩ := at_lst hr hl eo
            obtain ⟨st, hr'⟩ := putL hr hl e3 (r.set v3 j)
            exact ⟨a, us, k, j, rfl, rfl, e3, by rw [← r.length]; exact ek, p μ _ st hr'⟩
    | _ => exact p.elim
  | _ => cases v2 <;> exact p.elim
def sPut (d di de : Den) : DenS := fun ρ h => (de ρ h).bind fun v h1 => (d ρ h1).bind fun o h2 => (di ρ h2).bind fun i h3 => (putF o i v h3).bind fun _ h4 => .ok (.nx, ρ) h4
theorem r_put {tpos : Pos} (ho : PE X a (tD X.K E da)) (hi : PE X b (tD X.K E db)) (he : PE X e (tD X.K E dc)) (ha : ∀ v, assign (.Subscript a b tpos) X.env v = (do
      let ov ← holding [v] (eval a X.env)
      let iv ← holding [v, ov] (eval b X.env)
      standAt tpos
      holding [v, ov, iv] (setItem ov iv v)
      release [v, ov, iv] []) := by intro _; rfl)
    (hs : swapsWithSole [.Subscript a b tpos] e pos.line X.env = pure false := by rfl) (hw : swappedStores [.Subscript a b tpos] e X.env = pure none := by rfl) (h1 : (assignEach [.Subscript a b tpos] X.env).map (·.2) = [assign (.Subscript a b tpos) X.env] := by rfl) :
    PS X (.Assign [.Subscript a b tpos] e pos) (tS X.K E (sPut da db dc)) := PS_imp (ps_asg he (pg_sub ho hi set_list ha) hs hw h1) (by
  rintro D σ H ⟨μ, z, h, ρ, hr, er, p⟩
  refine tD_of hr er p.bind fun μ1 h1 H1 v w s1 hr1 p1 vr1 => ?_
  refine tD_of hr1 (er.step s1) p1.bind fun μ2 h2 H2 o x s2 hr2 p2 vr2 => ?_
  refine tD_of hr2 ((er.step s1).step s2) p2.bind fun μ3 h3 H3 i y s3 hr3 p3 vr3 => ?_
  exact put_list hr3 (vr2.step s3) vr3 ((vr1.step s2).step s3) (p3.bind.mono fun μ4 h4 H4 _ s4 hr4 p4 => p4 μ4 H4 Step.refl hr4 σ ((((er.step s1).step s2).step s3).step s4) hr4))
/-- an item of a list that changes -/
def rGetL : V → V → Hp → VK → Prop := fun x y H Q => ∃ p xs i v, x = .ref p ∧ y = .int i ∧ H p = some (.lst xs) ∧ 0 ≤ i ∧ atI xs i = some v ∧ Q v H
theorem get_list : PGet X rGetL := by
  intro pins s σ H o i ov iv Q I ro ri q
  obtain ⟨q0, xs, k, v, rfl, rfl, hl, h0, he, q⟩ := q
  cases ro
  obtain ⟨t, rfl⟩ := ri
  obtain ⟨its, r, pl, hz⟩ := I.list (SqL.of hl)
  obtain ⟨j, h1, h2, h3, h4, h5⟩ := atI_get he
  obtain ⟨w, ew, rw'⟩ := r.get h2
  have hn := line63
  have hj : k.toNat = j := by
    rw [seqIndex_of h0 h5] at h1
    exact Option.some.inj h1
  exact wpAny_getItem_list pl.isList h0 (by omega) (by rw [hj]; simpa using ew) ⟨v, H, I, rw', q⟩
def getF : IV → IV → Mem → Ret IV := fun o i h => match o, i with
  | .loc l, .int k => (match h[l]? with
    | some (.lst xs) => bif decide (0 ≤ k) then (match atI xs k with
      | some v => .ok v h
      | none => .bad) else .bad
    | _ => .bad)
  | _, _ => .bad
theorem rb_get : RB K rGetL getF := by
  intro E μ z h H o i x y Q hr v1 v2 p
  cases v1 with
  | @loc a l hl =>
    cases v2 with
    | int k =>
      unfold getF at p
      simp only at p
      cases eo : h[l]? with
      | none => rw [eo] at p; exact p.elim
      | some o =>
        cases o with
        | dK _ => rw [eo] at p; exact p.elim
        | oth _ => rw [eo] at p; exact p.elim
        | lst zs =>
          rw [eo] at p
          simp only at p
          rcases cond_dec (P := fun r => post K E μ z H r (VQ K z Q)) p with ⟨h0, p⟩ | ⟨_, p⟩
          · cases ev : atI zs k with
            | none => rw [ev] at p; exact p.elim
            | some v =>
              rw [ev] at p
              obtain ⟨us, e3, r⟩ := at_lst hr hl eo
              obtain ⟨w, e4, vr⟩ := atI_VRs r ev
              exact ⟨a, us, k, w, rfl, rfl, e3, h0, e4, p μ H Step.refl hr _ vr⟩
          · exact p.elim
    | _ => exact p.elim
  | _ => cases v2 <;> exact p.elim
def sAugL (d di de : Den) (f : IV → IV → Mem → Ret IV) : DenS := fun ρ h => (d ρ h).bind fun o h1 => (di ρ h1).bind fun i h2 => (getF o i h2).bind fun x h3 => (de ρ h3).bind fun y h4 => (f x y h4).bind fun w h5 => (putF o i w h5).bind fun _ h6 => .ok (.nx, ρ) h6
theorem r_augL {tpos : Pos} {op : Operator} {r : TIp} {f : IV → IV → Mem → Ret IV} (ho : PE X a (tD X.K E da)) (hi : PE X b (tD X.K E db)) (he : PE X e (tD X.K E dc)) (hp : PIp X op r) (rb : RIp X.K r f)
    (ha : ∀ ov iv new, augStore b ov iv new = (do holding [new, ov, iv] (setItem ov iv new); release [new, ov, iv] []; pure .next) := by intros; rfl) : PS X (.AugAssign (.Subscript a b tpos) op e pos) (tS X.K E (sAugL da db dc f)) := PS_imp (ps_augS ho hi get_list he hp set_list ha) (by
  rintro D σ H ⟨μ, z, h, ρ, hr, er, p⟩
  refine tD_of hr er p.bind fun μ1 h1 H1 o x s1 hr1 p1 vr1 => ?_
  refine tD_of hr1 (er.step s1) p1.bind fun μ2 h2 H2 i y s2 hr2 p2 vr2 => ?_
  refine rb_get E μ2 z h2 H2 o i x y _ hr2 (vr1.step s2) vr2 (p2.bind.mono fun μ3 h3 H3 u s3 hr3 p3 w vr3 => ?_)
  refine tD_of hr3 (((er.step s1).step s2).step s3) p3.bind fun μ4 h4 H4 v t s4 hr4 p4 vr4 => ?_
  refine rb E μ4 z h4 H4 u v w t _ hr4 (vr3.step s4) vr4 (p4.bind.mono fun μ5 h5 H5 n s5 hr5 p5 m vr5 => ?_)
  exact put_list hr5 ((((vr1.step s2).step s3).step s4).step s5) (((vr2.step s3).step s4).step s5) vr5 (p5.bind.mono fun μ6 h6 H6 _ s6 hr6 p6 => p6 μ6 H6 Step.refl hr6 σ ((((((er.step s1).step s2).step s3).step s4).step s5).step s6) hr6))
def addI := intF (fun _ _ => true) fun i j => .int (i + j)
theorem rip_int {g : Int → Int → Int} : RIp K (ipI g) (intF (fun _ _ => true) fun i j => .int (g i j)) := by
  intro E μ z h H v u x y Q hr v1 v2 p
  cases v1 with
  | int i =>
    cases v2 with
    | int j => exact ⟨i, j, rfl, rfl, p μ H Step.refl hr _ (.int _)⟩
    | _ => exact p.elim
  | _ => exact p.elim
end
end VI
end

section
/-! enumerate of a tuple, of a list. -/
namespace PySem
open Sem (wp)
set_option maxHeartbeats 1000000 in
theorem vi_enum_new {v : Value} {o : Obj} {P : Heap → Prop} (B : Begins v o P) :
    Meets (Builtin.«enumerate.__new__» ⟨[.type "enumerate", v], []⟩) (fun _ R s => P s.heap ∧
      R (.ok (.ret (.ref (s.heap.push o).objs.size))) { s with heap := (s.heap.push o).push { cls := .type "enumerate", data := .fields #[.none, .bool false, .ref s.heap.objs.size, rawInt 0, .none, .none] } }) :=
  .of_wp fun prog w A R s hyp => by
    obtain ⟨hp, gg, dd, tk, os⟩ := s
    obtain ⟨h1, hyp⟩ := hyp
    have hsub := sub_enumerate
    have start : ∀ {A' : Around} {E : Value → Shared → Prop} {Q : Value → Shared → Prop}, Q (.ref hp.objs.size) ⟨hp.push o, gg, dd, tk, os⟩ → wpAny (model prog w) A' (pyIter v) Q E ⟨hp, gg, dd, tk, os⟩ := fun q => B.iter prog w _ _ ⟨hp, gg, dd, tk, os⟩ _ h1 q
    wp_walk
    refine wpAny_stack_any fun st => wpAny_pure ?_
    split
    · rename_i c _ _ _ _ _
      cases (c == Value.type "enumerate")
      · wp_walk using start
        exact ⟨_, rfl, hyp⟩
      · wp_walk using start
        exact ⟨_, rfl, hyp⟩
    · wp_walk using start
      exact ⟨_, rfl, hyp⟩
section
variable {prog : Program} {w : World} {A : Around} {E : Value → Shared → Prop} {s : Shared}
theorem vi_call_enum {v : Value} {o : Obj} {P : Heap → Prop} {Q : Value → Shared → Prop} (B : Begins v o P) (hP : P s.heap)
    (k : ∀ h', IsEnum h' (s.heap.objs.size + 1) s.heap.objs.size 0 .none → h'.get? s.heap.objs.size = some o → h'.objs.size = s.heap.objs.size + 2 → (∀ b ob, s.heap.get? b = some ob → h'.get? b = some ob) → Q (.ref (s.heap.objs.size + 1)) { s with heap := h' }) :
    wpAny (model prog w) A (call (.type "enumerate") [v]) Q E s := by
  refine callType_new F.called_enumerate (by decide) (F.typeCall_enumerate_1 _) (F.newCall_enumerate_1 _) (fun obj => F.args_object_init_2 obj _) F.entry_enumerate_new (vi_enum_new B) ⟨hP, ?_⟩
  have sz : (s.heap.push o).objs.size = s.heap.objs.size + 1 := Heap.size_push ..
  have en := Heap.get?_push_size (s.heap.push o) (o := { cls := .type "enumerate", data := .fields #[.none, .bool false, .ref s.heap.objs.size, rawInt 0, .none, .none] }) rfl
  show _ ∧ _
  rw [sz] at en ⊢
  exact ⟨⟨_, en, rfl⟩, k _ en (Heap.get?_push_of_some _ (Heap.get?_push_size _ B.free)) (by rw [Heap.size_push, sz]) fun b ob q => Heap.get?_push_of_some _ (Heap.get?_push_of_some _ q)⟩
end
end PySem
namespace VI
open PySem PySem.Spec PyProof.Rows L2
/-- each item of the tuple at a with its number, in a new pair -/
def ItEt (K : PySem.W.Frag) (a : Addr) : It :=
  ⟨fun i H => ∃ (xs : List V) (x : V), SqT K H a xs ∧ xs[i]? = some x, fun i H v H' => ∃ T x, v = .ref T ∧ H T = none ∧ H' = upd H T (.tup [.int (i : Nat), x]) ∧ ∀ xs, SqT K H a xs → xs[i]? = some x, fun i H => ∃ xs : List V, SqT K H a xs ∧ xs.length = i⟩
theorem turn_et {P : Program} {w : World} {K : PySem.W.Frag} {elts : List Expr} {kk : Nat} {tpos : Pos} (a e it : Addr) :
    Turn P w K (.Tuple elts kk tpos) (ItEt K a) [e, it] e (fun i h => (∃ old, IsEnum h e it ((i : Nat) : Int) old) ∧ h.IsTupleIter it a i ∧ e ≠ it ∧ a ≠ it ∧ a ≠ e) where
  mem := List.mem_cons_self
  obj := by
    intro i h st b hb
    obtain ⟨⟨old, he⟩, ⟨o, ho, hc, hd⟩, _⟩ := st
    rcases List.mem_cons.mp hb with z | z
    · subst z
      exact ⟨_, he, fun v q => nomatch q⟩
    · rw [List.mem_singleton.mp z]
      exact ⟨o, ho, fun v q => by rw [hd] at q; cases q⟩
  keep := by
    intro i h h' st k
    obtain ⟨⟨old, he⟩, hi, ne⟩ := st
    exact ⟨⟨old, k e List.mem_cons_self _ he⟩, hi.at fun o q => k it (List.mem_cons_of_mem _ List.mem_cons_self) o q, ne⟩
  item := by
    intro X hP hw hK hc i pins s σ H E I hf st hg
    subst hP hw hK
    obtain ⟨⟨old, he⟩, hit, hne, hai, hae⟩ := st
    obtain ⟨xs, x, hq, hx⟩ := hg
    obtain ⟨its, rv, pt, hz⟩ := I.tuple hq
    obtain ⟨u, hu, ru⟩ := rv.get hx
    have hel : e < s.heap.objs.size := Heap.lt_size he
    have hil : it < s.heap.objs.size := by
      obtain ⟨_, q, _⟩ := hit
      exact Heap.lt_size q
    have hlt : i < its.toArray.size := by
      obtain ⟨q, _⟩ := List.getElem?_eq_some_iff.mp hu
      simpa using q
    have eu : its.toArray[i]? = some u := by simpa using hu
    refine wpAny_pyNext_enum_itemD (Draws.tuple (A := X.A.in1) (I.ok.hd hc) it a hai its.toArray) he ⟨hit, pt⟩ hlt hne (fun m => ?_) fun y h' tk hy ho hst hT hsz hk => ?_
    · rcases List.mem_cons.mp m with z | z
      · exact hne z
      · exact hae (List.mem_singleton.mp z).symm
    · have ey : u = y := by
        rw [eu] at hy
        exact Option.some.inj hy
      subst ey
      refine ⟨_, rfl, wpAny_letOwnedTupleGo_enum (s := { s with heap := h', toks := tk + 1 }) ho fun h'' he' sb => ?_⟩
      have hT2 : h''.get? s.heap.objs.size = some { cls := .type "tuple", data := .seq #[.int i tk, u] } := (sb.2 _ (Nat.ne_of_gt hel)).trans hT
      have new : ObjOk X.prog X.w (upd H s.heap.objs.size (.tup [.int (i : Nat), x])) h'' s.heap.objs.size (.tup [.int (i : Nat), x]) :=
        ⟨by show 2 ≤ sizeLine; decide, [.int i tk, u], .cons ⟨_, rfl⟩ (.cons ru .nil), ⟨_, hT2, rfl, _, rfl⟩⟩
      have I1 : Inv X pins σ (upd H s.heap.objs.size (.tup [.int (i : Nat), x])) { s with heap := h'', toks := tk + 1 } :=
        I.turnedNew (ch := [e, it]) (fun b ob hb q => (sb.2 b fun z => hb (by rw [z]; exact List.mem_cons_self)).trans (hk b ob (fun z => hb (by rw [z]; exact List.mem_cons_self)) (fun z => hb (by rw [z]; exact List.mem_cons_of_mem _ List.mem_cons_self)) q)) hf (Nat.le_refl _) new
      refine ⟨.ref s.heap.objs.size, _, I1, rfl, ⟨_, x, rfl, I.hok.fresh (Nat.le_refl _), rfl, fun ys hy => by rw [I.tuple_inj hy hq]; exact hx⟩, ⟨⟨u, ?_⟩, hst.1.at fun o q => (sb.2 it hne.symm).trans q, hne, hai, hae⟩, fun b hb => ?_⟩
      · have e1 : ((i + 1 : Nat) : Int) = (i : Int) + 1 := by omega
        rw [e1]
        exact he'
      · have hb' : b < s.heap.objs.size := by
          rcases List.mem_cons.mp hb with z | z
          · rw [z]; exact hel
          · rw [List.mem_singleton.mp z]; exact hil
        rw [upd_ne (Nat.ne_of_lt hb')]
        exact (hf b hb).1
  done := by
    intro X hP hw hK hc i pins s σ H E I hf st hg
    subst hP hw hK
    obtain ⟨⟨old, he⟩, hit, hne, hai, hae⟩ := st
    obtain ⟨xs, hq, hx⟩ := hg
    obtain ⟨its, rv, pt, hz⟩ := I.tuple hq
    obtain ⟨f0, f1, f2, f3, f4, f5⟩ := hf it (List.mem_cons_of_mem _ List.mem_cons_self)
    have hl := rv.length
    have hi2 : i = its.toArray.size := by simp; omega
    subst hi2
    refine wpAny_pyNext_enum_endD (Draws.tuple (A := X.A.in1) (I.ok.hd hc) it a hai its.toArray) he ⟨hit, pt⟩ fun h' eb => ⟨rfl, I.turned (t' := s.toks) (fun b o hb q => eb b o hb q) f0 f1 f3 f4 f5⟩
  self := fun A i s Q E st h => by
    obtain ⟨⟨_, he⟩, _⟩ := st
    exact wpAny_pyIter_enum he h
theorem walk_et {K : PySem.W.Frag} {a : Addr} {xs : List V} : Walk (ItEt K a) xs.length (fun H => SqT K H a xs) (YPair (fun i => some (.int (i : Nat))) (fun i => xs[i]?)) := by
  refine ⟨fun i _ hi q => ⟨xs, xs[i], q, List.getElem?_eq_getElem hi⟩, fun _ q => ⟨xs, q, rfl⟩, fun i H v H' _ q y => ?_⟩
  obtain ⟨T, x, h1, h2, h3, h4⟩ := y
  exact ⟨T, .int (i : Nat), x, h1, h2, h3, rfl, h4 xs q⟩
def iEnumT (K : PySem.W.Frag) (ta : TA) : TI := fun σ H R => ta σ H fun vs H1 => ∃ a xs, vs = [.ref a] ∧ SqT K H1 a xs ∧ R (ItEt K a) H1
theorem pi_enumT {X : Cx} {e : Expr} {ta : TA} {p pos tpos : Pos} {elts : List Expr} {kk : Nat} (hg : Gl X "enumerate") (hm : X.mg "enumerate" = none) (ha : PA X [e] ta) (hs : starEach [e] X.env = [(false, eval e X.env)] := by rfl) :
    PI X (.Tuple elts kk tpos) (.Call (.Name "enumerate" p) [e] [] pos) (iEnumT X.K ta) := by
  constructor
  intro pins s σ H R I q
  refine Call_ (ld_blt I hg hm boot_enumerate (PyProof.Rows.callWith_type1 (thn (ha.run pos pins s σ H _ I q) ?_) hs rfl))
  rintro us s1 ⟨vs, H1, I1, r1, a, xs, rfl, hq, k⟩
  cases r1 with
  | cons r rr =>
    cases rr
    cases r
    obtain ⟨its, rv, pt, hz⟩ := I1.tuple hq
    refine vi_call_enum (begins_tuple a its.toArray) pt fun h' he ho hsz hk => wpAny_pyIter_enum he ?_
    have I2 : Inv X pins σ H1 { s1 with heap := h' } := I1.kept (t' := s1.toks) hk
    have hal : a < s1.heap.objs.size := by
      obtain ⟨ob, q, _⟩ := pt
      exact Heap.lt_size q
    refine ⟨s1.heap.objs.size + 1, [s1.heap.objs.size + 1, s1.heap.objs.size], _, _, H1, rfl, I2, turn_et a _ _, ⟨⟨_, he⟩, ⟨_, ho, rfl, rfl⟩, Nat.succ_ne_self _, Nat.ne_of_lt hal, Nat.ne_of_lt (Nat.lt_succ_of_lt hal)⟩, fun b hb => ?_, k⟩
    have hb' : s1.heap.objs.size ≤ b := by
      rcases List.mem_cons.mp hb with z | z
      · rw [z]; exact Nat.le_succ _
      · rw [List.mem_singleton.mp z]; exact Nat.le_refl _
    exact I1.fpOk hb' (I1.hok.fresh hb')
/-- pairs of a number and an item -/
def numd (k : Nat) : List IV → List IV
  | [] => []
  | x :: r => .tup [.int k, x] :: numd (k + 1) r
theorem numd_len (k : Nat) : ∀ xs : List IV, (numd k xs).length = xs.length
  | [] => rfl
  | x :: r => by unfold numd; rw [List.length_cons, List.length_cons, numd_len (k + 1) r]
theorem numd_get : ∀ (xs : List IV) (k i : Nat) (x : IV), xs[i]? = some x → (numd k xs)[i]? = some (.tup [.int ((k + i : Nat) : Int), x])
  | [], _, i, _, e => by simp at e
  | y :: r, k, 0, x, e => by
    have e' : y = x := by simpa using e
    subst e'
    rfl
  | y :: r, k, i + 1, x, e => by
    unfold numd
    rw [List.getElem?_cons_succ, numd_get r (k + 1) i x (by simpa using e), Nat.add_assoc, Nat.add_comm 1 i]
section
variable {X : Cx} {E : XI} {e : Expr} {pos p tpos : Pos} {K : PySem.W.Frag}
/-- what a walk of new pairs gives -/
theorem pair_walk {μ1 z : List Addr} {H1 : Hp} {xs : List IV} {vs : List V} {J : It} {G : Hp → Prop} {R : It → Hp → Prop} (wk : Walk J vs.length G (YPair (fun i => some (.int (i : Nat))) (fun i => vs[i]?))) (hG : ∀ μ2 H2, Step μ1 H1 μ2 H2 → G H2) (r : VRs K μ1 z H1 xs vs)
    (p : ∀ (J : It) (G : Hp → Prop) (Y : Nat → Hp → V → Hp → Prop), Walk J (numd 0 xs).length G Y →
    (∀ μ2 z2 h2 H2, Step μ1 H1 μ2 H2 → (∀ q ∈ z2, q ∈ z ∨ H1 q = none) → HR K μ2 z2 h2 H2 → G H2 ∧ ∀ i x H3, i < (numd 0 xs).length → Y i H2 x H3 → ∃ v, (numd 0 xs)[i]? = some v ∧ Step μ2 H2 μ2 H3 ∧ HR K μ2 z2 h2 H3 ∧ VR K μ2 z2 H3 v x) → R J H1) : R J H1 := by
  have el : (numd 0 xs).length = vs.length := (numd_len 0 xs).trans r.length
  refine p J G _ (by rw [el]; exact wk) fun μ2 z2 h2 H2 s2 n2 hr2 => ⟨hG μ2 H2 s2, fun i x H3 hi y => ?_⟩
  obtain ⟨T, a1, b1, rfl, nT, rfl, ea, eb⟩ := y
  have ea' : V.int (i : Nat) = a1 := Option.some.inj ea
  subst ea'
  obtain ⟨u, e1, e2⟩ := r.get' eb
  refine ⟨_, numd_get xs 0 i u e1, Step.new nT, hr2.new nT, .tup (.inl (.inl upd_same)) (.cons ?_ (.cons (((e2.rehide n2).step s2).step (Step.new nT)) .nil))⟩
  rw [Nat.zero_add]
  exact .int _
def wEn (a : DenA) : DenA := fun ρ h => (a ρ h).bind fun vs h1 => match vs with
  | [.tup xs] => .ok (numd 0 xs) h1
  | _ => .bad
theorem r_wEnT {a : DenA} {elts : List Expr} {kk : Nat} (hg : Gl X "enumerate") (hm : X.mg "enumerate" = none) (ha : PA X [e] (tAr X.K E a)) (hs : starEach [e] X.env = [(false, eval e X.env)] := by rfl) :
    PI X (.Tuple elts kk tpos) (.Call (.Name "enumerate" p) [e] [] pos) (tIV X.K E (wEn a)) := PI_imp (pi_enumT hg hm ha hs) (by
  rintro σ H R ⟨μ, z, h, ρ, hr, er, p⟩
  refine ⟨μ, z, h, ρ, hr, er, p.bind.mono fun μ1 h1 H1 vs s1 hr1 p1 ws vr => ?_⟩
  cases vr with
  | nil => exact p1.elim
  | cons v1 t =>
    cases t with
    | cons _ _ => cases v1 <;> exact p1.elim
    | nil =>
      cases v1 with
      | @tup a xs vs hq r => exact ⟨a, vs, rfl, hq, pair_walk walk_et (fun μ2 H2 s2 => SqT.step s2 hq) r (p1 μ1 H1 Step.refl hr1)⟩
      | _ => exact p1.elim)
def wEnL (a : DenA) : DenA := fun ρ h => (a ρ h).bind fun vs h1 => match vs with
  | [.fl xs] => .ok (numd 0 xs) h1
  | _ => .bad
theorem r_wEnL {a : DenA} {elts : List Expr} {kk : Nat} (hg : Gl X "enumerate") (hm : X.mg "enumerate" = none) (ha : PA X [e] (tAr X.K E a)) (hs : starEach [e] X.env = [(false, eval e X.env)] := by rfl) :
    PI X (.Tuple elts kk tpos) (.Call (.Name "enumerate" p) [e] [] pos) (tIV X.K E (wEnL a)) := PI_imp (pi_enum hg hm ha hs) (by
  rintro σ H R ⟨μ, z, h, ρ, hr, er, p⟩
  refine ⟨μ, z, h, ρ, hr, er, p.bind.mono fun μ1 h1 H1 vs s1 hr1 p1 ws vr => ?_⟩
  cases vr with
  | nil => exact p1.elim
  | cons v1 t =>
    cases t with
    | cons _ _ => cases v1 <;> exact p1.elim
    | nil =>
      cases v1 with
      | @fl a xs vs hq n m r => exact ⟨a, vs, rfl, SqL.of hq, pair_walk walk_enum (fun μ2 H2 s2 => SqL.of (s2.keep _ _ hq n)) r (p1 μ1 H1 Step.refl hr1)⟩
      | _ => exact p1.elim)
end
end VI
end

section
/-! Dicts with ints and texts as keys; repr; pairs of names. -/
namespace VI
open PySem PySem.Spec PyProof.Rows L2
section
variable {X : Cx} {E : XI} {e a b : Expr} {es : List Expr} {pos p : Pos} {da db dc : Den} {K : PySem.W.Frag}
/-! ### the hidden thing, whatever may change -/
section
variable {μ μ1 μ' z : List Addr} {H H1 H' : Hp} {h : Mem}
mutual
theorem VR.mutY {q : Addr} {o u : HO} (hq : H q = some u) (ni : ¬ Imm u) (m : q ∈ z) : ∀ {x : IV} {v : V}, VR K μ z H x v → VR K μ z (upd H q o) x v
  | _, _, .non => .non
  | _, _, .bl b => .bl b
  | _, _, .int i => .int i
  | _, _, .str x => .str x
  | _, _, .tup h r => by
    refine .tup ?_ (VRs.mutY hq ni m r)
    rcases h with (h | ⟨o2, h⟩) | h
    · refine .inl (.inl ?_)
      rw [upd_ne]
      · exact h
      · intro e
        rw [e, hq] at h
        cases h
        exact ni trivial
    · refine .inl (.inr ⟨o2, ?_⟩)
      rw [upd_ne]
      · exact h
      · intro e
        rw [e, hq] at h
        cases h
        exact ni trivial
    · exact .inr h
  | _, _, .fl (a := a) h n1 m1 r => by
    have ne : a ≠ q := fun e => m1 (by rw [e]; exact m)
    exact .fl (by rw [upd_ne ne]; exact h) n1 m1 (VRs.mutY hq ni m r)
  | _, _, .fz (a := a) h r => by
    refine .fz (h.imp (fun ⟨o2, h2⟩ => ⟨o2, ?_⟩) id) (VRs.mutY hq ni m r)
    have ne : a ≠ q := fun e => by
      rw [e, hq] at h2
      cases h2
      exact ni trivial
    rw [upd_ne ne]
    exact h2
  | _, _, .loc h => .loc h
theorem VRs.mutY {q : Addr} {o u : HO} (hq : H q = some u) (ni : ¬ Imm u) (m : q ∈ z) : ∀ {xs : List IV} {vs : List V}, VRs K μ z H xs vs → VRs K μ z (upd H q o) xs vs
  | _, _, .nil => .nil
  | _, _, .cons r t => .cons (VR.mutY hq ni m r) (VRs.mutY hq ni m t)
end
theorem KRs.mutY {q : Addr} {o u : HO} (hq : H q = some u) (ni : ¬ Imm u) (m : q ∈ z) : ∀ {xs : List (Key × IV)} {vs : List (Key × V)}, KRs K μ z H xs vs → KRs K μ z (upd H q o) xs vs
  | _, _, .nil => .nil
  | _, _, .cons r t => .cons (r.mutY hq ni m) (KRs.mutY hq ni m t)
theorem FRs.mutY {q : Addr} {o u : HO} (hq : H q = some u) (ni : ¬ Imm u) (m : q ∈ z) : ∀ {xs : List (Str × IV)} {vs : List (Str × V)}, FRs K μ z H xs vs → FRs K μ z (upd H q o) xs vs
  | _, _, .nil => .nil
  | _, _, .cons r t => .cons (r.mutY hq ni m) (FRs.mutY hq ni m t)
theorem NRs.mutY {q : Addr} {o u : HO} (hq : H q = some u) (ni : ¬ Imm u) (m : q ∈ z) : ∀ {xs : List (NestedKey × IV)} {vs : List (NestedKey × Addr × V)}, NRs K μ z H xs vs → NRs K μ z (upd H q o) xs vs
  | _, _, .nil => .nil
  | _, _, .cons t r k => .cons (t.mutY hq ni m) (r.mutY hq ni m) (NRs.mutY hq ni m k)
theorem HR.mutY {q : Addr} {o u : HO} (hq : H q = some u) (ni : ¬ Imm u) (m : q ∈ z) (r : HR K μ z h H) : HR K μ z h (upd H q o) :=
  ⟨r.len, r.nd, fun l a i e1 e2 => by
    obtain ⟨u2, e3, k⟩ := r.ob l a i e1 e2
    have ne : a ≠ q := fun e => (r.zz q m).1 (by rw [← e]; exact List.mem_of_getElem? e1)
    refine ⟨u2, by rw [upd_ne ne]; exact e3, ?_⟩
    cases k with
    | lst k => exact .lst (k.mutY hq ni m)
    | dK k => exact .dK (k.mutY hq ni m)
    | oth k =>
      cases k with
      | ob h r => exact .oth (.ob h (r.mutY hq ni m))
      | dN r => exact .oth (.dN (r.mutY hq ni m)), fun a ma => ⟨(r.zz a ma).1, by
    by_cases e : a = q
    · subst e
      exact ⟨o, upd_same⟩
    · rw [upd_ne e]
      exact (r.zz a ma).2⟩⟩
end

/-! ### keys -/
def keyI : IV → Option Key
  | .int i => some (.inl i)
  | .str s => some (.inr s)
  | _ => none
theorem key_rel {μ z : List Addr} {H : Hp} {v : IV} {x : V} {k : Key} (vr : VR K μ z H v x) (e : keyI v = some k) : x = kV k := by
  cases vr with
  | int i =>
    have e' := Option.some.inj e
    subst e'
    rfl
  | str s =>
    have e' := Option.some.inj e
    subst e'
    rfl
  | _ => cases e
def valI (kvs : List (Key × IV)) (k : Key) : Option IV := (kvs.find? fun kv => decide (kv.1 = k)).map (·.2)
def putI (kvs : List (Key × IV)) (k : Key) (v : IV) : List (Key × IV) := if kvs.any (fun kv => decide (kv.1 = k)) then kvs.map fun kv => if kv.1 = k then (kv.1, v) else kv else kvs ++ [(k, v)]
theorem val_rel {μ z : List Addr} {H : Hp} {k : Key} : ∀ {kvs : List (Key × IV)} {ws : List (Key × V)} {v : IV}, KRs K μ z H kvs ws → valI kvs k = some v → ∃ w, valV ws k = some w ∧ VR K μ z H v w
  | [], _, v, .nil, e => by cases e
  | (j, x) :: r, _, v, .cons (v := w) vr t, e => by
    unfold valI at e
    rw [List.find?_cons] at e
    by_cases hj : j = k
    · subst hj
      simp only [decide_true] at e
      have e' : x = v := Option.some.inj e
      subst e'
      exact ⟨w, valV_pos rfl, vr⟩
    · simp only [decide_eq_false hj] at e
      obtain ⟨w2, h1, h2⟩ := val_rel t e
      exact ⟨w2, by rw [valV_neg hj]; exact h1, h2⟩
theorem any_rel {μ z : List Addr} {H : Hp} {k : Key} : ∀ {kvs : List (Key × IV)} {ws : List (Key × V)}, KRs K μ z H kvs ws → (kvs.any fun kv => decide (kv.1 = k)) = (ws.any fun kv => decide (kv.1 = k))
  | _, _, .nil => rfl
  | _, _, .cons vr t => by rw [List.any_cons, List.any_cons, any_rel t]
theorem map_rel {μ z : List Addr} {H : Hp} {k : Key} {y : IV} {w : V} (q : VR K μ z H y w) : ∀ {kvs : List (Key × IV)} {ws : List (Key × V)}, KRs K μ z H kvs ws → KRs K μ z H (kvs.map fun kv => if kv.1 = k then (kv.1, y) else kv) (ws.map fun kv => if kv.1 = k then (kv.1, w) else kv)
  | _, _, .nil => .nil
  | _, _, .cons (k := j) vr t => by
    rw [List.map_cons, List.map_cons]
    by_cases hj : j = k
    · simp only [if_pos hj]
      exact .cons q (map_rel q t)
    · simp only [if_neg hj]
      exact .cons vr (map_rel q t)
theorem app_rel {μ z : List Addr} {H : Hp} : ∀ {kvs jvs : List (Key × IV)} {ws us : List (Key × V)}, KRs K μ z H kvs ws → KRs K μ z H jvs us → KRs K μ z H (kvs ++ jvs) (ws ++ us)
  | _, _, _, _, .nil, s => s
  | _, _, _, _, .cons r t, s => .cons r (app_rel t s)
theorem put_rel {μ z : List Addr} {H : Hp} {k : Key} {y : IV} {w : V} {kvs : List (Key × IV)} {ws : List (Key × V)} (r : KRs K μ z H kvs ws) (q : VR K μ z H y w) : KRs K μ z H (putI kvs k y) (putK ws k w) := by
  unfold putI putK
  rw [any_rel r]
  split
  · exact map_rel q r
  · exact app_rel r (.cons q .nil)
/-- d[k] -/
def dGetI (d di : Den) : Den := dBin (fun o i h => match o with
  | .loc l => (match h[l]?, keyI i with
    | some (.dK kvs), some k => (match valI kvs k with
      | some v => .ok v h
      | none => .bad)
    | _, _ => .bad)
  | _ => .bad) d di
theorem at_dK {μ z : List Addr} {H : Hp} {h : Mem} {l : Nat} {a : Addr} {kvs : List (Key × IV)} (hr : HR K μ z h H) (hl : μ[l]? = some a) (e : h[l]? = some (.dK kvs)) : ∃ ws, H a = some (.dK ws) ∧ KRs K μ z H kvs ws := by
  obtain ⟨u, e3, r⟩ := hr.ob _ _ _ hl e
  cases r with
  | dK r => exact ⟨_, e3, r⟩
theorem r_dget (hu : X.A.units + 1 < cLine) (ha : PE X a (tD X.K E da)) (hb : PE X b (tD X.K E db)) (hs : NoSl b := by exact fun _ _ => rfl) : PE X (.Subscript a b pos) (tD X.K E (dGetI da db)) := PE_imp (pe_dget hu ha hb hs) (by
  rintro σ H Q ⟨μ, z, h, ρ, hr, er, p⟩
  refine tD_of hr er p.bind fun μ1 h1 H1 v w s1 hr1 p1 vr1 => ?_
  refine tD_of hr1 (er.step s1) p1.bind fun μ2 h2 H2 u y s2 hr2 p2 vr2 => ?_
  have vr3 := vr1.step s2
  cases vr3 with
  | @loc a l hl =>
    simp only at p2
    cases eo : h2[l]? with
    | none => rw [eo] at p2; exact p2.elim
    | some o =>
      cases o with
      | lst _ => rw [eo] at p2; exact p2.elim
      | oth _ => rw [eo] at p2; exact p2.elim
      | dK kvs =>
        cases ek : keyI u with
        | none => rw [eo, ek] at p2; exact p2.elim
        | some k =>
          rw [eo, ek] at p2
          simp only at p2
          cases ev : valI kvs k with
          | none => rw [ev] at p2; exact p2.elim
          | some x =>
            rw [ev] at p2
            obtain ⟨ws, e3, r⟩ := at_dK hr2 hl eo
            obtain ⟨t, e4, vr⟩ := val_rel r ev
            refine ⟨a, t, rfl, ?_, p2 μ2 H2 Step.refl hr2 _ vr⟩
            rw [key_rel vr2 ek, ← e4]
            exact DGet.k e3
  | _ => exact p2.elim)
/-- d[k] = v -/
def sDPutI (d di de : Den) : DenS := fun ρ h => (de ρ h).bind fun v h1 => (d ρ h1).bind fun o h2 => (di ρ h2).bind fun i h3 => match o with
  | .loc l => (match h3[l]?, keyI i with
    | some (.dK kvs), some k => bif decide (kvs.length < sizeLine) then .ok (.nx, ρ) (h3.set l (.dK (putI kvs k v))) else .bad
    | _, _ => .bad)
  | _ => .bad
theorem putD {μ z : List Addr} {H : Hp} {h : Mem} {l : Nat} {a : Addr} {vs ws : List (Key × V)} {xs : List (Key × IV)} (hr : HR K μ z h H) (hl : μ[l]? = some a) (ha : H a = some (.dK vs)) (r : KRs K μ z H xs ws) :
    Step μ H μ (upd H a (.dK ws)) ∧ HR K μ z (h.set l (.dK xs)) (upd H a (.dK ws)) := by
  have s : Step μ H μ (upd H a (.dK ws)) := Step.put hr hl ha (fun i => i)
  exact ⟨s, hr.put hl s (.dK (r.step s))⟩
theorem r_dput {tpos : Pos} (hu : X.A.units + 1 < cLine) (ha : PE X a (tD X.K E da)) (hb : PE X b (tD X.K E db)) (he : PE X e (tD X.K E dc)) (hs : swapsWith e (some (.Subscript a b tpos)) pos.line X.env = pure false := by rfl) :
    PS X (.Assign [.Subscript a b tpos] e pos) (tS X.K E (sDPutI da db dc)) := PS_imp (ps_dput hu ha hb he hs) (by
  rintro D σ H ⟨μ, z, h, ρ, hr, er, p⟩
  refine tD_of hr er p.bind fun μ1 h1 H1 v w s1 hr1 p1 vr1 => ?_
  refine tD_of hr1 (er.step s1) p1.bind fun μ2 h2 H2 o x s2 hr2 p2 vr2 => ?_
  refine tD_of hr2 ((er.step s1).step s2) p2.bind fun μ3 h3 H3 i y s3 hr3 p3 vr3 => ?_
  have vo := vr2.step s3
  cases vo with
  | @loc a l hl =>
    simp only at p3
    cases eo : h3[l]? with
    | none => rw [eo] at p3; exact p3.elim
    | some o =>
      cases o with
      | lst _ => rw [eo] at p3; exact p3.elim
      | oth _ => rw [eo] at p3; exact p3.elim
      | dK kvs =>
        cases ek : keyI i with
        | none => rw [eo, ek] at p3; exact p3.elim
        | some k =>
          rw [eo, ek] at p3
          simp only at p3
          rcases cond_dec (P := fun r => post X.K E μ3 z H3 r (endQ2 X.K z (fun μ' h' H' ρ' => ∀ σ', ER X.K μ' z H' ρ' σ' → HR X.K μ' z h' H' → D.nx σ' H') (fun μ' h' H' ρ' => ∀ σ', ER X.K μ' z H' ρ' σ' → D.bk σ' H') (fun μ' h' H' ρ' => ∀ σ', ER X.K μ' z H' ρ' σ' → D.ct σ' H') (fun μ' _ H' v => ∀ w, VR X.K μ' z H' v w → D.rt w H'))) p3 with ⟨hlt, p⟩ | ⟨_, p⟩
          · obtain ⟨ws, e3, r⟩ := at_dK hr3 hl eo
            obtain ⟨st, hr'⟩ := putD hr3 hl e3 (put_rel (k := k) r ((vr1.step s2).step s3))
            refine ⟨a, _, rfl, ?_, p μ3 _ st hr' σ ((((er.step s1).step s2).step s3).step st) hr'⟩
            rw [key_rel vr3 ek]
            exact DPut.k e3 (by rw [← r.length]; exact hlt)
          · exact p.elim
  | _ => exact p3.elim)
/-! ### {k: v, ..} with written texts as keys -/
def tPd (K : PySem.W.Frag) (E : XI) (ks : List Str) (d : DenA) : L2.St → Hp → (List (V × V) → Hp → Prop) → Prop := fun σ H Q => ∃ μ z h ρ, HR K μ z h H ∧ ER K μ z H ρ σ ∧ post K E μ z H (d ρ h) fun μ' _ H' vs => ∀ ws, VRs K μ' z H' vs ws → Q ((ks.map V.str).zip ws) H'
structure PD (X : Cx) (E : XI) (pos : Pos) (keys : List (Option Expr)) (vals : List Expr) (ks : List Str) (d : DenA) : Prop where
  run : ∃ trs, PPs X pos keys vals trs ∧ ∀ σ H Q, tPd X.K E ks d σ H Q → tPairs trs σ H Q
theorem r_pd0 : PD X E pos [] [] [] aNil := ⟨[], pps_nil, fun σ H Q ⟨μ, z, h, ρ, hr, er, p⟩ => p μ H Step.refl hr [] .nil⟩
theorem r_pd {k : Str} {j : Nat} {kp : Pos} {ks : List Str} {keys : List (Option Expr)} {vals : List Expr} {d : DenA} (h1 : PE X a (tD X.K E da)) (h2 : PD X E pos keys vals ks d) : PD X E pos (some (.Constant (.str k) j kp) :: keys) (a :: vals) (k :: ks) (aCons da d) := by
  obtain ⟨trs, hp, hi⟩ := h2.run
  refine ⟨(tC (.str k), tD X.K E da) :: trs, pps_cons pe_str h1 hp, ?_⟩
  rintro σ H Q ⟨μ, z, h, ρ, hr, er, p⟩
  refine tD_of hr er p.bind fun μ1 h1 H1 v w s1 hr1 p1 vr1 => ?_
  refine hi σ H1 _ ⟨μ1, z, h1, ρ, hr1, er.step s1, p1.bind.mono fun μ2 h2 H2 vs s2 hr2 p2 ws vr2 => ?_⟩
  exact p2 μ2 H2 Step.refl hr2 (w :: ws) (.cons (vr1.step s2) vr2)
def mergeI (kvs more : List (Key × IV)) : List (Key × IV) := more.foldl (fun acc kv => putI acc kv.1 kv.2) kvs
theorem merge_rel {μ z : List Addr} {H : Hp} : ∀ (more : List (Key × IV)) (mw : List (Key × V)) (kvs : List (Key × IV)) (ws : List (Key × V)), KRs K μ z H more mw → KRs K μ z H kvs ws → KRs K μ z H (mergeI kvs more) (mergeK ws mw)
  | [], _, _, _, .nil, r => r
  | (_, _) :: more, _ :: mw, kvs, ws, .cons q t, r => merge_rel more mw _ _ t (put_rel r q)
def zipK (ks : List Str) (vs : List IV) : List (Key × IV) := (ks.map Sum.inr).zip vs
theorem zip_rel {μ z : List Addr} {H : Hp} : ∀ (ks : List Str) {vs : List IV} {ws : List V}, VRs K μ z H vs ws → KRs K μ z H (zipK ks vs) ((ks.map (Sum.inr : Str → Key)).zip ws)
  | [], _, _, _ => .nil
  | _ :: _, _, _, .nil => .nil
  | k :: ks, _, _, .cons r t => .cons r (zip_rel ks t)
theorem zip_kV : ∀ (ks : List Str) (ws : List V), (ks.map V.str).zip ws = ((ks.map (Sum.inr : Str → Key)).zip ws).map fun kv => (kV kv.1, kv.2)
  | [], _ => rfl
  | _ :: _, [] => rfl
  | k :: ks, w :: ws => by
    have := zip_kV ks ws
    show (V.str k, w) :: (ks.map V.str).zip ws = _
    rw [this]
    rfl
def dDisp (ks : List Str) (d : DenA) : Den := fun ρ h => (d ρ h).bind fun vs h1 => .ok (.loc h1.length) (h1 ++ [.dK (mergeI [] (zipK ks vs))])
theorem r_disp {keys : List (Option Expr)} {vals : List Expr} {ks : List Str} {d : DenA} (h : PD X E pos keys vals ks d) (hk : ks.length ≤ 15) (hall : keys.all (·.isSome) = true) (hl : keys.length = vals.length) (h0 : keys ≠ []) (hs : keys.length ≤ 15) :
    PE X (.Dict keys vals pos) (tD X.K E (dDisp ks d)) := by
  obtain ⟨trs, hp, hi⟩ := h.run
  refine PE_imp (pe_disp hp hall hl h0 hs) ?_
  rintro σ H Q ⟨μ, z, h, ρ, hr, er, p⟩ q nq
  have nz : q ∉ z := (hr.fresh nq).2
  refine hi σ _ _ ⟨μ, q :: z, h, ρ, hr.hideNew nq, (er.hide (.inl nq)).step (Step.new nq), ?_⟩
  have p1 := p.bind
  cases e1 : d ρ h with
  | bad => rw [e1] at p1; exact p1.elim
  | ex e2 h2 =>
    rw [e1] at p1
    exact fun μ' H' s r => p1 μ' H' ((Step.new nq).trans s) r.show
  | ok vs h1 =>
    unfold dDisp at p
    rw [e1] at p
    intro μ' H' s hr' ws vr
    have eq0 : H' q = some (.dK []) := s.keep q _ upd_same (hr.fresh nq).1
    refine ⟨eq0, (ks.map (Sum.inr : Str → Key)).zip ws, zip_kV ks ws, ?_, ?_⟩
    · refine Nat.le_trans ?_ hk
      rw [List.length_zip, List.length_map]
      exact Nat.min_le_left _ _
    · have ni : ¬ Imm (.dK []) := fun i => i
      have rel : KRs X.K μ' (q :: z) H' (mergeI [] (zipK ks vs)) (mergeK [] ((ks.map (Sum.inr : Str → Key)).zip ws)) := merge_rel _ _ _ _ (zip_rel ks vr) .nil
      have hr2 := hr'.mutY (o := .dK (mergeK [] ((ks.map (Sum.inr : Str → Key)).zip ws))) eq0 ni List.mem_cons_self
      have nm : q ∉ μ' := (hr'.zz q List.mem_cons_self).1
      have st : Step μ H μ' (upd H' q (.dK (mergeK [] ((ks.map (Sum.inr : Str → Key)).zip ws)))) := by
        have s0 : Step μ H μ' H' := (Step.new nq).trans s
        exact s0.mutNew nq
      refine p (μ' ++ [q]) _ (st.alloc nq nm) (hr2.unhide nz upd_same (.dK (rel.mutY eq0 ni List.mem_cons_self))) _ (.loc ?_)
      rw [hr'.len, List.getElem?_append_right (Nat.le_refl _), Nat.sub_self]
      rfl

/-! ### a, b = x, y -/
def sPar (i j : Nat) (d : DenA) : DenS := fun ρ h => (d ρ h).bind fun vs h1 => match vs with
  | [v, w] => .ok (.nx, (ρ.set i (some v)).set j (some w)) h1
  | _ => .bad
theorem r_par {i j : Nat} {x y : Str} {d : DenA} {px py pt : Pos} {kt k2 pt2} (hc : X.calm = true) (hN : X.N.Nodup) (hi : X.N[i]? = some x) (hj : X.N[j]? = some y) (hij : i ≠ j)
    (hx : X.env.scope.names.lookup x = some .local) (hy : X.env.scope.names.lookup y = some .local) (ha : PA X [a, b] (tAr X.K E d))
    (hw : swappedStores [.Tuple [.Name x px, .Name y py] kt pt] (.Tuple [a, b] k2 pt2) X.env = pure (some [x, y]))
    (hs : swapsWithSole [.Tuple [.Name x px, .Name y py] kt pt] (.Tuple [a, b] k2 pt2) pos.line X.env = pure false := by rfl) :
    PS X (.Assign [.Tuple [.Name x px, .Name y py] kt pt] (.Tuple [a, b] k2 pt2) pos) (tS X.K E (sPar i j d)) := PS_imp (ps_par hc hN hi hj hij hx hy ha hw hs) (by
  rintro D σ H ⟨μ, z, h, ρ, hr, er, p⟩
  refine ⟨μ, z, h, ρ, hr, er, p.bind.mono fun μ1 h1 H1 vs s1 hr1 p1 ws vr => ?_⟩
  cases vr with
  | nil => exact p1.elim
  | cons v1 t =>
    cases t with
    | nil => exact p1.elim
    | cons v2 t =>
      cases t with
      | cons _ _ => exact p1.elim
      | nil => exact ⟨_, _, rfl, p1 μ1 H1 Step.refl hr1 _ (((er.step s1).set v1 i).set v2 j) hr1⟩)

/-! ### repr -/
def rRepr (K : PySem.W.Frag) : List V → Hp → VK → Prop := fun xs H Q => ∃ x d, xs = [x] ∧ Dp K H x d ∧ d.showable = true ∧ d.hasDict = false ∧ d.depth ≤ 60 ∧ d.shown.length ≤ sizeLine ∧ Q (.str d.shown) H
theorem call_repr (hg : X.A.guards = some []) (hu : X.A.units + 64 < cLine) : CallR X (.builtin "repr") (rRepr X.K) := by
  intro pins s σ H xs us Q I r q
  obtain ⟨x, d, rfl, dp, sh, hd, dep, sz, q⟩ := q
  obtain ⟨u, rfl, rx⟩ := Vals.one r
  obtain ⟨as, rd⟩ := Dp.reads I d x u dp rx
  have nd : d.hasDict = true → sysModules ∉ as := PyData.noDict_hsm hd
  have fin : ∀ t h' tk, (∀ b o, s.heap.get? b = some o → h'.get? b = some o) → EP X pins σ Q (.str d.shown t) { s with heap := h', toks := tk } := fun t h' tk k => ⟨.str d.shown, H, I.kept k, ⟨t, rfl⟩, q⟩
  cases x with
  | ref a =>
    cases rx
    exact repr_of_reads' rd sh nd hg (by omega) (fun _ _ e => e) (fun h' u tk k => fin u h' tk k) sz
  | non =>
    cases dp
    cases rx
    rw [PyData.shown_none] at fin
    exact PySem.P.repr_of_none (fin _ s.heap _ fun _ _ e => e)
  | bl b =>
    cases dp
    cases rx
    rw [PyData.shown_bool] at fin
    exact PySem.P.repr_of_bool (fin _ s.heap _ fun _ _ e => e)
  | int i =>
    cases dp
    obtain ⟨t, rfl⟩ := rx
    rw [PyData.shown_int] at fin
    have hi : i.natAbs.log2 < 1920 := by simpa [PyData.showable] using sh
    exact PySem.P.repr_of_int hi (fin _ s.heap _ fun _ _ e => e)
  | str y =>
    cases dp
    obtain ⟨t, rfl⟩ := rx
    rw [PyData.shown_str] at fin sz
    exact PySem.P.repr_of_str (fin _ s.heap _ fun _ _ e => e) sz
  | byt _ => cases dp
  | flt _ => cases dp
  | ty _ => cases dp
def reprF : List IV → Mem → Ret IV := fun vs h => match vs with
  | [v] => (match toD h deep v with
    | some d => bif d.showable && !d.hasDict && decide (d.depth ≤ 60) && decide (d.shown.length ≤ sizeLine) then .ok (.str d.shown) h else .bad
    | none => .bad)
  | _ => .bad
theorem rc_repr : RC K (rRepr K) reprF := by
  intro E μ z h H vs xs Q hr vr p
  cases vr with
  | nil => exact p.elim
  | @cons v x vs xs v1 t =>
    cases t with
    | cons _ _ => exact p.elim
    | nil =>
      unfold reprF at p
      simp only at p
      cases e1 : toD h deep v with
      | none => rw [e1] at p; exact p.elim
      | some d =>
        rw [e1] at p
        simp only at p
        cases ec : d.showable && !d.hasDict && decide (d.depth ≤ 60) && decide (d.shown.length ≤ sizeLine) with
        | false => simp only [ec, cond_false] at p; exact p.elim
        | true =>
          simp only [ec, cond_true] at p
          rw [Bool.and_eq_true, Bool.and_eq_true, Bool.and_eq_true, decide_eq_true_eq, decide_eq_true_eq] at ec
          refine ⟨x, d, rfl, dp_of hr _ _ _ _ v1 e1, ec.1.1.1, ?_, ec.1.2, ec.2, p μ H Step.refl hr _ (.str _)⟩
          have := ec.1.1.2
          simpa using this
end
end VI
end

section
/-! Sequences of either kind, walked, numbered, cut; products. -/
namespace VI
open PySem PySem.Spec PyProof.Rows L2
section
variable {X : Cx} {E : XI} {e a b : Expr} {es : List Expr} {pos p tpos : Pos} {da db dc : Den} {K : PySem.W.Frag}
/-! ### walks -/
def iSeq (K : PySem.W.Frag) (tl : TE) : TI := fun σ H R => tl σ H fun x H1 => ∃ a, x = .ref a ∧ (((∃ xs, SqL K H1 a xs) ∧ R (Itl K a) H1) ∨ ((∃ xs, SqT K H1 a xs) ∧ R (Itt K a) H1))
theorem pi_seq {tg : Expr} {tl : TE} (hl : PE X e tl) : PI X tg e (iSeq X.K tl) := by
  constructor
  intro pins s σ H R I h
  refine thn (hl.run pins s σ H _ I h) ?_
  rintro v s1 ⟨x, H1, I1, r1, a, ex, q⟩
  subst ex
  cases r1
  have fp : ∀ b ∈ [s1.heap.objs.size], FpOk X pins H1 b := fun b hb => by
    rw [List.mem_singleton.mp hb]
    exact I1.fpOk (Nat.le_refl _) (I1.hok.fresh (Nat.le_refl _))
  rcases q with ⟨⟨xs, hq⟩, q⟩ | ⟨⟨xs, hq⟩, q⟩
  · obtain ⟨its, _, pl, _⟩ := I1.list hq
    exact wpAny_pyIter_list pl.isList ⟨_, [_], _, _, H1, rfl, I1.kept (t' := s1.toks) fun b o e => Heap.get?_push_of_some _ e, turn_list a _, ⟨_, Heap.get?_push_size _ rfl, rfl, rfl⟩, fp, q⟩
  · obtain ⟨its, _, pl, _⟩ := I1.tuple hq
    exact wpAny_pyIter_tuple (show s1.heap.IsTuple a its.toArray from pl) ⟨_, [_], _, _, H1, rfl, I1.kept (t' := s1.toks) fun b o e => Heap.get?_push_of_some _ e, turn_tuple a _, ⟨_, Heap.get?_push_size _ rfl, rfl, rfl⟩, fp, q⟩
def wSeq (d : Den) : DenA := fun ρ h => (d ρ h).bind fun v h1 => match v with
  | .tup xs => .ok xs h1
  | .fl xs => .ok xs h1
  | .fz xs => .ok xs h1
  | _ => .bad
theorem r_wSeq {tg : Expr} {d : Den} (he : PE X e (tD X.K E d)) : PI X tg e (tIV X.K E (wSeq d)) := PI_imp (pi_seq he) (by
  rintro σ H R ⟨μ, z, h, ρ, hr, er, p⟩
  refine tD_of hr er p.bind fun μ1 h1 H1 v w s1 hr1 p1 vr1 => ?_
  cases vr1 with
  | @tup a xs vs hq hvs =>
    refine ⟨a, rfl, .inr ⟨⟨vs, hq⟩, ?_⟩⟩
    have el : xs.length = vs.length := hvs.length
    refine p1 μ1 H1 Step.refl hr1 _ (fun H => SqT X.K H a vs) (YAt vs) (by rw [el]; exact walk_tup) fun μ2 z2 h2 H2 s2 n2 hr2 => ⟨SqT.step s2 hq, fun i x H3 hi y => ?_⟩
    obtain ⟨rfl, y⟩ := y
    obtain ⟨u, e1, e2⟩ := hvs.get' y
    exact ⟨u, e1, Step.refl, hr2, (e2.rehide n2).step s2⟩
  | @fl a xs vs hq n m hvs =>
    refine ⟨a, rfl, .inl ⟨⟨vs, .inl (.inl hq)⟩, ?_⟩⟩
    have el : xs.length = vs.length := hvs.length
    refine p1 μ1 H1 Step.refl hr1 _ (fun H => SqL X.K H a vs) (YAt vs) (by rw [el]; exact walk_list) fun μ2 z2 h2 H2 s2 n2 hr2 => ⟨.inl (.inl (s2.keep _ _ hq n)), fun i x H3 hi y => ?_⟩
    obtain ⟨rfl, y⟩ := y
    obtain ⟨u, e1, e2⟩ := hvs.get' y
    exact ⟨u, e1, Step.refl, hr2, (e2.rehide n2).step s2⟩
  | @fz a xs vs hq hvs =>
    have hs : ∀ {μ2 H2}, Step μ1 H1 μ2 H2 → SqL X.K H2 a vs := fun s2 => by
      rcases hq with ⟨o, hq⟩ | hq
      · exact .inl (.inr ⟨o, s2.imm _ _ hq trivial⟩)
      · exact .inr hq
    refine ⟨a, rfl, .inl ⟨⟨vs, hs Step.refl⟩, ?_⟩⟩
    have el : xs.length = vs.length := hvs.length
    refine p1 μ1 H1 Step.refl hr1 _ (fun H => SqL X.K H a vs) (YAt vs) (by rw [el]; exact walk_list) fun μ2 z2 h2 H2 s2 n2 hr2 => ⟨hs s2, fun i x H3 hi y => ?_⟩
    obtain ⟨rfl, y⟩ := y
    obtain ⟨u, e1, e2⟩ := hvs.get' y
    exact ⟨u, e1, Step.refl, hr2, (e2.rehide n2).step s2⟩
  | _ => exact p1.elim)
def iEnumA (K : PySem.W.Frag) (ta : TA) : TI := fun σ H R => ta σ H fun vs H1 => ∃ a xs, vs = [.ref a] ∧ ((SqL K H1 a xs ∧ R (Ite K a) H1) ∨ (SqT K H1 a xs ∧ R (ItEt K a) H1))
theorem pi_enumA {ta : TA} {elts : List Expr} {kk : Nat} (hg : Gl X "enumerate") (hm : X.mg "enumerate" = none) (ha : PA X [e] ta) (hs : starEach [e] X.env = [(false, eval e X.env)] := by rfl) :
    PI X (.Tuple elts kk tpos) (.Call (.Name "enumerate" p) [e] [] pos) (iEnumA X.K ta) := by
  constructor
  intro pins s σ H R I q
  refine Call_ (ld_blt I hg hm boot_enumerate (PyProof.Rows.callWith_type1 (thn (ha.run pos pins s σ H _ I q) ?_) hs rfl))
  rintro us s1 ⟨vs, H1, I1, r1, a, xs, rfl, k⟩
  cases r1 with
  | cons r rr =>
    cases rr
    cases r
    have fp : ∀ b ∈ [s1.heap.objs.size + 1, s1.heap.objs.size], FpOk X pins H1 b := fun b hb => by
      have hb' : s1.heap.objs.size ≤ b := by
        rcases List.mem_cons.mp hb with z | z
        · rw [z]; exact Nat.le_succ _
        · rw [List.mem_singleton.mp z]; exact Nat.le_refl _
      exact I1.fpOk hb' (I1.hok.fresh hb')
    rcases k with ⟨hq, k⟩ | ⟨hq, k⟩
    · obtain ⟨its, rv, pl, hz⟩ := I1.list hq
      refine vi_call_enum (begins_list a its.toArray) pl.isList fun h' he ho hsz hk => wpAny_pyIter_enum he ?_
      exact ⟨_, [_, _], _, _, H1, rfl, I1.kept (t' := s1.toks) hk, turn_enum a _ _, ⟨⟨_, he⟩, ⟨_, ho, rfl, rfl⟩, Nat.succ_ne_self _⟩, fp, k⟩
    · obtain ⟨its, rv, pt, hz⟩ := I1.tuple hq
      have hal : a < s1.heap.objs.size := by
        obtain ⟨ob, q, _⟩ := pt
        exact Heap.lt_size q
      refine vi_call_enum (begins_tuple a its.toArray) pt fun h' he ho hsz hk => wpAny_pyIter_enum he ?_
      exact ⟨_, [_, _], _, _, H1, rfl, I1.kept (t' := s1.toks) hk, turn_et a _ _, ⟨⟨_, he⟩, ⟨_, ho, rfl, rfl⟩, Nat.succ_ne_self _, Nat.ne_of_lt hal, Nat.ne_of_lt (Nat.lt_succ_of_lt hal)⟩, fp, k⟩
def wEnum (a : DenA) : DenA := fun ρ h => (a ρ h).bind fun vs h1 => match vs with
  | [.tup xs] => .ok (numd 0 xs) h1
  | [.fl xs] => .ok (numd 0 xs) h1
  | _ => .bad
theorem r_wEnum {a : DenA} {elts : List Expr} {kk : Nat} (hg : Gl X "enumerate") (hm : X.mg "enumerate" = none) (ha : PA X [e] (tAr X.K E a)) (hs : starEach [e] X.env = [(false, eval e X.env)] := by rfl) :
    PI X (.Tuple elts kk tpos) (.Call (.Name "enumerate" p) [e] [] pos) (tIV X.K E (wEnum a)) := PI_imp (pi_enumA hg hm ha hs) (by
  rintro σ H R ⟨μ, z, h, ρ, hr, er, p⟩
  refine ⟨μ, z, h, ρ, hr, er, p.bind.mono fun μ1 h1 H1 vs s1 hr1 p1 ws vr => ?_⟩
  cases vr with
  | nil => exact p1.elim
  | cons v1 t =>
    cases t with
    | cons _ _ => cases v1 <;> exact p1.elim
    | nil =>
      cases v1 with
      | @tup a xs vs hq r => exact ⟨a, vs, rfl, .inr ⟨hq, pair_walk walk_et (fun μ2 H2 s2 => SqT.step s2 hq) r (p1 μ1 H1 Step.refl hr1)⟩⟩
      | @fl a xs vs hq n m r => exact ⟨a, vs, rfl, .inl ⟨SqL.of hq, pair_walk walk_enum (fun μ2 H2 s2 => SqL.of (s2.keep _ _ hq n)) r (p1 μ1 H1 Step.refl hr1)⟩⟩
      | _ => exact p1.elim)
/-! ### slices of either -/
def cutF (v : IV) (l u : Option Int) (h : Mem) : Ret IV := match v with
  | .tup xs => .ok (.tup (cutI xs l u)) h
  | v => match lsq h v with
    | some xs => .ok (.fl (cutI xs l u)) h
    | none => .bad
def dCut (d : Den) (lo hi : DenO) : Den := fun ρ h => (d ρ h).bind fun v h1 => (lo ρ h1).bind fun l h2 => (hi ρ h2).bind fun u h3 => cutF v l u h3
theorem r_cut {lo hi : Option Expr} {dl dh : DenO} {p2 : Pos} (ha : PE X a (tD X.K E da)) (hl : PO X lo (tOr' X.K E dl)) (hh : PO X hi (tOr' X.K E dh)) : PE X (.Subscript a (.Slice lo hi none p2) pos) (tD X.K E (dCut da dl dh)) := PE_imp (pe_slice (sl_list.or sl_tupA) ha hl hh) (by
  rintro σ H Q ⟨μ, z, h, ρ, hr, er, p⟩
  refine tD_of hr er p.bind fun μ1 h1 H1 v w s1 hr1 p1 vr1 => ?_
  refine ⟨μ1, z, h1, ρ, hr1, er.step s1, p1.bind.mono fun μ2 h2 H2 l s2 hr2 p2 => ?_⟩
  refine ⟨μ2, z, h2, ρ, hr2, (er.step s1).step s2, p2.bind.mono fun μ3 h3 H3 u s3 hr3 p3 => ?_⟩
  have vr3 := (vr1.step s2).step s3
  have lists : post X.K E μ3 z H3 (match lsq h3 v with
    | some xs => .ok (.fl (cutI xs l u)) h3
    | none => .bad) (VQ X.K z Q) → rSlL X.K w l u H3 Q := fun p4 => by
    cases e1 : lsq h3 v with
    | none => rw [e1] at p4; exact p4.elim
    | some xs =>
      rw [e1] at p4
      obtain ⟨a, vs, ex, hq, r⟩ := lsq_H hr3 vr3 e1
      exact ⟨a, vs, ex, hq, flQ p4 hr3 (cut_rel r l u)⟩
  cases vr3 with
  | @tup a xs vs hq r =>
    refine .inr ⟨a, vs, rfl, hq, fun e => ?_, fun _ => tupQ p3 hr3 (cut_rel r l u)⟩
    have ec : cutI xs l u = xs := by
      unfold cutI
      rw [r.length, e.1, e.2, List.drop_zero, Nat.sub_zero, ← r.length, List.take_length]
    have p4 : post X.K E μ3 z H3 (.ok (.tup (cutI xs l u)) h3) (VQ X.K z Q) := p3
    rw [ec] at p4
    exact p4 μ3 H3 Step.refl hr3 _ (.tup hq r)
  | non => exact .inl (lists p3)
  | bl _ => exact .inl (lists p3)
  | int _ => exact .inl (lists p3)
  | str _ => exact .inl (lists p3)
  | fl _ _ _ _ => exact .inl (lists p3)
  | fz _ _ => exact .inl (lists p3)
  | loc _ => exact .inl (lists p3))
end
end VI
namespace VI
open PySem
theorem bt_len : bootBuiltins "len" = some (.builtin "len") := by decide +kernel
theorem bt_abs : bootBuiltins "abs" = some (.builtin "abs") := by decide +kernel
theorem bt_max : bootBuiltins "max" = some (.builtin "max") := by decide +kernel
theorem bt_min : bootBuiltins "min" = some (.builtin "min") := by decide +kernel
theorem bt_sum : bootBuiltins "sum" = some (.builtin "sum") := by decide +kernel
theorem bt_repr : bootBuiltins "repr" = some (.builtin "repr") := by decide +kernel
theorem bt_sorted : bootBuiltins "sorted" = some (.builtin "sorted") := by decide +kernel
theorem bt_int : bootBuiltins "int" = some (.type "int") := by decide +kernel
theorem bt_tuple : bootBuiltins "tuple" = some (.type "tuple") := by decide +kernel
theorem bt_list : bootBuiltins "list" = some (.type "list") := by decide +kernel
end VI
end

section
/-! The draws that laws share, as plain functions. -/
namespace VI
open PySem PySem.Spec PyProof.Rows L2
def d__law_source : DenS :=
    (sSeq (sAsg (tgN 1) (dC (.int 11)))
    (sSeq (sFor (wSeq (dVar 0)) (Sh.tg (.n 2)) (sAsg (tgN 1) (dBin modF (dArg toIntF (aCons (dBin addF (dBin addF (dBin mulF (dVar 1) (dC (.int 69069))) (dBin mulF (dVar 2) (dC (.int 31)))) (dC (.int 5))) aNil)) (dC (.int 2147483629)))))
    (sRet (dDisp ["cells", "left", "mixed", "turn"] (aCons (dAl (fRev (dFl (fLc (wSeq (dVar 0)) (Sh.tg (.n 2)) dYes (dArg absF (aCons (dVar 2) aNil)) [2])))) (aCons (dC (.int 1)) (aCons (dVar 1) (aCons (dC (.int 0)) aNil))))))))
def fn__law_source : FnI := funI 3 1 d__law_source
def d__law_pick : DenS :=
    (sSeq (sWh (dAndT (dTst (dBin gtF (dVar 1) (dC (.int 1)))) (dAndT (dTst (dBin ltF (dGetI (dVar 0) (dC (.str "left"))) (dC (.int 2)))) (dTst (dBin gtF (dArg lenF (aCons (dGetI (dVar 0) (dC (.str "cells"))) aNil)) (dC (.int 0)))))) (sDPutI (dVar 0) (dC (.str "left")) (dML popF (dGetI (dVar 0) (dC (.str "cells"))) aNil)))
    (sSeq (sAsg (tgN 2) (dGetI (dVar 0) (dC (.str "left"))))
    (sSeq (sIf (dOrT (dTst (dBin ltF (dVar 1) (dC (.int 2)))) (dTst (dBin gtF (dVar 2) (dC (.int 1))))) (sSeq (sDPutI (dVar 0) (dC (.str "left")) (dBin divF (dVar 2) (dArg maxF (aCons (dC (.int 1)) (aCons (dVar 1) aNil)))))
    (sRet (dBin modF (dArg toIntF (aCons (dVar 2) aNil)) (dArg maxF (aCons (dC (.int 1)) (aCons (dVar 1) aNil)))))) sNx)
    (sSeq (sDPutI (dVar 0) (dC (.str "turn")) (dBin addF (dGetI (dVar 0) (dC (.str "turn"))) (dC (.int 1))))
    (sSeq (sAsg (tgN 3) (dBin modF (dArg toIntF (aCons (dBin addF (dGetI (dVar 0) (dC (.str "mixed"))) (dBin mulF (dGetI (dVar 0) (dC (.str "turn"))) (dC (.int 104729)))) aNil)) (dC (.int 998244353))))
    (sSeq (sAsg (tgN 3) (dBin modF (dArg toIntF (aCons (dBin addF (dBin mulF (dVar 3) (dVar 3)) (dBin mulF (dGetI (dVar 0) (dC (.str "turn"))) (dC (.int 17)))) aNil)) (dC (.int 2147483647))))
    (sSeq (sDPutI (dVar 0) (dC (.str "mixed")) (dVar 3))
    (sRet (dBin modF (dArg toIntF (aCons (dBin divF (dVar 3) (dC (.int 16))) aNil)) (dVar 1))))))))))
def fn__law_pick : FnI := funI 4 2 d__law_pick
def d__law_of : DenS :=
    (sRet (dBin ixF (dVar 1) (dArg fn__law_pick (aCons (dVar 0) (aCons (dArg lenF (aCons (dVar 1) aNil)) aNil)))))
def fn__law_of : FnI := funI 2 2 d__law_of
def d__law_mixed : DenS :=
    (sSeq (sAsg (tgN 2) (dAl (fArg listF (aCons (dVar 1) aNil))))
    (sRet (dFl (fLc (wRng1 (aCons (dArg lenF (aCons (dVar 2) aNil)) aNil)) (Sh.tg (.n 3)) dYes (dML popAtF (dVar 2) (aCons (dArg fn__law_pick (aCons (dVar 0) (aCons (dArg lenF (aCons (dVar 2) aNil)) aNil))) aNil)) [3]))))
def fn__law_mixed : FnI := funI 4 2 d__law_mixed
def d__law_draw_request : DenS :=
    (sSeq (sAsg (tgN 2) (dArg fn__law_pick (aCons (dVar 0) (aCons (dC (.int 8)) aNil))))
    (sSeq (sIf (dTst (dBin eqF (dVar 2) (dC (.int 0)))) (sRet (dTup aNil)) sNx)
    (sSeq (sIf (dTst (dBin eqF (dVar 2) (dC (.int 1)))) (sSeq (sAsg (tgN 3) (dArg fn__law_pick (aCons (dVar 0) (aCons (dVar 1) aNil))))
    (sRet (dArg tupleF (aCons (dFl (fRg2 (dVar 3) (dArg minF (aCons (dVar 1) (aCons (dBin addF (dVar 3) (dC (.int 3))) aNil))))) aNil)))) sNx)
    (sSeq (sAsg (tgN 4) (dBin ixF (dFl (fLst (aCons (dC (.int 1)) (aCons (dC (.int 2)) (aCons (dC (.int 2)) (aCons (dC (.int 2)) (aCons (dC (.int 3)) (aCons (dBin addF (dC (.int 1)) (dArg fn__law_pick (aCons (dVar 0) (aCons (dVar 1) aNil)))) aNil)))))))) (dBin subF (dVar 2) (dC (.int 2)))))
    (sRet (dArg tupleF (aCons (dFl (fArg sortF (aCons (dCut (dArg fn__law_mixed (aCons (dVar 0) (aCons (dFl (fRg1 (dVar 1))) aNil))) oNone (oSome (dVar 4))) aNil))) aNil)))))))
def fn__law_draw_request : FnI := funI 5 2 d__law_draw_request
def d__law_draw_yard : DenS :=
    (sSeq (sAsg (Sh.tg (.t (.cons (.n 3) (.cons (.n 4) .nil)))) (dTup (aCons (dBin addF (dC (.int 1)) (dArg fn__law_pick (aCons (dVar 0) (aCons (dVar 1) aNil)))) (aCons (dArg fn__law_of (aCons (dVar 0) (aCons (dFl (fLst (aCons (dFl (fLst (aCons (dC (.int 1)) aNil))) (aCons (dFl (fLst (aCons (dC (.int 1)) (aCons (dC (.int 2)) aNil)))) (aCons (dFl (fLst (aCons (dC (.int 1)) (aCons (dC (.int 3)) (aCons (dC (.int 3)) (aCons (dC (.int 9)) aNil)))))) (aCons (dFl (fLst (aCons (dC (.int 1)) (aCons (dC (.int 2)) (aCons (dC (.int 5)) (aCons (dC (.int 7)) (aCons (dBin powF (dC (.int 10)) (dC (.int 6))) aNil))))))) aNil)))))) aNil))) aNil))))
    (sRet (dTup (aCons (dBin addF (dC (.int 1)) (dArg fn__law_pick (aCons (dVar 0) (aCons (dVar 2) aNil)))) (aCons (dArg tupleF (aCons (dFl (fLc (wRng1 (aCons (dVar 3) aNil)) (Sh.tg (.n 5)) dYes (dArg fn__law_of (aCons (dVar 0) (aCons (dVar 4) aNil))) [5])) aNil)) aNil)))))
def fn__law_draw_yard : FnI := funI 6 3 d__law_draw_yard
def d__law_draw_row : DenS :=
    (sSeq (sAsg (tgN 3) (dAl (fLst aNil)))
    (sSeq (sFor (wRng1 (aCons (dArg fn__law_pick (aCons (dVar 0) (aCons (dBin addF (dVar 2) (dC (.int 1))) aNil))) aNil)) (Sh.tg (.n 4)) (sSeq (sAsg (tgN 5) (dAnd (dBin neF (dVar 3) (dFl (fLst aNil))) (dBin eqF (dArg fn__law_pick (aCons (dVar 0) (aCons (dC (.int 4)) aNil))) (dC (.int 0)))))
    (sExp (dML appF (dVar 3) (aCons (dIf (dTst (dVar 5)) (dArg fn__law_of (aCons (dVar 0) (aCons (dVar 3) aNil))) (dArg fn__law_draw_request (aCons (dVar 0) (aCons (dVar 1) aNil)))) aNil)))))
    (sRet (dArg tupleF (aCons (dVar 3) aNil)))))
def fn__law_draw_row : FnI := funI 6 3 d__law_draw_row
def d__law_draw_gifts : DenS :=
    (sSeq (sAsg (Sh.tg (.t (.cons (.n 3) (.cons (.n 4) .nil)))) (dTup (aCons (dAl (fRep (dFl (fLst (aCons (dC (.int 0)) aNil))) (dArg lenF (aCons (dBin ixF (dVar 1) (dC (.int 1))) aNil)))) (aCons (dAl (fLst aNil)) aNil))))
    (sSeq (sFor (wSeq (dVar 2)) (Sh.tg (.n 5)) (sSeq (sAsg (tgN 6) (dFl (fLc (wSeq (dVar 5)) (Sh.tg (.n 8)) (dTst (dBin ltF (dBin ixF (dVar 3) (dVar 8)) (dBin ixF (dVar 1) (dC (.int 0))))) (dVar 8) [8])))
    (sSeq (sAsg (tgN 7) (dIf (dAndT (dTst (dBin neF (dVar 6) (dFl (fLst aNil)))) (dTst (dBin gtF (dArg fn__law_pick (aCons (dVar 0) (aCons (dC (.int 6)) aNil))) (dC (.int 0))))) (dArg fn__law_of (aCons (dVar 0) (aCons (dVar 6) aNil))) (dC .non)))
    (sSeq (sExp (dML appF (dVar 4) (aCons (dVar 7) aNil)))
    (sIf (dTst (dBin notNF (dVar 7) (dC .non))) (sPut (dVar 3) (dVar 7) (dBin addF (dBin ixF (dVar 3) (dVar 7)) (dC (.int 1)))) sNx)))))
    (sRet (dArg tupleF (aCons (dVar 4) aNil)))))
def fn__law_draw_gifts : FnI := funI 9 3 d__law_draw_gifts
def d__law_loads : DenS :=
    (sRet (dFl (fLc (wRng1 (aCons (dArg lenF (aCons (dBin ixF (dVar 0) (dC (.int 1))) aNil)) aNil)) (Sh.tg (.n 2)) dYes (dArg lenF (aCons (dFl (fLc (wSeq (dVar 1)) (Sh.tg (.n 3)) (dTst (dBin eqF (dVar 3) (dVar 2))) (dVar 3) [3])) aNil)) [2])))
def fn__law_loads : FnI := funI 4 2 d__law_loads
end VI
end

section
/-! Reckoning with the plain functions. -/
namespace VI
open PySem PySem.Spec PyProof.Rows L2
section
variable {ρ : Sl} {h h1 : Mem} {v : IV}
theorem e_var {i : Nat} (e : ρ[i]? = some (some v)) : dVar i ρ h = .ok v h := by
  unfold dVar
  rw [e]
theorem e_bin {f : IV → IV → Mem → Ret IV} {a b : Den} {x y : IV} {h2 : Mem} (ha : a ρ h = .ok x h1) (hb : b ρ h1 = .ok y h2) : dBin f a b ρ h = f x y h2 := by
  unfold dBin
  rw [ha, Ret.bind_ok, hb, Ret.bind_ok]
theorem bind_of {α β : Type} {r : Ret α} {f : α → Mem → Ret β} {a : α} (e : r = .ok a h) : r.bind f = f a h := by rw [e]; rfl
end
end VI
end

section
namespace VI
open PySem PySem.Spec PyProof.Rows L2
/-- the source of draws -/
structure Src where
  cells : List Int
  left : Int
  mixed : Int
  turn : Int
structure Src.Ok (s : Src) : Prop where
  cells : ∀ x ∈ s.cells, 0 ≤ x
  left : 0 ≤ s.left
  mixed : 0 ≤ s.mixed
  turn : 0 ≤ s.turn
def mem (s : Src) (rest : Mem) : Mem := .lst (s.cells.map .int) :: .dK [(.inr "cells", .loc 0), (.inr "left", .int s.left), (.inr "mixed", .int s.mixed), (.inr "turn", .int s.turn)] :: rest
theorem mem_0 {s : Src} {rest : Mem} : (mem s rest)[0]? = some (.lst (s.cells.map .int)) := rfl
theorem mem_1 {s : Src} {rest : Mem} : (mem s rest)[1]? = some (.dK [(.inr "cells", .loc 0), (.inr "left", .int s.left), (.inr "mixed", .int s.mixed), (.inr "turn", .int s.turn)]) := rfl
theorem val_cells {a b c d : IV} : valI [(.inr "cells", a), (.inr "left", b), (.inr "mixed", c), (.inr "turn", d)] (.inr "cells") = some a := by rfl
theorem val_left {a b c d : IV} : valI [(.inr "cells", a), (.inr "left", b), (.inr "mixed", c), (.inr "turn", d)] (.inr "left") = some b := by rfl
theorem val_mixed {a b c d : IV} : valI [(.inr "cells", a), (.inr "left", b), (.inr "mixed", c), (.inr "turn", d)] (.inr "mixed") = some c := by rfl
theorem val_turn {a b c d : IV} : valI [(.inr "cells", a), (.inr "left", b), (.inr "mixed", c), (.inr "turn", d)] (.inr "turn") = some d := by rfl
theorem put_left {a b c d x : IV} : putI [(.inr "cells", a), (.inr "left", b), (.inr "mixed", c), (.inr "turn", d)] (.inr "left") x = [(.inr "cells", a), (.inr "left", x), (.inr "mixed", c), (.inr "turn", d)] := by rfl
theorem put_mixed {a b c d x : IV} : putI [(.inr "cells", a), (.inr "left", b), (.inr "mixed", c), (.inr "turn", d)] (.inr "mixed") x = [(.inr "cells", a), (.inr "left", b), (.inr "mixed", x), (.inr "turn", d)] := by rfl
theorem put_turn {a b c d x : IV} : putI [(.inr "cells", a), (.inr "left", b), (.inr "mixed", c), (.inr "turn", d)] (.inr "turn") x = [(.inr "cells", a), (.inr "left", b), (.inr "mixed", c), (.inr "turn", x)] := by rfl
section
variable {ρ : Sl} {s : Src} {rest : Mem} {i : Nat}
theorem get_left (e : ρ[i]? = some (some (.loc 1))) : dGetI (dVar i) (dC (.str "left")) ρ (mem s rest) = .ok (.int s.left) (mem s rest) := by
  simp only [dGetI, dBin, dVar, e, Ret.bind_ok, dC, mem_1, keyI, val_left]
theorem get_cells (e : ρ[i]? = some (some (.loc 1))) : dGetI (dVar i) (dC (.str "cells")) ρ (mem s rest) = .ok (.loc 0) (mem s rest) := by
  simp only [dGetI, dBin, dVar, e, Ret.bind_ok, dC, mem_1, keyI, val_cells]
theorem get_mixed (e : ρ[i]? = some (some (.loc 1))) : dGetI (dVar i) (dC (.str "mixed")) ρ (mem s rest) = .ok (.int s.mixed) (mem s rest) := by
  simp only [dGetI, dBin, dVar, e, Ret.bind_ok, dC, mem_1, keyI, val_mixed]
theorem get_turn (e : ρ[i]? = some (some (.loc 1))) : dGetI (dVar i) (dC (.str "turn")) ρ (mem s rest) = .ok (.int s.turn) (mem s rest) := by
  simp only [dGetI, dBin, dVar, e, Ret.bind_ok, dC, mem_1, keyI, val_turn]
theorem set_left {d : Den} {x : Int} {s' : Src} (e : ρ[i]? = some (some (.loc 1))) (h : d ρ (mem s rest) = .ok (.int x) (mem s' rest)) : sDPutI (dVar i) (dC (.str "left")) d ρ (mem s rest) = .ok (.nx, ρ) (mem { s' with left := x } rest) := by
  simp only [sDPutI, h, dVar, e, Ret.bind_ok, dC, mem_1, keyI, put_left]
  rfl
theorem set_mixed {d : Den} {x : Int} {s' : Src} (e : ρ[i]? = some (some (.loc 1))) (h : d ρ (mem s rest) = .ok (.int x) (mem s' rest)) : sDPutI (dVar i) (dC (.str "mixed")) d ρ (mem s rest) = .ok (.nx, ρ) (mem { s' with mixed := x } rest) := by
  simp only [sDPutI, h, dVar, e, Ret.bind_ok, dC, mem_1, keyI, put_mixed]
  rfl
theorem set_turn {d : Den} {x : Int} {s' : Src} (e : ρ[i]? = some (some (.loc 1))) (h : d ρ (mem s rest) = .ok (.int x) (mem s' rest)) : sDPutI (dVar i) (dC (.str "turn")) d ρ (mem s rest) = .ok (.nx, ρ) (mem { s' with turn := x } rest) := by
  simp only [sDPutI, h, dVar, e, Ret.bind_ok, dC, mem_1, keyI, put_turn]
  rfl
theorem pop_cells {x : Int} {cs : List Int} (e : ρ[i]? = some (some (.loc 1))) (hc : s.cells = cs ++ [x]) : dML popF (dGetI (dVar i) (dC (.str "cells"))) aNil ρ (mem s rest) = .ok (.int x) (mem { s with cells := cs } rest) := by
  have hl : (mem s rest)[0]? = some (.lst (s.cells.map .int)) := rfl
  have e1 : isL (mem s rest) (.loc 0) = true := rfl
  unfold dML
  rw [get_cells e, Ret.bind_ok, e1, cond_true]
  simp only [aNil, Ret.bind_ok, popF, hl, hc]
  have e2 : ((cs ++ [x]).map IV.int)[((cs ++ [x]).map IV.int).length - 1]? = some (.int x) := by
    rw [List.map_append, List.length_append]
    simp
  have e3 : ((cs ++ [x]).map IV.int).dropLast = cs.map IV.int := by simp
  rw [e2, e3]
  rfl
end
end VI
end

section
namespace VI
open PySem PySem.Spec PyProof.Rows L2
theorem fmod_pos {a b : Int} (h : 0 < b) : 0 ≤ a.fmod b ∧ a.fmod b < b := ⟨Int.fmod_nonneg_of_pos a h, Int.fmod_lt_of_pos a h⟩
theorem fdiv_nn {a b : Int} (ha : 0 ≤ a) (hb : 0 ≤ b) : 0 ≤ a.fdiv b := Int.fdiv_nonneg ha hb
section
variable {ρ : Sl} {h h' h2 : Mem} {a b : Den}
theorem v_gt {i j : Int} (ha : a ρ h = .ok (.int i) h') (hb : b ρ h' = .ok (.int j) h2) : dTst (dBin gtF a b) ρ h = .ok (decide (j < i)) h2 := by
  simp only [dTst, e_bin ha hb, gtF, cmpF, intF, cond_true, Ret.bind_ok]
theorem v_lt {i j : Int} (ha : a ρ h = .ok (.int i) h') (hb : b ρ h' = .ok (.int j) h2) : dTst (dBin ltF a b) ρ h = .ok (decide (i < j)) h2 := by
  simp only [dTst, e_bin ha hb, ltF, cmpF, intF, cond_true, Ret.bind_ok]
theorem v_add {i j : Int} (ha : a ρ h = .ok (.int i) h') (hb : b ρ h' = .ok (.int j) h2) : dBin addF a b ρ h = .ok (.int (i + j)) h2 := by
  simp only [e_bin ha hb, addF]
theorem v_sub {i j : Int} (ha : a ρ h = .ok (.int i) h') (hb : b ρ h' = .ok (.int j) h2) : dBin subF a b ρ h = .ok (.int (i - j)) h2 := by
  simp only [e_bin ha hb, subF, intF, cond_true]
theorem v_mul {i j : Int} (ha : a ρ h = .ok (.int i) h') (hb : b ρ h' = .ok (.int j) h2) (hc : cMul i j = true) : dBin mulF a b ρ h = .ok (.int (i * j)) h2 := by
  simp only [e_bin ha hb, mulF, intF, hc, cond_true]
theorem v_div {i j : Int} (ha : a ρ h = .ok (.int i) h') (hb : b ρ h' = .ok (.int j) h2) (hc : cDiv i j = true) : dBin divF a b ρ h = .ok (.int (i.fdiv j)) h2 := by
  simp only [e_bin ha hb, divF, intF, hc, cond_true]
theorem v_mod {i j : Int} (ha : a ρ h = .ok (.int i) h') (hb : b ρ h' = .ok (.int j) h2) (hc : j ≠ 0) : dBin modF a b ρ h = .ok (.int (i.fmod j)) h2 := by
  simp only [e_bin ha hb, modF, intF, decide_eq_true hc, cond_true]
theorem v_c {v : IV} : dC v ρ h = .ok v h := rfl
theorem v_1 {f : List IV → Mem → Ret IV} {x : IV} (ha : a ρ h = .ok x h') : dArg f (aCons a aNil) ρ h = f [x] h' := by
  simp only [dArg, aCons, aNil, ha, Ret.bind_ok]
theorem v_2 {f : List IV → Mem → Ret IV} {x y : IV} {h2 : Mem} (ha : a ρ h = .ok x h') (hb : b ρ h' = .ok y h2) : dArg f (aCons a (aCons b aNil)) ρ h = f [x, y] h2 := by
  simp only [dArg, aCons, aNil, ha, hb, Ret.bind_ok]
theorem v_3 {f : List IV → Mem → Ret IV} {c : Den} {x y z : IV} {h2 h3 : Mem} (ha : a ρ h = .ok x h') (hb : b ρ h' = .ok y h2) (hc : c ρ h2 = .ok z h3) : dArg f (aCons a (aCons b (aCons c aNil))) ρ h = f [x, y, z] h3 := by
  simp only [dArg, aCons, aNil, ha, hb, hc, Ret.bind_ok]
theorem v_toInt {i : Int} (ha : a ρ h = .ok (.int i) h') : dArg toIntF (aCons a aNil) ρ h = .ok (.int i) h' := by rw [v_1 ha]; rfl
theorem v_max {i j : Int} (ha : a ρ h = .ok (.int i) h') (hb : b ρ h' = .ok (.int j) h') : dArg maxF (aCons a (aCons b aNil)) ρ h = .ok (.int (if j > i then j else i)) h' := by rw [v_2 ha hb]; rfl
theorem v_min {i j : Int} (ha : a ρ h = .ok (.int i) h') (hb : b ρ h' = .ok (.int j) h') : dArg minF (aCons a (aCons b aNil)) ρ h = .ok (.int (if j < i then j else i)) h' := by rw [v_2 ha hb]; rfl
theorem v_set {i : Nat} {d : Den} {v : IV} (hd : d ρ h = .ok v h') : sAsg (tgN i) d ρ h = .ok (.nx, ρ.set i (some v)) h' := by
  simp only [sAsg, hd, Ret.bind_ok, tgN]
theorem v_seq {a b : DenS} {ρ1 : Sl} (ha : a ρ h = .ok (.nx, ρ1) h') : sSeq a b ρ h = b ρ1 h' := by
  simp only [sSeq, ha, Ret.bind_ok]
theorem v_seqR {a b : DenS} {ρ1 : Sl} {v : IV} (ha : a ρ h = .ok (.rt v, ρ1) h') : sSeq a b ρ h = .ok (.rt v, ρ1) h' := by
  simp only [sSeq, ha, Ret.bind_ok]
theorem v_ret {d : Den} {v : IV} (hd : d ρ h = .ok v h') : sRet d ρ h = .ok (.rt v, ρ) h' := by
  simp only [sRet, hd, Ret.bind_ok]
theorem v_if {c : DenT} {a b : DenS} {k : Bool} (hc : c ρ h = .ok k h') : sIf c a b ρ h = if k then a ρ h' else b ρ h' := by
  simp only [sIf, hc, Ret.bind_ok]
theorem v_exp {d : Den} {v : IV} (hd : d ρ h = .ok v h') : sExp d ρ h = .ok (.nx, ρ) h' := by
  simp only [sExp, hd, Ret.bind_ok]
theorem v_or {a b : DenT} {x y : Bool} (ha : a ρ h = .ok x h') (hb : b ρ h' = .ok y h') : dOrT a b ρ h = .ok (x || y) h' := by
  cases x
  · simp only [dOrT, ha, hb, Ret.bind_ok, Bool.false_or]
    rfl
  · simp only [dOrT, ha, Ret.bind_ok, Bool.true_or]
    rfl
theorem v_and {a b : DenT} {x y : Bool} (ha : a ρ h = .ok x h') (hb : b ρ h' = .ok y h') : dAndT a b ρ h = .ok (x && y) h' := by
  cases x
  · simp only [dAndT, ha, Ret.bind_ok, Bool.false_and]
    rfl
  · simp only [dAndT, ha, hb, Ret.bind_ok, Bool.true_and]
    rfl
end
theorem cMul_r {i j : Int} (h0 : -18446744073709551616 < j) (h1 : j < 18446744073709551616) : cMul i j = true := by
  unfold cMul
  rw [decide_eq_true h0, decide_eq_true h1]
  simp
theorem cDiv_of {i j : Int} (h0 : 0 < j) (h1 : j < 1073741824) : cDiv i j = true := by
  unfold cDiv
  rw [decide_eq_true (show j ≠ 0 by omega), decide_eq_true (show j.natAbs < 1073741824 by omega)]
  rfl
/-- the loop that takes cells -/
theorem take_cells {m : Int} {rest : Mem} : ∀ (n : Nat) (s : Src), s.Ok → s.cells.length < n → ∃ s' : Src, s'.Ok ∧ s'.cells.length ≤ s.cells.length ∧
    whN (dAndT (dTst (dBin gtF (dVar 1) (dC (.int 1)))) (dAndT (dTst (dBin ltF (dGetI (dVar 0) (dC (.str "left"))) (dC (.int 2)))) (dTst (dBin gtF (dArg lenF (aCons (dGetI (dVar 0) (dC (.str "cells"))) aNil)) (dC (.int 0)))))) (sDPutI (dVar 0) (dC (.str "left")) (dML popF (dGetI (dVar 0) (dC (.str "cells"))) aNil)) n
      [some (.loc 1), some (.int m), none, none] (mem s rest) = .ok (.nx, [some (.loc 1), some (.int m), none, none]) (mem s' rest)
  | 0, s, _, h => absurd h (Nat.not_lt_zero _)
  | n + 1, s, ok, h => by
    have e0 : ([some (IV.loc 1), some (.int m), none, none] : Sl)[0]? = some (some (.loc 1)) := rfl
    have e1 : ([some (IV.loc 1), some (.int m), none, none] : Sl)[1]? = some (some (.int m)) := rfl
    have t1 : dTst (dBin gtF (dVar 1) (dC (.int 1))) [some (.loc 1), some (.int m), none, none] (mem s rest) = .ok (decide (1 < m)) (mem s rest) := v_gt (e_var e1) v_c
    have t2 : dTst (dBin ltF (dGetI (dVar 0) (dC (.str "left"))) (dC (.int 2))) [some (.loc 1), some (.int m), none, none] (mem s rest) = .ok (decide (s.left < 2)) (mem s rest) := v_lt (get_left e0) v_c
    have hl : dArg lenF (aCons (dGetI (dVar 0) (dC (.str "cells"))) aNil) [some (.loc 1), some (.int m), none, none] (mem s rest) = .ok (.int s.cells.length) (mem s rest) := by
      rw [v_1 (get_cells e0)]
      show Ret.ok (IV.int ((s.cells.map IV.int).length : Nat)) (mem s rest) = _
      rw [List.length_map]
    have t3 : dTst (dBin gtF (dArg lenF (aCons (dGetI (dVar 0) (dC (.str "cells"))) aNil)) (dC (.int 0))) [some (.loc 1), some (.int m), none, none] (mem s rest) = .ok (decide ((0 : Int) < s.cells.length)) (mem s rest) := v_gt hl v_c
    have tt := v_and t1 (v_and t2 t3)
    unfold whN
    rw [tt, Ret.bind_ok]
    cases hb : (decide (1 < m) && (decide (s.left < 2) && decide ((0 : Int) < s.cells.length))) with
    | false => exact ⟨s, ok, Nat.le_refl _, by simp⟩
    | true =>
      rw [Bool.and_eq_true, Bool.and_eq_true, decide_eq_true_eq, decide_eq_true_eq, decide_eq_true_eq] at hb
      have hne : s.cells ≠ [] := fun z => by
        rw [z] at hb
        simp at hb
      obtain ⟨cs, x, hx⟩ : ∃ cs x, s.cells = cs ++ [x] := ⟨s.cells.dropLast, s.cells.getLast hne, (List.dropLast_concat_getLast hne).symm⟩
      have p := set_left (d := dML popF (dGetI (dVar 0) (dC (.str "cells"))) aNil) e0 (pop_cells (rest := rest) e0 hx)
      rw [if_pos rfl, p, Ret.bind_ok]
      have hxx : 0 ≤ x := ok.cells x (by rw [hx]; simp)
      have ok2 : Src.Ok { cells := cs, left := x, mixed := s.mixed, turn := s.turn } := ⟨fun y hy => ok.cells y (by rw [hx]; exact List.mem_append_left _ hy), hxx, ok.mixed, ok.turn⟩
      have hlen : cs.length < n := by
        rw [hx, List.length_append] at h
        simp at h
        omega
      obtain ⟨s', o', l', e'⟩ := take_cells n _ ok2 hlen
      refine ⟨s', o', Nat.le_trans l' ?_, e'⟩
      rw [hx, List.length_append]
      exact Nat.le_add_right _ _
/-- a draw below m -/
theorem pick {s : Src} {rest : Mem} {m : Int} (ok : s.Ok) (hc : s.cells.length ≤ 63) (hm : m < 1073741824) :
    ∃ (s' : Src) (k : Nat), s'.Ok ∧ s'.cells.length ≤ 63 ∧ fn__law_pick [.loc 1, .int m] (mem s rest) = .ok (.int k) (mem s' rest) ∧ ((k : Int) < m ∨ k = 0) := by
  have hfuel : s.cells.length < fuel := by
    have : (64 : Nat) ≤ fuel := by decide
    omega
  obtain ⟨s1, ok1, l1, e1⟩ := take_cells (m := m) (rest := rest) fuel s ok hfuel
  have c1 : s1.cells.length ≤ 63 := Nat.le_trans l1 hc
  have start : fn__law_pick [.loc 1, .int m] (mem s rest) = (d__law_pick [some (.loc 1), some (.int m), none, none] (mem s rest)).bind fun r h1 => match r.1 with
    | .nx => .ok .non h1
    | .rt v => .ok v h1
    | _ => .bad := rfl
  rw [start]
  unfold d__law_pick
  have ew : sWh (dAndT (dTst (dBin gtF (dVar 1) (dC (.int 1)))) (dAndT (dTst (dBin ltF (dGetI (dVar 0) (dC (.str "left"))) (dC (.int 2)))) (dTst (dBin gtF (dArg lenF (aCons (dGetI (dVar 0) (dC (.str "cells"))) aNil)) (dC (.int 0)))))) (sDPutI (dVar 0) (dC (.str "left")) (dML popF (dGetI (dVar 0) (dC (.str "cells"))) aNil))
      [some (.loc 1), some (.int m), none, none] (mem s rest) = _ := e1
  rw [v_seq ew]
  rw [v_seq (v_set (get_left (i := 0) (s := s1) (rest := rest) rfl))]
  show ∃ (s' : Src) (k : Nat), _ ∧ _ ∧ (sSeq _ _ [some (.loc 1), some (.int m), some (.int s1.left), none] (mem s1 rest)).bind _ = _ ∧ _
  have g0 : ([some (IV.loc 1), some (.int m), some (.int s1.left), none] : Sl)[0]? = some (some (.loc 1)) := rfl
  have g1 : ([some (IV.loc 1), some (.int m), some (.int s1.left), none] : Sl)[1]? = some (some (.int m)) := rfl
  have g2 : ([some (IV.loc 1), some (.int m), some (.int s1.left), none] : Sl)[2]? = some (some (.int s1.left)) := rfl
  have t1 : dTst (dBin ltF (dVar 1) (dC (.int 2))) [some (.loc 1), some (.int m), some (.int s1.left), none] (mem s1 rest) = .ok (decide (m < 2)) (mem s1 rest) := v_lt (e_var g1) v_c
  have t2 : dTst (dBin gtF (dVar 2) (dC (.int 1))) [some (.loc 1), some (.int m), some (.int s1.left), none] (mem s1 rest) = .ok (decide (1 < s1.left)) (mem s1 rest) := v_gt (e_var g2) v_c
  have tt := v_or t1 t2
  have mx : dArg maxF (aCons (dC (.int 1)) (aCons (dVar 1) aNil)) [some (.loc 1), some (.int m), some (.int s1.left), none] (mem s1 rest) = .ok (.int (if m > 1 then m else 1)) (mem s1 rest) := v_max v_c (e_var g1)
  have mpos : 0 < (if m > 1 then m else 1) := by split <;> omega
  have mlt : (if m > 1 then m else 1) < 1073741824 := by split <;> omega
  cases hb : (decide (m < 2) || decide (1 < s1.left)) with
  | true =>
    rw [hb] at tt
    have dv : dBin divF (dVar 2) (dArg maxF (aCons (dC (.int 1)) (aCons (dVar 1) aNil))) [some (.loc 1), some (.int m), some (.int s1.left), none] (mem s1 rest) = .ok (.int (s1.left.fdiv (if m > 1 then m else 1))) (mem s1 rest) := v_div (e_var g2) mx (cDiv_of mpos mlt)
    have mx2 : dArg maxF (aCons (dC (.int 1)) (aCons (dVar 1) aNil)) [some (.loc 1), some (.int m), some (.int s1.left), none] (mem { s1 with left := s1.left.fdiv (if m > 1 then m else 1) } rest) = .ok (.int (if m > 1 then m else 1)) _ := v_max v_c (e_var g1)
    have md := v_mod (v_toInt (e_var (h := mem { s1 with left := s1.left.fdiv (if m > 1 then m else 1) } rest) g2)) mx2 (by omega)
    have br : sIf (dOrT (dTst (dBin ltF (dVar 1) (dC (.int 2)))) (dTst (dBin gtF (dVar 2) (dC (.int 1))))) (sSeq (sDPutI (dVar 0) (dC (.str "left")) (dBin divF (dVar 2) (dArg maxF (aCons (dC (.int 1)) (aCons (dVar 1) aNil)))))
        (sRet (dBin modF (dArg toIntF (aCons (dVar 2) aNil)) (dArg maxF (aCons (dC (.int 1)) (aCons (dVar 1) aNil)))))) sNx [some (.loc 1), some (.int m), some (.int s1.left), none] (mem s1 rest) = .ok (.rt (.int (s1.left.fmod (if m > 1 then m else 1))), [some (.loc 1), some (.int m), some (.int s1.left), none]) (mem { s1 with left := s1.left.fdiv (if m > 1 then m else 1) } rest) := by
      rw [v_if tt, if_pos rfl, v_seq (set_left g0 dv), v_ret md]
    rw [v_seqR br, Ret.bind_ok]
    obtain ⟨f0, f1⟩ := fmod_pos (a := s1.left) mpos
    refine ⟨{ s1 with left := s1.left.fdiv (if m > 1 then m else 1) }, (s1.left.fmod (if m > 1 then m else 1)).toNat, ⟨ok1.cells, fdiv_nn ok1.left (Int.le_of_lt mpos), ok1.mixed, ok1.turn⟩, c1, ?_, ?_⟩
    · rw [Int.toNat_of_nonneg f0]
    · rw [Int.toNat_of_nonneg f0]
      by_cases hm1 : m > 1
      · rw [if_pos hm1] at f1 ⊢
        exact .inl f1
      · rw [if_neg hm1] at f0 f1 ⊢
        right
        omega
  | false =>
    rw [hb] at tt
    rw [Bool.or_eq_false_iff, decide_eq_false_iff_not, decide_eq_false_iff_not] at hb
    have br : sIf (dOrT (dTst (dBin ltF (dVar 1) (dC (.int 2)))) (dTst (dBin gtF (dVar 2) (dC (.int 1))))) (sSeq (sDPutI (dVar 0) (dC (.str "left")) (dBin divF (dVar 2) (dArg maxF (aCons (dC (.int 1)) (aCons (dVar 1) aNil)))))
        (sRet (dBin modF (dArg toIntF (aCons (dVar 2) aNil)) (dArg maxF (aCons (dC (.int 1)) (aCons (dVar 1) aNil)))))) sNx [some (.loc 1), some (.int m), some (.int s1.left), none] (mem s1 rest) = .ok (.nx, [some (.loc 1), some (.int m), some (.int s1.left), none]) (mem s1 rest) := by
      rw [v_if tt]
      rfl
    rw [v_seq br]
    have a1 := v_add (get_turn (s := s1) (rest := rest) g0) (v_c (v := .int 1))
    rw [v_seq (set_turn g0 a1)]
    generalize hs2 : ({ s1 with turn := s1.turn + 1 } : Src) = s2
    have k1 : dBin addF (dGetI (dVar 0) (dC (.str "mixed"))) (dBin mulF (dGetI (dVar 0) (dC (.str "turn"))) (dC (.int 104729))) [some (.loc 1), some (.int m), some (.int s1.left), none] (mem s2 rest) = .ok (.int (s2.mixed + s2.turn * 104729)) (mem s2 rest) :=
      v_add (get_mixed g0) (v_mul (get_turn g0) v_c (cMul_r (by decide) (by decide)))
    have k2 := v_mod (v_toInt k1) (v_c (v := .int 998244353)) (by decide)
    rw [v_seq (v_set k2)]
    show ∃ (s' : Src) (k : Nat), _ ∧ _ ∧ (sSeq _ _ [some (.loc 1), some (.int m), some (.int s1.left), some (.int ((s2.mixed + s2.turn * 104729).fmod 998244353))] (mem s2 rest)).bind _ = _ ∧ _
    obtain ⟨q0, q1⟩ := fmod_pos (a := s2.mixed + s2.turn * 104729) (show (0 : Int) < 998244353 by decide)
    generalize (s2.mixed + s2.turn * 104729).fmod 998244353 = x at q0 q1
    have n0 : ([some (IV.loc 1), some (.int m), some (.int s1.left), some (.int x)] : Sl)[0]? = some (some (.loc 1)) := rfl
    have n3 : ([some (IV.loc 1), some (.int m), some (.int s1.left), some (.int x)] : Sl)[3]? = some (some (.int x)) := rfl
    have k3 : dBin addF (dBin mulF (dVar 3) (dVar 3)) (dBin mulF (dGetI (dVar 0) (dC (.str "turn"))) (dC (.int 17))) [some (.loc 1), some (.int m), some (.int s1.left), some (.int x)] (mem s2 rest) = .ok (.int (x * x + s2.turn * 17)) (mem s2 rest) :=
      v_add (v_mul (e_var n3) (e_var n3) (cMul_r (by omega) (by omega))) (v_mul (get_turn n0) v_c (cMul_r (by decide) (by decide)))
    have k4 := v_mod (v_toInt k3) (v_c (v := .int 2147483647)) (by decide)
    rw [v_seq (v_set k4)]
    show ∃ (s' : Src) (k : Nat), _ ∧ _ ∧ (sSeq _ _ [some (.loc 1), some (.int m), some (.int s1.left), some (.int ((x * x + s2.turn * 17).fmod 2147483647))] (mem s2 rest)).bind _ = _ ∧ _
    obtain ⟨r0, r1⟩ := fmod_pos (a := x * x + s2.turn * 17) (show (0 : Int) < 2147483647 by decide)
    generalize (x * x + s2.turn * 17).fmod 2147483647 = y at r0 r1
    have o0 : ([some (IV.loc 1), some (.int m), some (.int s1.left), some (.int y)] : Sl)[0]? = some (some (.loc 1)) := rfl
    have o1 : ([some (IV.loc 1), some (.int m), some (.int s1.left), some (.int y)] : Sl)[1]? = some (some (.int m)) := rfl
    have o3 : ([some (IV.loc 1), some (.int m), some (.int s1.left), some (.int y)] : Sl)[3]? = some (some (.int y)) := rfl
    rw [v_seq (set_mixed o0 (e_var o3))]
    have k5 := v_mod (v_toInt (v_div (e_var (h := mem { s2 with mixed := y } rest) o3) (v_c (v := .int 16)) (cDiv_of (by decide) (by decide)))) (e_var o1) (by omega)
    rw [v_ret k5, Ret.bind_ok]
    obtain ⟨w0, w1⟩ := fmod_pos (a := y.fdiv 16) (show 0 < m by omega)
    refine ⟨{ s2 with mixed := y }, ((y.fdiv 16).fmod m).toNat, ?_, ?_, ?_, ?_⟩
    · subst hs2
      have := ok1.turn
      exact ⟨ok1.cells, ok1.left, r0, by show 0 ≤ s1.turn + 1; omega⟩
    · subst hs2
      exact c1
    · rw [Int.toNat_of_nonneg w0]
    · rw [Int.toNat_of_nonneg w0]
      exact .inl w1
end VI
end

section
namespace VI
open PySem PySem.Spec PyProof.Rows L2
theorem fn_eq {n m : Nat} {b : DenS} {as : List IV} {h h' : Mem} {ρ : Sl} {v : IV} (hl : as.length = m) (e : b (as.map some ++ List.replicate (n - as.length) none) h = .ok (.rt v, ρ) h') : funI n m b as h = .ok v h' := by
  unfold funI
  rw [if_pos hl, e]
  rfl
theorem sl_lt {n : Nat} (h : n ≤ 100000) : n < sizeLine := by
  rw [sizeLine_eq]
  omega
theorem sl_le {n : Nat} (h : n ≤ 100000) : n ≤ sizeLine := Nat.le_of_lt (sl_lt h)
/-- a comprehension whose parts change nothing -/
theorem lc_pure {t : Tg} {tt : DenT} {el : Den} {ρ : Sl} {h : Mem} {p : IV → Bool} {g : IV → IV} : ∀ (items : List IV) (n : Nat), n + items.length ≤ 100000 →
    (∀ x ∈ items, ∃ ρ1, t x ρ = some ρ1 ∧ tt ρ1 h = .ok (p x) h ∧ (p x = true → el ρ1 h = .ok (g x) h)) → lcV t tt el ρ items n h = .ok ((items.filter p).map g) h
  | [], _, _, _ => rfl
  | x :: r, n, hn, hs => by
    obtain ⟨ρ1, e1, e2, e3⟩ := hs x List.mem_cons_self
    rw [List.length_cons] at hn
    unfold lcV
    rw [e1]
    simp only [e2, nox, Ret.bind_ok]
    cases hp : p x with
    | false =>
      rw [List.filter_cons_of_neg (by rw [hp]; exact Bool.false_ne_true)]
      simp only [Bool.false_eq_true, if_false]
      exact lc_pure r n (by omega) fun y hy => hs y (List.mem_cons_of_mem _ hy)
    | true =>
      rw [List.filter_cons_of_pos hp]
      simp only [if_true, e3 hp, nox, Ret.bind_ok, if_pos (sl_lt (show n ≤ 100000 by omega))]
      rw [lc_pure r (n + 1) (by omega) fun y hy => hs y (List.mem_cons_of_mem _ hy), Ret.bind_ok]
      rfl
theorem lc_map {t : Tg} {el : Den} {ρ : Sl} {h : Mem} {g : IV → IV} (items : List IV) (n : Nat) (hn : n + items.length ≤ 100000) (hs : ∀ x ∈ items, ∃ ρ1, t x ρ = some ρ1 ∧ el ρ1 h = .ok (g x) h) : lcV t dYes el ρ items n h = .ok (items.map g) h := by
  have := lc_pure (p := fun _ => true) (g := g) (tt := dYes) (t := t) (el := el) (ρ := ρ) (h := h) items n hn fun x hx => by
    obtain ⟨ρ1, e1, e2⟩ := hs x hx
    exact ⟨ρ1, e1, rfl, fun _ => e2⟩
  rw [this, List.filter_eq_self.mpr (fun _ _ => rfl)]

theorem a_nil {ρ : Sl} {h : Mem} : aNil ρ h = .ok [] h := rfl
theorem a_cons {ρ : Sl} {h h1 h2 : Mem} {d : Den} {r : DenA} {v : IV} {vs : List IV} (e1 : d ρ h = .ok v h1) (e2 : r ρ h1 = .ok vs h2) : aCons d r ρ h = .ok (v :: vs) h2 := by
  simp only [aCons, e1, e2, Ret.bind_ok]
structure Src.Good (s : Src) : Prop where
  ok : s.Ok
  few : s.cells.length ≤ 63
theorem pickG {s : Src} {rest : Mem} {m : Int} (g : s.Good) (hm : m < 1073741824) :
    ∃ (s' : Src) (k : Nat), s'.Good ∧ fn__law_pick [.loc 1, .int m] (mem s rest) = .ok (.int k) (mem s' rest) ∧ ((k : Int) < m ∨ k = 0) := by
  obtain ⟨s', k, o, c, e, q⟩ := pick (rest := rest) g.ok g.few hm
  exact ⟨s', k, ⟨o, c⟩, e, q⟩

/-! ### the source -/
theorem mix_loop {scr : IV} {h : Mem} : ∀ (ns : List Int) (m : Int) (c : Option IV), 0 ≤ m → ∃ (m' : Int) (c' : Option IV), 0 ≤ m' ∧
    forV (Sh.tg (.n 2)) (sAsg (tgN 1) (dBin modF (dArg toIntF (aCons (dBin addF (dBin addF (dBin mulF (dVar 1) (dC (.int 69069))) (dBin mulF (dVar 2) (dC (.int 31)))) (dC (.int 5))) aNil)) (dC (.int 2147483629)))) (ns.map .int) [some scr, some (.int m), c] h = .ok (.nx, [some scr, some (.int m'), c']) h
  | [], m, c, h0 => ⟨m, c, h0, rfl⟩
  | n :: ns, m, c, h0 => by
    have g1 : ([some scr, some (IV.int m), some (.int n)] : Sl)[1]? = some (some (.int m)) := rfl
    have g2 : ([some scr, some (IV.int m), some (.int n)] : Sl)[2]? = some (some (.int n)) := rfl
    have k := v_mod (v_toInt (v_add (v_add (v_mul (e_var (h := h) g1) (v_c (v := .int 69069)) (cMul_r (by decide) (by decide))) (v_mul (e_var g2) (v_c (v := .int 31)) (cMul_r (by decide) (by decide)))) (v_c (v := .int 5)))) (v_c (v := .int 2147483629)) (by decide)
    obtain ⟨q0, _⟩ := fmod_pos (a := m * 69069 + n * 31 + 5) (show (0 : Int) < 2147483629 by decide)
    obtain ⟨m', c', p0, e⟩ := mix_loop ns _ (some (.int n)) q0
    refine ⟨m', c', p0, ?_⟩
    rw [List.map_cons]
    unfold forV
    show (sAsg _ _ [some scr, some (.int m), some (.int n)] h).bind _ = _
    rw [v_set k, Ret.bind_ok]
    exact e
theorem source {ns : List Int} (hn : ns.length ≤ 63) : ∃ s : Src, s.Good ∧ fn__law_source [.fz (ns.map .int)] [] = .ok (.loc 1) (mem s []) := by
  obtain ⟨m, c, h0, e⟩ := mix_loop (scr := .fz (ns.map .int)) (h := []) ns 11 none (by decide)
  refine ⟨{ cells := (ns.map fun i => if i < 0 then -i else i).reverse, left := 1, mixed := m, turn := 0 }, ⟨⟨fun x hx => ?_, by show (0 : Int) ≤ 1; decide, h0, by show (0 : Int) ≤ 0; decide⟩, ?_⟩, ?_⟩
  · obtain ⟨i, _, rfl⟩ := List.mem_map.mp (List.mem_reverse.mp hx)
    split <;> omega
  · show ((ns.map fun i => if i < 0 then -i else i).reverse).length ≤ 63
    rw [List.length_reverse, List.length_map]
    exact hn
  · have cells : lcV (Sh.tg (.n 2)) dYes (dArg absF (aCons (dVar 2) aNil)) (wipeI [some (.fz (ns.map .int)), some (.int m), c] [2]) (ns.map IV.int) 0 [] = .ok ((ns.map IV.int).map fun v => match v with
        | .int i => IV.int (if i < 0 then -i else i)
        | v => v) [] := by
      refine lc_map _ _ (by rw [List.length_map]; omega) fun x hx => ?_
      obtain ⟨i, _, rfl⟩ := List.mem_map.mp hx
      refine ⟨_, rfl, ?_⟩
      rw [v_1 (e_var (v := .int i) rfl)]
      rfl
    have cl : dAl (fRev (dFl (fLc (wSeq (dVar 0)) (Sh.tg (.n 2)) dYes (dArg absF (aCons (dVar 2) aNil)) [2]))) [some (.fz (ns.map .int)), some (.int m), c] [] = .ok (.loc 0) [.lst (((ns.map fun i => if i < 0 then -i else i).reverse).map .int)] := by
      unfold dAl fRev dFl fLc wSeq
      rw [e_var (v := .fz (ns.map .int)) rfl]
      simp only [Ret.bind_ok]
      rw [cells]
      simp only [Ret.bind_ok, lsq, lstOf]
      have er : ((ns.map IV.int).map fun v => match v with
        | .int i => IV.int (if i < 0 then -i else i)
        | v => v).reverse = ((ns.map fun i => if i < 0 then -i else i).reverse).map IV.int := by
        rw [List.map_reverse, List.map_map, List.map_map]
        rfl
      rw [er]
      rfl
    unfold fn__law_source
    refine fn_eq (ρ := [some (.fz (ns.map .int)), some (.int m), c]) rfl ?_
    unfold d__law_source
    rw [v_seq (v_set v_c)]
    have fe : sFor (wSeq (dVar 0)) (Sh.tg (.n 2)) (sAsg (tgN 1) (dBin modF (dArg toIntF (aCons (dBin addF (dBin addF (dBin mulF (dVar 1) (dC (.int 69069))) (dBin mulF (dVar 2) (dC (.int 31)))) (dC (.int 5))) aNil)) (dC (.int 2147483629)))) [some (.fz (ns.map .int)), some (.int 11), none] [] = .ok (.nx, [some (.fz (ns.map .int)), some (.int m), c]) [] := e
    have fe2 := v_seq (b := sRet (dDisp ["cells", "left", "mixed", "turn"] (aCons (dAl (fRev (dFl (fLc (wSeq (dVar 0)) (Sh.tg (.n 2)) dYes (dArg absF (aCons (dVar 2) aNil)) [2])))) (aCons (dC (.int 1)) (aCons (dVar 1) (aCons (dC (.int 0)) aNil)))))) fe
    refine Eq.trans fe2 ?_
    refine v_ret ?_
    unfold dDisp
    rw [a_cons cl (a_cons v_c (a_cons (e_var (v := .int m) rfl) (a_cons v_c a_nil)))]
    rfl
end VI
end

section
namespace VI
open PySem PySem.Spec PyProof.Rows L2
theorem len_seq {h : Mem} {v : IV} {xs : List IV} (e : seqOf h v = some xs) : lenF [v] h = .ok (.int xs.length) h := by
  cases v with
  | str s => cases e
  | non => cases e
  | bl _ => cases e
  | int _ => cases e
  | tup ys => have e' := Option.some.inj e; subst e'; rfl
  | fz ys => have e' := Option.some.inj e; subst e'; rfl
  | fl ys => have e' := Option.some.inj e; subst e'; rfl
  | loc l =>
    show (match seqOf h (.loc l) with
      | some xs => Ret.ok (IV.int xs.length) h
      | none => .bad) = _
    rw [e]
theorem ix_seq' {h : Mem} {v y : IV} {xs : List IV} {k : Nat} (e : seqOf h v = some xs) (ek : xs[k]? = some y) : ixF v (.int (k : Nat)) h = .ok y h := by
  have ea : atI xs ((k : Nat) : Int) = some y := atI_nat ek
  have gen : (match seqOf h v with
      | some xs => (match atI xs ((k : Nat) : Int) with
        | some y => Ret.ok y h
        | none => .bad)
      | none => .bad) = .ok y h := by
    rw [e]
    simp only [ea]
  cases v with
  | str s => cases e
  | non => cases e
  | bl _ => cases e
  | int _ => cases e
  | tup ys => exact gen
  | fz ys => exact gen
  | fl ys => exact gen
  | loc l => exact gen
theorem v_ix {ρ : Sl} {h h1 h2 : Mem} {a b : Den} {v y : IV} {xs : List IV} {k : Nat} (ha : a ρ h = .ok v h1) (hb : b ρ h1 = .ok (.int (k : Nat)) h2) (e : seqOf h2 v = some xs) (ek : xs[k]? = some y) : dBin ixF a b ρ h = .ok y h2 := by
  rw [e_bin ha hb]
  exact ix_seq' e ek
theorem v_len {ρ : Sl} {h h1 : Mem} {a : Den} {v : IV} {xs : List IV} (ha : a ρ h = .ok v h1) (e : seqOf h1 v = some xs) : dArg lenF (aCons a aNil) ρ h = .ok (.int xs.length) h1 := by
  rw [v_1 ha]
  exact len_seq e
/-- one of some -/
theorem of {s : Src} {rest : Mem} {v : IV} {xs : List IV} (g : s.Good) (hv : ∀ s, seqOf (mem s rest) v = some xs) (hne : xs ≠ []) (hl : xs.length < 1073741824) :
    ∃ (s' : Src) (k : Nat) (y : IV), s'.Good ∧ xs[k]? = some y ∧ fn__law_of [.loc 1, v] (mem s rest) = .ok y (mem s' rest) := by
  obtain ⟨s', k, g', e, hk⟩ := pickG (rest := rest) (m := (xs.length : Nat)) g (by omega)
  have hk' : k < xs.length := by
    have : 0 < xs.length := List.length_pos_iff.mpr hne
    omega
  refine ⟨s', k, xs[k], g', List.getElem?_eq_getElem hk', ?_⟩
  unfold fn__law_of
  refine fn_eq (ρ := [some (.loc 1), some v]) rfl ?_
  unfold d__law_of
  have e0 : ([some (IV.loc 1), some v] : Sl)[0]? = some (some (.loc 1)) := rfl
  have e1 : ([some (IV.loc 1), some v] : Sl)[1]? = some (some v) := rfl
  show sRet _ [some (.loc 1), some v] (mem s rest) = _
  refine v_ret (v_ix (e_var e1) ?_ (hv s') (List.getElem?_eq_getElem hk'))
  rw [v_2 (e_var e0) (v_len (e_var e1) (hv s))]
  exact e
theorem mem_at {s : Src} {rest : Mem} {o : IO} {ext : Mem} : (mem s (rest ++ o :: ext))[rest.length + 2]? = some o := by
  show (rest ++ o :: ext)[rest.length]? = some o
  rw [List.getElem?_append_right (Nat.le_refl _), Nat.sub_self]
  rfl
theorem mem_set {s : Src} {rest : Mem} {o p : IO} {ext : Mem} : (mem s (rest ++ o :: ext)).set (rest.length + 2) p = mem s (rest ++ p :: ext) := by
  show mem s ((rest ++ o :: ext).set rest.length p) = _
  rw [List.set_append_right _ _ (Nat.le_refl _), Nat.sub_self]
  rfl
theorem mem_len {s : Src} {rest : Mem} : (mem s rest).length = rest.length + 2 := rfl
theorem mem_app {s : Src} {rest ext : Mem} : mem s rest ++ ext = mem s (rest ++ ext) := rfl
theorem ixN_nat {n k : Nat} (h : k < n) : ixN n ((k : Nat) : Int) = some k := by
  unfold ixN
  rw [if_pos (by omega), if_pos (by omega)]
  rfl
theorem perm_erase {α : Type} : ∀ (l : List α) (k : Nat) (x : α), l[k]? = some x → (x :: l.eraseIdx k).Perm l
  | [], k, x, e => by simp at e
  | y :: r, 0, x, e => by
    have e' : y = x := by simpa using e
    subst e'
    exact .refl _
  | y :: r, k + 1, x, e => by
    have ih := perm_erase r k x (by simpa using e)
    exact (List.Perm.swap y x _).trans (ih.cons y)
/-- the turns of a mixing -/
theorem mix_turns {rest ext : Mem} {v3 : IV} : ∀ (items ys : List IV) (c : Nat) (s : Src), s.Good → items.length = ys.length → c + items.length ≤ 100000 → ys.length < 1073741824 →
    ∃ (s' : Src) (zs : List IV), s'.Good ∧ zs.Perm ys ∧ lcV (Sh.tg (.n 3)) dYes (dML popAtF (dVar 2) (aCons (dArg fn__law_pick (aCons (dVar 0) (aCons (dArg lenF (aCons (dVar 2) aNil)) aNil))) aNil)) [some (.loc 1), some v3, some (.loc (rest.length + 2)), none] items c (mem s (rest ++ .lst ys :: ext)) =
      .ok zs (mem s' (rest ++ .lst [] :: ext))
  | [], ys, c, s, g, hl, _, _ => by
    have : ys = [] := List.length_eq_zero_iff.mp hl.symm
    subst this
    exact ⟨s, [], g, .refl _, rfl⟩
  | x :: items, ys, c, s, g, hl, hc, hy => by
    rw [List.length_cons] at hl hc
    obtain ⟨s1, k, g1, e, hk⟩ := pickG (rest := rest ++ .lst ys :: ext) (m := (ys.length : Nat)) g (by omega)
    have hk' : k < ys.length := by omega
    have ey : ys[k]? = some ys[k] := List.getElem?_eq_getElem hk'
    have hel : (ys.eraseIdx k).length = items.length := by
      rw [List.length_eraseIdx, if_pos hk']
      omega
    obtain ⟨s2, zs, g2, pm, e2⟩ := mix_turns (rest := rest) (ext := ext) (v3 := v3) items (ys.eraseIdx k) (c + 1) s1 g1 hel.symm (by omega) (by omega)
    refine ⟨s2, ys[k] :: zs, g2, (pm.cons _).trans (perm_erase ys k _ ey), ?_⟩
    have e0 : ([some (IV.loc 1), some v3, some (.loc (rest.length + 2)), some x] : Sl)[0]? = some (some (.loc 1)) := rfl
    have e2' : ([some (IV.loc 1), some v3, some (.loc (rest.length + 2)), some x] : Sl)[2]? = some (some (.loc (rest.length + 2))) := rfl
    have sq : ∀ s, seqOf (mem s (rest ++ .lst ys :: ext)) (.loc (rest.length + 2)) = some ys := fun s => by
      show (match (mem s (rest ++ IO.lst ys :: ext))[rest.length + 2]? with
        | some (.lst xs) => some xs
        | _ => none) = _
      rw [mem_at]
    have il : isL (mem s (rest ++ .lst ys :: ext)) (.loc (rest.length + 2)) = true := by
      unfold isL
      have : lstOf (mem s (rest ++ .lst ys :: ext)) (.loc (rest.length + 2)) = some ys := sq s
      rw [this]
      rfl
    have pk : dArg fn__law_pick (aCons (dVar 0) (aCons (dArg lenF (aCons (dVar 2) aNil)) aNil)) [some (.loc 1), some v3, some (.loc (rest.length + 2)), some x] (mem s (rest ++ .lst ys :: ext)) = .ok (.int (k : Nat)) (mem s1 (rest ++ .lst ys :: ext)) := by
      rw [v_2 (e_var e0) (v_len (e_var e2') (sq s))]
      exact e
    have pop : dML popAtF (dVar 2) (aCons (dArg fn__law_pick (aCons (dVar 0) (aCons (dArg lenF (aCons (dVar 2) aNil)) aNil))) aNil) [some (.loc 1), some v3, some (.loc (rest.length + 2)), some x] (mem s (rest ++ .lst ys :: ext)) = .ok ys[k] (mem s1 (rest ++ .lst (ys.eraseIdx k) :: ext)) := by
      unfold dML
      rw [e_var e2', Ret.bind_ok, il, cond_true, a_cons pk a_nil, Ret.bind_ok]
      unfold popAtF
      simp only [mem_at, ixN_nat hk', ey]
      rw [decide_eq_true (show (-9223372036854775808 : Int) ≤ (k : Nat) by omega), decide_eq_true (show ((k : Nat) : Int) < 9223372036854775808 by omega)]
      simp only [Bool.and_self, cond_true]
      rw [mem_set]
    unfold lcV
    show (match Sh.tg (.n 3) x [some (.loc 1), some v3, some (.loc (rest.length + 2)), none] with
      | none => Ret.bad
      | some ρ1 => (nox (dYes ρ1 (mem s (rest ++ IO.lst ys :: ext)))).bind fun b h1 => if b then (nox (dML popAtF (dVar 2) (aCons (dArg fn__law_pick (aCons (dVar 0) (aCons (dArg lenF (aCons (dVar 2) aNil)) aNil))) aNil) ρ1 h1)).bind fun y h2 => if c < sizeLine then (lcV (Sh.tg (.n 3)) dYes (dML popAtF (dVar 2) (aCons (dArg fn__law_pick (aCons (dVar 0) (aCons (dArg lenF (aCons (dVar 2) aNil)) aNil))) aNil)) [some (.loc 1), some v3, some (.loc (rest.length + 2)), none] items (c + 1) h2).bind fun ys h3 => .ok (y :: ys) h3 else .bad
        else lcV (Sh.tg (.n 3)) dYes (dML popAtF (dVar 2) (aCons (dArg fn__law_pick (aCons (dVar 0) (aCons (dArg lenF (aCons (dVar 2) aNil)) aNil))) aNil)) [some (.loc 1), some v3, some (.loc (rest.length + 2)), none] items c h1) = _
    show (nox (dML popAtF (dVar 2) (aCons (dArg fn__law_pick (aCons (dVar 0) (aCons (dArg lenF (aCons (dVar 2) aNil)) aNil))) aNil) [some (.loc 1), some v3, some (.loc (rest.length + 2)), some x] (mem s (rest ++ .lst ys :: ext)))).bind _ = _
    rw [pop]
    simp only [nox, Ret.bind_ok, if_pos (sl_lt (show c ≤ 100000 by omega)), e2]
theorem okR_nat {n : Nat} (h : n ≤ 1000000) : okR ((n : Nat) : Int) = true := by
  unfold okR
  rw [Bool.and_eq_true, decide_eq_true_eq, decide_eq_true_eq]
  constructor <;> omega
theorem rng1 {ρ : Sl} {h h1 : Mem} {d : Den} {n : Nat} (e : d ρ h = .ok (.int (n : Nat)) h1) (hn : n ≤ 1000000) : wRng1 (aCons d aNil) ρ h = .ok (rgI 0 (n : Nat)) h1 := by
  have q : aCons d aNil ρ h = .ok [.int (n : Nat)] h1 := a_cons e a_nil
  unfold wRng1
  rw [q, Ret.bind_ok]
  have k := okR_nat hn
  generalize ((n : Nat) : Int) = j at k ⊢
  show (bif okR j then Ret.ok (rgI 0 j) h1 else .bad) = _
  rw [k, cond_true]
/-- things mixed -/
theorem mixed {s : Src} {rest : Mem} {v : IV} {xs : List IV} (g : s.Good) (hv : seqOf (mem s rest) v = some xs) (hl : xs.length ≤ 50000) :
    ∃ (s' : Src) (zs : List IV), s'.Good ∧ zs.Perm xs ∧ fn__law_mixed [.loc 1, v] (mem s rest) = .ok (.fl zs) (mem s' (rest ++ [.lst []])) := by
  obtain ⟨s', zs, g', pm, e⟩ := mix_turns (rest := rest) (ext := ([] : Mem)) (v3 := v) (rgI 0 xs.length) xs 0 s g (by rw [rgI_len]; omega) (by rw [rgI_len]; omega) (by omega)
  refine ⟨s', zs, g', pm, ?_⟩
  unfold fn__law_mixed
  refine fn_eq (ρ := [some (.loc 1), some v, some (.loc (rest.length + 2)), none]) rfl ?_
  unfold d__law_mixed
  have e1 : ([some (IV.loc 1), some v, none, none] : Sl)[1]? = some (some v) := rfl
  have al : dAl (fArg listF (aCons (dVar 1) aNil)) [some (.loc 1), some v, none, none] (mem s rest) = .ok (.loc (rest.length + 2)) (mem s (rest ++ [.lst xs])) := by
    unfold dAl fArg
    rw [a_cons (e_var e1) a_nil, Ret.bind_ok]
    unfold listF
    simp only [hv, Ret.bind_ok, mem_len, mem_app]
  rw [show ([IV.loc 1, v].map some ++ List.replicate (4 - [IV.loc 1, v].length) none : Sl) = [some (.loc 1), some v, none, none] from rfl, v_seq (v_set al)]
  show sRet _ [some (.loc 1), some v, some (.loc (rest.length + 2)), none] (mem s (rest ++ [.lst xs])) = _
  refine v_ret ?_
  have sq : seqOf (mem s (rest ++ [.lst xs])) (.loc (rest.length + 2)) = some xs := by
    show (match (mem s (rest ++ IO.lst xs :: []))[rest.length + 2]? with
      | some (.lst xs) => some xs
      | _ => none) = _
    rw [mem_at]
  have e2 : ([some (IV.loc 1), some v, some (.loc (rest.length + 2)), none] : Sl)[2]? = some (some (.loc (rest.length + 2))) := rfl
  have rg : wRng1 (aCons (dArg lenF (aCons (dVar 2) aNil)) aNil) [some (.loc 1), some v, some (.loc (rest.length + 2)), none] (mem s (rest ++ [.lst xs])) = .ok (rgI 0 xs.length) (mem s (rest ++ [.lst xs])) := rng1 (v_len (e_var e2) sq) (by omega)
  unfold dFl fLc
  rw [rg, Ret.bind_ok]
  show (lcV (Sh.tg (.n 3)) dYes _ [some (.loc 1), some v, some (.loc (rest.length + 2)), none] (rgI 0 xs.length) 0 (mem s (rest ++ [.lst xs]))).bind _ = _
  rw [e]
  rfl
end VI
end

section
namespace VI
open PySem PySem.Spec PyProof.Rows L2
/-- ascending houses below n -/
structure ReqOk (n : Nat) (v : IV) : Prop where
  ex : ∃ hs : List Nat, v = .tup (hs.map fun k => .int (k : Nat)) ∧ hs.Pairwise (· < ·) ∧ ∀ k ∈ hs, k < n
theorem v_eqI {ρ : Sl} {h h1 h2 : Mem} {a b : Den} {i j : Int} (ha : a ρ h = .ok (.int i) h1) (hb : b ρ h1 = .ok (.int j) h2) : dBin eqF a b ρ h = .ok (.bl (decide (i = j))) h2 := by
  rw [e_bin ha hb]
  rfl
theorem v_tst {ρ : Sl} {h h1 : Mem} {d : Den} {b : Bool} (e : d ρ h = .ok (.bl b) h1) : dTst d ρ h = .ok b h1 := by
  simp only [dTst, e, Ret.bind_ok]
theorem rgI_nat (a b : Nat) : rgI (a : Nat) (b : Nat) = ((List.range (b - a)).map fun i => a + i).map fun k => IV.int (k : Nat) := by
  unfold rgI
  rw [List.map_map, show (((b : Nat) : Int) - ((a : Nat) : Int)).toNat = b - a by omega]
  apply List.map_congr_left
  intro i _
  show IV.int (((a : Nat) : Int) + ((i : Nat) : Int)) = IV.int (((a + i : Nat) : Nat) : Int)
  congr 1
theorem range_asc (a n : Nat) : ((List.range n).map fun i => a + i).Pairwise (· < ·) := by
  rw [List.pairwise_map]
  exact List.pairwise_lt_range.imp fun h => by omega
theorem rg1 {ρ : Sl} {h h1 : Mem} {d : Den} {n : Nat} (e : d ρ h = .ok (.int (n : Nat)) h1) (hn : n ≤ 1000000) : fRg1 d ρ h = .ok (rgI 0 (n : Nat)) h1 := by
  unfold fRg1
  rw [e, Ret.bind_ok]
  have k := okR_nat hn
  have k2 : ((n : Nat) : Int).toNat ≤ 16777216 := by omega
  generalize ((n : Nat) : Int) = j at k k2 ⊢
  show (bif okR j && decide (j.toNat ≤ 16777216) then Ret.ok (rgI 0 j) h1 else .bad) = _
  rw [k, decide_eq_true k2]
  rfl
theorem rg2 {ρ : Sl} {h h1 h2 : Mem} {d e : Den} {m n : Nat} (e1 : d ρ h = .ok (.int (m : Nat)) h1) (e2 : e ρ h1 = .ok (.int (n : Nat)) h2) (hm : m ≤ 1000000) (hn : n ≤ 1000000) : fRg2 d e ρ h = .ok (rgI (m : Nat) (n : Nat)) h2 := by
  unfold fRg2
  rw [e1, Ret.bind_ok, e2, Ret.bind_ok]
  have k := okR_nat hm
  have k1 := okR_nat hn
  have k2 : (((n : Nat) : Int) - ((m : Nat) : Int)).toNat ≤ 16777216 := by omega
  generalize ((n : Nat) : Int) = j at k1 k2 ⊢
  generalize ((m : Nat) : Int) = i at k k2 ⊢
  show (bif okR i && okR j && decide ((j - i).toNat ≤ 16777216) then Ret.ok (rgI i j) h2 else .bad) = _
  rw [k, k1, decide_eq_true k2]
  rfl
theorem v_fl {ρ : Sl} {h h1 : Mem} {d : DenA} {xs : List IV} (e : d ρ h = .ok xs h1) : dFl d ρ h = .ok (.fl xs) h1 := by
  simp only [dFl, e, Ret.bind_ok]
theorem f_lst {ρ : Sl} {h h1 : Mem} {d : DenA} {xs : List IV} (e : d ρ h = .ok xs h1) (hl : xs.length ≤ 100000) : fLst d ρ h = .ok xs h1 := by
  simp only [fLst, e, Ret.bind_ok, if_pos (sl_le hl)]
theorem v_tup {ρ : Sl} {h h1 : Mem} {d : DenA} {xs : List IV} (e : d ρ h = .ok xs h1) (hl : xs.length ≤ 100000) : dTup d ρ h = .ok (.tup xs) h1 := by
  simp only [dTup, e, Ret.bind_ok, if_pos (sl_le hl)]
theorem v_tuple {ρ : Sl} {h h1 : Mem} {a : Den} {v : IV} {xs : List IV} (ha : a ρ h = .ok v h1) (e : seqOf h1 v = some xs) : dArg tupleF (aCons a aNil) ρ h = .ok (.tup xs) h1 := by
  rw [v_1 ha]
  unfold tupleF
  simp only [e]
theorem allS_ints : ∀ ns : List Int, allS ((ns.map IV.int).map asI) = some ns
  | [] => rfl
  | n :: ns => by
    rw [List.map_cons, List.map_cons, show asI (.int n) = some n from rfl]
    unfold allS
    rw [allS_ints ns]
theorem cut_to (xs : List IV) (m : Nat) : cutI xs none (some (m : Nat)) = xs.take m := by
  unfold cutI
  rw [HT.sIx_none, HT.sIx_nat, List.drop_zero, Nat.sub_zero, ← List.take_eq_take_min]
theorem perm_ints {zs : List IV} {ns : List Int} (p : zs.Perm (ns.map .int)) : ∃ ms : List Int, zs = ms.map .int ∧ ms.Perm ns := by
  have all : ∀ z ∈ zs, ∃ i, z = IV.int i := fun z hz => by
    obtain ⟨i, _, e⟩ := List.mem_map.mp (p.mem_iff.mp hz)
    exact ⟨i, e.symm⟩
  let g : IV → Int := fun v => match v with
    | .int i => i
    | _ => 0
  refine ⟨zs.map g, ?_, ?_⟩
  · have go : ∀ l : List IV, (∀ z ∈ l, ∃ i, z = IV.int i) → l = (l.map g).map IV.int := fun l => by
      induction l with
      | nil => exact fun _ => rfl
      | cons z r ih =>
        intro hz
        obtain ⟨i, e⟩ := hz z List.mem_cons_self
        subst e
        rw [List.map_cons, List.map_cons, ← ih fun y hy => hz y (List.mem_cons_of_mem _ hy)]
    exact go zs all
  · have := p.map g
    rw [List.map_map] at this
    have e : ∀ l : List Int, l.map (g ∘ IV.int) = l := fun l => by
      induction l with
      | nil => rfl
      | cons x r ih => rw [List.map_cons, ih]; rfl
    rw [e] at this
    exact this
/-- ints that are ascending without repetition, all from naturals -/
theorem asc_nats {ms : List Int} (so : ms.Pairwise (· ≤ ·)) (nd : ms.Nodup) (h0 : ∀ i ∈ ms, 0 ≤ i) : ∃ hs : List Nat, ms = hs.map (fun k => ((k : Nat) : Int)) ∧ hs.Pairwise (· < ·) := by
  refine ⟨ms.map Int.toNat, ?_, ?_⟩
  · have go : ∀ l : List Int, (∀ i ∈ l, 0 ≤ i) → l = (l.map Int.toNat).map (fun k => ((k : Nat) : Int)) := fun l => by
      induction l with
      | nil => exact fun _ => rfl
      | cons z r ih =>
        intro hz
        rw [List.map_cons, List.map_cons, ← ih fun y hy => hz y (List.mem_cons_of_mem _ hy), Int.toNat_of_nonneg (hz z List.mem_cons_self)]
    exact go ms h0
  · rw [List.pairwise_map]
    have := so.and nd
    refine List.Pairwise.imp_of_mem ?_ this
    intro a b ha hb ⟨h1, h2⟩
    have a0 := h0 a ha
    have b0 := h0 b hb
    omega
theorem request {s : Src} {rest : Mem} {n : Nat} (g : s.Good) (hn0 : 0 < n) (hn : n ≤ 1000) :
    ∃ (s' : Src) (ext : Mem) (v : IV), s'.Good ∧ ReqOk n v ∧ fn__law_draw_request [.loc 1, .int (n : Nat)] (mem s rest) = .ok v (mem s' (rest ++ ext)) := by
  obtain ⟨s1, w, g1, e1, hw⟩ := pickG (rest := rest) (m := 8) g (by decide)
  have hw8 : w < 8 := by omega
  have p1 : dArg fn__law_pick (aCons (dVar 0) (aCons (dC (.int 8)) aNil)) [some (.loc 1), some (.int (n : Nat)), none, none, none] (mem s rest) = .ok (.int (w : Nat)) (mem s1 rest) := by
    rw [v_2 (e_var (v := .loc 1) rfl) v_c]
    exact e1
  have E0 : ([some (IV.loc 1), some (.int (n : Nat)), some (.int (w : Nat)), none, none] : Sl)[0]? = some (some (.loc 1)) := rfl
  have E1 : ([some (IV.loc 1), some (.int (n : Nat)), some (.int (w : Nat)), none, none] : Sl)[1]? = some (some (.int (n : Nat))) := rfl
  have E2 : ([some (IV.loc 1), some (.int (n : Nat)), some (.int (w : Nat)), none, none] : Sl)[2]? = some (some (.int (w : Nat))) := rfl
  have t0 : dTst (dBin eqF (dVar 2) (dC (.int 0))) [some (.loc 1), some (.int (n : Nat)), some (.int (w : Nat)), none, none] (mem s1 rest) = .ok (decide (((w : Nat) : Int) = 0)) (mem s1 rest) := v_tst (v_eqI (e_var E2) v_c)
  have t1 : dTst (dBin eqF (dVar 2) (dC (.int 1))) [some (.loc 1), some (.int (n : Nat)), some (.int (w : Nat)), none, none] (mem s1 rest) = .ok (decide (((w : Nat) : Int) = 1)) (mem s1 rest) := v_tst (v_eqI (e_var E2) v_c)
  by_cases h0 : w = 0
  · subst h0
    refine ⟨s1, [], .tup [], g1, ⟨[], rfl, .nil, by simp⟩, ?_⟩
    unfold fn__law_draw_request
    refine fn_eq (ρ := [some (.loc 1), some (.int (n : Nat)), some (.int ((0 : Nat) : Int)), none, none]) rfl ?_
    unfold d__law_draw_request
    rw [List.append_nil, show ([IV.loc 1, .int (n : Nat)].map some ++ List.replicate (5 - [IV.loc 1, .int (n : Nat)].length) none : Sl) = [some (.loc 1), some (.int (n : Nat)), none, none, none] from rfl, v_seq (v_set p1)]
    refine v_seqR ?_
    show sIf _ _ _ [some (.loc 1), some (.int (n : Nat)), some (.int ((0 : Nat) : Int)), none, none] (mem s1 rest) = _
    rw [v_if t0]
    exact v_ret (v_tup a_nil (by decide))
  · have f0 : decide (((w : Nat) : Int) = 0) = false := decide_eq_false (by omega)
    rw [f0] at t0
    by_cases h1 : w = 1
    · subst h1
      obtain ⟨s2, k, g2, e2, hk⟩ := pickG (rest := rest) (m := (n : Nat)) g1 (by omega)
      have hkn : k < n := by omega
      have p2 : dArg fn__law_pick (aCons (dVar 0) (aCons (dVar 1) aNil)) [some (.loc 1), some (.int (n : Nat)), some (.int ((1 : Nat) : Int)), none, none] (mem s1 rest) = .ok (.int (k : Nat)) (mem s2 rest) := by
        rw [v_2 (e_var E0) (e_var E1)]
        exact e2
      have F1 : ([some (IV.loc 1), some (.int (n : Nat)), some (.int ((1 : Nat) : Int)), some (.int (k : Nat)), none] : Sl)[1]? = some (some (.int (n : Nat))) := rfl
      have F3 : ([some (IV.loc 1), some (.int (n : Nat)), some (.int ((1 : Nat) : Int)), some (.int (k : Nat)), none] : Sl)[3]? = some (some (.int (k : Nat))) := rfl
      have mn : dArg minF (aCons (dVar 1) (aCons (dBin addF (dVar 3) (dC (.int 3))) aNil)) [some (.loc 1), some (.int (n : Nat)), some (.int ((1 : Nat) : Int)), some (.int (k : Nat)), none] (mem s2 rest) = .ok (.int ((min n (k + 3) : Nat) : Int)) (mem s2 rest) := by
        rw [v_min (e_var F1) (v_add (e_var F3) v_c)]
        congr 2
        by_cases hq : k + 3 < n
        · rw [if_pos (by omega)]
          omega
        · rw [if_neg (by omega)]
          omega
      refine ⟨s2, [], _, g2, ⟨_, rfl, range_asc k (min n (k + 3) - k), fun x hx => ?_⟩, ?_⟩
      · obtain ⟨i, hi, rfl⟩ := List.mem_map.mp hx
        have := List.mem_range.mp hi
        omega
      · unfold fn__law_draw_request
        refine fn_eq (ρ := [some (.loc 1), some (.int (n : Nat)), some (.int ((1 : Nat) : Int)), some (.int (k : Nat)), none]) rfl ?_
        unfold d__law_draw_request
        rw [List.append_nil, show ([IV.loc 1, .int (n : Nat)].map some ++ List.replicate (5 - [IV.loc 1, .int (n : Nat)].length) none : Sl) = [some (.loc 1), some (.int (n : Nat)), none, none, none] from rfl, v_seq (v_set p1)]
        have skip : sIf (dTst (dBin eqF (dVar 2) (dC (.int 0)))) (sRet (dTup aNil)) sNx [some (.loc 1), some (.int (n : Nat)), some (.int ((1 : Nat) : Int)), none, none] (mem s1 rest) = .ok (.nx, [some (.loc 1), some (.int (n : Nat)), some (.int ((1 : Nat) : Int)), none, none]) (mem s1 rest) := by
          rw [v_if t0]
          rfl
        refine Eq.trans (v_seq skip) (v_seqR ?_)
        rw [v_if t1]
        show sSeq _ _ [some (.loc 1), some (.int (n : Nat)), some (.int ((1 : Nat) : Int)), none, none] (mem s1 rest) = _
        rw [v_seq (v_set p2)]
        show sRet _ [some (.loc 1), some (.int (n : Nat)), some (.int ((1 : Nat) : Int)), some (.int (k : Nat)), none] (mem s2 rest) = _
        refine v_ret ?_
        have rr := rg2 (e_var F3) mn (by omega) (by omega)
        rw [rgI_nat] at rr
        exact v_tuple (v_fl rr) rfl
    · have f1 : decide (((w : Nat) : Int) = 1) = false := decide_eq_false (by omega)
      rw [f1] at t1
      obtain ⟨s2, k, g2, e2, hk⟩ := pickG (rest := rest) (m := (n : Nat)) g1 (by omega)
      have p2 : dArg fn__law_pick (aCons (dVar 0) (aCons (dVar 1) aNil)) [some (.loc 1), some (.int (n : Nat)), some (.int (w : Nat)), none, none] (mem s1 rest) = .ok (.int (k : Nat)) (mem s2 rest) := by
        rw [v_2 (e_var E0) (e_var E1)]
        exact e2
      have menu := f_lst (a_cons (v_c (v := .int 1)) (a_cons (v_c (v := .int 2)) (a_cons (v_c (v := .int 2)) (a_cons (v_c (v := .int 2)) (a_cons (v_c (v := .int 3)) (a_cons (v_add (v_c (h := mem s1 rest) (v := .int 1)) p2) a_nil)))))) (by simp)
      obtain ⟨m, hm⟩ : ∃ m : Nat, ([IV.int 1, .int 2, .int 2, .int 2, .int 3, .int (1 + (k : Nat))] : List IV)[w - 2]? = some (.int (m : Nat)) := by
        have hw2 : w - 2 < 6 := by omega
        match w - 2, hw2 with
        | 0, _ => exact ⟨1, rfl⟩
        | 1, _ => exact ⟨2, rfl⟩
        | 2, _ => exact ⟨2, rfl⟩
        | 3, _ => exact ⟨2, rfl⟩
        | 4, _ => exact ⟨3, rfl⟩
        | 5, _ => exact ⟨1 + k, rfl⟩
      have ix : dBin subF (dVar 2) (dC (.int 2)) [some (.loc 1), some (.int (n : Nat)), some (.int (w : Nat)), none, none] (mem s2 rest) = .ok (.int ((w - 2 : Nat) : Int)) (mem s2 rest) := by
        rw [v_sub (e_var E2) v_c]
        congr 2
        omega
      have pm := v_ix (v_fl menu) ix rfl hm
      have G0 : ([some (IV.loc 1), some (.int (n : Nat)), some (.int (w : Nat)), none, some (.int (m : Nat))] : Sl)[0]? = some (some (.loc 1)) := rfl
      have G1 : ([some (IV.loc 1), some (.int (n : Nat)), some (.int (w : Nat)), none, some (.int (m : Nat))] : Sl)[1]? = some (some (.int (n : Nat))) := rfl
      have G4 : ([some (IV.loc 1), some (.int (n : Nat)), some (.int (w : Nat)), none, some (.int (m : Nat))] : Sl)[4]? = some (some (.int (m : Nat))) := rfl
      have hr0 : rgI 0 (n : Nat) = ((List.range n).map fun k => ((k : Nat) : Int)).map IV.int := by
        have := rgI_nat 0 n
        rw [Nat.sub_zero] at this
        rw [show ((0 : Nat) : Int) = 0 from rfl] at this
        rw [this, List.map_map, List.map_map]
        apply List.map_congr_left
        intro i _
        show IV.int (((0 + i : Nat) : Nat) : Int) = IV.int ((i : Nat) : Int)
        rw [Nat.zero_add]
      obtain ⟨s3, zs, g3, pz, e3⟩ := mixed (s := s2) (rest := rest) (v := .fl (rgI 0 (n : Nat))) (xs := rgI 0 (n : Nat)) g2 rfl (by rw [rgI_len]; omega)
      rw [hr0] at pz
      obtain ⟨ms, ez, pms⟩ := perm_ints pz
      have nd : ms.Nodup := pms.nodup_iff.mpr (by
        rw [List.nodup_iff_pairwise_ne, List.pairwise_map]
        exact List.pairwise_lt_range.imp fun h => by omega)
      have bd : ∀ i ∈ ms, 0 ≤ i ∧ i < (n : Nat) := fun i hi => by
        obtain ⟨q, hq, rfl⟩ := List.mem_map.mp (pms.mem_iff.mp hi)
        have := List.mem_range.mp hq
        omega
      have sub : ∀ i ∈ isort (ms.take m), i ∈ ms := fun i hi => List.mem_of_mem_take ((isort_perm _).mem_iff.mp hi)
      obtain ⟨hs, eh, ah⟩ := asc_nats (isort_sorted (ms.take m)) ((isort_perm (ms.take m)).nodup_iff.mpr ((List.take_sublist _ _).nodup nd)) fun i hi => (bd i (sub i hi)).1
      refine ⟨s3, [.lst []], .tup (hs.map fun k => .int (k : Nat)), g3, ⟨hs, rfl, ah, fun x hx => ?_⟩, ?_⟩
      · have : ((x : Nat) : Int) ∈ isort (ms.take m) := by
          rw [eh]
          exact List.mem_map_of_mem hx
        have := (bd _ (sub _ this)).2
        omega
      · unfold fn__law_draw_request
        refine fn_eq (ρ := [some (.loc 1), some (.int (n : Nat)), some (.int (w : Nat)), none, some (.int (m : Nat))]) rfl ?_
        unfold d__law_draw_request
        rw [show ([IV.loc 1, .int (n : Nat)].map some ++ List.replicate (5 - [IV.loc 1, .int (n : Nat)].length) none : Sl) = [some (.loc 1), some (.int (n : Nat)), none, none, none] from rfl, v_seq (v_set p1)]
        have skip : sIf (dTst (dBin eqF (dVar 2) (dC (.int 0)))) (sRet (dTup aNil)) sNx [some (.loc 1), some (.int (n : Nat)), some (.int (w : Nat)), none, none] (mem s1 rest) = .ok (.nx, [some (.loc 1), some (.int (n : Nat)), some (.int (w : Nat)), none, none]) (mem s1 rest) := by
          rw [v_if t0]
          rfl
        refine Eq.trans (v_seq skip) ?_
        have skip2 : ∀ b : DenS, sIf (dTst (dBin eqF (dVar 2) (dC (.int 1)))) b sNx [some (.loc 1), some (.int (n : Nat)), some (.int (w : Nat)), none, none] (mem s1 rest) = .ok (.nx, [some (.loc 1), some (.int (n : Nat)), some (.int (w : Nat)), none, none]) (mem s1 rest) := fun b => by
          rw [v_if t1]
          rfl
        refine Eq.trans (v_seq (skip2 _)) ?_
        rw [v_seq (v_set pm)]
        show sRet _ [some (.loc 1), some (.int (n : Nat)), some (.int (w : Nat)), none, some (.int (m : Nat))] (mem s2 rest) = _
        refine v_ret ?_
        have mx : dArg fn__law_mixed (aCons (dVar 0) (aCons (dFl (fRg1 (dVar 1))) aNil)) [some (.loc 1), some (.int (n : Nat)), some (.int (w : Nat)), none, some (.int (m : Nat))] (mem s2 rest) = .ok (.fl zs) (mem s3 (rest ++ [.lst []])) := by
          rw [v_2 (e_var G0) (v_fl (rg1 (e_var G1) (by omega)))]
          exact e3
        have ct : dCut (dArg fn__law_mixed (aCons (dVar 0) (aCons (dFl (fRg1 (dVar 1))) aNil))) oNone (oSome (dVar 4)) [some (.loc 1), some (.int (n : Nat)), some (.int (w : Nat)), none, some (.int (m : Nat))] (mem s2 rest) = .ok (.fl ((ms.take m).map .int)) (mem s3 (rest ++ [.lst []])) := by
          unfold dCut
          rw [mx]
          simp only [Ret.bind_ok, oNone, oSome, e_var G4, cutF, lsq, lstOf, cut_to, ez, List.map_take]
        have st : fArg sortF (aCons (dCut (dArg fn__law_mixed (aCons (dVar 0) (aCons (dFl (fRg1 (dVar 1))) aNil))) oNone (oSome (dVar 4))) aNil) [some (.loc 1), some (.int (n : Nat)), some (.int (w : Nat)), none, some (.int (m : Nat))] (mem s2 rest) = .ok ((isort (ms.take m)).map .int) (mem s3 (rest ++ [.lst []])) := by
          unfold fArg
          rw [a_cons ct a_nil, Ret.bind_ok]
          unfold sortF
          simp only [lsq, lstOf, Option.bind_some, allS_ints]
        have fin := v_tuple (v_fl st) (xs := (isort (ms.take m)).map .int) rfl
        rw [eh, List.map_map] at fin
        exact fin
end VI
end

section
namespace VI
open PySem PySem.Spec PyProof.Rows L2
theorem sz_le {n : Nat} (h : n ≤ 100000) : (n ≤ sizeLine) = True := by
  rw [eq_true (sl_le h)]
theorem bindO {α β : Type} (a : α) (h : Mem) (f : α → Mem → Ret β) : (Ret.ok a h).bind f = f a h := id rfl
theorem eqF_i {i j : Int} {h : Mem} : eqF (.int i) (.int j) h = .ok (.bl (decide (i = j))) h := id rfl
theorem neF_i {i j : Int} {h : Mem} : neF (.int i) (.int j) h = .ok (.bl (!decide (i = j))) h := id rfl
theorem addF_i {i j : Int} {h : Mem} : addF (.int i) (.int j) h = .ok (.int (i + j)) h := id rfl
theorem subF_i {i j : Int} {h : Mem} : subF (.int i) (.int j) h = .ok (.int (i - j)) h := id rfl
theorem gtF_i {i j : Int} {h : Mem} : gtF (.int i) (.int j) h = .ok (.bl (decide (j < i))) h := id rfl
theorem ltF_i {i j : Int} {h : Mem} : ltF (.int i) (.int j) h = .ok (.bl (decide (i < j))) h := id rfl
theorem isN_non {h : Mem} : isNF .non .non h = .ok (.bl true) h := id rfl
theorem isN_int {i : Int} {h : Mem} : isNF (.int i) .non h = .ok (.bl false) h := id rfl
theorem notN_non {h : Mem} : notNF .non .non h = .ok (.bl false) h := id rfl
theorem notN_int {i : Int} {h : Mem} : notNF (.int i) .non h = .ok (.bl true) h := id rfl
theorem ixF_seq {h : Mem} {xs : List IV} {y : IV} {k : Int} : ixF (.tup xs) (.int k) h = (match atI xs k with
        | some y => .ok y h
        | none => .bad) := id rfl
def gateL (vs : List IV) (h : Mem) : Ret (List IV) := if vs.length ≤ sizeLine then .ok vs h else .bad
def gateT (vs : List IV) (h : Mem) : Ret IV := if vs.length ≤ sizeLine then .ok (.tup vs) h else .bad
theorem gateL_ok {vs : List IV} {h : Mem} (e : vs.length ≤ 100000) : gateL vs h = .ok vs h := if_pos (sl_le e)
theorem gateT_ok {vs : List IV} {h : Mem} (e : vs.length ≤ 100000) : gateT vs h = .ok (.tup vs) h := if_pos (sl_le e)
theorem fLst_eq {a : DenA} {ρ : Sl} {h : Mem} : fLst a ρ h = (a ρ h).bind gateL := id rfl
theorem dTup_eq {a : DenA} {ρ : Sl} {h : Mem} : dTup a ρ h = (a ρ h).bind gateT := id rfl
/-- a comprehension that draws -/
theorem lc_draw {t : Tg} {el : Den} {ρ : Sl} {rest : Mem} {P : IV → Prop} (hs : ∀ x s, s.Good → ∃ ρ1 s' y, t x ρ = some ρ1 ∧ s'.Good ∧ P y ∧ el ρ1 (mem s rest) = .ok y (mem s' rest)) : ∀ (items : List IV) (n : Nat) (s : Src), s.Good → n + items.length ≤ 100000 →
    ∃ s' ys, s'.Good ∧ ys.length = items.length ∧ (∀ y ∈ ys, P y) ∧ lcV t dYes el ρ items n (mem s rest) = .ok ys (mem s' rest)
  | [], n, s, g, _ => ⟨s, [], g, rfl, by simp, rfl⟩
  | x :: r, n, s, g, hn => by
    rw [List.length_cons] at hn
    obtain ⟨ρ1, s1, y, e1, g1, p1, e2⟩ := hs x s g
    obtain ⟨s2, ys, g2, l2, p2, e3⟩ := lc_draw hs r (n + 1) s1 g1 (by omega)
    refine ⟨s2, y :: ys, g2, by rw [List.length_cons, List.length_cons, l2], fun z hz => ?_, ?_⟩
    · rcases List.mem_cons.mp hz with e | hz
      · rw [e]; exact p1
      · exact p2 z hz
    · unfold lcV
      rw [e1]
      simp only [dYes, nox, Ret.bind_ok, if_true, e2, if_pos (sl_lt (show n ≤ 100000 by omega))]
      rw [e3]
      rfl
structure YardOk (n room : Nat) (v : IV) : Prop where
  ex : ∃ (c : Nat) (ws : List Int), v = .tup [.int c, .tup (ws.map .int)] ∧ 1 ≤ c ∧ c ≤ room ∧ 1 ≤ ws.length ∧ ws.length ≤ n ∧ ∀ w ∈ ws, 1 ≤ w ∧ w ≤ 1000000
def menus : List (List Int) := [[1], [1, 2], [1, 3, 3, 9], [1, 2, 5, 7, 1000000]]
theorem yard {s : Src} {rest : Mem} {n r : Nat} (g : s.Good) (hn0 : 0 < n) (hn : n ≤ 1000) (hr0 : 0 < r) (hr : r ≤ 1000) :
    ∃ (s' : Src) (v : IV), s'.Good ∧ YardOk n r v ∧ fn__law_draw_yard [.loc 1, .int (n : Nat), .int (r : Nat)] (mem s rest) = .ok v (mem s' rest) := by
  obtain ⟨s1, k1, g1, e1, h1⟩ := pickG (rest := rest) (m := (n : Nat)) g (by omega)
  obtain ⟨s2, k2, y, g2, ey, e2⟩ := of (rest := rest) (v := .fl (menus.map fun m => .fl (m.map .int))) (xs := menus.map fun m => .fl (m.map .int)) g1 (fun _ => rfl) (by simp [menus]) (by simp [menus])
  obtain ⟨m, hm, rfl⟩ : ∃ m ∈ menus, IV.fl (m.map IV.int) = y := by
    have := List.mem_of_getElem? ey
    exact List.mem_map.mp this
  obtain ⟨s3, k3, g3, e3, h3⟩ := pickG (rest := rest) (m := (r : Nat)) g2 (by omega)
  have hmn : m ≠ [] := fun z => by
    subst z
    revert hm
    decide
  have hmw : ∀ w ∈ m, 1 ≤ w ∧ w ≤ 1000000 := by
    have all : ∀ m ∈ menus, ∀ w ∈ m, 1 ≤ w ∧ w ≤ 1000000 := by decide
    exact all m hm
  have hml : m.length ≤ 5 := by
    have all : ∀ m ∈ menus, m.length ≤ 5 := by decide
    exact all m hm
  obtain ⟨s4, ys, g4, l4, p4, e4⟩ := lc_draw (t := Sh.tg (.n 5)) (el := dArg fn__law_of (aCons (dVar 0) (aCons (dVar 4) aNil))) (rest := rest) (P := fun y => ∃ w ∈ m, y = IV.int w)
    (ρ := [some (.loc 1), some (.int (n : Nat)), some (.int (r : Nat)), some (.int (1 + (k1 : Nat))), some (.fl (m.map .int)), none])
    (fun x s g => by
      obtain ⟨s', k, y, g', ey, e⟩ := of (rest := rest) (v := .fl (m.map .int)) (xs := m.map .int) g (fun _ => rfl) (by simpa using hmn) (by simp; omega)
      obtain ⟨w, hw, rfl⟩ := List.mem_map.mp (List.mem_of_getElem? ey)
      exact ⟨_, s', _, rfl, g', ⟨w, hw, rfl⟩, by simp only [sSeq, sAsg, sIf, sRet, sExp, dArg, dBin, dUn, dTst, dAndT, dOrT, dNotT, dIf, dAnd, dOr, dTup_eq, gateL_ok, gateT_ok, dFl, fLst_eq, fArg, aCons, aNil, dVar, dC, tgN, Sh.tg, Shs.tgs, tgT, tgsCons, tgsNil, Shs.len, bindO, List.getElem?_cons_zero, List.getElem?_cons_succ, List.set_cons_zero, List.set_cons_succ, List.length_cons, List.length_nil, List.map_cons, List.map_nil, List.cons_append, List.nil_append, List.replicate_succ, List.replicate_zero, Nat.reduceAdd, Nat.reduceSub, Nat.reduceEqDiff, if_true, Nat.reduceLeDiff, eqF_i, neF_i, addF_i, subF_i, gtF_i, ltF_i, ixF_seq, nox, wipeI, isN_non, isN_int, notN_non, notN_int, cond_true, cond_false, if_false, Bool.false_eq_true, e]⟩) (rgI 0 (1 + (k1 : Nat))) 0 s3 g3 (by rw [rgI_len]; omega)
  obtain ⟨ws, rfl, hws⟩ : ∃ ws : List Int, ys = ws.map .int ∧ ∀ w ∈ ws, w ∈ m := by
    clear e4 l4
    induction ys with
    | nil => exact ⟨[], rfl, by simp⟩
    | cons y r ih =>
      obtain ⟨w, hw, rfl⟩ := p4 y List.mem_cons_self
      obtain ⟨ws, e, h⟩ := ih fun z hz => p4 z (List.mem_cons_of_mem _ hz)
      refine ⟨w :: ws, by rw [e]; rfl, fun z hz => ?_⟩
      rcases List.mem_cons.mp hz with q | q
      · rw [q]; exact hw
      · exact h z q
  have lws : ws.length = 1 + k1 := by
    rw [List.length_map, rgI_len] at l4
    omega
  refine ⟨s4, .tup [.int ((1 + k3 : Nat) : Int), .tup (ws.map .int)], g4, ⟨1 + k3, ws, rfl, by omega, by omega, by omega, by omega, fun w hw => hmw w (hws w hw)⟩, ?_⟩
  have mn : ∀ ρ h, dFl (fLst (aCons (dFl (fLst (aCons (dC (.int 1)) aNil))) (aCons (dFl (fLst (aCons (dC (.int 1)) (aCons (dC (.int 2)) aNil)))) (aCons (dFl (fLst (aCons (dC (.int 1)) (aCons (dC (.int 3)) (aCons (dC (.int 3)) (aCons (dC (.int 9)) aNil)))))) (aCons (dFl (fLst (aCons (dC (.int 1)) (aCons (dC (.int 2)) (aCons (dC (.int 5)) (aCons (dC (.int 7)) (aCons (dBin powF (dC (.int 10)) (dC (.int 6))) aNil))))))) aNil))))) ρ h = .ok (.fl (menus.map fun m => .fl (m.map .int))) h := fun ρ h => by
    have pw : powF (.int 10) (.int 6) h = .ok (.int 1000000) h := rfl
    simp only [sSeq, sAsg, sIf, sRet, sExp, dArg, dBin, dUn, dTst, dAndT, dOrT, dNotT, dIf, dAnd, dOr, dTup_eq, gateL_ok, gateT_ok, dFl, fLst_eq, fArg, aCons, aNil, dVar, dC, tgN, Sh.tg, Shs.tgs, tgT, tgsCons, tgsNil, Shs.len, bindO, List.getElem?_cons_zero, List.getElem?_cons_succ, List.set_cons_zero, List.set_cons_succ, List.length_cons, List.length_nil, List.map_cons, List.map_nil, List.cons_append, List.nil_append, List.replicate_succ, List.replicate_zero, Nat.reduceAdd, Nat.reduceSub, Nat.reduceEqDiff, if_true, Nat.reduceLeDiff, eqF_i, neF_i, addF_i, subF_i, gtF_i, ltF_i, ixF_seq, nox, wipeI, isN_non, isN_int, notN_non, notN_int, cond_true, cond_false, if_false, Bool.false_eq_true, menus, pw]
  have rg : wRng1 (aCons (dVar 3) aNil) [some (.loc 1), some (.int (n : Nat)), some (.int (r : Nat)), some (.int (1 + (k1 : Nat))), some (.fl (m.map .int)), none] (mem s3 rest) = .ok (rgI 0 (1 + (k1 : Nat))) (mem s3 rest) := by
    have e : ((1 + k1 : Nat) : Int) = 1 + (k1 : Nat) := by omega
    have := rng1 (n := 1 + k1) (d := dVar 3) (ρ := [some (.loc 1), some (.int (n : Nat)), some (.int (r : Nat)), some (.int (1 + (k1 : Nat))), some (.fl (m.map .int)), none]) (h := mem s3 rest) (h1 := mem s3 rest) (by rw [e]; exact e_var rfl) (by omega)
    rw [e] at this
    exact this
  unfold fn__law_draw_yard
  refine fn_eq (ρ := [some (.loc 1), some (.int (n : Nat)), some (.int (r : Nat)), some (.int (1 + (k1 : Nat))), some (.fl (m.map .int)), none]) rfl ?_
  unfold d__law_draw_yard
  generalize fn__law_pick = fp at e1 e3 ⊢
  generalize fn__law_of = fo at e2 e4 ⊢
  generalize hmn' : dFl (fLst (aCons (dFl (fLst (aCons (dC (.int 1)) aNil))) _)) = mnu at mn ⊢
  have e5 : lcV (tgN 5) dYes (dArg fo (aCons (dVar 0) (aCons (dVar 4) aNil))) _ _ _ _ = _ := e4
  generalize hrg : wRng1 (aCons (dVar 3) aNil) = rgg at rg ⊢
  simp only [sSeq, sAsg, sIf, sRet, sExp, dArg, dBin, dUn, dTst, dAndT, dOrT, dNotT, dIf, dAnd, dOr, dTup_eq, gateL_ok, gateT_ok, dFl, fLst_eq, fArg, aCons, aNil, dVar, dC, tgN, Sh.tg, Shs.tgs, tgT, tgsCons, tgsNil, Shs.len, bindO, List.getElem?_cons_zero, List.getElem?_cons_succ, List.set_cons_zero, List.set_cons_succ, List.length_cons, List.length_nil, List.map_cons, List.map_nil, List.cons_append, List.nil_append, List.replicate_succ, List.replicate_zero, Nat.reduceAdd, Nat.reduceSub, Nat.reduceEqDiff, if_true, Nat.reduceLeDiff, eqF_i, neF_i, addF_i, subF_i, gtF_i, ltF_i, ixF_seq, nox, wipeI, isN_non, isN_int, notN_non, notN_int, cond_true, cond_false, if_false, Bool.false_eq_true, e1, mn, e2, e3, fLc, Option.bind_some, rg, e5, tupleF, seqOf, lstOf]
  rw [show ((1 + k3 : Nat) : Int) = 1 + (k3 : Nat) by omega]
end VI
end

section
/-! What a value tells as data, and how much of it there is. -/
namespace VI
open PySem PySem.Spec PyProof.Rows L2
structure Sz (h : Mem) (v : IV) (d : PyData) (k w : Nat) : Prop where
  see : ∀ n, k ≤ n → toD h n v = some d
  lay : d.canLay0 = true
  shw : d.showable = true
  dep : d.depth ≤ k
  wt : d.weight ≤ w
  sh : d.intsShort 13 = true
structure SzL (h : Mem) (vs : List IV) (ds : List PyData) (k w : Nat) : Prop where
  see : ∀ n, k ≤ n → allS (vs.map (toD h n)) = some ds
  lay : PyData.canLayAll0 ds = true
  shw : PyData.showableAll ds = true
  dep : PyData.depthAll ds ≤ k
  wt : PyData.weightAll ds ≤ w
  sh : PyData.intsShortAll 13 ds = true
section
variable {h : Mem} {v u : IV} {d e : PyData} {k w k' w' : Nat} {vs us : List IV} {ds es : List PyData}
theorem Sz.mono (s : Sz h v d k w) (hk : k ≤ k') (hw : w ≤ w') : Sz h v d k' w' := ⟨fun n hn => s.see n (Nat.le_trans hk hn), s.lay, s.shw, Nat.le_trans s.dep hk, Nat.le_trans s.wt hw, s.sh⟩
theorem SzL.mono (s : SzL h vs ds k w) (hk : k ≤ k') (hw : w ≤ w') : SzL h vs ds k' w' := ⟨fun n hn => s.see n (Nat.le_trans hk hn), s.lay, s.shw, Nat.le_trans s.dep hk, Nat.le_trans s.wt hw, s.sh⟩
theorem log2_lt {n : Nat} (h : n < 2 ^ 40) : n.log2 < 40 := by
  by_cases z : n = 0
  · subst z
    decide
  · exact (Nat.log2_lt z).mpr h
theorem Sz.int {i : Int} (hi : i.natAbs < 10 ^ 12) : Sz h (.int i) (.int i) 1 40 := by
  have e : (10 : Nat) ^ 12 = 1000000000000 := by decide
  have e2 : (2 : Nat) ^ 40 = 1099511627776 := by decide
  have hl : i.natAbs.log2 < 40 := log2_lt (by omega)
  refine ⟨fun n hn => ?_, ?_, ?_, ?_, ?_, ?_⟩
  · obtain ⟨m, rfl⟩ : ∃ m, n = m + 1 := ⟨n - 1, by omega⟩
    rfl
  · unfold PyData.canLay0; rfl
  · unfold PyData.showable
    rw [decide_eq_true_eq]
    omega
  · unfold PyData.depth
    omega
  · unfold PyData.weight
    split
    · omega
    · omega
  · unfold PyData.intsShort
    rw [decide_eq_true_eq]
    exact PyData.shown_int_le hi
theorem Sz.non : Sz h .non .none 1 40 := by
  refine ⟨fun n hn => ?_, ?_, ?_, ?_, ?_, ?_⟩
  · obtain ⟨m, rfl⟩ : ∃ m, n = m + 1 := ⟨n - 1, by omega⟩
    rfl
  · unfold PyData.canLay0; rfl
  · unfold PyData.showable; rfl
  · unfold PyData.depth
    omega
  · unfold PyData.weight
    omega
  · unfold PyData.intsShort; rfl
theorem SzL.nil : SzL h [] [] k 0 := by
  refine ⟨fun n hn => rfl, ?_, ?_, ?_, ?_, ?_⟩
  · unfold PyData.canLayAll0; rfl
  · unfold PyData.showableAll; rfl
  · unfold PyData.depthAll
    omega
  · unfold PyData.weightAll
    omega
  · unfold PyData.intsShortAll; rfl
theorem SzL.cons (s : Sz h v d k w) (t : SzL h vs ds k w') : SzL h (v :: vs) (d :: ds) k (w + 1 + w') := by
  refine ⟨fun n hn => ?_, ?_, ?_, ?_, ?_, ?_⟩
  · rw [List.map_cons, s.see n hn]
    unfold allS
    rw [t.see n hn]
  · unfold PyData.canLayAll0
    rw [s.lay, t.lay]
    rfl
  · unfold PyData.showableAll
    rw [s.shw, t.shw]
    rfl
  · unfold PyData.depthAll
    have := s.dep
    have := t.dep
    omega
  · unfold PyData.weightAll
    have := s.wt
    have := t.wt
    omega
  · unfold PyData.intsShortAll
    rw [s.sh, t.sh]
    rfl
theorem Sz.tup (t : SzL h vs ds k w) : Sz h (.tup vs) (.tuple ds) (k + 1) w := by
  refine ⟨fun n hn => ?_, ?_, ?_, ?_, ?_, ?_⟩
  · obtain ⟨m, rfl⟩ : ∃ m, n = m + 1 := ⟨n - 1, by omega⟩
    unfold toD
    simp only
    rw [t.see m (by omega)]
    rfl
  · unfold PyData.canLay0; exact t.lay
  · unfold PyData.showable; exact t.shw
  · unfold PyData.depth
    have := t.dep
    omega
  · unfold PyData.weight
    exact t.wt
  · unfold PyData.intsShort; exact t.sh
theorem Sz.lst0 {x : IV} (t : SzL h vs ds k w) (hx : ∀ n, k ≤ n → toD h (n + 1) x = (allS (vs.map (toD h n))).map .list) : Sz h x (.list ds) (k + 1) w := by
  refine ⟨fun n hn => ?_, ?_, ?_, ?_, ?_, ?_⟩
  · obtain ⟨m, rfl⟩ : ∃ m, n = m + 1 := ⟨n - 1, by omega⟩
    rw [hx m (by omega), t.see m (by omega)]
    rfl
  · unfold PyData.canLay0; exact t.lay
  · unfold PyData.showable; exact t.shw
  · unfold PyData.depth
    have := t.dep
    omega
  · unfold PyData.weight
    exact t.wt
  · unfold PyData.intsShort; exact t.sh
theorem Sz.fl (t : SzL h vs ds k w) : Sz h (.fl vs) (.list ds) (k + 1) w := Sz.lst0 t fun n _ => by
  rw [toD]
theorem Sz.loc {l : Nat} (e : h[l]? = some (.lst vs)) (t : SzL h vs ds k w) : Sz h (.loc l) (.list ds) (k + 1) w := Sz.lst0 t fun n _ => by
  rw [toD]
  simp only [e]
theorem SzL.map {α : Type} {f : α → IV} {g : α → PyData} : ∀ {l : List α}, (∀ a ∈ l, Sz h (f a) (g a) k w) → SzL h (l.map f) (l.map g) k ((w + 1) * l.length)
  | [], _ => by
    rw [List.length_nil, Nat.mul_zero]
    exact SzL.nil
  | a :: l, q => by
    rw [List.map_cons, List.map_cons, List.length_cons, Nat.mul_add, Nat.mul_one, Nat.add_comm ((w + 1) * l.length)]
    exact SzL.cons (q a List.mem_cons_self) (SzL.map fun b hb => q b (List.mem_cons_of_mem _ hb))
theorem SzL.ints {ns : List Int} (q : ∀ i ∈ ns, i.natAbs < 10 ^ 12) : SzL h (ns.map .int) (ns.map .int) 1 (41 * ns.length) := SzL.map fun i hi => Sz.int (q i hi)
theorem repr_ok (s : Sz h v d k w) (hk : k ≤ 60) (hw : w ≤ 1048576) : reprF [v] h = .ok (.str d.shown) h := by
  have hdp : d.depth ≤ 60 := Nat.le_trans s.dep hk
  have hlen : d.shown.length ≤ sizeLine := PyData.shown_fits (B := 13) (by decide) (by decide) (PyData.leavesShort_of_canLay0 13 d s.lay s.sh) (Nat.le_trans (Nat.le_trans s.wt hw) (by decide))
  have hdd : deep = 66 := rfl
  unfold reprF
  simp only
  rw [s.see deep (by omega)]
  simp only
  rw [s.shw, PyData.hasDict_of_canLay d s.lay, decide_eq_true hdp, decide_eq_true hlen]
  rfl
theorem shaped_ok (s : Sz h v d k w) (hk : k ≤ 60) : SeqAt.shaped d = true := by
  have hdp : d.depth ≤ 64 := by
    have := s.dep
    omega
  unfold SeqAt.shaped
  rw [s.lay, decide_eq_true hdp]
  rfl
theorem data_ok {g : PyData → PyData → Bool} (s : Sz h v d k w) (t : Sz h u e k' w') (hk : k ≤ 60) (hk' : k' ≤ 60) : dataF g v u h = .ok (.bl (g d e)) h := by
  have hdd : deep = 66 := rfl
  unfold dataF
  rw [s.see deep (by omega), t.see deep (by omega)]
  simp only
  rw [shaped_ok s hk, shaped_ok t hk']
  rfl
/-- a place's list against the empty one -/
theorem ne_nil {l : Nat} (hl : h[l]? = some (.lst vs)) (t : SzL h vs ds k w) (hk : k ≤ 59) : neF (.loc l) (.fl []) h = .ok (.bl (!vs.isEmpty)) h := by
  have e1 : neF (.loc l) (.fl []) h = dataF (fun d e => !PyData.eqv d e) (.loc l) (.fl []) h := rfl
  rw [e1, data_ok (Sz.loc hl t) (Sz.fl (SzL.nil (k := 0))) (by omega) (by decide)]
  have q := t.see k (Nat.le_refl _)
  cases vs with
  | nil =>
    have q' := Option.some.inj q
    subst q'
    rfl
  | cons x r =>
    have : ∃ d1 ds1, ds = d1 :: ds1 := by
      rw [List.map_cons] at q
      cases e2 : toD h k x with
      | none => rw [e2] at q; cases q
      | some d1 =>
        rw [e2] at q
        unfold allS at q
        cases e3 : allS (r.map (toD h k)) with
        | none => rw [e3] at q; cases q
        | some ds1 =>
          rw [e3] at q
          exact ⟨d1, ds1, (Option.some.inj q).symm⟩
    obtain ⟨d1, ds1, rfl⟩ := this
    rfl
theorem ne_nilF (t : SzL h vs ds k w) (hk : k ≤ 59) : neF (.fl vs) (.fl []) h = .ok (.bl (!vs.isEmpty)) h := by
  have e1 : neF (.fl vs) (.fl []) h = dataF (fun d e => !PyData.eqv d e) (.fl vs) (.fl []) h := rfl
  rw [e1, data_ok (Sz.fl t) (Sz.fl (SzL.nil (k := 0))) (by omega) (by decide)]
  have q := t.see k (Nat.le_refl _)
  cases vs with
  | nil =>
    have q' := Option.some.inj q
    subst q'
    rfl
  | cons x r =>
    have : ∃ d1 ds1, ds = d1 :: ds1 := by
      rw [List.map_cons] at q
      cases e2 : toD h k x with
      | none => rw [e2] at q; cases q
      | some d1 =>
        rw [e2] at q
        unfold allS at q
        cases e3 : allS (r.map (toD h k)) with
        | none => rw [e3] at q; cases q
        | some ds1 =>
          rw [e3] at q
          exact ⟨d1, ds1, (Option.some.inj q).symm⟩
    obtain ⟨d1, ds1, rfl⟩ := this
    rfl
end
end VI
end

section
namespace VI
open PySem PySem.Spec PyProof.Rows L2
def RqOk (n : Nat) (hs : List Nat) : Prop := hs.Pairwise (· < ·) ∧ ∀ k ∈ hs, k < n
def reqIV (hs : List Nat) : IV := .tup (hs.map fun k => .int (k : Nat))
def reqD (hs : List Nat) : PyData := .tuple (hs.map fun k => .int (k : Nat))
theorem asc_len {n : Nat} : ∀ (hs : List Nat) (a : Nat), hs.Pairwise (· < ·) → (∀ k ∈ hs, a ≤ k ∧ k < n) → hs.length ≤ n - a
  | [], a, _, _ => Nat.zero_le _
  | x :: r, a, p, b => by
    have hx := b x List.mem_cons_self
    have p' := List.pairwise_cons.mp p
    have := asc_len r (x + 1) p'.2 fun k hk => ⟨p'.1 k hk, (b k (List.mem_cons_of_mem _ hk)).2⟩
    rw [List.length_cons]
    omega
theorem RqOk.len {n : Nat} {hs : List Nat} (o : RqOk n hs) : hs.length ≤ n := asc_len hs 0 o.1 fun k hk => ⟨Nat.zero_le _, o.2 k hk⟩
theorem big12 : (10 : Nat) ^ 12 = 1000000000000 := by decide
theorem sz_req {h : Mem} {n : Nat} {hs : List Nat} (o : RqOk n hs) (hn : n ≤ 1000) : Sz h (reqIV hs) (reqD hs) 2 41000 := by
  have := o.len
  refine (Sz.tup (SzL.map (w := 40) fun k hk => Sz.int ?_)).mono (Nat.le_refl _) (by omega)
  have := o.2 k hk
  rw [big12]
  omega
theorem sz_reqs {h : Mem} {n : Nat} {rs : List (List Nat)} (o : ∀ r ∈ rs, RqOk n r) (hn : n ≤ 1000) : SzL h (rs.map reqIV) (rs.map reqD) 2 (41001 * rs.length) := SzL.map fun r hr => sz_req (o r hr) hn
theorem requestR {s : Src} {rest : Mem} {n : Nat} (g : s.Good) (hn0 : 0 < n) (hn : n ≤ 1000) :
    ∃ (s' : Src) (ext : Mem) (hs : List Nat), s'.Good ∧ RqOk n hs ∧ fn__law_draw_request [.loc 1, .int (n : Nat)] (mem s rest) = .ok (reqIV hs) (mem s' (rest ++ ext)) := by
  obtain ⟨s', ext, v, g', ⟨hs, rfl, a, b⟩, e⟩ := request (rest := rest) g hn0 hn
  exact ⟨s', ext, hs, g', ⟨a, b⟩, e⟩
theorem isL_mem {s : Src} {rest ext : Mem} {xs : List IV} {l : Nat} (hl : l = rest.length + 2) : isL (mem s (rest ++ .lst xs :: ext)) (.loc l) = true := by
  subst hl
  have : lstOf (mem s (rest ++ .lst xs :: ext)) (.loc (rest.length + 2)) = some xs := by
    show (match (mem s (rest ++ IO.lst xs :: ext))[rest.length + 2]? with
      | some (.lst xs) => some xs
      | _ => none) = _
    rw [mem_at]
  unfold isL
  rw [this]
  rfl
theorem seq_mem {s : Src} {rest ext : Mem} {xs : List IV} {l : Nat} (hl : l = rest.length + 2) : seqOf (mem s (rest ++ .lst xs :: ext)) (.loc l) = some xs := by
  subst hl
  show (match (mem s (rest ++ IO.lst xs :: ext))[rest.length + 2]? with
    | some (.lst xs) => some xs
    | _ => none) = _
  rw [mem_at]
theorem app_mem {s : Src} {rest ext : Mem} {xs : List IV} {y : IV} {l : Nat} (hl : l = rest.length + 2) (hx : xs.length ≤ 100000) : appF (.loc l) [y] (mem s (rest ++ .lst xs :: ext)) = .ok .non (mem s (rest ++ .lst (xs ++ [y]) :: ext)) := by
  subst hl
  unfold appF
  simp only [mem_at, decide_eq_true (sl_lt hx), cond_true, mem_set]
def rowBody : DenS := (sSeq (sAsg (tgN 5) (dAnd (dBin neF (dVar 3) (dFl (fLst aNil))) (dBin eqF (dArg fn__law_pick (aCons (dVar 0) (aCons (dC (.int 4)) aNil))) (dC (.int 0)))))
    (sExp (dML appF (dVar 3) (aCons (dIf (dTst (dVar 5)) (dArg fn__law_of (aCons (dVar 0) (aCons (dVar 3) aNil))) (dArg fn__law_draw_request (aCons (dVar 0) (aCons (dVar 1) aNil)))) aNil))))
theorem row_step {s : Src} {rest ext : Mem} {n : Nat} {rs : List (List Nat)} {m x : IV} {b : Option IV} (g : s.Good) (hn0 : 0 < n) (hn : n ≤ 1000) (hrs : ∀ r ∈ rs, RqOk n r) (hl : rs.length ≤ 50000) :
    ∃ (s' : Src) (ext' : Mem) (r : List Nat) (b' : IV), s'.Good ∧ RqOk n r ∧ rowBody [some (.loc 1), some (.int (n : Nat)), some m, some (.loc (rest.length + 2)), some x, b] (mem s (rest ++ .lst (rs.map reqIV) :: ext)) =
      .ok (.nx, [some (.loc 1), some (.int (n : Nat)), some m, some (.loc (rest.length + 2)), some x, some b']) (mem s' (rest ++ .lst ((rs ++ [r]).map reqIV) :: ext')) := by
  have ap : ∀ {s : Src} {ext : Mem} {y : IV}, appF (.loc (rest.length + 2)) [y] (mem s (rest ++ .lst (rs.map reqIV) :: ext)) = .ok .non (mem s (rest ++ .lst (rs.map reqIV ++ [y]) :: ext)) := app_mem rfl (by rw [List.length_map]; omega)
  have il : ∀ {s : Src} {ext : Mem}, isL (mem s (rest ++ .lst (rs.map reqIV) :: ext)) (.loc (rest.length + 2)) = true := isL_mem rfl
  have sq : ∀ s, seqOf (mem s (rest ++ .lst (rs.map reqIV) :: ext)) (.loc (rest.length + 2)) = some (rs.map reqIV) := fun s => seq_mem rfl
  have ne : neF (.loc (rest.length + 2)) (.fl []) (mem s (rest ++ .lst (rs.map reqIV) :: ext)) = .ok (.bl (!(rs.map reqIV).isEmpty)) (mem s (rest ++ .lst (rs.map reqIV) :: ext)) := ne_nil mem_at (sz_reqs hrs hn) (by decide)
  have mp : ∀ r, (rs ++ [r]).map reqIV = rs.map reqIV ++ [reqIV r] := fun r => by rw [List.map_append]; rfl
  by_cases h0 : rs = []
  · have ee : (rs.map reqIV).isEmpty = true := by rw [h0]; rfl
    obtain ⟨s1, ext1, r, g1, o1, e1⟩ := requestR (rest := rest ++ .lst (rs.map reqIV) :: ext) g hn0 hn
    rw [List.append_assoc, List.cons_append] at e1
    refine ⟨s1, ext ++ ext1, r, .bl false, g1, o1, ?_⟩
    rw [mp]
    rw [ee] at ne
    unfold rowBody
    generalize fn__law_draw_request = fr at e1 ⊢
    generalize fn__law_pick = fp
    generalize fn__law_of = fo
    simp only [sSeq, sAsg, sIf, sRet, sExp, dArg, dBin, dUn, dTst, dAndT, dOrT, dNotT, dIf, dAnd, dOr, dTup_eq, gateL_ok, gateT_ok, dFl, fLst_eq, fArg, aCons, aNil, dVar, dC, tgN, Sh.tg, Shs.tgs, tgT, tgsCons, tgsNil, Shs.len, bindO, List.getElem?_cons_zero, List.getElem?_cons_succ, List.set_cons_zero, List.set_cons_succ, List.length_cons, List.length_nil, List.map_cons, List.map_nil, List.cons_append, List.nil_append, List.replicate_succ, List.replicate_zero, Nat.reduceAdd, Nat.reduceSub, Nat.reduceEqDiff, if_true, Nat.reduceLeDiff, eqF_i, neF_i, addF_i, subF_i, gtF_i, ltF_i, ixF_seq, nox, wipeI, isN_non, isN_int, notN_non, notN_int, cond_true, cond_false, if_false, Bool.false_eq_true, ne, Bool.not_true, dML, il, e1, ap]
  · have ee : (rs.map reqIV).isEmpty = false := by
      cases rs with
      | nil => exact absurd rfl h0
      | cons _ _ => rfl
    rw [ee] at ne
    obtain ⟨s0, k, g0, e0, h0'⟩ := pickG (rest := rest ++ .lst (rs.map reqIV) :: ext) (m := 4) g (by decide)
    by_cases hk : k = 0
    · obtain ⟨s1, j, y, g1, ey, e1⟩ := of (rest := rest ++ .lst (rs.map reqIV) :: ext) (v := .loc (rest.length + 2)) (xs := rs.map reqIV) g0 sq (by
        intro z
        exact h0 (List.map_eq_nil_iff.mp z)) (by rw [List.length_map]; omega)
      obtain ⟨r, hr, rfl⟩ := List.mem_map.mp (List.mem_of_getElem? ey)
      refine ⟨s1, ext, r, .bl true, g1, hrs r hr, ?_⟩
      rw [mp]
      have hd : decide (((k : Nat) : Int) = 0) = true := decide_eq_true (by omega)
      unfold rowBody
      generalize fn__law_draw_request = fr
      generalize fn__law_pick = fp at e0 ⊢
      generalize fn__law_of = fo at e1 ⊢
      simp only [sSeq, sAsg, sIf, sRet, sExp, dArg, dBin, dUn, dTst, dAndT, dOrT, dNotT, dIf, dAnd, dOr, dTup_eq, gateL_ok, gateT_ok, dFl, fLst_eq, fArg, aCons, aNil, dVar, dC, tgN, Sh.tg, Shs.tgs, tgT, tgsCons, tgsNil, Shs.len, bindO, List.getElem?_cons_zero, List.getElem?_cons_succ, List.set_cons_zero, List.set_cons_succ, List.length_cons, List.length_nil, List.map_cons, List.map_nil, List.cons_append, List.nil_append, List.replicate_succ, List.replicate_zero, Nat.reduceAdd, Nat.reduceSub, Nat.reduceEqDiff, if_true, Nat.reduceLeDiff, eqF_i, neF_i, addF_i, subF_i, gtF_i, ltF_i, ixF_seq, nox, wipeI, isN_non, isN_int, notN_non, notN_int, cond_true, cond_false, if_false, Bool.false_eq_true, ne, Bool.not_false, dML, il, e0, hd, e1, ap]
    · obtain ⟨s1, ext1, r, g1, o1, e1⟩ := requestR (rest := rest ++ .lst (rs.map reqIV) :: ext) g0 hn0 hn
      rw [List.append_assoc, List.cons_append] at e1
      refine ⟨s1, ext ++ ext1, r, .bl false, g1, o1, ?_⟩
      rw [mp]
      have hd : decide (((k : Nat) : Int) = 0) = false := decide_eq_false (by omega)
      unfold rowBody
      generalize fn__law_draw_request = fr at e1 ⊢
      generalize fn__law_pick = fp at e0 ⊢
      generalize fn__law_of = fo
      simp only [sSeq, sAsg, sIf, sRet, sExp, dArg, dBin, dUn, dTst, dAndT, dOrT, dNotT, dIf, dAnd, dOr, dTup_eq, gateL_ok, gateT_ok, dFl, fLst_eq, fArg, aCons, aNil, dVar, dC, tgN, Sh.tg, Shs.tgs, tgT, tgsCons, tgsNil, Shs.len, bindO, List.getElem?_cons_zero, List.getElem?_cons_succ, List.set_cons_zero, List.set_cons_succ, List.length_cons, List.length_nil, List.map_cons, List.map_nil, List.cons_append, List.nil_append, List.replicate_succ, List.replicate_zero, Nat.reduceAdd, Nat.reduceSub, Nat.reduceEqDiff, if_true, Nat.reduceLeDiff, eqF_i, neF_i, addF_i, subF_i, gtF_i, ltF_i, ixF_seq, nox, wipeI, isN_non, isN_int, notN_non, notN_int, cond_true, cond_false, if_false, Bool.false_eq_true, ne, Bool.not_false, dML, il, e0, hd, e1, ap]
theorem row_loop {rest : Mem} {n : Nat} {m : IV} (hn0 : 0 < n) (hn : n ≤ 1000) : ∀ (items : List IV) (s : Src) (ext : Mem) (rs : List (List Nat)) (a b : Option IV), s.Good → (∀ r ∈ rs, RqOk n r) → rs.length + items.length ≤ 50000 →
    ∃ (s' : Src) (ext' : Mem) (rs' : List (List Nat)) (a' b' : Option IV), s'.Good ∧ (∀ r ∈ rs', RqOk n r) ∧ rs'.length = rs.length + items.length ∧ forV (Sh.tg (.n 4)) rowBody items [some (.loc 1), some (.int (n : Nat)), some m, some (.loc (rest.length + 2)), a, b] (mem s (rest ++ .lst (rs.map reqIV) :: ext)) =
      .ok (.nx, [some (.loc 1), some (.int (n : Nat)), some m, some (.loc (rest.length + 2)), a', b']) (mem s' (rest ++ .lst (rs'.map reqIV) :: ext'))
  | [], s, ext, rs, a, b, g, hrs, _ => ⟨s, ext, rs, a, b, g, hrs, rfl, rfl⟩
  | x :: items, s, ext, rs, a, b, g, hrs, hl => by
    rw [List.length_cons] at hl
    obtain ⟨s1, ext1, r, b1, g1, o1, e1⟩ := row_step (rest := rest) (ext := ext) (m := m) (x := x) (b := b) g hn0 hn hrs (by omega)
    obtain ⟨s2, ext2, rs2, a2, b2, g2, o2, l2, e2⟩ := row_loop hn0 hn items s1 ext1 (rs ++ [r]) (some x) (some b1) g1 (fun q hq => by
      rcases List.mem_append.mp hq with q1 | q1
      · exact hrs q q1
      · rw [List.mem_singleton.mp q1]; exact o1) (by rw [List.length_append]; simp; omega)
    refine ⟨s2, ext2, rs2, a2, b2, g2, o2, by rw [l2, List.length_append, List.length_cons]; simp; omega, ?_⟩
    unfold forV
    show (rowBody [some (.loc 1), some (.int (n : Nat)), some m, some (.loc (rest.length + 2)), some x, b] _).bind _ = _
    rw [e1, Ret.bind_ok]
    exact e2
theorem row {s : Src} {rest : Mem} {n most : Nat} (g : s.Good) (hn0 : 0 < n) (hn : n ≤ 1000) (hm : most ≤ 1000) :
    ∃ (s' : Src) (ext : Mem) (rs : List (List Nat)), s'.Good ∧ rs.length ≤ most ∧ (∀ r ∈ rs, RqOk n r) ∧ fn__law_draw_row [.loc 1, .int (n : Nat), .int (most : Nat)] (mem s rest) = .ok (.tup (rs.map reqIV)) (mem s' (rest ++ ext)) := by
  obtain ⟨s1, k, g1, e1, hk⟩ := pickG (rest := rest ++ [.lst []]) (m := ((most + 1 : Nat) : Int)) g (by omega)
  obtain ⟨s2, ext2, rs, a2, b2, g2, o2, l2, e2⟩ := row_loop (rest := rest) (m := .int (most : Nat)) hn0 hn (rgI 0 (k : Nat)) s1 [] [] none none g1 (by simp) (by rw [rgI_len]; simp; omega)
  rw [rgI_len] at l2
  refine ⟨s2, .lst (rs.map reqIV) :: ext2, rs, g2, by simp at l2; omega, o2, ?_⟩
  unfold fn__law_draw_row
  refine fn_eq (ρ := [some (.loc 1), some (.int (n : Nat)), some (.int (most : Nat)), some (.loc (rest.length + 2)), a2, b2]) rfl ?_
  have un : d__law_draw_row = sSeq (sAsg (tgN 3) (dAl (fLst aNil))) (sSeq (sFor (wRng1 (aCons (dArg fn__law_pick (aCons (dVar 0) (aCons (dBin addF (dVar 2) (dC (.int 1))) aNil))) aNil)) (Sh.tg (.n 4)) rowBody) (sRet (dArg tupleF (aCons (dVar 3) aNil)))) := rfl
  rw [un]
  have pk : dArg fn__law_pick (aCons (dVar 0) (aCons (dBin addF (dVar 2) (dC (.int 1))) aNil)) [some (.loc 1), some (.int (n : Nat)), some (.int (most : Nat)), some (.loc (rest.length + 2)), none, none] (mem s (rest ++ [.lst []])) = .ok (.int (k : Nat)) (mem s1 (rest ++ [.lst []])) := by
    rw [v_2 (e_var (v := .loc 1) rfl) (v_add (e_var (v := .int (most : Nat)) rfl) v_c)]
    exact e1
  have rg := rng1 pk (by omega)
  generalize (wRng1 (aCons (dArg fn__law_pick (aCons (dVar 0) (aCons (dBin addF (dVar 2) (dC (.int 1))) aNil))) aNil)) = rgg at rg ⊢
  generalize rowBody = rb at e2 ⊢
  have sq : seqOf (mem s2 (rest ++ .lst (rs.map reqIV) :: ext2)) (.loc (rest.length + 2)) = some (rs.map reqIV) := seq_mem rfl
  have e3 : forV (Sh.tg (.n 4)) rb (rgI 0 (k : Nat)) _ (mem s1 (rest ++ [.lst []])) = _ := e2
  generalize Sh.tg (.n 4) = tgg at e3 ⊢
  simp only [sSeq, sAsg, sIf, sRet, sExp, dArg, dBin, dUn, dTst, dAndT, dOrT, dNotT, dIf, dAnd, dOr, dTup_eq, gateL_ok, gateT_ok, dFl, fLst_eq, fArg, aCons, aNil, dVar, dC, tgN, Sh.tg, Shs.tgs, tgT, tgsCons, tgsNil, Shs.len, bindO, List.getElem?_cons_zero, List.getElem?_cons_succ, List.set_cons_zero, List.set_cons_succ, List.length_cons, List.length_nil, List.map_cons, List.map_nil, List.cons_append, List.nil_append, List.replicate_succ, List.replicate_zero, Nat.reduceAdd, Nat.reduceSub, Nat.reduceEqDiff, if_true, Nat.reduceLeDiff, eqF_i, neF_i, addF_i, subF_i, gtF_i, ltF_i, ixF_seq, nox, wipeI, isN_non, isN_int, notN_non, notN_int, cond_true, cond_false, if_false, Bool.false_eq_true, dAl, mem_len, mem_app, sFor, rg, e3, tupleF, sq]
end VI
end

section
namespace VI
open PySem PySem.Spec PyProof.Rows L2
theorem lc_typed {α : Type} {t : Tg} {tt : DenT} {el : Den} {ρ : Sl} {h : Mem} {emb : α → IV} {p : α → Bool} {g : α → IV} : ∀ (l : List α) (n : Nat), n + l.length ≤ 100000 →
    (∀ a ∈ l, ∃ ρ1, t (emb a) ρ = some ρ1 ∧ tt ρ1 h = .ok (p a) h ∧ (p a = true → el ρ1 h = .ok (g a) h)) → lcV t tt el ρ (l.map emb) n h = .ok ((l.filter p).map g) h
  | [], _, _, _ => rfl
  | x :: r, n, hn, hs => by
    obtain ⟨ρ1, e1, e2, e3⟩ := hs x List.mem_cons_self
    rw [List.length_cons] at hn
    rw [List.map_cons]
    unfold lcV
    rw [e1]
    simp only [e2, nox, Ret.bind_ok]
    cases hp : p x with
    | false =>
      rw [List.filter_cons_of_neg (by rw [hp]; exact Bool.false_ne_true)]
      simp only [Bool.false_eq_true, if_false]
      exact lc_typed r n (by omega) fun y hy => hs y (List.mem_cons_of_mem _ hy)
    | true =>
      rw [List.filter_cons_of_pos hp]
      simp only [if_true, e3 hp, nox, Ret.bind_ok, if_pos (sl_lt (show n ≤ 100000 by omega))]
      rw [lc_typed r (n + 1) (by omega) fun y hy => hs y (List.mem_cons_of_mem _ hy), Ret.bind_ok]
      rfl
def natIV (k : Nat) : IV := .int (k : Nat)
def giftIV : Option Nat → IV
  | none => .non
  | some k => .int (k : Nat)
def giftD : Option Nat → PyData
  | none => .none
  | some k => .int (k : Nat)
structure GInv (n c : Nat) (rs : List (List Nat)) (gs : List (Option Nat)) (ls : List Nat) : Prop where
  len : gs.length = rs.length
  inn : ∀ (i k : Nat), gs[i]? = some (some k) → ∃ hs, rs[i]? = some hs ∧ k ∈ hs
  ll : ls.length = n
  cn : ∀ j, j < n → ls[j]? = some (gs.count (some j))
  le : ∀ j, gs.count (some j) ≤ c
theorem GInv.addN {n c : Nat} {rs : List (List Nat)} {gs : List (Option Nat)} {ls : List Nat} (v : GInv n c rs gs ls) (hs : List Nat) : GInv n c (rs ++ [hs]) (gs ++ [.none]) ls := by
  have cz : ∀ j, (gs ++ [Option.none]).count (some j) = gs.count (some j) := fun j => by
    rw [List.count_append]
    simp
  refine ⟨by rw [List.length_append, List.length_append, v.len]; rfl, fun i k e => ?_, v.ll, fun j hj => by rw [cz]; exact v.cn j hj, fun j => by rw [cz]; exact v.le j⟩
  by_cases hi : i < gs.length
  · rw [List.getElem?_append_left hi] at e
    rw [List.getElem?_append_left (by rw [← v.len]; exact hi)]
    exact v.inn i k e
  · rw [List.getElem?_append_right (by omega)] at e
    cases hd : i - gs.length with
    | zero => rw [hd] at e; cases e
    | succ _ => rw [hd] at e; cases e
theorem GInv.addS {n c : Nat} {rs : List (List Nat)} {gs : List (Option Nat)} {ls : List Nat} (v : GInv n c rs gs ls) {hs : List Nat} {q l : Nat} (hq : q ∈ hs) (hn : q < n) (hl : ls[q]? = .some l) (hc : l < c) : GInv n c (rs ++ [hs]) (gs ++ [.some q]) (ls.set q (l + 1)) := by
  have cz : ∀ j, (gs ++ [Option.some q]).count (.some j) = gs.count (.some j) + if j = q then 1 else 0 := fun j => by
    rw [List.count_append, List.count_singleton]
    by_cases hj : j = q
    · subst hj
      simp
    · rw [if_neg hj, if_neg]
      intro z
      have := eq_of_beq z
      exact hj (Option.some.inj this).symm
  have hlq : l = gs.count (.some q) := by
    have := v.cn q hn
    rw [hl] at this
    exact Option.some.inj this
  refine ⟨by rw [List.length_append, List.length_append, v.len]; rfl, fun i k e => ?_, by rw [List.length_set]; exact v.ll, fun j hj => ?_, fun j => ?_⟩
  · by_cases hi : i < gs.length
    · rw [List.getElem?_append_left hi] at e
      rw [List.getElem?_append_left (by rw [← v.len]; exact hi)]
      exact v.inn i k e
    · rw [List.getElem?_append_right (by omega)] at e
      cases hd : i - gs.length with
      | zero =>
        rw [hd] at e
        have e' : q = k := by
          have := Option.some.inj e
          exact Option.some.inj this
        subst e'
        refine ⟨hs, ?_, hq⟩
        rw [List.getElem?_append_right (by rw [← v.len]; omega), ← v.len, hd]
        rfl
      | succ _ => rw [hd] at e; cases e
  · rw [cz]
    by_cases hjq : j = q
    · subst hjq
      rw [List.getElem?_set_self (by rw [v.ll]; exact hn), if_pos rfl, hlq]
    · rw [List.getElem?_set_ne (Ne.symm hjq), if_neg hjq]
      exact v.cn j hj
  · rw [cz]
    have := v.le j
    by_cases hjq : j = q
    · subst hjq
      rw [if_pos rfl]
      omega
    · rw [if_neg hjq]
      exact this
def opD : Den := (dFl (fLc (wSeq (dVar 5)) (Sh.tg (.n 8)) (dTst (dBin ltF (dBin ixF (dVar 3) (dVar 8)) (dBin ixF (dVar 1) (dC (.int 0))))) (dVar 8) [8]))
def giftsBody : DenS := (sSeq (sAsg (tgN 6) opD)
    (sSeq (sAsg (tgN 7) (dIf (dAndT (dTst (dBin neF (dVar 6) (dFl (fLst aNil)))) (dTst (dBin gtF (dArg fn__law_pick (aCons (dVar 0) (aCons (dC (.int 6)) aNil))) (dC (.int 0))))) (dArg fn__law_of (aCons (dVar 0) (aCons (dVar 6) aNil))) (dC .non)))
    (sSeq (sExp (dML appF (dVar 4) (aCons (dVar 7) aNil)))
    (sIf (dTst (dBin notNF (dVar 7) (dC .non))) (sPut (dVar 3) (dVar 7) (dBin addF (dBin ixF (dVar 3) (dVar 7)) (dC (.int 1)))) sNx))))
def yardIV (c : Nat) (ws : List Int) : IV := .tup [.int (c : Nat), .tup (ws.map .int)]
/-- the memory while gifts are drawn -/
def gm (s : Src) (rest : Mem) (ls : List Nat) (gs : List (Option Nat)) : Mem := mem s (rest ++ [.lst (ls.map natIV), .lst (gs.map giftIV)])
section
variable {s : Src} {rest : Mem} {ls : List Nat} {gs : List (Option Nat)}
theorem gm_app {y : Option Nat} (hx : gs.length ≤ 100000) : appF (.loc (rest.length + 3)) [giftIV y] (gm s rest ls gs) = .ok .non (gm s rest ls (gs ++ [y])) := by
  have := app_mem (s := s) (rest := rest ++ [.lst (ls.map natIV)]) (ext := []) (xs := gs.map giftIV) (y := giftIV y) (l := rest.length + 3) (by rw [List.length_append]; rfl) (by rw [List.length_map]; exact hx)
  rw [List.append_assoc, List.append_assoc] at this
  unfold gm
  rw [List.map_append]
  exact this
theorem gm_isL : isL (gm s rest ls gs) (.loc (rest.length + 3)) = true := by
  have := isL_mem (s := s) (rest := rest ++ [.lst (ls.map natIV)]) (ext := []) (xs := gs.map giftIV) (l := rest.length + 3) (by rw [List.length_append]; rfl)
  rw [List.append_assoc] at this
  exact this
theorem gm_seq : seqOf (gm s rest ls gs) (.loc (rest.length + 3)) = some (gs.map giftIV) := by
  have := seq_mem (s := s) (rest := rest ++ [.lst (ls.map natIV)]) (ext := []) (xs := gs.map giftIV) (l := rest.length + 3) (by rw [List.length_append]; rfl)
  rw [List.append_assoc] at this
  exact this
theorem gm_ix {q l : Nat} (hl : ls[q]? = some l) : ixF (.loc (rest.length + 2)) (.int (q : Nat)) (gm s rest ls gs) = .ok (.int (l : Nat)) (gm s rest ls gs) := by
  refine ix_seq' (xs := ls.map natIV) (seq_mem (ext := [.lst (gs.map giftIV)]) rfl) ?_
  rw [List.getElem?_map, hl]
  rfl
theorem gm_put {q l : Nat} (hq : q < ls.length) : putF (.loc (rest.length + 2)) (.int (q : Nat)) (.int (l : Nat)) (gm s rest ls gs) = .ok () (gm s rest (ls.set q l) gs) := by
  have e1 : (gm s rest ls gs)[rest.length + 2]? = some (.lst (ls.map natIV)) := mem_at
  have e2 : ixN (ls.map natIV).length ((q : Nat) : Int) = some q := ixN_nat (by rw [List.length_map]; exact hq)
  have e3 : (gm s rest ls gs).set (rest.length + 2) (.lst ((ls.map natIV).set q (.int (l : Nat)))) = gm s rest (ls.set q l) gs := by
    have := mem_set (s := s) (rest := rest) (o := .lst (ls.map natIV)) (p := .lst ((ls.map natIV).set q (.int (l : Nat)))) (ext := [.lst (gs.map giftIV)])
    refine Eq.trans this ?_
    unfold gm
    rw [List.map_set]
    rfl
  unfold putF
  simp only [e1, e2, e3]
theorem gm_ne {os : List Nat} {h : Mem} (hos : ∀ k ∈ os, k < 1000) : neF (.fl (os.map natIV)) (.fl []) h = .ok (.bl (!os.isEmpty)) h := by
  have := ne_nilF (h := h) (SzL.map (f := natIV) (g := fun k => .int (k : Nat)) (k := 1) (w := 40) (l := os) fun k hk => Sz.int (by
    have := hos k hk
    rw [big12]
    omega)) (by decide)
  rw [this]
  cases os <;> rfl
end
theorem gifts_step {s : Src} {rest : Mem} {n c : Nat} {ws : List Int} {rs : List (List Nat)} {hs : List Nat} {gs : List (Option Nat)} {ls : List Nat} {rv : IV} {a b d : Option IV} (g : s.Good) (hn : n ≤ 1000) (iv : GInv n c rs gs ls) (ro : RqOk n hs) (hl : gs.length ≤ 50000) :
    ∃ (s' : Src) (x : Option Nat) (ls' : List Nat) (a' b' : IV), s'.Good ∧ GInv n c (rs ++ [hs]) (gs ++ [x]) ls' ∧ giftsBody [some (.loc 1), some (yardIV c ws), some rv, some (.loc (rest.length + 2)), some (.loc (rest.length + 3)), some (reqIV hs), a, b, none] (gm s rest ls gs) =
      .ok (.nx, [some (.loc 1), some (yardIV c ws), some rv, some (.loc (rest.length + 2)), some (.loc (rest.length + 3)), some (reqIV hs), some a', some b', none]) (gm s' rest ls' (gs ++ [x])) := by
  have op : ∃ os : List Nat, os.length ≤ hs.length ∧ (∀ q ∈ os, q ∈ hs ∧ ∃ l, ls[q]? = some l ∧ l < c) ∧ opD [some (.loc 1), some (yardIV c ws), some rv, some (.loc (rest.length + 2)), some (.loc (rest.length + 3)), some (reqIV hs), a, b, none] (gm s rest ls gs) = .ok (.fl (os.map natIV)) (gm s rest ls gs) := by
    refine ⟨hs.filter fun q => decide (ls.getD q 0 < c), List.length_filter_le _ _, fun q hq => ?_, ?_⟩
    · obtain ⟨h1, h2⟩ := List.mem_filter.mp hq
      refine ⟨h1, ls[q]'(by rw [iv.ll]; exact ro.2 q h1), List.getElem?_eq_getElem _, ?_⟩
      have h3 := of_decide_eq_true h2
      rw [List.getD_eq_getElem?_getD, List.getElem?_eq_getElem (by rw [iv.ll]; exact ro.2 q h1)] at h3
      exact h3
    · have lc := lc_typed (t := tgN 8) (tt := dTst (dBin ltF (dBin ixF (dVar 3) (dVar 8)) (dBin ixF (dVar 1) (dC (.int 0))))) (el := dVar 8) (ρ := [some (.loc 1), some (yardIV c ws), some rv, some (.loc (rest.length + 2)), some (.loc (rest.length + 3)), some (reqIV hs), a, b, none])
        (h := gm s rest ls gs) (emb := natIV) (g := natIV) (p := fun q => decide (ls.getD q 0 < c)) hs 0 (by have := ro.len; omega) fun q hq => by
          have hl : ls[q]? = some (ls.getD q 0) := by
            rw [List.getD_eq_getElem?_getD, List.getElem?_eq_getElem (by rw [iv.ll]; exact ro.2 q hq)]
            rfl
          refine ⟨_, rfl, ?_, fun _ => rfl⟩
          have ix := gm_ix (s := s) (rest := rest) (gs := gs) hl
          have iy : ixF (yardIV c ws) (.int 0) (gm s rest ls gs) = .ok (.int (c : Nat)) (gm s rest ls gs) := rfl
          have dd : decide (((ls.getD q 0 : Nat) : Int) < ((c : Nat) : Int)) = decide (ls.getD q 0 < c) := by
            by_cases hc : ls.getD q 0 < c
            · rw [decide_eq_true hc, decide_eq_true (by omega)]
            · rw [decide_eq_false hc, decide_eq_false (by omega)]
          simp only [sSeq, sAsg, sIf, sRet, sExp, dArg, dBin, dUn, dTst, dAndT, dOrT, dNotT, dIf, dAnd, dOr, dTup_eq, gateL_ok, gateT_ok, dFl, fLst_eq, fArg, aCons, aNil, dVar, dC, tgN, Sh.tg, Shs.tgs, tgT, tgsCons, tgsNil, Shs.len, bindO, List.getElem?_cons_zero, List.getElem?_cons_succ, List.set_cons_zero, List.set_cons_succ, List.length_cons, List.length_nil, List.map_cons, List.map_nil, List.cons_append, List.nil_append, List.replicate_succ, List.replicate_zero, Nat.reduceAdd, Nat.reduceSub, Nat.reduceEqDiff, if_true, Nat.reduceLeDiff, eqF_i, neF_i, addF_i, subF_i, gtF_i, ltF_i, ixF_seq, nox, wipeI, isN_non, isN_int, notN_non, notN_int, cond_true, cond_false, if_false, Bool.false_eq_true, natIV, ix, iy, dd]
      unfold opD
      have rq : reqIV hs = .tup (hs.map natIV) := rfl
      rw [rq] at lc ⊢
      simp only [sSeq, sAsg, sIf, sRet, sExp, dArg, dBin, dUn, dTst, dAndT, dOrT, dNotT, dIf, dAnd, dOr, dTup_eq, gateL_ok, gateT_ok, dFl, fLst_eq, fArg, aCons, aNil, dVar, dC, tgN, Sh.tg, Shs.tgs, tgT, tgsCons, tgsNil, Shs.len, bindO, List.getElem?_cons_zero, List.getElem?_cons_succ, List.set_cons_zero, List.set_cons_succ, List.length_cons, List.length_nil, List.map_cons, List.map_nil, List.cons_append, List.nil_append, List.replicate_succ, List.replicate_zero, Nat.reduceAdd, Nat.reduceSub, Nat.reduceEqDiff, if_true, Nat.reduceLeDiff, eqF_i, neF_i, addF_i, subF_i, gtF_i, ltF_i, ixF_seq, nox, wipeI, isN_non, isN_int, notN_non, notN_int, cond_true, cond_false, if_false, Bool.false_eq_true, fLc, wSeq, lc]
  obtain ⟨os, hol, hos, eo⟩ := op
  have ne := gm_ne (os := os) (h := gm s rest ls gs) fun k hk => by
    have := ro.2 k (hos k hk).1
    omega
  have il : ∀ {s ls}, isL (gm s rest ls gs) (.loc (rest.length + 3)) = true := gm_isL
  have apn : ∀ {s ls}, appF (.loc (rest.length + 3)) [.non] (gm s rest ls gs) = .ok .non (gm s rest ls (gs ++ [none])) := gm_app (y := none) (by omega)
  have noneCase : ∀ {s1 : Src} {f : DenT}, s1.Good → f [some (.loc 1), some (yardIV c ws), some rv, some (.loc (rest.length + 2)), some (.loc (rest.length + 3)), some (reqIV hs), some (.fl (os.map natIV)), b, none] (gm s rest ls gs) = .ok false (gm s1 rest ls gs) →
      (sSeq (sAsg (tgN 6) opD) (sSeq (sAsg (tgN 7) (dIf f (dArg fn__law_of (aCons (dVar 0) (aCons (dVar 6) aNil))) (dC .non))) (sSeq (sExp (dML appF (dVar 4) (aCons (dVar 7) aNil)))
        (sIf (dTst (dBin notNF (dVar 7) (dC .non))) (sPut (dVar 3) (dVar 7) (dBin addF (dBin ixF (dVar 3) (dVar 7)) (dC (.int 1)))) sNx)))) [some (.loc 1), some (yardIV c ws), some rv, some (.loc (rest.length + 2)), some (.loc (rest.length + 3)), some (reqIV hs), a, b, none] (gm s rest ls gs) =
      .ok (.nx, [some (.loc 1), some (yardIV c ws), some rv, some (.loc (rest.length + 2)), some (.loc (rest.length + 3)), some (reqIV hs), some (.fl (os.map natIV)), some .non, none]) (gm s1 rest ls (gs ++ [none])) := fun {s1 f} g1 ef => by
    generalize fn__law_of = fo
    generalize opD = od at eo ⊢
    simp only [sSeq, sAsg, sIf, sRet, sExp, dArg, dBin, dUn, dTst, dAndT, dOrT, dNotT, dIf, dAnd, dOr, dTup_eq, gateL_ok, gateT_ok, dFl, fLst_eq, fArg, aCons, aNil, dVar, dC, tgN, Sh.tg, Shs.tgs, tgT, tgsCons, tgsNil, Shs.len, bindO, List.getElem?_cons_zero, List.getElem?_cons_succ, List.set_cons_zero, List.set_cons_succ, List.length_cons, List.length_nil, List.map_cons, List.map_nil, List.cons_append, List.nil_append, List.replicate_succ, List.replicate_zero, Nat.reduceAdd, Nat.reduceSub, Nat.reduceEqDiff, if_true, Nat.reduceLeDiff, eqF_i, neF_i, addF_i, subF_i, gtF_i, ltF_i, ixF_seq, nox, wipeI, isN_non, isN_int, notN_non, notN_int, cond_true, cond_false, if_false, Bool.false_eq_true, eo, ef, dML, il, apn, sNx]
  by_cases h0 : os = []
  · refine ⟨s, none, ls, .fl (os.map natIV), .non, g, iv.addN hs, ?_⟩
    refine noneCase (f := (dAndT (dTst (dBin neF (dVar 6) (dFl (fLst aNil)))) (dTst (dBin gtF (dArg fn__law_pick (aCons (dVar 0) (aCons (dC (.int 6)) aNil))) (dC (.int 0)))))) g ?_
    have ee : os.isEmpty = true := by rw [h0]; rfl
    rw [ee] at ne
    generalize fn__law_pick = fp
    simp only [sSeq, sAsg, sIf, sRet, sExp, dArg, dBin, dUn, dTst, dAndT, dOrT, dNotT, dIf, dAnd, dOr, dTup_eq, gateL_ok, gateT_ok, dFl, fLst_eq, fArg, aCons, aNil, dVar, dC, tgN, Sh.tg, Shs.tgs, tgT, tgsCons, tgsNil, Shs.len, bindO, List.getElem?_cons_zero, List.getElem?_cons_succ, List.set_cons_zero, List.set_cons_succ, List.length_cons, List.length_nil, List.map_cons, List.map_nil, List.cons_append, List.nil_append, List.replicate_succ, List.replicate_zero, Nat.reduceAdd, Nat.reduceSub, Nat.reduceEqDiff, if_true, Nat.reduceLeDiff, eqF_i, neF_i, addF_i, subF_i, gtF_i, ltF_i, ixF_seq, nox, wipeI, isN_non, isN_int, notN_non, notN_int, cond_true, cond_false, if_false, Bool.false_eq_true, ne, Bool.not_true]
  · have ee : os.isEmpty = false := by
      cases os with
      | nil => exact absurd rfl h0
      | cons _ _ => rfl
    rw [ee] at ne
    obtain ⟨s1, k, g1, e1, hk⟩ := pickG (rest := rest ++ [.lst (ls.map natIV), .lst (gs.map giftIV)]) (m := 6) g (by decide)
    have e1' : fn__law_pick [.loc 1, .int 6] (gm s rest ls gs) = .ok (.int (k : Nat)) (gm s1 rest ls gs) := e1
    have tt : (dAndT (dTst (dBin neF (dVar 6) (dFl (fLst aNil)))) (dTst (dBin gtF (dArg fn__law_pick (aCons (dVar 0) (aCons (dC (.int 6)) aNil))) (dC (.int 0))))) [some (.loc 1), some (yardIV c ws), some rv, some (.loc (rest.length + 2)), some (.loc (rest.length + 3)), some (reqIV hs), some (.fl (os.map natIV)), b, none] (gm s rest ls gs) = .ok (decide ((0 : Int) < (k : Nat))) (gm s1 rest ls gs) := by
      generalize fn__law_pick = fp at e1' ⊢
      simp only [sSeq, sAsg, sIf, sRet, sExp, dArg, dBin, dUn, dTst, dAndT, dOrT, dNotT, dIf, dAnd, dOr, dTup_eq, gateL_ok, gateT_ok, dFl, fLst_eq, fArg, aCons, aNil, dVar, dC, tgN, Sh.tg, Shs.tgs, tgT, tgsCons, tgsNil, Shs.len, bindO, List.getElem?_cons_zero, List.getElem?_cons_succ, List.set_cons_zero, List.set_cons_succ, List.length_cons, List.length_nil, List.map_cons, List.map_nil, List.cons_append, List.nil_append, List.replicate_succ, List.replicate_zero, Nat.reduceAdd, Nat.reduceSub, Nat.reduceEqDiff, if_true, Nat.reduceLeDiff, eqF_i, neF_i, addF_i, subF_i, gtF_i, ltF_i, ixF_seq, nox, wipeI, isN_non, isN_int, notN_non, notN_int, cond_true, cond_false, if_false, Bool.false_eq_true, ne, Bool.not_false, e1']
    by_cases hk0 : k = 0
    · rw [decide_eq_false (by omega)] at tt
      exact ⟨s1, none, ls, .fl (os.map natIV), .non, g1, iv.addN hs, noneCase g1 tt⟩
    · rw [decide_eq_true (by omega)] at tt
      obtain ⟨s2, j, y, g2, ey, e2⟩ := of (rest := rest ++ [.lst (ls.map natIV), .lst (gs.map giftIV)]) (v := .fl (os.map natIV)) (xs := os.map natIV) g1 (fun _ => rfl) (fun z => h0 (List.map_eq_nil_iff.mp z)) (by
        have hsub := ro.len
        rw [List.length_map]
        omega)
      obtain ⟨q, hq, rfl⟩ := List.mem_map.mp (List.mem_of_getElem? ey)
      obtain ⟨hqh, l, hql, hlc⟩ := hos q hq
      have hqn := ro.2 q hqh
      have e2' : fn__law_of [.loc 1, .fl (os.map natIV)] (gm s1 rest ls gs) = .ok (natIV q) (gm s2 rest ls gs) := e2
      refine ⟨s2, some q, ls.set q (l + 1), .fl (os.map natIV), natIV q, g2, iv.addS hqh hqn hql hlc, ?_⟩
      have aps : appF (.loc (rest.length + 3)) [.int (q : Nat)] (gm s2 rest ls gs) = .ok .non (gm s2 rest ls (gs ++ [some q])) := gm_app (y := some q) (by omega)
      have ix := gm_ix (s := s2) (rest := rest) (gs := gs ++ [some q]) hql
      have pt := gm_put (s := s2) (rest := rest) (gs := gs ++ [some q]) (ls := ls) (q := q) (l := l + 1) (by rw [iv.ll]; exact hqn)
      have ca : ((l + 1 : Nat) : Int) = (l : Nat) + 1 := by omega
      rw [ca] at pt
      unfold giftsBody
      unfold natIV at e2' ⊢
      unfold natIV at tt eo
      generalize (dAndT (dTst (dBin neF (dVar 6) (dFl (fLst aNil)))) (dTst (dBin gtF (dArg fn__law_pick (aCons (dVar 0) (aCons (dC (.int 6)) aNil))) (dC (.int 0))))) = ff at tt ⊢
      generalize fn__law_of = fo at e2' ⊢
      generalize opD = od at eo ⊢
      simp only [sSeq, sAsg, sIf, sRet, sExp, dArg, dBin, dUn, dTst, dAndT, dOrT, dNotT, dIf, dAnd, dOr, dTup_eq, gateL_ok, gateT_ok, dFl, fLst_eq, fArg, aCons, aNil, dVar, dC, tgN, Sh.tg, Shs.tgs, tgT, tgsCons, tgsNil, Shs.len, bindO, List.getElem?_cons_zero, List.getElem?_cons_succ, List.set_cons_zero, List.set_cons_succ, List.length_cons, List.length_nil, List.map_cons, List.map_nil, List.cons_append, List.nil_append, List.replicate_succ, List.replicate_zero, Nat.reduceAdd, Nat.reduceSub, Nat.reduceEqDiff, if_true, Nat.reduceLeDiff, eqF_i, neF_i, addF_i, subF_i, gtF_i, ltF_i, ixF_seq, nox, wipeI, isN_non, isN_int, notN_non, notN_int, cond_true, cond_false, if_false, Bool.false_eq_true, eo, tt, e2', dML, il, aps, sPut, ix, pt]
theorem gifts_loop {rest : Mem} {n c : Nat} {ws : List Int} {rv : IV} (hn : n ≤ 1000) : ∀ (todo done : List (List Nat)) (s : Src) (gs : List (Option Nat)) (ls : List Nat) (r a b : Option IV), s.Good → (∀ hs ∈ todo, RqOk n hs) → GInv n c done gs ls → gs.length + todo.length ≤ 50000 →
    ∃ (s' : Src) (gs' : List (Option Nat)) (ls' : List Nat) (r' a' b' : Option IV), s'.Good ∧ GInv n c (done ++ todo) gs' ls' ∧ forV (Sh.tg (.n 5)) giftsBody (todo.map reqIV) [some (.loc 1), some (yardIV c ws), some rv, some (.loc (rest.length + 2)), some (.loc (rest.length + 3)), r, a, b, none] (gm s rest ls gs) =
      .ok (.nx, [some (.loc 1), some (yardIV c ws), some rv, some (.loc (rest.length + 2)), some (.loc (rest.length + 3)), r', a', b', none]) (gm s' rest ls' gs')
  | [], done, s, gs, ls, r, a, b, g, _, iv, _ => ⟨s, gs, ls, r, a, b, g, by rw [List.append_nil]; exact iv, rfl⟩
  | hs :: todo, done, s, gs, ls, r, a, b, g, ok, iv, hl => by
    rw [List.length_cons] at hl
    obtain ⟨s1, x, ls1, a1, b1, g1, iv1, e1⟩ := gifts_step (ws := ws) (rv := rv) (rest := rest) (a := a) (b := b) (d := none) g hn iv (ok hs List.mem_cons_self) (by omega)
    obtain ⟨s2, gs2, ls2, r2, a2, b2, g2, iv2, e2⟩ := gifts_loop hn todo (done ++ [hs]) s1 (gs ++ [x]) ls1 (some (reqIV hs)) (some a1) (some b1) g1 (fun q hq => ok q (List.mem_cons_of_mem _ hq)) iv1 (by rw [List.length_append]; simp; omega)
    rw [List.append_assoc] at iv2
    refine ⟨s2, gs2, ls2, r2, a2, b2, g2, iv2, ?_⟩
    rw [List.map_cons]
    unfold forV
    show (giftsBody [some (.loc 1), some (yardIV c ws), some rv, some (.loc (rest.length + 2)), some (.loc (rest.length + 3)), some (reqIV hs), a, b, none] _).bind _ = _
    rw [e1, Ret.bind_ok]
    exact e2
theorem gifts {s : Src} {rest : Mem} {n c : Nat} {ws : List Int} {rs : List (List Nat)} (g : s.Good) (hw : ws.length = n) (hn : n ≤ 1000) (hrs : ∀ r ∈ rs, RqOk n r) (hl : rs.length ≤ 50000) :
    ∃ (s' : Src) (ext : Mem) (gs : List (Option Nat)) (ls : List Nat), s'.Good ∧ GInv n c rs gs ls ∧ fn__law_draw_gifts [.loc 1, yardIV c ws, .tup (rs.map reqIV)] (mem s rest) = .ok (.tup (gs.map giftIV)) (mem s' (rest ++ ext)) := by
  have iv0 : GInv n c [] [] (List.replicate n 0) := ⟨rfl, fun i k e => by simp at e, by rw [List.length_replicate], fun j hj => by rw [List.getElem?_replicate, if_pos hj]; rfl, fun j => by simp⟩
  obtain ⟨s1, gs, ls, r1, a1, b1, g1, iv, e⟩ := gifts_loop (rest := rest) (ws := ws) (rv := .tup (rs.map reqIV)) hn rs [] s [] (List.replicate n 0) none none none g hrs iv0 (by simp; omega)
  rw [List.nil_append] at iv
  refine ⟨s1, [.lst (ls.map natIV), .lst (gs.map giftIV)], gs, ls, g1, iv, ?_⟩
  unfold fn__law_draw_gifts
  refine fn_eq (ρ := [some (.loc 1), some (yardIV c ws), some (.tup (rs.map reqIV)), some (.loc (rest.length + 2)), some (.loc (rest.length + 3)), r1, a1, b1, none]) rfl ?_
  have un : d__law_draw_gifts = (sSeq (sAsg (Sh.tg (.t (.cons (.n 3) (.cons (.n 4) .nil)))) (dTup (aCons (dAl (fRep (dFl (fLst (aCons (dC (.int 0)) aNil))) (dArg lenF (aCons (dBin ixF (dVar 1) (dC (.int 1))) aNil)))) (aCons (dAl (fLst aNil)) aNil))))
    (sSeq (sFor (wSeq (dVar 2)) (Sh.tg (.n 5)) giftsBody) (sRet (dArg tupleF (aCons (dVar 4) aNil))))) := rfl
  rw [un]
  have rp : fRep (dFl (fLst (aCons (dC (.int 0)) aNil))) (dArg lenF (aCons (dBin ixF (dVar 1) (dC (.int 1))) aNil)) [some (.loc 1), some (yardIV c ws), some (.tup (rs.map reqIV)), none, none, none, none, none, none] (mem s rest) = .ok ((List.replicate n 0).map natIV) (mem s rest) := by
    have ix : ixF (yardIV c ws) (.int 1) (mem s rest) = .ok (.tup (ws.map .int)) (mem s rest) := rfl
    have ln : lenF [.tup (ws.map .int)] (mem s rest) = .ok (.int (n : Nat)) (mem s rest) := by
      show Ret.ok (IV.int ((ws.map IV.int).length : Nat)) (mem s rest) = _
      rw [List.length_map, hw]
    have c1 : (decide (-9223372036854775808 ≤ ((n : Nat) : Int)) && decide (((n : Nat) : Int) < 9223372036854775808) && decide ((([.int 0] : List IV).length * ((n : Nat) : Int).toNat ≤ sizeLine))) = true := by
      rw [Bool.and_eq_true, Bool.and_eq_true, decide_eq_true_eq, decide_eq_true_eq, decide_eq_true_eq]
      refine ⟨⟨by omega, by omega⟩, sl_le ?_⟩
      show 1 * ((n : Nat) : Int).toNat ≤ 100000
      omega
    have fl : (List.replicate ((n : Nat) : Int).toNat [IV.int 0]).flatten = (List.replicate n 0).map natIV := by
      rw [Int.toNat_natCast, List.map_replicate]
      clear iv0 e iv c1 ln hw hrs hn
      induction n with
      | zero => rfl
      | succ n ih => rw [List.replicate_succ, List.flatten_cons, ih]; rfl
    unfold fRep
    simp only [sSeq, sAsg, sIf, sRet, sExp, dArg, dBin, dUn, dTst, dAndT, dOrT, dNotT, dIf, dAnd, dOr, dTup_eq, gateL_ok, gateT_ok, dFl, fLst_eq, fArg, aCons, aNil, dVar, dC, tgN, Sh.tg, Shs.tgs, tgT, tgsCons, tgsNil, Shs.len, bindO, List.getElem?_cons_zero, List.getElem?_cons_succ, List.set_cons_zero, List.set_cons_succ, List.length_cons, List.length_nil, List.map_cons, List.map_nil, List.cons_append, List.nil_append, List.replicate_succ, List.replicate_zero, Nat.reduceAdd, Nat.reduceSub, Nat.reduceEqDiff, if_true, Nat.reduceLeDiff, eqF_i, neF_i, addF_i, subF_i, gtF_i, ltF_i, ixF_seq, nox, wipeI, isN_non, isN_int, notN_non, notN_int, cond_true, cond_false, if_false, Bool.false_eq_true, ix, ln, lstOf]
    generalize ((n : Nat) : Int) = j at c1 fl
    show (bif _ then Ret.ok _ (mem s rest) else .bad) = _
    simp only [List.length_cons, List.length_nil] at c1
    rw [c1, cond_true, fl]
  have e' : forV (tgN 5) giftsBody (rs.map reqIV) _ (mem s (rest ++ [.lst ((List.replicate n 0).map natIV), .lst []])) = .ok _ (gm s1 rest ls gs) := e
  generalize giftsBody = gb at e' ⊢
  have sq : seqOf (gm s1 rest ls gs) (.loc (rest.length + 3)) = some (gs.map giftIV) := gm_seq
  generalize fRep (dFl (fLst (aCons (dC (.int 0)) aNil))) (dArg lenF (aCons (dBin ixF (dVar 1) (dC (.int 1))) aNil)) = rpp at rp ⊢
  simp only [sSeq, sAsg, sIf, sRet, sExp, dArg, dBin, dUn, dTst, dAndT, dOrT, dNotT, dIf, dAnd, dOr, dTup_eq, gateL_ok, gateT_ok, dFl, fLst_eq, fArg, aCons, aNil, dVar, dC, tgN, Sh.tg, Shs.tgs, tgT, tgsCons, tgsNil, Shs.len, bindO, List.getElem?_cons_zero, List.getElem?_cons_succ, List.set_cons_zero, List.set_cons_succ, List.length_cons, List.length_nil, List.map_cons, List.map_nil, List.cons_append, List.nil_append, List.replicate_succ, List.replicate_zero, Nat.reduceAdd, Nat.reduceSub, Nat.reduceEqDiff, if_true, Nat.reduceLeDiff, eqF_i, neF_i, addF_i, subF_i, gtF_i, ltF_i, ixF_seq, nox, wipeI, isN_non, isN_int, notN_non, notN_int, cond_true, cond_false, if_false, Bool.false_eq_true, dAl, rp, mem_len, mem_app, List.length_append, List.append_assoc, Option.bind_some, sFor, wSeq, e', tupleF, sq]
  rfl
end VI
end

section
/-! isinstance, all, any, in, count; repr of data with empty dicts. -/
namespace VI
open PySem PySem.Spec PyProof.Rows L2
inductive Ty where
  | non | bl | int | str | tup | lst | dct
  deriving DecidableEq
def Ty.nm : Ty → String
  | .non => "NoneType"
  | .bl => "bool"
  | .int => "int"
  | .str => "str"
  | .tup => "tuple"
  | .lst => "list"
  | .dct => "dict"
def Ty.isi (a b : Ty) : Bool := decide (a = b) || (decide (a = .bl) && decide (b = .int))
theorem kit_isi {K : PySem.W.Frag} (a b : Ty) : PySem.W.kitOne K (.type a.nm) (.type b.nm) = some (a.isi b) := by
  refine kit_ty ?_
  cases a <;> cases b <;> decide +kernel
def tyN (h : Mem) : IV → Option Ty
  | .non => some .non
  | .bl _ => some .bl
  | .int _ => some .int
  | .str _ => some .str
  | .tup _ => some .tup
  | .fl _ => some .lst
  | .fz _ => some .lst
  | .loc l => match h[l]? with
    | some (.lst _) => some .lst
    | some (.dK _) => some .dct
    | some (.oth _) => none
    | none => none
section
variable {X : Cx} {E : XI} {e a b : Expr} {es : List Expr} {pos p tpos : Pos} {da db dc : Den} {K : PySem.W.Frag}
theorem tyN_ty {μ z : List Addr} {h : Mem} {H : Hp} {v : IV} {x : V} {t : Ty} (hr : HR K μ z h H) (vr : VR K μ z H v x) (e : tyN h v = some t) : TyX K H x (.type t.nm) := by
  cases vr with
  | non => cases Option.some.inj e; exact .base .non
  | bl b => cases Option.some.inj e; exact .base (.bl b)
  | int i => cases Option.some.inj e; exact .base (.int i)
  | str s => cases Option.some.inj e; exact .base (.str s)
  | tup hq r =>
    cases Option.some.inj e
    rcases hq with (hq | ⟨o, hq⟩) | ⟨o, its, n, hk, hc, _⟩
    · exact .base (.tup hq)
    · exact .fTuple hq
    · exact .kTuple hk hc
  | fl hq n m r => cases Option.some.inj e; exact .base (.lst hq)
  | fz hq r =>
    cases Option.some.inj e
    rcases hq with ⟨o, hq⟩ | ⟨o, its, n, hk, hc, _⟩
    · exact .base (.frz hq)
    · exact .kList hk hc
  | @loc a l hl =>
    have e' : (match h[l]? with
      | some (.lst _) => some Ty.lst
      | some (.dK _) => some Ty.dct
      | some (.oth _) => none
      | none => none) = some t := e
    cases eo : h[l]? with
    | none => rw [eo] at e'; cases e'
    | some o =>
      rw [eo] at e'
      obtain ⟨u, e3, r⟩ := hr.ob _ _ _ hl eo
      cases r with
      | lst r => cases Option.some.inj e'; exact .base (.lst e3)
      | dK r => cases Option.some.inj e'; exact .base (.dK e3)
      | oth r => cases e'
def isiF (T : Ty) : IV → Mem → Ret IV := fun v h => match tyN h v with
  | some t => .ok (.bl (t.isi T)) h
  | none => .bad
theorem bt_isinstance : bootBuiltins "isinstance" = some (.builtin "isinstance") := by decide +kernel
theorem r_isi {x : Str} {p2 : Pos} (T : Ty) (hg : Gl X "isinstance") (hm : X.mg "isinstance" = none) (hgT : Gl X x) (hmT : X.mg x = none) (hvT : bootBuiltins x = some (.type T.nm)) (ha : PE X a (tD X.K E da)) (hn : x ≠ "__name__" := by decide) (hd : (x == ("__debug__" : Str)) = false := by decide)
    (hs1 : starEach [.Name x p2] X.env = (false, eval (.Name x p2) X.env) :: starEach [] X.env := by rfl) (hs : starEach [a, .Name x p2] X.env = (false, eval a X.env) :: starEach [.Name x p2] X.env := by rfl) (hpl : (backTo pos (starEach [.Name x p2] X.env)).any (·.1) = false := by rfl) :
    PE X (.Call (.Name "isinstance" p) [a, .Name x p2] [] pos) (tD X.K E (dUn (isiF T) da)) := PE_imp (pe_callB call_isi hg hm bt_isinstance (pa_cons ha (pa_cons (pe_bltn (v := .ty T.nm) hgT hmT hvT rfl hn hd) pa_nil hs1) hs) (by decide) (by decide) hs hpl) (by
  rintro σ H Q ⟨μ, z, h, ρ, hr, er, p⟩
  refine tD_of hr er p.bind fun μ1 h1 H1 v w s1 hr1 p1 vr1 => ?_
  unfold isiF at p1
  cases e1 : tyN h1 v with
  | none => rw [e1] at p1; exact p1.elim
  | some t =>
    rw [e1] at p1
    exact ⟨w, .ty T.nm, _, _, t.isi T, rfl, .ty _, tyN_ty hr1 vr1 e1, kit_isi t T, p1 μ1 H1 Step.refl hr1 _ (.bl _)⟩)

/-! ### all, any -/
def boolsF (g : List Bool → Bool) : List IV → Mem → Ret IV := fun vs h => match vs with
  | [v] => match (lsq h v).bind fun xs => allS (xs.map asB) with
    | some ns => .ok (.bl (g ns)) h
    | none => .bad
  | _ => .bad
theorem bools_at {μ z : List Addr} {H : Hp} {h : Mem} {v : IV} {x : V} {ns : List Bool} (hr : HR K μ z h H) (vr : VR K μ z H v x) (e : ((lsq h v).bind fun xs => allS (xs.map asB)) = some ns) : ∃ a, x = .ref a ∧ SqL K H a (ns.map V.bl) := by
  obtain ⟨xs, e1, e2⟩ := Option.bind_eq_some_iff.mp e
  obtain ⟨a, ws, ex, hq, r⟩ := lsq_H hr vr e1
  rw [bls_of e2] at r
  rw [r.bls] at hq
  exact ⟨a, ex, hq⟩
theorem rc_bools {g : List Bool → Bool} : RC K (fun vs H Q => ∃ (a : Addr) (bs : List Bool), vs = [V.ref a] ∧ SqL K H a (bs.map V.bl) ∧ Q (.bl (g bs)) H) (boolsF g) := by
  intro E μ z h H vs xs Q hr vr p
  cases vr with
  | nil => exact p.elim
  | @cons v x vs xs v1 t =>
    cases t with
    | cons _ _ => exact p.elim
    | nil =>
      unfold boolsF at p
      simp only at p
      cases e1 : (lsq h v).bind fun xs => allS (xs.map asB) with
      | none => rw [e1] at p; exact p.elim
      | some ns =>
        rw [e1] at p
        obtain ⟨a, ex, hq⟩ := bools_at hr v1 e1
        subst ex
        exact ⟨a, ns, rfl, hq, p μ H Step.refl hr _ (.bl _)⟩
def allF := boolsF fun bs => bs.all id
def anyF := boolsF fun bs => bs.any id
theorem rc_all : RC K (rAll K) allF := rc_bools
theorem rc_any : RC K (rAny K) anyF := rc_bools
theorem bt_all : bootBuiltins "all" = some (.builtin "all") := by decide +kernel
theorem bt_any : bootBuiltins "any" = some (.builtin "any") := by decide +kernel

/-! ### in, count -/
def flatI : IV → Bool
  | .non => true
  | .bl _ => true
  | .int _ => true
  | .str _ => true
  | _ => false
def eqI : IV → IV → Bool
  | .non, .non => true
  | .bl a, .bl b => a == b
  | .bl a, .int b => (if a then 1 else 0) == b
  | .int a, .bl b => a == (if b then 1 else 0)
  | .int a, .int b => a == b
  | .str a, .str b => a == b
  | _, _ => false
theorem flat_rel {μ z : List Addr} {H : Hp} {v : IV} {x : V} (vr : VR K μ z H v x) (f : flatI v = true) : flatV x = true := by
  cases vr with
  | non => rfl
  | bl _ => rfl
  | int _ => rfl
  | str _ => rfl
  | _ => cases f
theorem flat_all {μ z : List Addr} {H : Hp} : ∀ {vs : List IV} {xs : List V}, VRs K μ z H vs xs → vs.all flatI = true → xs.all flatV = true
  | _, _, .nil, _ => rfl
  | _, _, .cons r t, f => by
    rw [List.all_cons, Bool.and_eq_true] at f ⊢
    exact ⟨flat_rel r f.1, flat_all t f.2⟩
theorem eq_rel {μ z : List Addr} {H : Hp} {v u : IV} {x y : V} (r1 : VR K μ z H v x) (r2 : VR K μ z H u y) (f1 : flatI v = true) (f2 : flatI u = true) : eqV x y = eqI v u := by
  cases r1 with
  | non => cases r2 <;> first | rfl | cases f2
  | bl _ => cases r2 <;> first | rfl | cases f2
  | int _ => cases r2 <;> first | rfl | cases f2
  | str _ => cases r2 <;> first | rfl | cases f2
  | _ => cases f1
theorem anyI_rel {μ z : List Addr} {H : Hp} {u : IV} {y : V} (r2 : VR K μ z H u y) (f2 : flatI u = true) : ∀ {vs : List IV} {xs : List V}, VRs K μ z H vs xs → vs.all flatI = true → (xs.any fun x => eqV x y) = vs.any fun v => eqI v u
  | _, _, .nil, _ => rfl
  | _, _, .cons r t, f => by
    rw [List.all_cons, Bool.and_eq_true] at f
    rw [List.any_cons, List.any_cons, eq_rel r r2 f.1 f2, anyI_rel r2 f2 t f.2]
theorem count_rel {μ z : List Addr} {H : Hp} {u : IV} {y : V} (r2 : VR K μ z H u y) (f2 : flatI u = true) : ∀ {vs : List IV} {xs : List V}, VRs K μ z H vs xs → vs.all flatI = true → (xs.countP fun x => eqV x y) = vs.countP fun v => eqI v u
  | _, _, .nil, _ => rfl
  | _, _, .cons r t, f => by
    rw [List.all_cons, Bool.and_eq_true] at f
    rw [List.countP_cons, List.countP_cons, eq_rel r r2 f.1 f2, count_rel r2 f2 t f.2]
def inG (neg : Bool) : IV → IV → Mem → Ret IV := fun v u h => match seqOf h u with
  | some xs => bif flatI v && xs.all flatI then .ok (.bl (if neg then !(xs.any fun y => eqI y v) else xs.any fun y => eqI y v)) h else .bad
  | none => .bad
def inF := inG false
def notInF := inG true
theorem rb_inG {neg : Bool} : RB K (rIn K neg) (inG neg) := by
  intro E μ z h H v u x y Q hr v1 v2 p
  unfold inG at p
  cases e1 : seqOf h u with
  | none => rw [e1] at p; exact p.elim
  | some xs =>
    rw [e1] at p
    simp only at p
    cases ec : flatI v && xs.all flatI with
    | false => simp only [ec, cond_false] at p; exact p.elim
    | true =>
      simp only [ec, cond_true] at p
      rw [Bool.and_eq_true] at ec
      obtain ⟨a, ws, ex, hq, r⟩ := seqOf_H hr v2 e1
      refine ⟨a, ws, ex, hq, flat_rel v1 ec.1, flat_all r ec.2, ?_⟩
      have q := p μ H Step.refl hr _ (.bl _)
      unfold inV
      rw [anyI_rel v1 ec.1 r ec.2]
      exact q
theorem rb_in : RB K (rIn K false) inF := rb_inG
theorem rb_notIn : RB K (rIn K true) notInF := rb_inG
/-- list.count of flat things -/
def rCntF (K : PySem.W.Frag) : V → List V → Hp → VK → Prop := fun x xs H Q => ∃ (p : Addr) (ys : List V) (k : V), x = .ref p ∧ xs = [k] ∧ SqL K H p ys ∧ flatV k = true ∧ ys.all flatV = true ∧ Q (.int (ys.countP fun y => eqV y k : Nat)) H
theorem countP_eqU {x : V} : ∀ {xs : List V} {us : List Value}, Vals xs us → xs.all flatV = true → us.countP (eqU x) = xs.countP fun y => eqV y x
  | _, _, .nil, _ => rfl
  | y :: xs, u :: us, .cons r t, f => by
    rw [List.all_cons, Bool.and_eq_true] at f
    rw [List.countP_cons, List.countP_cons, eqU_of r f.1, countP_eqU t f.2]
theorem mt_cntF : MtR X "list.count" (rCntF X.K) := by
  intro pins s σ H x xs v us Q I rx rxs h
  obtain ⟨p, ys, k, rfl, rfl, hs, fk, fs, q⟩ := h
  cases rx
  obtain ⟨u, rfl, ru⟩ := rxs.one
  obtain ⟨its, rv, ⟨⟨cls, dd, data, sl⟩, n, ho, hc, hdn, hd⟩, hlen⟩ := I.list hs
  simp only at hc hd
  subst hc hd
  refine call_meets PySem.F.slot_list_count ⟨_, ho, rfl⟩ PySem.F.entry_list_count (PySem.F.args_list_count_2 _ _)
    (SeqAt.list_countAt p its.toArray n dd sl u (eqU k)) ⟨ho, fun y hy => mem_eqAt ru fk rv fs y (by simpa using hy), ?_⟩
  have ec : its.toArray.toList.countP (eqU k) = ys.countP fun y => eqV y k := countP_eqU rv fs
  refine ⟨.int (ys.countP fun y => eqV y k : Nat), H, I.tok _, ⟨s.toks, ?_⟩, q⟩
  show Value.int ((its.toArray.toList.countP (eqU k) : Nat) : Int) s.toks = Value.int ((ys.countP fun y => eqV y k : Nat) : Int) s.toks
  rw [ec]
def countF : IV → List IV → Mem → Ret IV := fun v vs h => match vs with
  | [k] => match lsq h v with
    | some xs => bif flatI k && xs.all flatI then .ok (.int (xs.countP fun y => eqI y k : Nat)) h else .bad
    | none => .bad
  | _ => .bad
theorem rm_count : RM K (rCntF K) countF := by
  intro E μ z h H v vs x xs Q hr vr rs p
  cases rs with
  | nil => exact p.elim
  | @cons k y vs xs v1 t =>
    cases t with
    | cons _ _ => exact p.elim
    | nil =>
      unfold countF at p
      simp only at p
      cases e1 : lsq h v with
      | none => rw [e1] at p; exact p.elim
      | some ys =>
        rw [e1] at p
        simp only at p
        cases ec : flatI k && ys.all flatI with
        | false => simp only [ec, cond_false] at p; exact p.elim
        | true =>
          simp only [ec, cond_true] at p
          rw [Bool.and_eq_true] at ec
          obtain ⟨a, ws, ex, hq, r⟩ := lsq_H hr vr e1
          refine ⟨a, ws, y, ex, rfl, hq, flat_rel v1 ec.1, flat_all r ec.2, ?_⟩
          have q := p μ H Step.refl hr _ (.int _)
          rw [count_rel v1 ec.1 r ec.2]
          exact q
end
end VI
end

section
/-! in a dict, get; in of anything. -/
namespace VI
open PySem PySem.Spec PyProof.Rows L2
section
variable {X : Cx} {E : XI} {e a b c : Expr} {es : List Expr} {pos p tpos apos : Pos} {da db dc : Den} {K : PySem.W.Frag}
theorem val_none {μ z : List Addr} {H : Hp} {k : Key} : ∀ {kvs : List (Key × IV)} {ws : List (Key × V)}, KRs K μ z H kvs ws → valI kvs k = none → valV ws k = none
  | [], _, .nil, _ => rfl
  | (j, x) :: r, _, .cons (v := w) vr t, e => by
    unfold valI at e
    rw [List.find?_cons] at e
    by_cases hj : j = k
    · subst hj
      simp only [decide_true] at e
      cases e
    · simp only [decide_eq_false hj] at e
      rw [valV_neg hj]
      exact val_none t e
/-- what a dict has at a key -/
def lookI (h : Mem) (o i : IV) : Option (Option IV) := match o with
  | .loc l => (match h[l]?, keyI i with
    | some (.dK kvs), some k => some (valI kvs k)
    | _, _ => none)
  | _ => none
theorem look_rel {μ z : List Addr} {H : Hp} {h : Mem} {o i : IV} {x y : V} {r : Option IV} (hr : HR K μ z h H) (v1 : VR K μ z H o x) (v2 : VR K μ z H i y) (e : lookI h o i = some r) :
    ∃ (a : Addr) (w : Option V), x = .ref a ∧ DGet H a y w ∧ IsD H a ∧ w.isSome = r.isSome ∧ (∀ u, r = some u → ∃ t, w = some t ∧ VR K μ z H u t) := by
  cases v1 with
  | @loc a l hl =>
    have e' : (match h[l]?, keyI i with
      | some (.dK kvs), some k => some (valI kvs k)
      | _, _ => none) = some r := e
    cases eo : h[l]? with
    | none => rw [eo] at e'; cases e'
    | some o =>
      cases o with
      | lst _ => rw [eo] at e'; cases e'
      | oth _ => rw [eo] at e'; cases e'
      | dK kvs =>
        cases ek : keyI i with
        | none => rw [eo, ek] at e'; cases e'
        | some k =>
          rw [eo, ek] at e'
          have e2 : valI kvs k = r := Option.some.inj e'
          subst e2
          obtain ⟨ws, e3, q⟩ := at_dK hr hl eo
          refine ⟨a, valV ws k, rfl, ?_, .inl ⟨ws, .inl e3⟩, ?_, fun u hu => ?_⟩
          · rw [key_rel v2 ek]
            exact DGet.k e3
          · cases ev : valI kvs k with
            | none => rw [val_none q ev]; rfl
            | some u =>
              obtain ⟨t, e4, _⟩ := val_rel q ev
              rw [e4]
              rfl
          · obtain ⟨t, e4, vr⟩ := val_rel q hu
            exact ⟨t, e4, vr⟩
  | _ => cases e
/-- in a dict, or a sequence of flat things -/
def inA (neg : Bool) : IV → IV → Mem → Ret IV := fun v u h => match lookI h u v with
  | some r => .ok (.bl (if neg then !r.isSome else r.isSome)) h
  | none => inG neg v u h
def rDIn (neg : Bool) : R2 := fun y x H Q => ∃ a o, x = .ref a ∧ DGet H a y o ∧ Q (.bl (if neg then !o.isSome else o.isSome)) H
theorem op_din (hu : X.A.units + 1 < cLine) : OpR X (compareOp .In) (rDIn false) := by
  intro pins s σ H y x iv u Q I ry rx h
  obtain ⟨a, o, rfl, g, q⟩ := h
  obtain rfl : u = Value.ref a := rx
  exact d_in hu I g ry fun s3 I3 => ⟨.bl o.isSome, H, I3, rfl, q⟩
theorem op_dnotin (hu : X.A.units + 1 < cLine) : OpR X (compareOp .NotIn) (rDIn true) := by
  intro pins s σ H y x iv u Q I ry rx h
  obtain ⟨a, o, rfl, g, q⟩ := h
  obtain rfl : u = Value.ref a := rx
  exact d_notIn hu I g ry fun s3 I3 => ⟨.bl (!o.isSome), H, I3, rfl, q⟩
def rInA (K : PySem.W.Frag) (neg : Bool) : R2 := fun x y H Q => rIn K neg x y H Q ∨ rDIn neg x y H Q
theorem op_inA (hu : X.A.units + 1 < cLine) : OpR X (compareOp .In) (rInA X.K false) := op_in_seq.or (op_din hu)
theorem op_notInA (hu : X.A.units + 1 < cLine) : OpR X (compareOp .NotIn) (rInA X.K true) := op_notIn_seq.or (op_dnotin hu)
theorem rb_inA {neg : Bool} : RB K (rInA K neg) (inA neg) := by
  intro E μ z h H v u x y Q hr v1 v2 p
  unfold inA at p
  cases e1 : lookI h u v with
  | none =>
    rw [e1] at p
    exact .inl (rb_inG E μ z h H v u x y Q hr v1 v2 p)
  | some r =>
    rw [e1] at p
    obtain ⟨a, w, ex, g, _, e2, _⟩ := look_rel hr v2 v1 e1
    refine .inr ⟨a, w, ex, g, ?_⟩
    rw [e2]
    exact p μ H Step.refl hr _ (.bl _)
/-- d.get(k, x) -/
def dGet2 (d di de : Den) : Den := fun ρ h => (d ρ h).bind fun o h1 => (di ρ h1).bind fun i h2 => (de ρ h2).bind fun v h3 => match lookI h3 o i with
  | some r => .ok (r.getD v) h3
  | none => .bad
def isD (h : Mem) (o : IV) : Bool := match o with
  | .loc l => (match h[l]? with
    | some (.dK _) => true
    | _ => false)
  | _ => false
theorem isD_of {μ z : List Addr} {H : Hp} {h : Mem} {o i : IV} {x : V} {r : Option IV} (hr : HR K μ z h H) (v1 : VR K μ z H o x) (e : isD h o = true) : ∃ a, x = .ref a ∧ IsD H a := by
  cases v1 with
  | @loc a l hl =>
    have e' : (match h[l]? with
      | some (.dK _) => true
      | _ => false) = true := e
    cases eo : h[l]? with
    | none => rw [eo] at e'; cases e'
    | some o =>
      cases o with
      | lst _ => rw [eo] at e'; cases e'
      | oth _ => rw [eo] at e'; cases e'
      | dK kvs =>
        obtain ⟨ws, e3, q⟩ := at_dK hr hl eo
        exact ⟨a, rfl, .inl ⟨ws, .inl e3⟩⟩
  | _ => cases e
/-- d.get(k, x), the dict told first -/
def dGetD (d di de : Den) : Den := fun ρ h => (d ρ h).bind fun o h1 => bif isD h1 o then (di ρ h1).bind fun i h2 => (de ρ h2).bind fun v h3 => (match lookI h3 o i with
  | some r => .ok (r.getD v) h3
  | none => .bad) else .bad
theorem r_get2 {cpos : Pos} (hu : X.A.units + 1 < cLine) (ha : PE X a (tD X.K E da)) (hb : PE X b (tD X.K E db)) (hc : PE X c (tD X.K E dc)) (m : M2 X a "get" apos b c cpos) : PE X (.Call (.Attribute a "get" apos) [b, c] [] cpos) (tD X.K E (dGetD da db dc)) := PE_imp (pe_dget2 hu ha hb hc m) (by
  rintro σ H Q ⟨μ, z, h, ρ, hr, er, p⟩
  refine tD_of hr er p.bind fun μ1 h1 H1 o x s1 hr1 p1 vr1 => ?_
  cases e0 : isD h1 o with
  | false => simp only [e0, cond_false] at p1; exact p1.elim
  | true =>
    simp only [e0, cond_true] at p1
    obtain ⟨a, ex, da⟩ := isD_of (i := .non) (r := none) hr1 vr1 e0
    subst ex
    refine ⟨a, rfl, da, ?_⟩
    refine tD_of hr1 (er.step s1) p1.bind fun μ2 h2 H2 i y s2 hr2 p2 vr2 => ?_
    refine tD_of hr2 ((er.step s1).step s2) p2.bind fun μ3 h3 H3 v t s3 hr3 p3 vr3 => ?_
    cases e1 : lookI h3 o i with
    | none => rw [e1] at p3; exact p3.elim
    | some r =>
      rw [e1] at p3
      obtain ⟨a', w, ex, g, _, e2, e4⟩ := look_rel hr3 ((vr1.step s2).step s3) (vr2.step s3) e1
      cases ex
      refine ⟨w, g, ?_⟩
      cases r with
      | none =>
        have : w = none := by
          cases w with
          | none => rfl
          | some _ => cases e2
        subst this
        exact p3 μ3 H3 Step.refl hr3 _ vr3
      | some u =>
        obtain ⟨t', e5, vr5⟩ := e4 u rfl
        subst e5
        exact p3 μ3 H3 Step.refl hr3 _ vr5)
end
end VI
end

section
/-! Empty dicts, and repr of data that holds such. -/
namespace VI
open PySem PySem.Spec PyProof.Rows L2
section
variable {X : Cx} {E : XI} {e a b c : Expr} {es : List Expr} {pos p tpos apos : Pos} {da db dc : Den} {K : PySem.W.Frag}
/-- {} -/
def dNew : Den := fun _ h => .ok (.loc h.length) (h ++ [.dK []])
theorem r_dnew : PE X (.Dict [] [] pos) (tD X.K E dNew) := PE_imp pe_dnewK (by
  rintro σ H Q ⟨μ, z, h, ρ, hr, er, p⟩ q nq
  have nz : q ∉ z := (hr.fresh nq).2
  have nm : q ∉ μ := (hr.fresh nq).1
  refine p (μ ++ [q]) _ ((Step.new nq).alloc nq nm) ((hr.hideNew nq).unhide nz upd_same (.dK .nil)) _ (.loc ?_)
  rw [hr.len, List.getElem?_append_right (Nat.le_refl _), Nat.sub_self]
  rfl)
mutual
inductive Dq (K : PySem.W.Frag) (H : Hp) : V → PyData → Prop
  | non : Dq K H .non .none
  | bl (b : Bool) : Dq K H (.bl b) (.bool b)
  | int (i : Int) : Dq K H (.int i) (.int i)
  | str (x : Str) : Dq K H (.str x) (.str x)
  | lst {a : Addr} {xs : List V} {ds : List PyData} : Rd H a (.lst xs) → DqAll K H xs ds → Dq K H (.ref a) (.list ds)
  | tup {a : Addr} {xs : List V} {ds : List PyData} : SqT K H a xs → DqAll K H xs ds → Dq K H (.ref a) (.tuple ds)
  | dct {a : Addr} : H a = some (.dK []) → Dq K H (.ref a) (.dict [])
inductive DqAll (K : PySem.W.Frag) (H : Hp) : List V → List PyData → Prop
  | nil : DqAll K H [] []
  | cons {v : V} {vs : List V} {d : PyData} {ds : List PyData} : Dq K H v d → DqAll K H vs ds → DqAll K H (v :: vs) (d :: ds)
end
section
variable {pins : List (Addr × Obj)} {σ : L2.St} {H : Hp} {s : Shared}
def SysB (base : Heap) : Prop := ∃ m, base.Ns sysModules m
theorem sys_free (B : SysB X.base) (I : Inv X pins σ H s) : H sysModules = none := by
  obtain ⟨m, o, es, ep, e, _⟩ := B
  exact (I.bs sysModules _ e).2
theorem sys_rd (B : SysB X.base) (I : Inv X pins σ H s) {a : Addr} {u : HO} (e : Rd H a u) : a ≠ sysModules := fun z => by
  subst z
  rcases e with e | ⟨o, e⟩
  · rw [sys_free B I] at e; cases e
  · rw [sys_free B I] at e; cases e
mutual
theorem Dq.reads (B : SysB X.base) (I : Inv X pins σ H s) : ∀ (d : PyData) (v : V) (u : Value), Dq X.K H v d → RelV v u → ∃ as, Reads s.heap u d as ∧ sysModules ∉ as
  | .none, _, _, h, r => by
    cases h
    cases r
    exact ⟨_, Reads.none, by simp⟩
  | .bool b, _, _, h, r => by
    cases h
    cases r
    exact ⟨_, Reads.bool b, by simp⟩
  | .int i, _, _, h, r => by
    cases h
    obtain ⟨t, rfl⟩ := r
    exact ⟨_, Reads.int i t, by simp⟩
  | .str x, _, _, h, r => by
    cases h
    obtain ⟨t, rfl⟩ := r
    exact ⟨_, Reads.str x t, by simp⟩
  | .list ds, _, _, h, r => by
    cases h with
    | lst hs ha =>
      cases r
      obtain ⟨its, rv, ⟨o, n, ho, hc, _, hd⟩, _⟩ := I.list (.inl hs)
      obtain ⟨as, hr, nm⟩ := Dq.readsAll B I ds _ its ha rv
      refine ⟨_, Reads.list ho hc hd hr, fun m => ?_⟩
      rcases List.mem_cons.mp m with m | m
      · exact sys_rd B I hs m.symm
      · exact nm m
  | .tuple ds, _, _, h, r => by
    cases h with
    | tup hs ha =>
      cases r
      obtain ⟨its, rv, ⟨o, ho, hc, n, hd⟩, _⟩ := I.tuple hs
      obtain ⟨as, hr, nm⟩ := Dq.readsAll B I ds _ its ha rv
      exact ⟨_, Reads.tuple ho hc hd hr, nm⟩
  | .dict _, _, _, h, r => by
    cases h with
    | dct e =>
      cases r
      obtain ⟨_, hd, vs, rel, o, es, ep, ho, hc, hdat, _, hp, _⟩ := dk_of I.hok e
      cases rel
      have he : es.toList = [] := by
        cases hes : es.toList with
        | nil => rfl
        | cons _ _ => rw [hes] at hp; cases hp
      refine ⟨_, Reads.dict (kvs := []) (as := []) (bs := []) ho hc.1 hdat ?_ ?_, fun m => ?_⟩
      · rw [he]; exact ReadsAll.nil
      · rw [he]; exact ReadsAll.nil
      · rcases List.mem_cons.mp m with m | m
        · rw [← m] at hd
          cases hd
        · cases m
theorem Dq.readsAll (B : SysB X.base) (I : Inv X pins σ H s) : ∀ (ds : List PyData) (vs : List V) (us : List Value), DqAll X.K H vs ds → Vals vs us → ∃ as, ReadsAll s.heap us ds as ∧ sysModules ∉ as
  | [], _, _, h, r => by
    cases h
    cases r
    exact ⟨_, ReadsAll.nil, by simp⟩
  | d :: ds, _, _, h, r => by
    cases h with
    | cons h1 h2 =>
      cases r with
      | cons r1 r2 =>
        obtain ⟨as, q1, n1⟩ := Dq.reads B I d _ _ h1 r1
        obtain ⟨bs, q2, n2⟩ := Dq.readsAll B I ds _ _ h2 r2
        refine ⟨_, ReadsAll.cons q1 q2, fun m => ?_⟩
        rcases List.mem_append.mp m with m | m
        · exact n1 m
        · exact n2 m
end
end
def rReprD (K : PySem.W.Frag) : List V → Hp → VK → Prop := fun xs H Q => ∃ (a : Addr) (d : PyData), xs = [.ref a] ∧ Dq K H (.ref a) d ∧ d.showable = true ∧ d.depth ≤ 60 ∧ d.shown.length ≤ sizeLine ∧ Q (.str d.shown) H
theorem call_reprD (B : SysB X.base) (hg : X.A.guards = some []) (hu : X.A.units + 64 < cLine) : CallR X (.builtin "repr") (rReprD X.K) := by
  intro pins s σ H xs us Q I r q
  obtain ⟨a, d, rfl, dp, sh, dep, sz, q⟩ := q
  obtain ⟨u, rfl, rx⟩ := Vals.one r
  obtain ⟨as, rd, nm⟩ := Dq.reads B I d _ u dp rx
  have fin : ∀ t h' tk, (∀ b o, s.heap.get? b = some o → h'.get? b = some o) → EP X pins σ Q (.str d.shown t) { s with heap := h', toks := tk } := fun t h' tk k => ⟨.str d.shown, H, I.kept k, ⟨t, rfl⟩, q⟩
  cases rx
  exact repr_of_reads' rd sh (fun _ => nm) hg (by omega) (fun _ _ e => e) (fun h' u tk k => fin u h' tk k) sz
/-- data with empty dicts; no part of the script -/
def toE (h : Mem) : Nat → IV → Option PyData
  | 0, _ => none
  | n + 1, v => match v with
    | .non => some .none
    | .bl b => some (.bool b)
    | .int i => some (.int i)
    | .str s => some (.str s)
    | .tup xs => (allS (xs.map (toE h n))).map .tuple
    | .fl xs => (allS (xs.map (toE h n))).map .list
    | .fz _ => none
    | .loc l => match h[l]? with
      | some (.lst xs) => (allS (xs.map (toE h n))).map .list
      | some (.dK []) => some (.dict [])
      | _ => none
theorem dq_all {μ z : List Addr} {H : Hp} {f : IV → Option PyData} (hf : ∀ v x d, VR K μ z H v x → f v = some d → Dq K H x d) : ∀ {xs : List IV} {vs : List V} {ds : List PyData}, VRs K μ z H xs vs → allS (xs.map f) = some ds → DqAll K H vs ds
  | [], _, ds, .nil, e => by
    have e' := Option.some.inj e
    subst e'
    exact .nil
  | v :: xs, _, ds, .cons r t, e => by
    rw [List.map_cons] at e
    cases e1 : f v with
    | none => rw [e1] at e; cases e
    | some d =>
      rw [e1] at e
      unfold allS at e
      cases e2 : allS (xs.map f) with
      | none => rw [e2] at e; cases e
      | some ds2 =>
        rw [e2] at e
        have e' := Option.some.inj e
        subst e'
        exact .cons (hf _ _ _ r e1) (dq_all hf t e2)
theorem dq_of {μ z : List Addr} {h : Mem} {H : Hp} (hr : HR K μ z h H) : ∀ (n : Nat) (v : IV) (x : V) (d : PyData), VR K μ z H v x → toE h n v = some d → Dq K H x d
  | 0, _, _, _, _, e => by cases e
  | n + 1, v, x, d, vr, e => by
    unfold toE at e
    have ih := fun v x d r e => dq_of hr n v x d r e
    cases vr with
    | non => have e' := Option.some.inj e; subst e'; exact .non
    | bl b => have e' := Option.some.inj e; subst e'; exact .bl b
    | int i => have e' := Option.some.inj e; subst e'; exact .int i
    | str s => have e' := Option.some.inj e; subst e'; exact .str s
    | tup hq r =>
      obtain ⟨ds, e1, e2⟩ := Option.map_eq_some_iff.mp e
      subst e2
      exact .tup hq (dq_all ih r e1)
    | fl hq n m r =>
      obtain ⟨ds, e1, e2⟩ := Option.map_eq_some_iff.mp e
      subst e2
      exact .lst (.inl hq) (dq_all ih r e1)
    | fz hq r => cases e
    | loc hl =>
      simp only at e
      split at e
      · rename_i xs eo
        obtain ⟨ds, e1, e2⟩ := Option.map_eq_some_iff.mp e
        subst e2
        obtain ⟨u, e3, r⟩ := hr.ob _ _ _ hl eo
        cases r with
        | lst r => exact .lst (.inl e3) (dq_all ih r e1)
      · rename_i eo
        have e' := Option.some.inj e
        subst e'
        obtain ⟨u, e3, r⟩ := hr.ob _ _ _ hl eo
        cases r with
        | dK r =>
          cases r
          exact .dct e3
      · cases e
def refI : IV → Bool
  | .tup _ => true
  | .fl _ => true
  | .loc _ => true
  | _ => false
/-- repr of a tuple, list or dict that may hold empty dicts -/
def reprDF : List IV → Mem → Ret IV := fun vs h => match vs with
  | [v] => (match toE h deep v with
    | some d => bif refI v && d.showable && decide (d.depth ≤ 60) && decide (d.shown.length ≤ sizeLine) then .ok (.str d.shown) h else .bad
    | none => .bad)
  | _ => .bad
theorem rc_reprD : RC K (rReprD K) reprDF := by
  intro E μ z h H vs xs Q hr vr p
  cases vr with
  | nil => exact p.elim
  | @cons v x vs xs v1 t =>
    cases t with
    | cons _ _ => exact p.elim
    | nil =>
      unfold reprDF at p
      simp only at p
      cases e1 : toE h deep v with
      | none => rw [e1] at p; exact p.elim
      | some d =>
        rw [e1] at p
        simp only at p
        cases ec : refI v && d.showable && decide (d.depth ≤ 60) && decide (d.shown.length ≤ sizeLine) with
        | false => simp only [ec, cond_false] at p; exact p.elim
        | true =>
          simp only [ec, cond_true] at p
          rw [Bool.and_eq_true, Bool.and_eq_true, Bool.and_eq_true, decide_eq_true_eq, decide_eq_true_eq] at ec
          have q := p μ H Step.refl hr _ (.str _)
          have dq := dq_of hr _ _ _ _ v1 e1
          obtain ⟨a, ex⟩ : ∃ a, x = .ref a := by
            cases v1 with
            | tup _ _ => exact ⟨_, rfl⟩
            | fl _ _ _ _ => exact ⟨_, rfl⟩
            | loc _ => exact ⟨_, rfl⟩
            | _ => cases ec.1.1.1
          subst ex
          exact ⟨a, d, rfl, dq, ec.1.1.2, ec.1.2, ec.2, q⟩
end
end VI
end

section
namespace VI
open PySem PySem.Spec PyProof.Rows L2
/-! ### the law's end -/
section
variable {P : Program} {w : World} {K : PySem.W.Frag} {mg mb : Str → Option Value} {CX : CXT} {k : Nat} {fa a : Addr} {fd : FuncData} {x : Str} {g : FnI}
/-- from a heap in which nothing but the script may be tracked -/
theorem lawS0 {t : Shared} {vs : List Value} {ns : List Int} {H : Hp} (kin : K.In t.heap) (hns : t.heap.Ns mainGlobals mg) (hb : t.heap.Ns builtinsNs mb) (hbb : ∀ x : Str, x ≠ "__name__" → mb x = bootBuiltins x) (hlim : t.heap.NoLimit) (hg : t.gens = #[])
    (ha : t.heap.get? a = some { cls := .type "list", data := .seq vs.toArray }) (room : Room k callerA) (hok : HOk P w H t.heap) (one : ∀ b u, H b = some u → b = a ∧ K.lookup a = none ∧ ∃ o v, u = .frz o v) (rel : VR K [] [] H (.fz (ns.map IV.int)) (.ref a))
    (sy : SysB t.heap) (F : ∀ base : Heap, K.In base → base.Ns mainGlobals mg → SysB base → FnG P w K mg base CX0 k fa fd [x] (spI K g)) (hbind : ∀ (s : Shared) (u : Value), BindsTo s fd ⟨[u], []⟩ [(x, u)])
    (hsp : ∃ h, g [.fz (ns.map IV.int)] [] = .ok (.bl true) h) :
    codeAny (model P w) callerA (.call (.ref fa) ⟨[.ref a], []⟩) (fun r t' => r = .ok (.ret (.bool true)) ∧ OldK t.heap t'.heap ∧ t'.os = t.os ∧ AllBare t'.gens) t := by
  have dicts : ∀ {b : Addr} {o : Obj} {es : Array DictEntry} {ep : Nat}, t.heap.get? b = some o → o.data = .dict es ep → H b = none := by
    intro b o es ep e d
    cases q : H b with
    | none => rfl
    | some u =>
      have z := (one b u q).1
      subst z
      rw [ha] at e
      rw [← Option.some.inj e] at d
      cases d
  have names : ∀ {b : Addr} {m : Str → Option Value}, t.heap.Ns b m → (hidT t.heap H).Ns b m := fun ⟨o, es, ep, e, d, r⟩ => ⟨o, es, ep, hidT_get e (dicts e d), d, r⟩
  have kinB : K.In (hidT t.heap H) := by
    intro b o e
    refine hidT_get (kin b o e) ?_
    cases q : H b with
    | none => rfl
    | some u =>
      obtain ⟨z, n, _⟩ := one b u q
      rw [z, n] at e
      cases e
  obtain ⟨mc, l1, l2⟩ := hlim
  have md : Mod K mg (hidT t.heap H) := ⟨kinB, names hns, ⟨mb, names hb, hbb⟩, mc, names l1, l2⟩
  have env : Env0 P w K mg (hidT t.heap H) callerA [] t H :=
    { frames := rfl, mod := md, bs := fun b o e => of_hidT e, bsz := Nat.le_of_eq (hidT_size _ _), funs := trivial, frf := fun b m => absurd (show b ∈ ([] : List Addr) from m) List.not_mem_nil, hok := hok, bare := .of_eq hg }
  obtain ⟨h, eg⟩ := hsp
  have prom : spI K g [.ref a] H (fun v _ => v = .bl true) E0 := by
    refine ⟨[], [], [], [.fz (ns.map IV.int)], ⟨rfl, List.nodup_nil, fun l b o e => by simp at e, fun b m => absurd m List.not_mem_nil⟩, .cons rel .nil, ?_⟩
    rw [eg]
    intro μ' H' _ _ w vr
    cases vr
    rfl
  refine codeAny_mono ((F _ kinB (names hns) (let ⟨m, q⟩ := sy; ⟨m, names q⟩)).run callerA [] t H ⟨[.ref a], []⟩ [.ref a] [.ref a] _ E0 room rfl env (hbind t (.ref a)) (.cons rfl .nil) prom) ?_
  intro r t' q
  match r, q with
  | .error e, q => exact q.elim
  | .ok .next, q => exact q.elim
  | .ok .brk, q => exact q.elim
  | .ok .cont, q => exact q.elim
  | .ok (.ret u), q =>
    obtain ⟨v, H', os, bare, un, hok', rv, ev⟩ := q
    have ev' : v = .bl true := ev
    rw [ev'] at rv
    have eu : u = Value.bool true := rv
    rw [eu]
    refine ⟨rfl, OldK.of_keep fun b o e => ?_, os, bare⟩
    cases z : H b with
    | none => exact un.keep b o e z (fun m => absurd (show b ∈ ([] : List Addr) from m) List.not_mem_nil) List.not_mem_nil
    | some u =>
      obtain ⟨_, _, o2, v2, e2⟩ := one b u z
      subst e2
      have e3 := (hok b _ z).1
      have e4 := (hok' b _ (un.frzs b o2 v2 z)).1
      rw [e] at e3
      rw [Option.some.inj e3]
      exact e4
theorem lawS {t : Shared} {vs : List Value} {ns : List Int} (kin : K.In t.heap) (hns : t.heap.Ns mainGlobals mg) (hb : t.heap.Ns builtinsNs mb) (hbb : ∀ x : Str, x ≠ "__name__" → mb x = bootBuiltins x) (hlim : t.heap.NoLimit) (hg : t.gens = #[])
    (ha : t.heap.get? a = some { cls := .type "list", data := .seq vs.toArray }) (hi : IntsAre vs ns) (hl : ns.length ≤ sizeLine) (room : Room k callerA)
    (sy : SysB t.heap) (F : ∀ base : Heap, K.In base → base.Ns mainGlobals mg → SysB base → FnG P w K mg base CX0 k fa fd [x] (spI K g)) (hbind : ∀ (s : Shared) (u : Value), BindsTo s fd ⟨[u], []⟩ [(x, u)])
    (hsp : ∃ h, g [.fz (ns.map IV.int)] [] = .ok (.bl true) h) :
    codeAny (model P w) callerA (.call (.ref fa) ⟨[.ref a], []⟩) (fun r t' => r = .ok (.ret (.bool true)) ∧ OldK t.heap t'.heap ∧ t'.os = t.os ∧ AllBare t'.gens) t := by
  have rv := vals_ints hi
  cases hka : K.lookup a with
  | some o =>
    have e := kin a o hka
    rw [ha] at e
    have e2 := Option.some.inj e
    subst e2
    refine lawS0 (H := fun _ => none) kin hns hb hbb hlim hg ha room (fun b u q => by cases q) (fun b u q => by cases q) ?_ sy F hbind hsp
    exact .fz (.inr ⟨_, vs.toArray, _, hka, rfl, rfl, rfl, by rw [List.size_toArray, hi.length]; exact hl, by simpa using rv⟩) (VRs.ofInts ns)
  | none =>
    let H : Hp := fun b => if b = a then some (.frz { cls := .type "list", data := .seq vs.toArray } (.lst (ns.map V.int))) else none
    have hH : H a = some (.frz { cls := .type "list", data := .seq vs.toArray } (.lst (ns.map V.int))) := if_pos rfl
    have tr : ∀ b u, H b = some u → b = a ∧ u = .frz { cls := .type "list", data := .seq vs.toArray } (.lst (ns.map V.int)) := by
      intro b u q
      by_cases e : b = a
      · subst e
        rw [hH] at q
        exact ⟨rfl, (Option.some.inj q).symm⟩
      · have q2 : (if b = a then some (HO.frz { cls := .type "list", data := .seq vs.toArray } (.lst (ns.map V.int))) else none) = some u := q
        rw [if_neg e] at q2
        cases q2
    refine lawS0 (H := H) kin hns hb hbb hlim hg ha room ?_ ?_ (.fz (.inl ⟨_, hH⟩) (VRs.ofInts ns)) sy F hbind hsp
    · intro b u q
      obtain ⟨e1, e2⟩ := tr b u q
      subst e1 e2
      exact ⟨ha, by rw [List.length_map]; exact hl, vs, _, rv, ha⟩
    · intro b u q
      obtain ⟨e1, e2⟩ := tr b u q
      exact ⟨e1, hka, _, _, e2⟩
end
/-- the goal behind the head, from what the law's def comes to for every script -/
theorem walkS {l : PySem.W.OpenLaw} {n k : Nat} {q : Program} {loose : List Str} {XP : (Str → Option Value) → Heap → Prop} {YP : World → Heap → Prop} {d : DefRec} {K : Params → PySem.W.Frag} {x : Str} {g : FnI}
    (hn : l.most = some n) (hn2 : n ≤ sizeLine) (hdf : d.params.defaults = []) (hr : Room k callerA) (hi : importsNone q = true) (hY : ∀ (w : World) (h : Heap), YP w h → (K w.params).In h)
    (F : ∀ (w : World) (mg : Str → Option Value) (fa : Addr) (h : Heap), (K w.params).In h → h.Ns mainGlobals mg → mg d.name = some (.ref fa) →
      ∃ fd : FuncData, (∀ (s : Shared) (u : Value), BindsTo s fd ⟨[u], []⟩ [(x, u)]) ∧ ∀ base : Heap, (K w.params).In base → base.Ns mainGlobals mg → SysB base → FnG l.prog w (K w.params) mg base CX0 k fa fd [x] (spI (K w.params) g))
    (hsp : ∀ ns : List Int, ns.length ≤ n → ∃ h, g [.fz (ns.map IV.int)] [] = .ok (.bl true) h) :
    PySem.W.WalkO q loose XP YP l.row.toRowW d [] (fun f vs => PySem.call f vs) := by
  refine Att.attach_call hn hdf fun w t0 t mg mb fa o pm cd doc a vs ns G Y _ _ _ hmg hobj hints hlen hgens => ?_
  have kin := hY w t.heap Y
  obtain ⟨fd, bnd, fs⟩ := F w mg fa t.heap kin G.T.g hmg
  exact lawS kin G.T.g G.T.b G.T.builtins G.T.nolimit hgens hobj hints (Nat.le_trans hlen hn2) hr (let ⟨m, z, _⟩ := (G.T.seer hi).mods; ⟨m, z⟩) fs bnd (hsp ns hlen)
end VI
end

section
/-! t[::-1] of a tuple. -/
namespace VI
open PySem PySem.Spec PyProof.Rows L2 HT
section
variable {prog : Program} {w : World} {A : Around} {E : Value → Shared → Prop} {s : Shared}
theorem sliceApplied_rev {sl : Addr} {vl vu vs : Value} {n : Nat} {Q : Int × Int × Nat → Shared → Prop} (slq : s.heap.IsSliceOf sl vl vu vs) (pLo : IsPart vl none) (pHi : IsPart vu none) (pSt : IsPart vs (some (-1)))
    (fin : Q ((n : Int) - 1, -1, n) s) : wpAny (model prog w) A (Builtin.Slice.sliceApplied (.ref sl) (pure (n : Int))) Q E s := by
  obtain ⟨obj, ogot, ocls, odat⟩ := id slq
  unfold Builtin.Slice.sliceApplied Builtin.Slice.sliceFields
  refine wpAny_bind (wpAny_bind (wpAny_field ogot odat (x := vl) rfl (wpAny_bind (wpAny_field ogot odat (x := vu) rfl (wpAny_bind (wpAny_field ogot odat (x := vs) rfl (wpAny_pure ?_)))))))
  refine wpAny_bind (slicePart_ pSt ?_)
  show wpAny _ _ (if ((-1 : Int) == 0) = true then _ else _) _ _ s
  rw [if_neg (by decide)]
  refine wpAny_bind (slicePart_ pLo (wpAny_bind (slicePart_ pHi (wpAny_bind (wpAny_pure ?_)))))
  show wpAny _ _ (match Builtin.Slice.sliceAdjust none none (-1) (n : Int) with | (lo, hi) => pure (lo, (-1 : Int), Builtin.Slice.slicePlaces lo hi (-1))) _ _ s
  have e1 : Builtin.Slice.sliceAdjust none none (-1) (n : Int) = ((n : Int) - 1, -1) := by
    unfold Builtin.Slice.sliceAdjust
    have h1 : ((-1 : Int) < 0) := by decide
    simp only [h1, if_true]
  have e2 : Builtin.Slice.slicePlaces ((n : Int) - 1) (-1) (-1) = n := by
    unfold Builtin.Slice.slicePlaces
    have h1 : ¬ ((-1 : Int) > 0) := by decide
    simp only [h1, if_false]
    split
    · simp
    · omega
  rw [e1]
  show wpAny _ _ (pure ((n : Int) - 1, (-1 : Int), Builtin.Slice.slicePlaces ((n : Int) - 1) (-1) (-1))) _ _ s
  rw [e2]
  exact wpAny_pure fin
theorem pick_rev (xs : Array Value) : ((List.range xs.size).filterMap fun (m : Nat) => xs[(((xs.size : Int) - 1) + (m : Int) * (-1)).toNat]?).toArray = xs.toList.reverse.toArray := by
  congr 1
  have h : ∀ (k : Nat), k ≤ xs.size → (List.range k).filterMap (fun (m : Nat) => xs[(((xs.size : Int) - 1) + (m : Int) * (-1)).toNat]?) = xs.toList.reverse.take k := by
    intro k
    induction k with
    | zero => intro _; simp
    | succ k ih =>
      intro hk
      rw [List.range_succ, List.filterMap_append, ih (by omega), List.take_succ]
      congr 1
      have e : (((xs.size : Int) - 1) + (k : Int) * (-1)).toNat = xs.size - 1 - k := by omega
      have e2 : xs[xs.size - 1 - k]? = some (xs[xs.size - 1 - k]'(by omega)) := Array.getElem?_eq_getElem (by omega)
      have e3 : xs.toList.reverse[k]? = some (xs[xs.size - 1 - k]'(by omega)) := by
        rw [List.getElem?_reverse (by rw [Array.length_toList]; omega)]
        simp
      rw [e3, List.filterMap_cons, e, e2]
      rfl
  have := h xs.size (Nat.le_refl _)
  rw [this]
  apply List.take_of_length_le
  simp
theorem getItem_tuple_rev {t sl : Addr} {items : Array Value} {vl vu vs : Value} {Q : Value → Shared → Prop} (tup0 : IsTup s.heap t items) (slq : s.heap.IsSliceOf sl vl vu vs) (pLo : IsPart vl none) (pHi : IsPart vu none) (pSt : IsPart vs (some (-1)))
    (fin : Q (.ref s.heap.objs.size) { s with heap := s.heap.push { cls := .type "tuple", data := .seq items.toList.reverse.toArray } })
    (hsz : items.size ≤ sizeLine) : wpAny (model prog w) A (getItem (.ref t) (.ref sl)) Q E s := by
  have szOk : sizeOk (.seq items.toList.reverse.toArray) := by
    show items.toList.reverse.toArray.size ≤ sizeLine
    rw [List.size_toArray, List.length_reverse, Array.length_toList]
    exact hsz
  obtain ⟨obj, ogot, ocls, odat⟩ := id slq
  have slTy : s.TypeIs (.ref sl) "slice" := ⟨obj, ogot, ocls⟩
  unfold getItem
  try with_reducible refine wpAny_holding ?_
  first | refine wpAny_bind (wpAny_pure ?_) | skip
  refine wpAny_bind (wpAny_sequenceKey tup0.typeIs (by decide) ?_)
  refine wpAny_bind (wpAny_callSpecial?_slot (name := Str.ofString "__getitem__") tup0.typeIs PyProof.Rows.slot_tuple_getitem
    (wpAny_call_entry PyProof.Rows.slot_tuple_getitem tup0.typeIs entry_tuple_getitem ?_ (args_tuple_getitem _ _)))
  show wpAny _ _ (Builtin.Tuple.tupleItemsOf (.ref t) >>= _) _ _ s
  refine wpAny_bind (tupleItemsOf_ tup0 ?_)
  refine wpAny_bind (wpAny_typeOf slTy ?_)
  rw [if_pos (by decide)]
  refine wpAny_bind (sliceApplied_rev slq pLo pHi pSt ?_)
  have notAll : ¬ ((((items.size : Int) - 1) == 0 && (-1 : Int) == 1 && items.size == items.size) = true) := by
    intro q
    rw [Bool.and_eq_true, Bool.and_eq_true] at q
    exact absurd q.1.2 (by decide)
  show wpAny _ _ (if (((items.size : Int) - 1) == 0 && (-1 : Int) == 1 && items.size == items.size) = true then _ else _) _ _ s
  rw [if_neg notAll, pick_rev]
  first
    | exact wpAny_bind (m := Builtin.Tuple.tupleExact _) (wpAny_newObj_type (wpAny_pure ⟨_, rfl, wpAny_pure fin⟩) szOk)
    | exact wpAny_bind (m := Builtin.Tuple.tupleExact _) (wpAny_newObj_type (wpAny_bind (wpAny_pure (wpAny_pure ⟨_, rfl, wpAny_pure fin⟩))) szOk)
    | exact wpAny_bind (wpAny_bind (m := Builtin.Tuple.tupleExact _) (wpAny_newObj_type (wpAny_pure (wpAny_pure ⟨_, rfl, wpAny_pure fin⟩)) szOk))
    | exact wpAny_bind (wpAny_bind (m := Builtin.Tuple.tupleExact _) (wpAny_newObj_type (wpAny_pure ⟨_, rfl, wpAny_pure fin⟩) szOk))
end
section
variable {X : Cx} {E : XI} {da : Den} {e : Expr}
def tRevT (K : PySem.W.Frag) (te : TE) : TE := fun σ H Q => te σ H fun x H1 => ∃ a xs, x = .ref a ∧ SqT K H1 a xs ∧ ∀ p, H1 p = none → Q (.ref p) (upd H1 p (.tup xs.reverse))
theorem pe_revT {te : TE} {k : Nat} {p1 p2 p3 pos : Pos} (he : PE X e te) : PE X (.Subscript e (.Slice none none (some (.UnaryOp .USub (.Constant (.int 1) k p1) p2)) p3) pos) (tRevT X.K te) := by
  refine ⟨fun pins s σ H Q I fin => ?_⟩
  refine Subscript_ (thn (he.run pins s σ H _ I fin) fun v s1 ⟨x, H1, I1, r1, q1⟩ => ?_)
  obtain ⟨a, xs, ex, hx, q⟩ := q1
  subst ex
  cases r1
  have hst : PO X (some (.UnaryOp .USub (.Constant (.int 1) k p1) p2)) (tPart (tUn (rU fun i => .int (-i)) (tC (.int 1)))) := po_some (pe_un un_neg pe_int)
  refine wpAny_Slice (thn (po_none.run pins s1 σ H1 (fun o H2 => o = none ∧ H2 = H1) I1 ⟨rfl, rfl⟩) fun vl s2 ⟨l, H2, I2, pLo, el, e2⟩ => ?_)
  subst el e2
  refine thn (po_none.run pins s2 σ H2 (fun o H3 => o = none ∧ H3 = H2) I2 ⟨rfl, rfl⟩) fun vu s3 ⟨u, H3, I3, pHi, eu, e3⟩ => ?_
  subst eu e3
  refine thn (hst.run pins s3 σ H3 (fun o H4 => o = some (-1) ∧ H4 = H3) I3 ⟨1, rfl, -1, rfl, rfl, rfl⟩) fun vs s4 ⟨o, H4, I4, pSt, eo, e4⟩ => ?_
  subst eo e4
  have I5 : Inv X pins σ H4 { s4 with heap := s4.heap.push { cls := .type "slice", data := .fields #[vl, vu, vs] } } := I4.kept (t' := s4.toks) fun b ob q => Heap.get?_push_of_some _ q
  obtain ⟨its, r, tup0, hz⟩ := I5.tuple hx
  have hlen := r.length
  show wpAny (model X.prog X.w) X.A (subscriptTail e (.Slice none none (some (.UnaryOp .USub (.Constant (.int 1) k p1) p2)) p3) (.ref a) (.ref s4.heap.objs.size)) (EP X pins σ Q) X.xe { s4 with heap := s4.heap.push { cls := .type "slice", data := .fields #[vl, vu, vs] } }
  refine tail_any (ops := [.ref a, .ref s4.heap.objs.size]) tup0.typeIs (PyProof.Rows.slot_tuple_getitem.lookup) ?_ (by with_unfolding_all rfl)
  refine getItem_tuple_rev tup0 (Heap.IsSliceOf.new _ vl vu vs) pLo pHi pSt ?_ (by rw [List.size_toArray]; omega)
  refine ⟨.ref _, _, I5.laid (t' := s4.toks) (o := .tup xs.reverse) (fun b ob q => Heap.get?_push_of_some _ q) (Nat.le_refl _) ?_, rfl, q _ (I5.hok.fresh (Nat.le_refl _))⟩
  exact ⟨by rw [List.length_reverse]; exact hz, _, r.reverse, IsTup.new _ _⟩
def dRevT (d : Den) : Den := dUn (fun v fin => match v with
  | .tup xs => .ok (.tup xs.reverse) fin
  | _ => .bad) d
theorem r_revT {k : Nat} {p1 p2 p3 pos : Pos} (ha : PE X e (tD X.K E da)) : PE X (.Subscript e (.Slice none none (some (.UnaryOp .USub (.Constant (.int 1) k p1) p2)) p3) pos) (tD X.K E (dRevT da)) := PE_imp (pe_revT ha) (by
  rintro σ H Q ⟨μ, z, fin, ρ, hr, er, p⟩
  refine tD_of hr er p.bind fun μ1 h1 H1 v w s1 hr1 p1 vr1 => ?_
  cases vr1 with
  | @tup a xs vs hq r => exact ⟨a, vs, rfl, hq, tupQ p1 hr1 r.rev⟩
  | _ => exact p1.elim)
end
end VI
end

section
namespace VI
open PySem
theorem bt_bool : bootBuiltins "bool" = some (.type "bool") := by decide +kernel
theorem bt_str : bootBuiltins "str" = some (.type "str") := by decide +kernel
theorem bt_dict : bootBuiltins "dict" = some (.type "dict") := by decide +kernel
end VI
end

section
/-! == and != of anything's sequence with an empty one. -/
namespace VI
open PySem PySem.Spec PyProof.Rows L2
section
variable {X : Cx} {K : PySem.W.Frag}
def rEqE (K : PySem.W.Frag) (neg : Bool) : R2 := fun x y H Q => ∃ a b xs, x = .ref a ∧ y = .ref b ∧ ((SqT K H a xs ∧ SqT K H b []) ∨ (SqL K H a xs ∧ SqL K H b [])) ∧ Q (.bl (if neg then !xs.isEmpty else xs.isEmpty)) H
theorem vals_nil {us : List Value} (h : Vals [] us) : us = [] := by
  cases h
  rfl
theorem emp_size {xs : List V} {its : List Value} (r : Vals xs its) : (its.toArray.size == 0) = xs.isEmpty := by
  cases r <;> rfl
theorem op_eqE (hu : X.A.units < cLine) : OpR X (compareOp .Eq) (rEqE X.K false) := by
  intro pins s σ H x y v u Q I rx ry h
  obtain ⟨a, b, xs, rfl, rfl, hq, q⟩ := h
  cases rx
  cases ry
  rcases hq with ⟨h1, h2⟩ | ⟨h1, h2⟩
  · obtain ⟨its, r1, t1, _⟩ := I.tuple h1
    obtain ⟨itt, r2, t2, _⟩ := I.tuple h2
    have e2 := vals_nil r2
    subst e2
    refine SeqAt.eq_tupleAt (e := fun _ => true) t1 t2 hu (fun j _ j2 => absurd j2 (by simp)) ⟨.bl _, H, I, rfl, ?_⟩
    have : ((List.range (min its.toArray.size ([] : List Value).toArray.size)).all (fun _ => true) && its.toArray.size == ([] : List Value).toArray.size) = xs.isEmpty := by
      rw [List.all_eq_true.mpr fun _ _ => rfl]
      exact emp_size r1
    rw [this]
    exact q
  · obtain ⟨its, r1, t1, _⟩ := I.list h1
    obtain ⟨itt, r2, t2, _⟩ := I.list h2
    have e2 := vals_nil r2
    subst e2
    cases r1 with
    | nil => exact SeqAt.eq_listAt (e := fun _ => true) t1.isList t2.isList rfl hu (fun j _ j2 => absurd j2 (by simp)) ⟨.bl _, H, I, rfl, q⟩
    | cons r t => exact SeqAt.eq_list_lengthsAt t1.isList t2.isList (by simp) hu ⟨.bl _, H, I, rfl, q⟩
theorem op_neE (hu : X.A.units < cLine) : OpR X (compareOp .NotEq) (rEqE X.K true) := by
  intro pins s σ H x y v u Q I rx ry h
  obtain ⟨a, b, xs, rfl, rfl, hq, q⟩ := h
  cases rx
  cases ry
  rcases hq with ⟨h1, h2⟩ | ⟨h1, h2⟩
  · obtain ⟨its, r1, t1, _⟩ := I.tuple h1
    obtain ⟨itt, r2, t2, _⟩ := I.tuple h2
    have e2 := vals_nil r2
    subst e2
    refine SeqAt.RcNeAt.tuples (e := fun _ => true) t1 t2 hu (fun j _ j2 => absurd j2 (by simp)) X.prog X.w _ _ ⟨.bl _, H, I, rfl, ?_⟩
    have : ((List.range (min its.toArray.size ([] : List Value).toArray.size)).all (fun _ => true) && its.toArray.size == ([] : List Value).toArray.size) = xs.isEmpty := by
      rw [List.all_eq_true.mpr fun _ _ => rfl]
      exact emp_size r1
    rw [this]
    exact q
  · obtain ⟨its, r1, t1, _⟩ := I.list h1
    obtain ⟨itt, r2, t2, _⟩ := I.list h2
    have e2 := vals_nil r2
    subst e2
    cases r1 with
    | nil => exact SeqAt.RcNeAt.lists (e := fun _ => true) t1.isList t2.isList rfl hu (fun j _ j2 => absurd j2 (by simp)) X.prog X.w _ _ ⟨.bl _, H, I, rfl, q⟩
    | cons r t => exact SeqAt.RcNeAt.lists_lengths t1.isList t2.isList (by simp) hu X.prog X.w _ _ ⟨.bl _, H, I, rfl, q⟩
/-- against an empty sequence of the same kind -/
def empF (neg : Bool) : IV → IV → Mem → Ret IV := fun v u h => match v, u with
  | .tup xs, .tup [] => .ok (.bl (if neg then !xs.isEmpty else xs.isEmpty)) h
  | .tup _, _ => .bad
  | v, u => match lsq h v, lsq h u with
    | some xs, some [] => .ok (.bl (if neg then !xs.isEmpty else xs.isEmpty)) h
    | _, _ => .bad
theorem isE_rel {μ z : List Addr} {H : Hp} {xs : List IV} {vs : List V} (r : VRs K μ z H xs vs) : vs.isEmpty = xs.isEmpty := by
  cases r <;> rfl
theorem rb_emp {neg : Bool} : RB K (rEqE K neg) (empF neg) := by
  intro E μ z h H v u x y Q hr v1 v2 p
  have lists : post K E μ z H (match lsq h v, lsq h u with
      | some xs, some [] => .ok (.bl (if neg then !xs.isEmpty else xs.isEmpty)) h
      | _, _ => .bad) (VQ K z Q) → rEqE K neg x y H Q := fun p => by
    cases e1 : lsq h v with
    | none => rw [e1] at p; exact p.elim
    | some xs =>
      cases e2 : lsq h u with
      | none => rw [e1, e2] at p; exact p.elim
      | some ys =>
        rw [e1, e2] at p
        cases ys with
        | cons _ _ => exact p.elim
        | nil =>
          obtain ⟨a, vs, ex, hq, r⟩ := lsq_H hr v1 e1
          obtain ⟨b, ws, ey, hq2, r2⟩ := lsq_H hr v2 e2
          cases r2
          refine ⟨a, b, vs, ex, ey, .inr ⟨hq, hq2⟩, ?_⟩
          have q := p μ H Step.refl hr _ (.bl _)
          rw [isE_rel r]
          exact q
  cases v1 with
  | @tup a xs vs hq r =>
    cases v2 with
    | @tup b ys ws hq2 r2 =>
      cases ys with
      | cons _ _ => exact p.elim
      | nil =>
        cases r2
        refine ⟨a, b, vs, rfl, rfl, .inl ⟨hq, hq2⟩, ?_⟩
        have q := p μ H Step.refl hr _ (.bl _)
        rw [isE_rel r]
        exact q
    | _ => exact p.elim
  | _ => exact lists p
end
end VI
end

section
/-! repr of anything. -/
namespace VI
open PySem PySem.Spec PyProof.Rows L2
section
variable {X : Cx} {K : PySem.W.Frag}
def rReprA (K : PySem.W.Frag) : List V → Hp → VK → Prop := fun xs H Q => rRepr K xs H Q ∨ rReprD K xs H Q
theorem call_reprA (B : SysB X.base) (hg : X.A.guards = some []) (hu : X.A.units + 64 < cLine) : CallR X (.builtin "repr") (rReprA X.K) := (call_repr hg hu).or (call_reprD B hg hu)
def reprAF : List IV → Mem → Ret IV := fun vs h => match vs with
  | [v] => (match toD h deep v with
    | some _ => reprF [v] h
    | none => reprDF [v] h)
  | _ => .bad
theorem rc_reprA : RC K (rReprA K) reprAF := by
  intro E μ z h H vs xs Q hr vr p
  cases vr with
  | nil => exact p.elim
  | @cons v x vs xs v1 t =>
    cases t with
    | cons _ _ => exact p.elim
    | nil =>
      unfold reprAF at p
      simp only at p
      cases e1 : toD h deep v with
      | none =>
        rw [e1] at p
        exact .inr (rc_reprD E μ z h H [v] [x] Q hr (.cons v1 .nil) p)
      | some d =>
        rw [e1] at p
        exact .inl (rc_repr E μ z h H [v] [x] Q hr (.cons v1 .nil) p)
end
/-! ### anything: what it tells -/
/-- of the amount k, w, in a memory -/
structure Se (h : Mem) (v : IV) (d : PyData) (k w : Nat) : Prop where
  see : ∀ n, k ≤ n → toE h n v = some d
  shw : d.showable = true
  dep : d.depth ≤ k
  wt : d.weight ≤ w
  sh : d.leavesShort 40 = true
structure SeL (h : Mem) (vs : List IV) (ds : List PyData) (k w : Nat) : Prop where
  see : ∀ n, k ≤ n → allS (vs.map (toE h n)) = some ds
  shw : PyData.showableAll ds = true
  dep : PyData.depthAll ds ≤ k
  wt : PyData.weightAll ds ≤ w
  sh : PyData.leavesShortAll 40 ds = true
section
variable {h : Mem} {v u : IV} {d e : PyData} {k w k' w' : Nat} {vs us : List IV} {ds es : List PyData}
theorem Se.mono (s : Se h v d k w) (hk : k ≤ k') (hw : w ≤ w') : Se h v d k' w' := ⟨fun n hn => s.see n (Nat.le_trans hk hn), s.shw, Nat.le_trans s.dep hk, Nat.le_trans s.wt hw, s.sh⟩
theorem SeL.mono (s : SeL h vs ds k w) (hk : k ≤ k') (hw : w ≤ w') : SeL h vs ds k' w' := ⟨fun n hn => s.see n (Nat.le_trans hk hn), s.shw, Nat.le_trans s.dep hk, Nat.le_trans s.wt hw, s.sh⟩
theorem Se.flat {v : IV} {d : PyData} (e : ∀ n, toE h (n + 1) v = some d) (a : d.showable = true) (b : d.depth ≤ 1) (c : d.weight ≤ 120) (f : d.leavesShort 40 = true) : Se h v d 1 120 := by
  refine ⟨fun n hn => ?_, a, b, c, f⟩
  obtain ⟨m, rfl⟩ : ∃ m, n = m + 1 := ⟨n - 1, by omega⟩
  exact e m
theorem Se.int {i : Int} (hi : i.natAbs < 10 ^ 31) : Se h (.int i) (.int i) 1 120 := by
  have e : (10 : Nat) ^ 31 = 10000000000000000000000000000000 := by decide
  have e2 : (2 : Nat) ^ 110 = 1298074214633706907132624082305024 := by decide
  have hl : i.natAbs.log2 < 110 := by
    by_cases z : i.natAbs = 0
    · rw [z]; decide
    · exact (Nat.log2_lt z).mpr (by omega)
  refine Se.flat (fun n => rfl) ?_ ?_ ?_ ?_
  · unfold PyData.showable
    rw [decide_eq_true_eq]
    omega
  · unfold PyData.depth
    omega
  · unfold PyData.weight
    split
    · omega
    · omega
  · unfold PyData.leavesShort
    rw [decide_eq_true_eq]
    have e3 := int_text_length_le10 (k := 31) (by decide) hi
    have e4 : (PyData.shown (.int i)).length ≤ 32 := by
      show (Str.ofString (toString i)).length ≤ 32
      rw [PySem.ofString_length]
      exact e3
    omega
theorem Se.non : Se h .non .none 1 120 := Se.flat (fun n => rfl) (by unfold PyData.showable; rfl) (by unfold PyData.depth; omega) (by unfold PyData.weight; omega) (by unfold PyData.leavesShort; rfl)
theorem Se.bl (b : Bool) : Se h (.bl b) (.bool b) 1 120 := Se.flat (fun n => rfl) (by unfold PyData.showable; rfl) (by unfold PyData.depth; omega) (by unfold PyData.weight; omega) (by unfold PyData.leavesShort; rfl)
theorem Se.dct {l : Nat} (e : h[l]? = some (.dK [])) : Se h (.loc l) (.dict []) 1 120 := Se.flat (fun n => by rw [toE]; simp only [e]) (by unfold PyData.showable PyData.showableKv; rfl) (by unfold PyData.depth PyData.depthKv; omega) (by unfold PyData.weight PyData.weightKv; omega) (by unfold PyData.leavesShort PyData.leavesShortKv; rfl)
theorem Se.str {x : Str} (hw : (PyData.str x).weight ≤ 120) (hx : (PyData.str x).leavesShort 40 = true) : Se h (.str x) (.str x) 1 120 := Se.flat (fun n => rfl) (by unfold PyData.showable; rfl) (by unfold PyData.depth; omega) hw hx
theorem SeL.nil : SeL h [] [] k 0 := by
  refine ⟨fun n hn => rfl, ?_, ?_, ?_, ?_⟩
  · unfold PyData.showableAll; rfl
  · unfold PyData.depthAll
    omega
  · unfold PyData.weightAll
    omega
  · unfold PyData.leavesShortAll; rfl
theorem SeL.cons (s : Se h v d k w) (t : SeL h vs ds k w') : SeL h (v :: vs) (d :: ds) k (w + 1 + w') := by
  refine ⟨fun n hn => ?_, ?_, ?_, ?_, ?_⟩
  · rw [List.map_cons, s.see n hn]
    unfold allS
    rw [t.see n hn]
  · unfold PyData.showableAll
    rw [s.shw, t.shw]
    rfl
  · unfold PyData.depthAll
    have := s.dep
    have := t.dep
    omega
  · unfold PyData.weightAll
    have := s.wt
    have := t.wt
    omega
  · unfold PyData.leavesShortAll
    rw [s.sh, t.sh]
    rfl
theorem Se.seq {x : IV} {c : List PyData → PyData} (t : SeL h vs ds k w) (hx : ∀ n, toE h (n + 1) x = (allS (vs.map (toE h n))).map c) (c1 : (c ds).showable = PyData.showableAll ds) (c2 : (c ds).depth = PyData.depthAll ds + 1) (c3 : (c ds).weight = PyData.weightAll ds) (c4 : (c ds).leavesShort 40 = PyData.leavesShortAll 40 ds) : Se h x (c ds) (k + 1) w := by
  refine ⟨fun n hn => ?_, by rw [c1]; exact t.shw, by rw [c2]; have := t.dep; omega, by rw [c3]; exact t.wt, by rw [c4]; exact t.sh⟩
  obtain ⟨m, rfl⟩ : ∃ m, n = m + 1 := ⟨n - 1, by omega⟩
  rw [hx m, t.see m (by omega)]
  rfl
theorem Se.tup (t : SeL h vs ds k w) : Se h (.tup vs) (.tuple ds) (k + 1) w := Se.seq (c := .tuple) t (fun n => by rw [toE]) (by unfold PyData.showable; rfl) (by rw [PyData.depth]) (by rw [PyData.weight]) (by rw [PyData.leavesShort])
theorem Se.fl (t : SeL h vs ds k w) : Se h (.fl vs) (.list ds) (k + 1) w := Se.seq (c := .list) t (fun n => by rw [toE]) (by unfold PyData.showable; rfl) (by rw [PyData.depth]) (by rw [PyData.weight]) (by rw [PyData.leavesShort])
theorem SeL.map {α : Type} {f : α → IV} {g : α → PyData} : ∀ {l : List α}, (∀ a ∈ l, Se h (f a) (g a) k w) → SeL h (l.map f) (l.map g) k ((w + 1) * l.length)
  | [], _ => by
    rw [List.length_nil, Nat.mul_zero]
    exact SeL.nil
  | a :: l, q => by
    rw [List.map_cons, List.map_cons, List.length_cons, Nat.mul_add, Nat.mul_one, Nat.add_comm ((w + 1) * l.length)]
    exact SeL.cons (q a List.mem_cons_self) (SeL.map fun b hb => q b (List.mem_cons_of_mem _ hb))
theorem reprD_ok (s : Se h v d k w) (hk : k ≤ 60) (hw : w ≤ 300000) (hv : refI v = true) : reprDF [v] h = .ok (.str d.shown) h := by
  have hdp : d.depth ≤ 60 := Nat.le_trans s.dep hk
  have hlen : d.shown.length ≤ sizeLine := by
    have h1 := PyData.shown_le 40 (by decide) d s.sh
    have h2 := s.wt
    rw [sizeLine_eq]
    omega
  have hdd : deep = 66 := rfl
  unfold reprDF
  simp only
  rw [s.see deep (by omega)]
  simp only
  rw [hv, s.shw, decide_eq_true hdp, decide_eq_true hlen]
  rfl
end
end VI
end

section
/-! zip of two tuples or two lists. -/
namespace VI
open PySem PySem.Spec PyProof.Rows L2 RZ
section
variable {X : Cx} {E : XI} {e e2 : Expr} {pos p tpos : Pos} {K : PySem.W.Frag}
theorem walkZT {a b : Addr} {xs ys : List V} : Walk (ItzT K a b) (min xs.length ys.length) (fun H => SqT K H a xs ∧ SqT K H b ys) (YPair (fun i => xs[i]?) (fun i => ys[i]?)) := by
  refine ⟨fun i _ hi q => ?_, fun _ q => ⟨xs, ys, q.1, q.2, by omega⟩, fun i H v H' _ q y => ?_⟩
  · have l1 : i < xs.length := by omega
    have l2 : i < ys.length := by omega
    exact ⟨xs, ys, xs[i], ys[i], q.1, q.2, by simp [l1], by simp [l2]⟩
  · obtain ⟨T, x, z, q1, q2, q3, q4, q5⟩ := y
    exact ⟨T, x, z, q1, q2, q3, q4 xs q.1, q5 ys q.2⟩
def zipI (xs ys : List IV) : List IV := (xs.zip ys).map fun p => .tup [p.1, p.2]
theorem zipI_len {xs ys : List IV} : (zipI xs ys).length = min xs.length ys.length := by
  unfold zipI
  rw [List.length_map, List.length_zip]
theorem zip_walk {μ1 z : List Addr} {H1 : Hp} {xs ys : List IV} {vs ws : List V} {J : It} {G : Hp → Prop} {R : It → Hp → Prop} (wk : Walk J (min vs.length ws.length) G (YPair (fun i => vs[i]?) (fun i => ws[i]?))) (hG : ∀ μ2 H2, Step μ1 H1 μ2 H2 → G H2) (r1 : VRs K μ1 z H1 xs vs) (r2 : VRs K μ1 z H1 ys ws)
    (p : ∀ (J : It) (G : Hp → Prop) (Y : Nat → Hp → V → Hp → Prop), Walk J (zipI xs ys).length G Y →
    (∀ μ2 z2 h2 H2, Step μ1 H1 μ2 H2 → (∀ q ∈ z2, q ∈ z ∨ H1 q = none) → HR K μ2 z2 h2 H2 → G H2 ∧ ∀ i x H3, i < (zipI xs ys).length → Y i H2 x H3 → ∃ v, (zipI xs ys)[i]? = some v ∧ Step μ2 H2 μ2 H3 ∧ HR K μ2 z2 h2 H3 ∧ VR K μ2 z2 H3 v x) → R J H1) : R J H1 := by
  have el : (zipI xs ys).length = min vs.length ws.length := by rw [zipI_len, r1.length, r2.length]
  refine p J G _ (by rw [el]; exact wk) fun μ2 z2 h2 H2 s2 n2 hr2 => ⟨hG μ2 H2 s2, fun i x H3 hi y => ?_⟩
  obtain ⟨T, a1, b1, rfl, nT, rfl, ea, eb⟩ := y
  obtain ⟨u, f1, f2⟩ := r1.get' ea
  obtain ⟨v, g1, g2⟩ := r2.get' eb
  refine ⟨.tup [u, v], ?_, Step.new nT, hr2.new nT, .tup (.inl (.inl upd_same)) (.cons (((f2.rehide n2).step s2).step (Step.new nT)) (.cons (((g2.rehide n2).step s2).step (Step.new nT)) .nil))⟩
  unfold zipI
  have hz : (xs.zip ys)[i]? = some (u, v) := List.getElem?_zip_eq_some.mpr ⟨f1, g1⟩
  rw [List.getElem?_map, hz]
  rfl
def wZip (a : DenA) : DenA := fun ρ h => (a ρ h).bind fun vs h1 => match vs with
  | [.tup xs, .tup ys] => .ok (zipI xs ys) h1
  | [.fl xs, .fl ys] => .ok (zipI xs ys) h1
  | _ => .bad
theorem r_wZip {a : DenA} {elts : List Expr} {kk : Nat} (hg : Gl X "zip") (hm : X.mg "zip" = none) (ha : PA X [e, e2] (tAr X.K E a)) (hs : starEach [e, e2] X.env = (false, eval e X.env) :: starEach [e2] X.env := by rfl) (hs2 : (backTo pos (starEach [e2] X.env)).any (·.1) = false := by rfl) :
    PI X (.Tuple elts kk tpos) (.Call (.Name "zip" p) [e, e2] [] pos) (tIV X.K E (wZip a)) := PI_imp (pi_zipA hg hm ha hs hs2) (by
  rintro σ H R ⟨μ, z, h, ρ, hr, er, p⟩
  refine ⟨μ, z, h, ρ, hr, er, p.bind.mono fun μ1 h1 H1 vs s1 hr1 p1 ws vr => ?_⟩
  cases vr with
  | nil => exact p1.elim
  | cons v1 t =>
    cases t with
    | nil => cases v1 <;> exact p1.elim
    | cons v2 t =>
      cases t with
      | cons _ _ => cases v1 <;> cases v2 <;> exact p1.elim
      | nil =>
        cases v1 with
        | @tup a xs vs hq r =>
          cases v2 with
          | @tup b ys us hq2 r2 => exact ⟨a, b, vs, us, rfl, .inr ⟨hq, hq2, zip_walk walkZT (fun μ2 H2 s2 => ⟨SqT.step s2 hq, SqT.step s2 hq2⟩) r r2 (p1 μ1 H1 Step.refl hr1)⟩⟩
          | _ => exact p1.elim
        | @fl a xs vs hq n m r =>
          cases v2 with
          | @fl b ys us hq2 n2 m2 r2 => exact ⟨a, b, vs, us, rfl, .inl ⟨SqL.of hq, SqL.of hq2, zip_walk (walk_zip rfl) (fun μ2 H2 s2 => ⟨SqL.of (s2.keep _ _ hq n), SqL.of (s2.keep _ _ hq2 n2)⟩) r r2 (p1 μ1 H1 Step.refl hr1)⟩⟩
          | _ => exact p1.elim
        | _ => cases v2 <;> exact p1.elim)
end
end VI
end

section
/-! a < b < c; names of the module that are plain. -/
namespace VI
open PySem PySem.Spec PyProof.Rows L2
section
variable {X : Cx} {E : XI} {a b c : Expr} {pos p : Pos} {da db dc : Den} {K : PySem.W.Frag}
/-- a f b g c -/
def dChn (f g : IV → IV → Mem → Ret IV) (a b c : Den) : Den := fun ρ h => (a ρ h).bind fun v h1 => (b ρ h1).bind fun u h2 => (f v u h2).bind fun k h3 => match k with
  | .bl true => (c ρ h3).bind fun w h4 => g u w h4
  | .bl false => .ok (.bl false) h3
  | _ => .bad
theorem i_chn {r r' : R2} {f g : IV → IV → Mem → Ret IV} (rb : RB K r f) (rb' : RB K r' g) : ∀ (σ : L2.St) (H : Hp) (Q : VK), tD K E (dChn f g da db dc) σ H Q → tChain r r' (tD K E da) (tD K E db) (tD K E dc) σ H Q := by
  rintro σ H Q ⟨μ, z, h, ρ, hr, er, p⟩
  refine tD_of hr er p.bind fun μ1 h1 H1 v x s1 hr1 p1 vr1 => ?_
  refine tD_of hr1 (er.step s1) p1.bind fun μ2 h2 H2 u y s2 hr2 p2 vr2 => ?_
  refine rb E μ2 z h2 H2 v u x y _ hr2 (vr1.step s2) vr2 (p2.bind.mono fun μ3 h3 H3 k s3 hr3 p3 w vr3 => ?_)
  cases vr3 with
  | bl k =>
    refine ⟨k, rfl, ?_⟩
    cases k with
    | true =>
      rw [if_pos rfl]
      refine tD_of hr3 (((er.step s1).step s2).step s3) p3.bind fun μ4 h4 H4 t q s4 hr4 p4 vr4 => ?_
      exact rb' E μ4 z h4 H4 u t y q Q hr4 ((vr2.step s3).step s4) vr4 p4
    | false =>
      rw [if_neg Bool.false_ne_true]
      exact p3 μ3 H3 Step.refl hr3 _ (.bl false)
  | _ => exact p3.elim
theorem r_chn {op op' : CmpOp} {r r' : R2} {f g : IV → IV → Mem → Ret IV} (ho : OpR X (compareOp op) r) (rb : RB X.K r f) (ho' : OpR X (compareOp op') r') (rb' : RB X.K r' g) (ha : PE X a (tD X.K E da)) (hb : PE X b (tD X.K E db)) (hc : PE X c (tD X.K E dc)) (hm : lastMarks [op, op'] [b, c] = false := by with_unfolding_all rfl) :
    PE X (.Compare a [op, op'] [b, c] pos) (tD X.K E (dChn f g da db dc)) := PE_imp (pe_chain ho ho' ha hb hc hm) (i_chn rb rb')
theorem r_chnT {op op' : CmpOp} {r r' : R2} {f g : IV → IV → Mem → Ret IV} (ho : OpR X (compareOp op) r) (rb : RB X.K r f) (ho' : OpR X (compareOp op') r') (rb' : RB X.K r' g) (ha : PE X a (tD X.K E da)) (hb : PE X b (tD X.K E db)) (hc : PE X c (tD X.K E dc)) (hm : lastMarks [op, op'] [b, c] = false := by with_unfolding_all rfl) :
    PT X (.Compare a [op, op'] [b, c] pos) (tT X.K E (dTst (dChn f g da db dc))) := PT_imp (pt_chain ho ho' ha hb hc hm) fun σ H Q q => i_chn rb rb' σ H _ (i_tst σ H Q q)
/-- x, y, z = a, b, c -/
def sPar3 (i j l : Nat) (d : DenA) : DenS := fun ρ h => (d ρ h).bind fun vs h1 => match vs with
  | [v, w, u] => .ok (.nx, ((ρ.set i (some v)).set j (some w)).set l (some u)) h1
  | _ => .bad
theorem r_par3 {i j l : Nat} {x y z : Str} {d : DenA} {px py pz pt : Pos} {kt k2 pt2} (hc : X.calm = true) (hN : X.N.Nodup) (hi : X.N[i]? = some x) (hj : X.N[j]? = some y) (hl : X.N[l]? = some z) (n1 : i ≠ j) (n2 : i ≠ l) (n3 : j ≠ l)
    (lx : X.env.scope.names.lookup x = some .local) (ly : X.env.scope.names.lookup y = some .local) (lz : X.env.scope.names.lookup z = some .local) (ha : PA X [a, b, c] (tAr X.K E d))
    (sw : swappedStores [.Tuple [.Name x px, .Name y py, .Name z pz] kt pt] (.Tuple [a, b, c] k2 pt2) X.env = pure (some [x, y, z]))
    (so : swapsWithSole [.Tuple [.Name x px, .Name y py, .Name z pz] kt pt] (.Tuple [a, b, c] k2 pt2) pos.line X.env = pure false := by rfl) :
    PS X (.Assign [.Tuple [.Name x px, .Name y py, .Name z pz] kt pt] (.Tuple [a, b, c] k2 pt2) pos) (tS X.K E (sPar3 i j l d)) := PS_imp (ps_par3 hc hN hi hj hl n1 n2 n3 lx ly lz ha sw so) (by
  rintro D σ H ⟨μ, z, h, ρ, hr, er, p⟩
  refine ⟨μ, z, h, ρ, hr, er, p.bind.mono fun μ1 h1 H1 vs s1 hr1 p1 ws vr => ?_⟩
  cases vr with
  | nil => exact p1.elim
  | cons v1 t =>
    cases t with
    | nil => exact p1.elim
    | cons v2 t =>
      cases t with
      | nil => exact p1.elim
      | cons v3 t =>
        cases t with
        | cons _ _ => exact p1.elim
        | nil => exact ⟨_, _, _, rfl, p1 μ1 H1 Step.refl hr1 _ ((((er.step s1).set v1 i).set v2 j).set v3 l) hr1⟩)
end
end VI
end

section
/-! xs.extend(ys). -/
namespace VI
open PySem PySem.Spec PyProof.Rows L2
section
variable {K : PySem.W.Frag}
def extF : IV → List IV → Mem → Ret IV := fun v vs h => match v, vs with
  | .loc l, [y] => (match h[l]?, lstOf h y with
    | some (.lst xs), some ys => bif decide (xs.length + ys.length ≤ sizeLine) then .ok .non (h.set l (.lst (xs ++ ys))) else .bad
    | _, _ => .bad)
  | _, _ => .bad
theorem rm_ext : RM K rExtend extF := by
  intro E μ z h H v vs x xs Q hr vr rs p
  cases vr with
  | @loc a l hl =>
    cases rs with
    | nil => exact p.elim
    | @cons y w ys ws r1 t =>
      cases t with
      | cons _ _ => exact p.elim
      | nil =>
        unfold extF at p
        simp only at p
        cases eo : h[l]? with
        | none => rw [eo] at p; exact p.elim
        | some o =>
          cases o with
          | dK _ => rw [eo] at p; exact p.elim
          | oth _ => rw [eo] at p; exact p.elim
          | lst zs =>
            cases ey : lstOf h y with
            | none => rw [eo, ey] at p; exact p.elim
            | some us =>
              rw [eo, ey] at p
              simp only at p
              rcases cond_dec (P := fun r => post K E μ z H r (VQ K z Q)) p with ⟨hlt, p⟩ | ⟨_, p⟩
              · obtain ⟨ts, e3, r⟩ := at_lst hr hl eo
                obtain ⟨b, ss, ex, e4, r4⟩ := lstOf_H hr r1 ey
                subst ex
                obtain ⟨st, hr'⟩ := putL hr hl e3 (r.append r4)
                exact ⟨a, b, ts, ss, rfl, rfl, e3, e4, by rw [← r.length, ← r4.length]; exact hlt, p μ _ st hr' _ .non⟩
              · exact p.elim
  | _ => exact p.elim
end
end VI
end

section
namespace VI
open PySem PySem.Spec PyProof.Rows L2
section
variable {X : Cx} {E : XI} {e a b : Expr} {es : List Expr} {pos p : Pos} {da db dc : Den} {K : PySem.W.Frag}
/-! ### great numbers, divmod, shifts -/
def mulWF := intF (fun i j => decide (i.natAbs.log2 + j.natAbs.log2 < 1000000)) fun i j => .int (i * j)
def divWF := intF (fun _ j => decide (0 < j) && decide (j.natAbs.log2 < 9000)) fun i j => .int (i / j)
def shlF := intF cPow fun i j => .int (i * 2 ^ j.toNat)
def shrF := intF (fun _ j => decide (0 ≤ j)) fun i j => .int (i / 2 ^ j.toNat)
def bandF := intF (fun _ _ => true) fun i j => .int (Builtin.bitAnd i j)
theorem r_mulW (ha : PE X a (tD X.K E da)) (hb : PE X b (tD X.K E db)) : PE X (.BinOp a .Mult b pos) (tD X.K E (dBin mulWF da db)) := r_op op_mulW (rb_int (fun i j h => show i.natAbs.log2 + j.natAbs.log2 < 1000000 from of_decide_eq_true h) fun _ _ _ _ _ => .int _) ha hb
theorem r_divW (ha : PE X a (tD X.K E da)) (hb : PE X b (tD X.K E db)) : PE X (.BinOp a .FloorDiv b pos) (tD X.K E (dBin divWF da db)) := r_op op_fdivW (rb_int (fun i j h => by
  rw [Bool.and_eq_true, decide_eq_true_eq, decide_eq_true_eq] at h
  exact h) fun _ _ _ _ _ => .int _) ha hb
theorem r_shl (ha : PE X a (tD X.K E da)) (hb : PE X b (tD X.K E db)) : PE X (.BinOp a .LShift b pos) (tD X.K E (dBin shlF da db)) := r_op op_shl (rb_int (fun i j h => by
  unfold cPow at h
  rw [Bool.and_eq_true, Bool.and_eq_true, decide_eq_true_eq, decide_eq_true_eq, decide_eq_true_eq] at h
  have e : (18446744073709551616 : Nat) = 2 ^ 64 := by decide
  rw [e] at h
  exact ⟨h.1.1, h.1.2, h.2⟩) fun _ _ _ _ _ => .int _) ha hb
theorem r_shr (ha : PE X a (tD X.K E da)) (hb : PE X b (tD X.K E db)) : PE X (.BinOp a .RShift b pos) (tD X.K E (dBin shrF da db)) := r_op op_shr (rb_int (fun i j h => of_decide_eq_true h) fun _ _ _ _ _ => .int _) ha hb
theorem r_band (ha : PE X a (tD X.K E da)) (hb : PE X b (tD X.K E db)) : PE X (.BinOp a .BitAnd b pos) (tD X.K E (dBin bandF da db)) := r_op op_and (rb_int0 fun _ _ _ _ _ => .int _) ha hb
def divmodF : List IV → Mem → Ret IV := fun vs h => match vs with
  | [.int i, .int j] => bif decide (0 < j) && decide (j < 1073741824) then .ok (.tup [.int (i / j), .int (i % j)]) h else .bad
  | _ => .bad
theorem rc_divmod : RC K (fun xs H Q => ∃ i j, xs = [.int i, .int j] ∧ CDiv i j ∧ ∀ p, H p = none → Q (.ref p) (upd H p (.tup [.int (i / j), .int (i % j)]))) divmodF := by
  intro E μ z h H vs xs Q hr vr p
  cases vr with
  | nil => exact p.elim
  | cons v1 t =>
    cases t with
    | nil => cases v1 <;> exact p.elim
    | cons v2 t =>
      cases t with
      | cons _ _ => cases v1 <;> cases v2 <;> exact p.elim
      | nil =>
        cases v1 with
        | int i =>
          cases v2 with
          | int j =>
            unfold divmodF at p
            simp only at p
            cases ec : decide (0 < j) && decide (j < 1073741824) with
            | false => rw [ec] at p; exact p.elim
            | true =>
              rw [ec] at p
              rw [Bool.and_eq_true, decide_eq_true_eq, decide_eq_true_eq] at ec
              exact ⟨i, j, rfl, ec, tupQ p hr (.cons (.int _) (.cons (.int _) .nil))⟩
          | _ => exact p.elim
        | _ => cases v2 <;> exact p.elim
theorem bt_divmod : bootBuiltins "divmod" = some (.builtin "divmod") := by decide +kernel
end
end VI
end

section
namespace VI
open PySem PySem.Spec PyProof.Rows L2
theorem tuple_mulSame (l : Addr) (items : Array Value) (n : Nat) (dd : Option Addr) (sl : Array (Option Value)) (x : Int) (u : Tok) (c0 : (decide (x < -(2 ^ 63)) || decide (x ≥ 2 ^ 63)) = false) (c1 : (items.isEmpty || x == 1) = true) :
    Meets (Builtin.«tuple.__mul__» ⟨[.ref l, .int x u], []⟩) (fun _ R s => s.heap.get? l = some { cls := .type "tuple", dict := dd, data := .seq items n, slots := sl } ∧
      R (.ok (.ret (Value.ref l))) s) :=
  .of_wp fun prog w A R s h => by
    obtain ⟨hp, g, d, tk, os⟩ := s
    obtain ⟨hl, h⟩ := h
    have f1 := AutoSeq1.idx_int
    wp_walk using wpAny_loadPart' hl
    repeat (first
      | (refine wpAny_ite_false (decide_eq_false (by rw [c0]; exact Bool.false_ne_true)) ?_; wp_walk using wpAny_loadPart' hl)
      | (refine wpAny_ite_true (decide_eq_true c1) ?_; wp_walk using wpAny_loadPart' hl))
    exact ⟨_, rfl, h⟩
def rRepS (K : PySem.W.Frag) : R2 := fun x y H Q => ∃ l k xs, x = .ref l ∧ y = .int k ∧ SqT K H l xs ∧ (xs = [] ∨ k = 1) ∧ -1000 ≤ k ∧ k ≤ 1000 ∧ Q (.ref l) H
section
variable {X : Cx} {E : XI} {e a b : Expr} {es : List Expr} {pos p : Pos} {da db dc : Den} {K : PySem.W.Frag}
theorem op_repS : OpR X (binaryOp .Mult) (rRepS X.K) := by
  intro pins s σ H x y v u Q I rx ry h
  obtain ⟨l, k, xs, rfl, rfl, hT, hne, h1, h2, q⟩ := h
  cases rx
  obtain ⟨t, rfl⟩ := ry
  obtain ⟨its, r, ⟨⟨cls, dd, data, sl⟩, ho, hc, n, hd⟩, hs⟩ := I.tuple hT
  simp only at hc hd
  subst hc hd
  have c0 : (decide (k < -(2 ^ 63)) || decide (k ≥ 2 ^ 63)) = false := by
    rw [decide_eq_false (by omega), decide_eq_false (by omega)] <;> rfl
  have c1 : (its.toArray.isEmpty || k == 1) = true := by
    rcases hne with e | e
    · subst e
      cases r
      rfl
    · subst e
      simp
  refine wpAny_binaryOp_repeat_ref (T := "tuple") (U := "int") (by decide) ⟨_, ho, rfl⟩ (fun s' => typeIs_int s' k t) noFill_tuple_mul F.fills_int_mul F.slot_int_rmul repeat_tuple F.slot_int_index.lookup
    (call_meets F.slot_int_rmul (typeIs_int s k t) F.entry_int_rmul (F.args_int_rmul_2 _ _) (int_rmul_tuple k t l its.toArray n dd sl)
      ⟨ho, rfl, ⟨_, ho, rfl⟩, call_meets F.slot_tuple_mul ⟨_, ho, rfl⟩ F.entry_tuple_mul (F.args_tuple_mul_2 _ _) (tuple_mulSame l its.toArray n dd sl k t c0 c1) ⟨ho, ?_⟩⟩)
  exact ⟨.ref l, H, I, rfl, q⟩
/-- t * k -/
def repTF : IV → IV → Mem → Ret IV := fun v u h => match v, u with
  | .tup xs, .int k => bif (xs.isEmpty || decide (k = 1)) && decide (-1000 ≤ k) && decide (k ≤ 1000) then .ok (.tup xs) h
      else bif !xs.isEmpty && decide (2 ≤ k) && decide (k ≤ 1000) && decide (xs.length ≤ 1000) then .ok (.tup (List.replicate k.toNat xs).flatten) h else .bad
  | _, _ => .bad
theorem rb_repT {K : PySem.W.Frag} : RB K (fun x y H Q => rRepS K x y H Q ∨ rRepT K x y H Q) repTF := by
  intro E μ z h H v u x y Q hr v1 v2 p
  cases v1 with
  | @tup a xs vs hq r =>
    cases v2 with
    | int k =>
      unfold repTF at p
      simp only at p
      cases ec : (xs.isEmpty || decide (k = 1)) && decide (-1000 ≤ k) && decide (k ≤ 1000) with
      | true =>
        rw [ec] at p
        rw [Bool.and_eq_true, Bool.and_eq_true, Bool.or_eq_true, decide_eq_true_eq, decide_eq_true_eq, decide_eq_true_eq] at ec
        refine .inl ⟨a, k, vs, rfl, rfl, hq, ec.1.1.imp (fun e => ?_) id, ec.1.2, ec.2, p μ H Step.refl hr _ (.tup hq r)⟩
        rw [List.isEmpty_iff] at e
        subst e
        cases r
        rfl
      | false =>
        rw [ec] at p
        simp only [cond_false] at p
        cases ed : !xs.isEmpty && decide (2 ≤ k) && decide (k ≤ 1000) && decide (xs.length ≤ 1000) with
        | false => rw [ed] at p; exact p.elim
        | true =>
          rw [ed] at p
          rw [Bool.and_eq_true, Bool.and_eq_true, Bool.and_eq_true, Bool.not_eq_true', decide_eq_true_eq, decide_eq_true_eq, decide_eq_true_eq] at ed
          refine .inr ⟨a, k, vs, rfl, rfl, hq, fun e => ?_, ed.1.1.2, ed.1.2, by rw [← r.length]; exact ed.2, tupQ p hr (r.rep _)⟩
          subst e
          cases r
          cases ed.1.1.1
    | _ => exact p.elim
  | _ => cases v2 <;> exact p.elim
theorem r_repT (ha : PE X a (tD X.K E da)) (hb : PE X b (tD X.K E db)) : PE X (.BinOp a .Mult b pos) (tD X.K E (dBin repTF da db)) := r_op (op_repS.or op_repT) rb_repT ha hb
/-! ### sorted(set(t)) of a tuple of ints -/
def insU (x : Int) : List Int → List Int
  | [] => [x]
  | y :: r => if x < y then x :: y :: r else if x = y then y :: r else y :: insU x r
def usort : List Int → List Int
  | [] => []
  | x :: r => insU x (usort r)
theorem insU_mem (x z : Int) : ∀ l : List Int, z ∈ insU x l ↔ z = x ∨ z ∈ l
  | [] => by simp [insU]
  | y :: r => by
    have ih := insU_mem x z r
    unfold insU
    split
    · simp
    · split
      · rename_i e
        subst e
        simp
      · simp only [List.mem_cons, ih]
        constructor
        · rintro (h | h | h)
          · exact .inr (.inl h)
          · exact .inl h
          · exact .inr (.inr h)
        · rintro (h | h | h)
          · exact .inr (.inl h)
          · exact .inl h
          · exact .inr (.inr h)
theorem insU_up (x : Int) : ∀ l : List Int, l.Pairwise (· < ·) → (insU x l).Pairwise (· < ·)
  | [], _ => by simp [insU]
  | y :: r, h => by
    have h' := List.pairwise_cons.mp h
    unfold insU
    split
    · rename_i e
      refine List.pairwise_cons.mpr ⟨fun z hz => ?_, h⟩
      rcases List.mem_cons.mp hz with rfl | hz
      · exact e
      · exact Int.lt_trans e (h'.1 z hz)
    · split
      · exact h
      · refine List.pairwise_cons.mpr ⟨fun z hz => ?_, insU_up x r h'.2⟩
        rcases (insU_mem x z r).mp hz with rfl | hz
        · omega
        · exact h'.1 z hz
theorem usort_mem (z : Int) : ∀ l : List Int, z ∈ usort l ↔ z ∈ l
  | [] => by simp [usort]
  | x :: r => by rw [usort, insU_mem, usort_mem z r, List.mem_cons]
theorem usort_up : ∀ l : List Int, (usort l).Pairwise (· < ·)
  | [] => .nil
  | x :: r => insU_up x _ (usort_up r)
theorem up_one : ∀ {a b : List Int}, a.Pairwise (· < ·) → b.Pairwise (· < ·) → (∀ z, z ∈ a ↔ z ∈ b) → a = b
  | [], [], _, _, _ => rfl
  | [], y :: b, _, _, h => by have := (h y).mpr List.mem_cons_self; cases this
  | x :: a, [], _, _, h => by have := (h x).mp List.mem_cons_self; cases this
  | x :: a, y :: b, ha, hb, h => by
    have ha' := List.pairwise_cons.mp ha
    have hb' := List.pairwise_cons.mp hb
    have e : x = y := by
      rcases List.mem_cons.mp ((h x).mp List.mem_cons_self) with e | m
      · exact e
      · rcases List.mem_cons.mp ((h y).mpr List.mem_cons_self) with e | m2
        · exact e.symm
        · have := hb'.1 x m
          have := ha'.1 y m2
          omega
    subst e
    rw [up_one ha'.2 hb'.2 fun z => ?_]
    constructor
    · intro hz
      rcases List.mem_cons.mp ((h z).mp (List.mem_cons_of_mem _ hz)) with e | m
      · have := ha'.1 z hz; omega
      · exact m
    · intro hz
      rcases List.mem_cons.mp ((h z).mpr (List.mem_cons_of_mem _ hz)) with e | m
      · have := hb'.1 z hz; omega
      · exact m
def rSetT (w : World) (K : PySem.W.Frag) : List V → Hp → VK → Prop := fun xs H Q => ∃ (a : Addr) (ns : List Int), xs = [.ref a] ∧ SqT K H a (ns.map V.int) ∧ ns.length < 63 ∧ ∀ (p : Addr) (c : Nat), H p = none → c ≤ ns.length → Q (.ref p) (upd H p (SetO w p (fun j => decide (j ∈ ns)) c))
theorem cr_setT (hc : X.calm = true) : CallR X (.type "set") (rSetT X.w X.K) := by
  intro pins s σ H vs us Q I r h
  obtain ⟨a, ns, rfl, hT, hl, q⟩ := h
  rw [Vals.ref1 r]
  obtain ⟨its, rv, pt, hz⟩ := I.tuple hT
  have hs : (64 : Nat) < scanBound := by decide
  refine call_set_tupI ns (I.ok.hd hc) pt (by simpa using ints_vals rv) (by omega) fun h' tk c hS hcn k => ?_
  exact ⟨.ref _, upd H s.heap.objs.size (SetO X.w s.heap.objs.size (fun j => decide (j ∈ ns)) c), I.laid (t' := tk) k (Nat.le_refl _) (setO_new hS), rfl, q _ c (I.hok.fresh (Nat.le_refl _)) hcn⟩
theorem bt_set : bootBuiltins "set" = some (.type "set") := by decide +kernel
def fSst (d : Den) : DenA := fun ρ h => (d ρ h).bind fun v h1 => match v with
  | .tup xs => (match allS (xs.map asI) with
    | some ns => bif decide (ns.length < 63) then .ok ((usort ns).map .int) h1 else .bad
    | none => .bad)
  | _ => .bad
theorem r_sst {p2 pos2 : Pos} (hc : X.calm = true) (hg : Gl X "sorted") (hm : X.mg "sorted" = none) (hg2 : Gl X "set") (hm2 : X.mg "set" = none) (ha : PE X a (tD X.K E da))
    (hs1 : starEach [a] X.env = (false, eval a X.env) :: starEach [] X.env := by rfl) (hp1 : (backTo pos2 (starEach [] X.env)).any (·.1) = false := by rfl)
    (hs2 : starEach [.Call (.Name "set" p2) [a] [] pos2] X.env = (false, eval (.Call (.Name "set" p2) [a] [] pos2) X.env) :: starEach [] X.env := by rfl) (hp2 : (backTo pos (starEach [] X.env)).any (·.1) = false := by rfl) :
    PE X (.Call (.Name "sorted" p) [.Call (.Name "set" p2) [a] [] pos2] [] pos) (tF X.K E (fSst da)) :=
  PE_imp (pe_callB (cr_sortedSet hc) hg hm bt_sorted (pa_cons (pe_callTy (cr_setT hc) hg2 hm2 bt_set (pa_cons ha pa_nil hs1) (by decide) (by decide) hs1 hp1) pa_nil hs2) (by decide) (by decide) hs2 hp2) (by
  rintro σ H Q ⟨μ, z, h, ρ, hr, er, p⟩
  refine tD_of hr er p.bind fun μ1 h1 H1 v w s1 hr1 p1 vr1 => ?_
  cases vr1 with
  | @tup a xs vs hq r =>
    simp only at p1
    cases e1 : allS (xs.map asI) with
    | none => rw [e1] at p1; exact p1.elim
    | some ns =>
      rw [e1] at p1
      simp only at p1
      cases e2 : decide (ns.length < 63) with
      | false => rw [e2] at p1; exact p1.elim
      | true =>
        rw [e2] at p1
        have hl := of_decide_eq_true e2
        rw [ints_of e1] at r
        rw [r.ints] at hq
        refine ⟨a, ns, rfl, hq, hl, fun q c nq hcn => ?_⟩
        refine ⟨q, _, c, rfl, upd_same, by omega, fun ns' q' up mem len nq' => ?_⟩
        have eu : ns' = usort ns := up_one up (usort_up ns) fun z => by
          rw [mem z, usort_mem]
          simp
        subst eu
        have hr2 := hr1.new (o := SetO X.w q (fun j => decide (j ∈ ns)) c) nq
        exact p1 μ1 q' _ _ ((Step.new nq).trans (Step.new nq')) (by
          cases e3 : H1 q' with
          | none => rfl
          | some o =>
            have : q' ≠ q := fun e => by subst e; rw [nq] at e3; cases e3
            rw [upd_ne this, e3] at nq'
            cases nq') upd_same (hr2.hideNew nq') (VRs.ofInts _)
  | _ => exact p1.elim)
/-! ### truth of a value -/
def truI (h : Mem) (v : IV) : Option Bool := match v with
  | .non => some false
  | .bl b => some b
  | .int i => some (i != 0)
  | v => (seqOf h v).map fun xs => !xs.isEmpty
def dTru (d : Den) : DenT := fun ρ h => (d ρ h).bind fun v h1 => match truI h1 v with
  | some b => .ok b h1
  | none => .bad
theorem tru_H {μ z : List Addr} {H : Hp} {h : Mem} {v : IV} {x : V} {b : Bool} (hr : HR K μ z h H) (vr : VR K μ z H v x) (e : truI h v = some b) : TruV K x H b := by
  have seqs : (seqOf h v).map (fun xs => !xs.isEmpty) = some b → TruV K x H b := fun e => by
    obtain ⟨xs, e1, e2⟩ := Option.map_eq_some_iff.mp e
    obtain ⟨a, vs, ex, hq, r⟩ := seqOf_H hr vr e1
    subst ex e2
    have el : (!xs.isEmpty) = !vs.isEmpty := by cases r <;> rfl
    rcases hq with hq | hq
    · exact .inl ⟨vs, hq, el⟩
    · exact .inr (.inl ⟨vs, hq, el⟩)
  cases vr with
  | non => exact (Option.some.inj e).symm
  | bl c => exact (Option.some.inj e).symm
  | int i => exact (Option.some.inj e).symm
  | str s => exact seqs e
  | tup hq r => exact seqs e
  | fl hq n m r => exact seqs e
  | fz hq r => exact seqs e
  | loc hl => exact seqs e
theorem r_tru (h : PE X a (tD X.K E da)) (he : ∀ whole, isTrue a X.env whole = (do let v ← whole; standAt a.pos; holding [v] (truthy v)) := by intro _; rfl) : PT X a (tT X.K E (dTru da)) := PT_imp (pt_truth h he) (by
  rintro σ H Q ⟨μ, z, h, ρ, hr, er, p⟩
  refine tD_of hr er p.bind fun μ1 h1 H1 v w s1 hr1 p1 vr1 => ?_
  cases e : truI h1 v with
  | none => rw [e] at p1; exact p1.elim
  | some b =>
    rw [e] at p1
    exact ⟨b, tru_H hr1 vr1 e, p1 μ1 H1 Step.refl hr1⟩)
/-! ### min, max of a list -/
def minOf : List Int → Int
  | [] => 0
  | [x] => x
  | x :: r => if minOf r < x then minOf r else x
def maxOf : List Int → Int
  | [] => 0
  | [x] => x
  | x :: r => if x < maxOf r then maxOf r else x
theorem minOf_ok : ∀ {l : List Int}, l ≠ [] → minOf l ∈ l ∧ ∀ y ∈ l, minOf l ≤ y
  | [], h => absurd rfl h
  | [x], _ => by simp [minOf]
  | x :: y :: r, _ => by
    obtain ⟨h1, h2⟩ := minOf_ok (l := y :: r) (by simp)
    rw [minOf]
    split
    · exact ⟨List.mem_cons_of_mem _ h1, fun z hz => by
        rcases List.mem_cons.mp hz with rfl | hz
        · omega
        · exact h2 z hz⟩
    · refine ⟨List.mem_cons_self, fun z hz => ?_⟩
      rcases List.mem_cons.mp hz with rfl | hz
      · omega
      · have := h2 z hz
        omega
    all_goals simp
theorem maxOf_ok : ∀ {l : List Int}, l ≠ [] → maxOf l ∈ l ∧ ∀ y ∈ l, y ≤ maxOf l
  | [], h => absurd rfl h
  | [x], _ => by simp [maxOf]
  | x :: y :: r, _ => by
    obtain ⟨h1, h2⟩ := maxOf_ok (l := y :: r) (by simp)
    rw [maxOf]
    split
    · exact ⟨List.mem_cons_of_mem _ h1, fun z hz => by
        rcases List.mem_cons.mp hz with rfl | hz
        · omega
        · exact h2 z hz⟩
    · refine ⟨List.mem_cons_self, fun z hz => ?_⟩
      rcases List.mem_cons.mp hz with rfl | hz
      · omega
      · have := h2 z hz
        omega
    all_goals simp
def ints1F (g : List Int → Int) : List IV → Mem → Ret IV := fun vs h => match vs with
  | [v] => match (lsq h v).bind fun xs => allS (xs.map asI) with
    | some ns => bif !ns.isEmpty then .ok (.int (g ns)) h else .bad
    | none => .bad
  | _ => .bad
def minLF := ints1F minOf
def maxLF := ints1F maxOf
theorem rc_minL : RC K (rMin K) minLF := by
  intro E μ z h H vs xs Q hr vr p
  cases vr with
  | nil => exact p.elim
  | @cons v x vs xs v1 t =>
    cases t with
    | cons _ _ => exact p.elim
    | nil =>
      unfold minLF ints1F at p
      simp only at p
      cases e1 : (lsq h v).bind fun xs => allS (xs.map asI) with
      | none => rw [e1] at p; exact p.elim
      | some ns =>
        rw [e1] at p
        simp only at p
        cases ns with
        | nil => exact p.elim
        | cons n ns =>
          obtain ⟨a, ex, hq⟩ := ints_at hr v1 e1
          subst ex
          obtain ⟨m1, m2⟩ := minOf_ok (l := n :: ns) (by simp)
          refine ⟨a, n :: ns, rfl, hq, by simp, fun m hm hle => ?_⟩
          have e : m = minOf (n :: ns) := by
            have := hle _ m1
            have := m2 _ hm
            omega
          rw [e]
          exact p μ H Step.refl hr _ (.int _)
theorem rc_maxL : RC K (rMax K) maxLF := by
  intro E μ z h H vs xs Q hr vr p
  cases vr with
  | nil => exact p.elim
  | @cons v x vs xs v1 t =>
    cases t with
    | cons _ _ => exact p.elim
    | nil =>
      unfold maxLF ints1F at p
      simp only at p
      cases e1 : (lsq h v).bind fun xs => allS (xs.map asI) with
      | none => rw [e1] at p; exact p.elim
      | some ns =>
        rw [e1] at p
        simp only at p
        cases ns with
        | nil => exact p.elim
        | cons n ns =>
          obtain ⟨a, ex, hq⟩ := ints_at hr v1 e1
          subst ex
          obtain ⟨m1, m2⟩ := maxOf_ok (l := n :: ns) (by simp)
          refine ⟨a, n :: ns, rfl, hq, by simp, fun m hm hle => ?_⟩
          have e : m = maxOf (n :: ns) := by
            have := hle _ m1
            have := m2 _ hm
            omega
          rw [e]
          exact p μ H Step.refl hr _ (.int _)
end
end VI
end

section
/-! A list at a place, walked while it stays as it is. -/
namespace VI
open PySem PySem.Spec PyProof.Rows L2
noncomputable def atP (h : Mem) (l : Nat) (xs : List IV) {α : Type} (r : Ret α) : Ret α := @ite _ (h[l]? = some (.lst xs)) (Classical.propDecidable _) r .bad
theorem atP_ok {h : Mem} {l : Nat} {xs : List IV} {α : Type} {r : Ret α} (e : h[l]? = some (.lst xs)) : atP h l xs r = r := by
  unfold atP; exact if_pos e
theorem atP_no {h : Mem} {l : Nat} {xs : List IV} {α : Type} {r : Ret α} (e : ¬ h[l]? = some (.lst xs)) : atP h l xs r = .bad := by
  unfold atP; exact if_neg e
noncomputable def forP (t : Tg) (b : DenS) (l : Nat) (xs : List IV) : List IV → DenS
  | [], ρ, h => atP h l xs (.ok (.nx, ρ) h)
  | v :: vs, ρ, h => atP h l xs (match t v ρ with
    | none => .bad
    | some ρ1 => (b ρ1 h).bind fun r h1 => match r.1 with
      | .nx => forP t b l xs vs r.2 h1
      | .ct => forP t b l xs vs r.2 h1
      | .bk => .ok (.nx, r.2) h1
      | .rt w => .ok (.rt w, r.2) h1)
noncomputable def sForP (d : Den) (t : Tg) (b : DenS) : DenS := fun ρ h => (d ρ h).bind fun v h1 => match v with
  | .loc l => (match h1[l]? with
    | some (.lst xs) => forP t b l xs xs ρ h1
    | _ => .bad)
  | _ => .bad
theorem walk_chg {K : PySem.W.Frag} {a : Addr} {n : Nat} : Walk (Itl K a) n (fun H => ∃ vs, SqL K H a vs ∧ vs.length = n) (fun i H x H' => H' = H ∧ ∀ vs, SqL K H a vs → vs[i]? = some x) :=
  ⟨fun i H hi ⟨vs, q, l⟩ => ⟨vs, vs[i], q, List.getElem?_eq_getElem (by omega)⟩, fun H ⟨vs, q, l⟩ => ⟨vs, q, Nat.le_of_eq l⟩, fun _ _ _ _ _ _ y => y⟩
section
variable {X : Cx} {E : XI} {e : Expr} {pos : Pos}
theorem r_forP {tg iter : Expr} {body : List Stmt} {d : Den} {t : Tg} {b : DenS} (hp : PassesOwn (model X.prog X.w) X.A X.env X.xe) (hc : X.calm = true) (he : PE X iter (tD X.K E d)) (hg : PG X tg (gI X.K t)) (hb : PSs X body (tS X.K E b))
    (hs : ∀ x, foldedSetIterable iter X.env x = pure x := by intro _; rfl) : PS X (.For tg iter body [] pos) (tS X.K E (sForP d t b)) := PS_imp (ps_for hp hc (pi_seq he) hg hb hs) (by
  rintro D σ H ⟨μ, z, h, ρ, hr, er, p⟩
  refine tD_of hr er p.bind fun μ1 h1 H1 v w s1 hr1 p1 vr1 => ?_
  cases vr1 with
  | @loc a l hl =>
    simp only at p1
    cases eo : h1[l]? with
    | none => rw [eo] at p1; exact p1.elim
    | some o =>
      cases o with
      | dK _ => rw [eo] at p1; exact p1.elim
      | oth _ => rw [eo] at p1; exact p1.elim
      | lst xs =>
        rw [eo] at p1
        simp only at p1
        obtain ⟨us, e3, rr⟩ := at_lst hr1 hl eo
        refine ⟨a, rfl, .inl ⟨⟨us, SqL.of e3⟩, ?_⟩⟩
        generalize hk : (endQ2 X.K z (fun μ' h' H' ρ' => ∀ σ', ER X.K μ' z H' ρ' σ' → HR X.K μ' z h' H' → D.nx σ' H') (fun μ' h' H' ρ' => ∀ σ', ER X.K μ' z H' ρ' σ' → D.bk σ' H') (fun μ' h' H' ρ' => ∀ σ', ER X.K μ' z H' ρ' σ' → D.ct σ' H') (fun μ' _ H' v => ∀ w, VR X.K μ' z H' v w → D.rt w H')) = k at p1
        have stay : ∀ (i : Nat) (μ' : List Addr) (h' : Mem) (H' : Hp) (ρ' : Sl), HR X.K μ' z h' H' → μ'[l]? = some a → post X.K E μ' z H' (forP t b l xs (xs.drop i) ρ' h') k → h'[l]? = some (.lst xs) ∧ ∃ vs, H' a = some (.lst vs) ∧ VRs X.K μ' z H' xs vs := by
          intro i μ' h' H' ρ' hr' hl' p'
          have e : h'[l]? = some (.lst xs) := by
            refine Classical.byContradiction fun n => ?_
            cases ed : xs.drop i with
            | nil => rw [ed, forP, atP_no n] at p'; exact p'
            | cons v vs => rw [ed, forP, atP_no n] at p'; exact p'
          obtain ⟨vs, e4, r4⟩ := at_lst hr' hl' e
          exact ⟨e, vs, e4, r4⟩
        refine for_it (walk_chg (n := xs.length)) (fun i σ' H' => ∃ μ' h' ρ', Step μ1 H1 μ' H' ∧ HR X.K μ' z h' H' ∧ ER X.K μ' z H' ρ' σ' ∧ post X.K E μ' z H' (forP t b l xs (xs.drop i) ρ' h') k) ⟨μ1, h1, ρ, Step.refl, hr1, er.step s1, p1⟩ ?_ ?_ ?_
        · rintro i σ' H' hi' ⟨μ', h', ρ', s', hr', er', p'⟩
          obtain ⟨_, vs, e4, r4⟩ := stay i μ' h' H' ρ' hr' (s'.get hl) p'
          exact ⟨vs, SqL.of e4, r4.length.symm⟩
        · rintro i x σ' H' H2 hi' ⟨μ', h', ρ', s', hr', er', p'⟩ ⟨rfl, y⟩
          obtain ⟨e, vs, e4, r4⟩ := stay i μ' h' H2 ρ' hr' (s'.get hl) p'
          obtain ⟨v, ev, vr⟩ := r4.get' (y vs (SqL.of e4))
          have ed : xs.drop i = v :: xs.drop (i + 1) := by
            rw [List.drop_eq_getElem_cons hi']
            congr 1
            rw [List.getElem?_eq_getElem hi'] at ev
            exact Option.some.inj ev
          rw [ed, forP, atP_ok e] at p'
          cases et : t v ρ' with
          | none => rw [et] at p'; exact p'.elim
          | some ρ1 =>
            rw [et] at p'
            refine ⟨μ', z, ρ', v, ρ1, er', vr, et, fun σ3 er3 => ?_⟩
            refine ⟨μ', z, h', ρ1, hr', er3, p'.bind.mono fun μ4 h4 H4 r s4 hr4 p4 => ?_⟩
            obtain ⟨f, ρ4⟩ := r
            cases f with
            | nx => exact fun σ5 er5 _ => ⟨μ4, h4, ρ4, s'.trans s4, hr4, er5, p4⟩
            | ct => exact fun σ5 er5 => ⟨μ4, h4, ρ4, s'.trans s4, hr4, er5, p4⟩
            | bk =>
              have p5 := p4 μ4 H4 Step.refl hr4
              rw [← hk] at p5
              exact fun σ5 er5 => p5 σ5 er5 hr4
            | rt w =>
              have p5 := p4 μ4 H4 Step.refl hr4
              rw [← hk] at p5
              exact p5
        · rintro σ' H' ⟨μ', h', ρ', s', hr', er', p'⟩
          obtain ⟨e, _⟩ := stay xs.length μ' h' H' ρ' hr' (s'.get hl) p'
          rw [List.drop_length, forP, atP_ok e] at p'
          have p5 := p' μ' H' Step.refl hr'
          rw [← hk] at p5
          exact p5 σ' er' hr'
  | _ => exact p1.elim)
end
end VI
end

section
/-! A list at a place, walked by a comprehension while it stays as it is. -/
namespace VI
open PySem PySem.Spec PyProof.Rows L2
noncomputable def lcP (t : Tg) (tt : DenT) (el : Den) (l : Nat) (all : List IV) (ρ : Sl) : List IV → Nat → Mem → Ret (List IV)
  | [], _, h => atP h l all (.ok [] h)
  | v :: vs, n, h => atP h l all (match t v ρ with
    | none => .bad
    | some ρ1 => (nox (tt ρ1 h)).bind fun b h1 => if b then (nox (el ρ1 h1)).bind fun y h2 => if n < sizeLine then (lcP t tt el l all ρ vs (n + 1) h2).bind fun ys h3 => .ok (y :: ys) h3 else .bad
      else lcP t tt el l all ρ vs n h1)
noncomputable def fLcP (d : Den) (t : Tg) (tt : DenT) (el : Den) (own : List Nat) : DenA := fun ρ h => (d ρ h).bind fun v h1 => match v with
  | .loc l => (match h1[l]? with
    | some (.lst xs) => lcP t tt el l xs (wipeI ρ own) xs 0 h1
    | _ => .bad)
  | _ => .bad
section
variable {X : Cx} {E : XI} {K : PySem.W.Frag} {pos : Pos}
theorem lcP_imp {d : Den} {s : Sh} {tt : DenT} {el : Den} {own : List Nat} (ho : ownOk s own = true) {σ : L2.St} {H : Hp} {Q : VK} (q : tF K E (fLcP d s.tg tt el own) σ H Q) : tLc (iSeq K (tD K E d)) (s.raw K) (tT K noX tt) (tD K noX el) own σ H Q := by
  obtain ⟨μ, z, h, ρ, hr, er, p⟩ := q
  refine tD_of hr er p.bind fun μ1 h1 H1 v w s1 hr1 p1 vr1 => ?_
  cases vr1 with
  | @loc a l hl =>
    simp only at p1
    cases eo : h1[l]? with
    | none => rw [eo] at p1; exact p1.elim
    | some o =>
      cases o with
      | dK _ => rw [eo] at p1; exact p1.elim
      | oth _ => rw [eo] at p1; exact p1.elim
      | lst items =>
        rw [eo] at p1
        simp only at p1
        obtain ⟨us, e3, rr⟩ := at_lst hr1 hl eo
        refine ⟨a, rfl, .inl ⟨⟨us, SqL.of e3⟩, fun D nD => ?_⟩⟩
        let Pv : Nat → Hp → Prop := fun i H' => ∃ μ' h' accs ws, Step μ1 H1 μ' H' ∧ HR K μ' (D :: z) h' H' ∧ H' D = some (.lst ws) ∧ VRs K μ' (D :: z) H' accs ws ∧
          postF K E μ1 z H1 ((lcP s.tg tt el l items (wipeI ρ own) (items.drop i) accs.length h').bind fun ys h3 => .ok (accs ++ ys) h3) Q
        have base : ∀ {μ' H'}, Step μ1 H1 μ' H' → ER K μ' (D :: z) H' (wipeI ρ own) (L2.wipe σ own) := fun s => (((er.step s1).hide (.inl nD)).step s).wipe own
        have start : Pv 0 (upd H1 D (.lst [])) := by
          refine ⟨μ1, h1, [], [], Step.new nD, hr1.hideNew nD, upd_same, .nil, ?_⟩
          have e : ((lcP s.tg tt el l items (wipeI ρ own) (items.drop 0) 0 h1).bind fun ys h3 => Ret.ok ([] ++ ys) h3) = lcP s.tg tt el l items (wipeI ρ own) items 0 h1 := by
            rw [List.drop_zero]
            cases lcP s.tg tt el l items (wipeI ρ own) items 0 h1 <;> rfl
          rw [List.length_nil, e]
          exact p1
        have stay : ∀ (i : Nat) (μ' : List Addr) (h' : Mem) (H' : Hp) (accs : List IV), HR K μ' (D :: z) h' H' → μ'[l]? = some a → postF K E μ1 z H1 ((lcP s.tg tt el l items (wipeI ρ own) (items.drop i) accs.length h').bind fun ys h3 => .ok (accs ++ ys) h3) Q → h'[l]? = some (.lst items) ∧ ∃ vs, H' a = some (.lst vs) ∧ VRs K μ' (D :: z) H' items vs := by
          intro i μ' h' H' accs hr' hl' p'
          have e : h'[l]? = some (.lst items) := by
            refine Classical.byContradiction fun n => ?_
            cases ed : items.drop i with
            | nil => rw [ed, lcP, atP_no n] at p'; exact p'
            | cons v vs => rw [ed, lcP, atP_no n] at p'; exact p'
          obtain ⟨vs, e4, r4⟩ := at_lst hr' hl' e
          exact ⟨e, vs, e4, r4⟩
        have wk := walk_chg (K := K) (a := a) (n := items.length)
        refine ⟨fun i m H => m = items.length - i ∧ i ≤ items.length ∧ Pv i H, ⟨items.length, by simp, Nat.zero_le _, start⟩, ?_⟩
        rintro i m H' ⟨rfl, hi, μ', h', accs, ws, s', hr', eD, va, p'⟩
        obtain ⟨e, vs, e4, r4⟩ := stay i μ' h' H' accs hr' (s'.get hl) p'
        have gg : ∃ vs, SqL K H' a vs ∧ vs.length = items.length := ⟨vs, SqL.of e4, r4.length.symm⟩
        by_cases hlt : i < items.length
        · refine .inr ⟨wk.goes i H' hlt gg, Pv (i + 1), fun H2 p2 => ⟨items.length - (i + 1), by omega, rfl, hlt, p2⟩, fun x H2 y => ?_⟩
          obtain ⟨rfl, y⟩ := wk.yields i H' x H2 hlt gg y
          obtain ⟨v, ev, vr⟩ := r4.get' (y vs (SqL.of e4))
          have ed : items.drop i = v :: items.drop (i + 1) := by
            rw [List.drop_eq_getElem_cons hlt]
            congr 1
            rw [List.getElem?_eq_getElem hlt] at ev
            exact Option.some.inj ev
          rw [ed, lcP, atP_ok e] at p'
          have nDμ : D ∉ μ' := (hr'.zz D List.mem_cons_self).1
          cases et : s.tg v (wipeI ρ own) with
          | none => rw [et] at p'; exact p'.elim
          | some ρ1 =>
            rw [et] at p'
            refine s.imp (base s') vr et fun σ3 er3 o => ⟨(o.wipe (ownOk_of ho)).trans (wipe_wipe σ own), ?_⟩
            refine ⟨μ', D :: z, h', ρ1, hr', er3, ?_⟩
            simp only at p'
            cases e1 : tt ρ1 h' with
            | ex _ _ => rw [e1] at p'; exact p'.elim
            | bad => rw [e1] at p'; exact p'.elim
            | ok b h2 =>
              rw [e1] at p'
              simp only [nox, Ret.bind_ok] at p'
              intro μ3 H3 s3 hr3
              have eD3 : H3 D = some (.lst ws) := s3.keep D _ eD nDμ
              have nDμ3 : D ∉ μ3 := (hr3.zz D List.mem_cons_self).1
              cases b with
              | false =>
                simp only [Bool.false_eq_true, if_false] at p' ⊢
                exact ⟨μ3, h2, accs, ws, s'.trans s3, hr3, eD3, va.step s3, p'⟩
              | true =>
                simp only [if_true] at p' ⊢
                refine ⟨μ3, D :: z, h2, ρ1, hr3, er3.step s3, ?_⟩
                cases e2 : el ρ1 h2 with
                | ex _ _ => rw [e2] at p'; exact p'.elim
                | bad => rw [e2] at p'; exact p'.elim
                | ok y2 h3 =>
                  rw [e2] at p'
                  simp only [nox, Ret.bind_ok] at p'
                  by_cases hn : accs.length < sizeLine
                  · rw [if_pos hn] at p'
                    intro μ4 H4 s4 hr4 w vw
                    have eD4 : H4 D = some (.lst ws) := s4.keep D _ eD3 nDμ3
                    have va4 := (va.step s3).step s4
                    refine ⟨ws, eD4, by rw [← va4.length]; exact hn, μ4, h3, accs ++ [y2], ws ++ [w], ?_, ?_, upd_same, ?_, ?_⟩
                    · exact ((s'.trans s3).trans s4).mutNew nD
                    · exact hr4.mutZ eD4 List.mem_cons_self
                    · exact (va4.mutZ eD4 List.mem_cons_self).append (.cons (vw.mutZ eD4 List.mem_cons_self) .nil)
                    · have e5 : (((lcP s.tg tt el l items (wipeI ρ own) (items.drop (i + 1)) (accs.length + 1) h3).bind fun ys h4 => Ret.ok (y2 :: ys) h4).bind fun ys h4 => Ret.ok (accs ++ ys) h4) = ((lcP s.tg tt el l items (wipeI ρ own) (items.drop (i + 1)) (accs ++ [y2]).length h3).bind fun ys h4 => Ret.ok ((accs ++ [y2]) ++ ys) h4) := by
                        rw [List.length_append]
                        show _ = (lcP s.tg tt el l items (wipeI ρ own) (items.drop (i + 1)) (accs.length + 1) h3).bind _
                        cases lcP s.tg tt el l items (wipeI ρ own) (items.drop (i + 1)) (accs.length + 1) h3 with
                        | ok ys h4 => show Ret.ok (accs ++ (y2 :: ys)) h4 = Ret.ok ((accs ++ [y2]) ++ ys) h4; rw [List.append_assoc]; rfl
                        | ex _ _ => rfl
                        | bad => rfl
                      rw [← e5]
                      exact p'
                  · rw [if_neg hn] at p'
                    exact p'.elim
        · have e : i = items.length := by omega
          subst e
          refine .inl ⟨wk.stops H' gg, ?_⟩
          rw [List.drop_length, lcP, atP_ok e] at p'
          have p2 : postF K E μ1 z H1 (.ok (accs ++ []) h') Q := p'
          rw [List.append_nil] at p2
          exact p2 μ' D ws H' s' nD eD hr' va
  | _ => exact p1.elim
theorem r_lcP {elt tg iter : Expr} {ifs : List Expr} {scope : Scope} {own : List (Str × Nat)} {d : Den} {s : Sh} {tt : DenT} {el : Den} (hc : X.calm = true) (hN : X.N.Nodup) (hi : PE X iter (tD X.K E d)) (ok : BlkOk X.N X.env.scope scope own) (ho : ownOk s (own.map (·.2)) = true)
    (hg : ∀ (s1 : Shared) (H : Hp) (C : Addr) (cl : List (Str × Addr)) (fp : List Addr), PG (X.blk s1 H scope (compEnvC scope cl C X.env) fp) tg (s.raw X.K))
    (ht : ∀ (s : Shared) (H : Hp) (C : Addr) (cl : List (Str × Addr)) (fp : List Addr), PTs (X.blk s H scope (compEnvC scope cl C X.env) fp) ifs (tT X.K noX tt))
    (he : ∀ (s : Shared) (H : Hp) (C : Addr) (cl : List (Str × Addr)) (fp : List Addr), PE (X.blk s H scope (compEnvC scope cl C X.env) fp) elt (tD X.K noX el)) (hs : ∀ x, foldedSetIterable iter X.env x = pure x := by intro _; rfl) :
    PE X (.ListComp elt [⟨tg, iter, ifs, 0⟩] scope pos) (tF X.K E (fLcP d s.tg tt el (own.map (·.2)))) :=
  PE_imp (pe_lc hc hN (pi_seq hi) ok hg ht he hs) fun σ H Q q => lcP_imp ho q
section
variable {i : Nat} {y : Str} {py : Pos} {elt tg iter : Expr} {ifs : List Expr} {scope : Scope} {own : List (Str × Nat)} {d : Den} {s : Sh} {tt : DenT} {el : Den} {spos : Pos}
theorem r_setLcPF (hc : X.calm = true) (hN : X.N.Nodup) (hy : X.N[i]? = some y) (hyl : X.env.scope.names.lookup y = some .local)
    (hsw : swapsWith (.ListComp elt [⟨tg, iter, ifs, 0⟩] scope pos) (some (.Name y py)) spos.line X.env = pure true) (hi : PE X iter (tD X.K E d)) (ok : BlkOk X.N X.env.scope scope own) (ho : ownOk s (own.map (·.2)) = true)
    (hg : ∀ (s1 : Shared) (H : Hp) (C : Addr) (cl : List (Str × Addr)) (fp : List Addr), PG (X.blk s1 H scope (compEnvC scope cl C X.env) fp) tg (s.raw X.K))
    (ht : ∀ (s : Shared) (H : Hp) (C : Addr) (cl : List (Str × Addr)) (fp : List Addr), PTs (X.blk s H scope (compEnvC scope cl C X.env) fp) ifs (tT X.K noX tt))
    (he : ∀ (s : Shared) (H : Hp) (C : Addr) (cl : List (Str × Addr)) (fp : List Addr), PE (X.blk s H scope (compEnvC scope cl C X.env) fp) elt (tD X.K noX el)) (hs : ∀ x, foldedSetIterable iter X.env x = pure x := by intro _; rfl) :
    PS X (.Assign [.Name y py] (.ListComp elt [⟨tg, iter, ifs, 0⟩] scope pos) spos) (tS X.K E (sAsg (tgN i) (dFl (fLcP d s.tg tt el (own.map (·.2)))))) :=
  PS_imp (ps_setLc hc hN hy hyl hsw (pi_seq hi) ok hg ht he hs) fun D σ H q => lcP_imp ho (i_fl σ H _ (set_imp q))
theorem r_setLcPA (hc : X.calm = true) (hN : X.N.Nodup) (hy : X.N[i]? = some y) (hyl : X.env.scope.names.lookup y = some .local)
    (hsw : swapsWith (.ListComp elt [⟨tg, iter, ifs, 0⟩] scope pos) (some (.Name y py)) spos.line X.env = pure true) (hi : PE X iter (tD X.K E d)) (ok : BlkOk X.N X.env.scope scope own) (ho : ownOk s (own.map (·.2)) = true)
    (hg : ∀ (s1 : Shared) (H : Hp) (C : Addr) (cl : List (Str × Addr)) (fp : List Addr), PG (X.blk s1 H scope (compEnvC scope cl C X.env) fp) tg (s.raw X.K))
    (ht : ∀ (s : Shared) (H : Hp) (C : Addr) (cl : List (Str × Addr)) (fp : List Addr), PTs (X.blk s H scope (compEnvC scope cl C X.env) fp) ifs (tT X.K noX tt))
    (he : ∀ (s : Shared) (H : Hp) (C : Addr) (cl : List (Str × Addr)) (fp : List Addr), PE (X.blk s H scope (compEnvC scope cl C X.env) fp) elt (tD X.K noX el)) (hs : ∀ x, foldedSetIterable iter X.env x = pure x := by intro _; rfl) :
    PS X (.Assign [.Name y py] (.ListComp elt [⟨tg, iter, ifs, 0⟩] scope pos) spos) (tS X.K E (sAsg (tgN i) (dAl (fLcP d s.tg tt el (own.map (·.2)))))) :=
  PS_imp (ps_setLc hc hN hy hyl hsw (pi_seq hi) ok hg ht he hs) fun D σ H q => lcP_imp ho (i_al σ H _ (set_imp q))
end
end
end VI
end

section
/-! None in a dict, {k: None}, sorted(d), x in a list of data. -/
namespace VI
open PySem PySem.Spec PyProof.Rows L2
section
variable {X : Cx} {E : XI} {K : PySem.W.Frag} {pos : Pos} {a b : Expr}
def rNIn (neg : Bool) : R2 := fun y x H Q => ∃ a kvs, x = .ref a ∧ y = .non ∧ Rd H a (.dK kvs) ∧ Q (.bl neg) H
theorem op_nin : OpR X (compareOp .In) (rNIn false) := by
  intro pins s σ H y x iv u Q I ry rx h
  obtain ⟨a, kvs, rfl, rfl, g, q⟩ := h
  obtain rfl : u = Value.ref a := rx
  obtain rfl : iv = Value.none := ry
  exact d_inNone I g fun s3 I3 => ⟨.bl false, H, I3, rfl, q⟩
theorem op_notNin : OpR X (compareOp .NotIn) (rNIn true) := by
  intro pins s σ H y x iv u Q I ry rx h
  obtain ⟨a, kvs, rfl, rfl, g, q⟩ := h
  obtain rfl : u = Value.ref a := rx
  obtain rfl : iv = Value.none := ry
  exact d_notInNone I g fun s3 I3 => ⟨.bl true, H, I3, rfl, q⟩
def isDk (h : Mem) : IV → Bool
  | .loc l => (match h[l]? with
    | some (.dK _) => true
    | _ => false)
  | _ => false
def isNn : IV → Bool
  | .non => true
  | _ => false
/-- in a dict, which may be asked for None, or in a sequence of flat things -/
def inN (neg : Bool) : IV → IV → Mem → Ret IV := fun v u h => bif isNn v && isDk h u then .ok (.bl neg) h else inA neg v u h
def rInN (K : PySem.W.Frag) (neg : Bool) : R2 := fun x y H Q => rInA K neg x y H Q ∨ rNIn neg x y H Q
theorem op_inN (hu : X.A.units + 1 < cLine) : OpR X (compareOp .In) (rInN X.K false) := (op_inA hu).or op_nin
theorem op_notInN (hu : X.A.units + 1 < cLine) : OpR X (compareOp .NotIn) (rInN X.K true) := (op_notInA hu).or op_notNin
theorem rb_inN {neg : Bool} : RB K (rInN K neg) (inN neg) := by
  intro E μ z h H v u x y Q hr v1 v2 p
  unfold inN at p
  cases e1 : isNn v && isDk h u with
  | false =>
    rw [e1] at p
    exact .inl (rb_inA E μ z h H v u x y Q hr v1 v2 p)
  | true =>
    rw [e1] at p
    rw [Bool.and_eq_true] at e1
    obtain ⟨e1, e2⟩ := e1
    cases v1 with
    | non =>
      cases v2 with
      | @loc a l hl =>
        have e3 : (match h[l]? with
          | some (.dK _) => true
          | _ => false) = true := e2
        cases eo : h[l]? with
        | none => rw [eo] at e3; cases e3
        | some o =>
          cases o with
          | lst _ => rw [eo] at e3; cases e3
          | oth _ => rw [eo] at e3; cases e3
          | dK kvs =>
            obtain ⟨ws, e4, _⟩ := at_dK hr hl eo
            exact .inr ⟨a, ws, rfl, rfl, .inl e4, p μ H Step.refl hr _ (.bl _)⟩
      | _ => cases e2
    | _ => cases e1
/-- {k: None} -/
def dD1 (i : Nat) : Den := fun ρ h => match ρ[i]? with
  | some (some v) => (match keyI v with
    | some k => .ok (.loc h.length) (h ++ [.dK [(k, .non)]])
    | none => .bad)
  | _ => .bad
theorem r_d1 {i : Nat} {key val : Expr} (hk : PE X key (tD X.K E (dVar i))) (hv : PE X val (tD X.K E (dC .non))) : PE X (.Dict [some key] [val] pos) (tD X.K E (dD1 i)) := by
  refine PE_imp (pe_disp (pps_cons hk hv pps_nil) (by rfl) (by rfl) (by simp) (by simp)) ?_
  rintro σ H Q ⟨μ, z, h, ρ, hr, er, p⟩ q nq
  have nz : q ∉ z := (hr.fresh nq).2
  unfold dD1 at p
  cases e1 : ρ[i]? with
  | none => rw [e1] at p; exact p.elim
  | some o =>
    cases o with
    | none => rw [e1] at p; exact p.elim
    | some v =>
      rw [e1] at p
      simp only at p
      cases e2 : keyI v with
      | none => rw [e2] at p; exact p.elim
      | some k =>
        rw [e2] at p
        simp only at p
        have ed : dVar i ρ h = .ok v h := by unfold dVar; rw [e1]
        refine ⟨μ, q :: z, h, ρ, hr.hideNew nq, (er.hide (.inl nq)).step (Step.new nq), ?_⟩
        rw [ed]
        intro μ1 H1 s1 hr1 w vw
        refine ⟨μ1, q :: z, h, ρ, hr1, ((er.hide (.inl nq)).step (Step.new nq)).step s1, ?_⟩
        intro μ2 H2 s2 hr2 w2 vw2
        have s : Step μ (upd H q (.dK [])) μ2 H2 := s1.trans s2
        have eq0 : H2 q = some (.dK []) := s.keep q _ upd_same (hr.fresh nq).1
        have ew : w = kV k := key_rel vw e2
        have ew2 : w2 = .non := by cases vw2; rfl
        refine ⟨eq0, [(k, w2)], by rw [ew]; rfl, by simp, ?_⟩
        have ni : ¬ Imm (.dK []) := fun i => i
        have rel : KRs X.K μ2 (q :: z) H2 [(k, .non)] (mergeK [] [(k, w2)]) := by
          rw [ew2]
          exact .cons .non .nil
        have hrm := hr2.mutY (o := .dK (mergeK [] [(k, w2)])) eq0 ni List.mem_cons_self
        have nm : q ∉ μ2 := (hr2.zz q List.mem_cons_self).1
        have st : Step μ H μ2 (upd H2 q (.dK (mergeK [] [(k, w2)]))) := ((Step.new nq).trans s).mutNew nq
        refine p (μ2 ++ [q]) _ (st.alloc nq nm) (hrm.unhide nz upd_same (.dK (rel.mutY eq0 ni List.mem_cons_self))) _ (.loc ?_)
        rw [hr2.len, List.getElem?_append_right (Nat.le_refl _), Nat.sub_self]
        rfl
/-- sorted(d) of a dict of ints -/
def keyN : Key → Option Int
  | .inl i => some i
  | .inr _ => none
theorem keyN_all : ∀ {ks : List Key} {ns : List Int}, allS (ks.map keyN) = some ns → ks = ns.map Sum.inl
  | [], ns, e => by cases e; rfl
  | k :: ks, ns, e => by
    rw [List.map_cons] at e
    cases k with
    | inr _ => cases e
    | inl i =>
      rw [show keyN (.inl i) = some i from rfl] at e
      unfold allS at e
      cases e2 : allS (ks.map keyN) with
      | none => rw [e2] at e; cases e
      | some ms =>
        rw [e2] at e
        cases e
        rw [keyN_all e2]
        rfl
def sortDF : List IV → Mem → Ret (List IV) := fun vs h => match vs with
  | [.loc l] => (match h[l]? with
    | some (.dK kvs) => (match allS ((kvs.map (·.1)).map keyN) with
      | some ns => bif decide (ns.length < 64) then .ok ((isort ns).map .int) h else .bad
      | none => .bad)
    | _ => .bad)
  | _ => .bad
theorem keys_rel {μ z : List Addr} {H : Hp} : ∀ {kvs : List (Key × IV)} {ws : List (Key × V)}, KRs K μ z H kvs ws → ws.map (·.1) = kvs.map (·.1)
  | [], _, .nil => rfl
  | _ :: _, _, .cons _ t => by rw [List.map_cons, List.map_cons, keys_rel t]
theorem rc_sortD : RCF K (fun xs H Q => ∃ (a : Addr) (kvs : List (Key × V)) (ks : List Int), xs = [.ref a] ∧ Rd H a (.dK kvs) ∧ kvs.map (·.1) = ks.map Sum.inl ∧ ks.length < 64 ∧
    ∀ (ys : List Int) (p : Addr), ys.Perm ks → ys.Pairwise (· ≤ ·) → H p = none → Q (.ref p) (upd H p (.lst (ys.map V.int)))) sortDF := by
  intro E μ z h H vs xs Q hr vr p
  cases vr with
  | nil => exact p.elim
  | @cons v x vs xs v1 t =>
    cases v1 with
    | @loc a l hl =>
      cases t with
      | cons _ _ => exact p.elim
      | nil =>
        unfold sortDF at p
        simp only at p
        cases eo : h[l]? with
        | none => rw [eo] at p; exact p.elim
        | some o =>
          cases o with
          | lst _ => rw [eo] at p; exact p.elim
          | oth _ => rw [eo] at p; exact p.elim
          | dK kvs =>
            rw [eo] at p
            simp only at p
            cases e1 : allS ((kvs.map (·.1)).map keyN) with
            | none => rw [e1] at p; exact p.elim
            | some ns =>
              rw [e1] at p
              simp only at p
              by_cases h64 : ns.length < 64
              · rw [decide_eq_true h64, cond_true] at p
                obtain ⟨ws, e4, r4⟩ := at_dK hr hl eo
                refine ⟨a, ws, ns, rfl, .inl e4, by rw [keys_rel r4, keyN_all e1], h64, fun ns' q pm so nq => ?_⟩
                have e : ns' = isort ns := sorted_one (pm.trans (isort_perm ns).symm) so (isort_sorted ns)
                rw [e]
                exact p.fresh hr (VRs.ofInts _) q nq
              · rw [decide_eq_false h64, cond_false] at p
                exact p.elim
    | _ => exact p.elim
theorem un65 {k : Nat} {A : Around} (r : Room k A) : A.units + 65 < cLine := by have := r.un; omega
/-- x in a list of data -/
def inDF : IV → IV → Mem → Ret IV := fun v u h => match toD h deep v, toD h deep u with
  | some d, some (.list ds) => bif SeqAt.shaped d && SeqAt.shaped (.list ds) then .ok (.bl (ds.any fun z => PyData.eqv z d)) h else .bad
  | _, _ => .bad
theorem rb_inD : RB K (rInD K) inDF := by
  intro E μ z h H v u x y Q hr v1 v2 p
  unfold inDF at p
  cases e1 : toD h deep v with
  | none => rw [e1] at p; exact p.elim
  | some d =>
    cases e2 : toD h deep u with
    | none => rw [e1, e2] at p; exact p.elim
    | some e =>
      rw [e1, e2] at p
      cases e with
      | list ds =>
        simp only at p
        cases e3 : SeqAt.shaped d && SeqAt.shaped (.list ds) with
        | false => simp only [e3, cond_false] at p; exact p.elim
        | true =>
          simp only [e3, cond_true] at p
          rw [Bool.and_eq_true] at e3
          exact ⟨d, ds, dp_of hr _ _ _ _ v1 e1, dp_of hr _ _ _ _ v2 e2, e3.1, e3.2, p μ H Step.refl hr _ (.bl _)⟩
      | _ => exact p.elim
end
end VI
end

section
/-! enumerate of a list at a place, walked while it stays as it is. -/
namespace VI
open PySem PySem.Spec PyProof.Rows L2
theorem walk_chgE {K : PySem.W.Frag} {a : Addr} {n : Nat} : Walk (Ite K a) n (fun H => ∃ vs, SqL K H a vs ∧ vs.length = n) (fun i H x H' => ∃ T u, x = .ref T ∧ H T = none ∧ H' = upd H T (.tup [.int (i : Nat), u]) ∧ ∀ vs, SqL K H a vs → vs[i]? = some u) :=
  ⟨fun i H hi ⟨vs, q, l⟩ => ⟨vs, vs[i], q, List.getElem?_eq_getElem (by omega)⟩, fun H ⟨vs, q, l⟩ => ⟨vs, q, Nat.le_of_eq l⟩, fun _ _ _ _ _ _ y => y⟩
noncomputable def sForEP (d : DenA) (t : Tg) (b : DenS) : DenS := fun ρ h => (d ρ h).bind fun vs h1 => match vs with
  | [.loc l] => (match h1[l]? with
    | some (.lst xs) => forP t b l xs (numd 0 xs) ρ h1
    | _ => .bad)
  | _ => .bad
section
variable {X : Cx} {E : XI} {e : Expr} {pos p2 p3 : Pos}
theorem r_forEP {elts : List Expr} {kk : Nat} {tpos : Pos} {body : List Stmt} {d : DenA} {t : Tg} {b : DenS} (hp : PassesOwn (model X.prog X.w) X.A X.env X.xe) (hc : X.calm = true) (hg0 : Gl X "enumerate") (hm : X.mg "enumerate" = none) (ha : PA X [e] (tAr X.K E d)) (hg : PG X (.Tuple elts kk tpos) (gI X.K t)) (hb : PSs X body (tS X.K E b)) (hs0 : starEach [e] X.env = [(false, eval e X.env)] := by rfl)
    (hs : ∀ x, foldedSetIterable (.Call (.Name "enumerate" p2) [e] [] p3) X.env x = pure x := by intro _; rfl) : PS X (.For (.Tuple elts kk tpos) (.Call (.Name "enumerate" p2) [e] [] p3) body [] pos) (tS X.K E (sForEP d t b)) := PS_imp (ps_for hp hc (pi_enumA hg0 hm ha hs0) hg hb hs) (by
  rintro D σ H ⟨μ, z, h, ρ, hr, er, p⟩
  refine ⟨μ, z, h, ρ, hr, er, p.bind.mono fun μ1 h1 H1 vs s1 hr1 p1 ws vr => ?_⟩
  cases vr with
  | nil => exact p1.elim
  | cons v1 tl =>
    cases v1 with
    | @loc a l hl =>
      cases tl with
      | cons _ _ => exact p1.elim
      | nil =>
        simp only at p1
        cases eo : h1[l]? with
        | none => rw [eo] at p1; exact p1.elim
        | some o =>
          cases o with
          | dK _ => rw [eo] at p1; exact p1.elim
          | oth _ => rw [eo] at p1; exact p1.elim
          | lst xs =>
            rw [eo] at p1
            simp only at p1
            obtain ⟨us, e3, rr⟩ := at_lst hr1 hl eo
            have el : (numd 0 xs).length = xs.length := numd_len 0 xs
            refine ⟨a, us, rfl, .inl ⟨SqL.of e3, ?_⟩⟩
            generalize hk : (endQ2 X.K z (fun μ' h' H' ρ' => ∀ σ', ER X.K μ' z H' ρ' σ' → HR X.K μ' z h' H' → D.nx σ' H') (fun μ' h' H' ρ' => ∀ σ', ER X.K μ' z H' ρ' σ' → D.bk σ' H') (fun μ' h' H' ρ' => ∀ σ', ER X.K μ' z H' ρ' σ' → D.ct σ' H') (fun μ' _ H' v => ∀ w, VR X.K μ' z H' v w → D.rt w H')) = k at p1
            have stay : ∀ (i : Nat) (μ' : List Addr) (h' : Mem) (H' : Hp) (ρ' : Sl), HR X.K μ' z h' H' → μ'[l]? = some a → post X.K E μ' z H' (forP t b l xs ((numd 0 xs).drop i) ρ' h') k → h'[l]? = some (.lst xs) ∧ ∃ vs, H' a = some (.lst vs) ∧ VRs X.K μ' z H' xs vs := by
              intro i μ' h' H' ρ' hr' hl' p'
              have e : h'[l]? = some (.lst xs) := by
                refine Classical.byContradiction fun n => ?_
                cases ed : (numd 0 xs).drop i with
                | nil => rw [ed, forP, atP_no n] at p'; exact p'
                | cons v vs => rw [ed, forP, atP_no n] at p'; exact p'
              obtain ⟨vs, e4, r4⟩ := at_lst hr' hl' e
              exact ⟨e, vs, e4, r4⟩
            refine for_it (walk_chgE (n := xs.length)) (fun i σ' H' => ∃ μ' h' ρ', Step μ1 H1 μ' H' ∧ HR X.K μ' z h' H' ∧ ER X.K μ' z H' ρ' σ' ∧ post X.K E μ' z H' (forP t b l xs ((numd 0 xs).drop i) ρ' h') k) ⟨μ1, h1, ρ, Step.refl, hr1, er.step s1, p1⟩ ?_ ?_ ?_
            · rintro i σ' H' hi' ⟨μ', h', ρ', s', hr', er', p'⟩
              obtain ⟨_, vs, e4, r4⟩ := stay i μ' h' H' ρ' hr' (s'.get hl) p'
              exact ⟨vs, SqL.of e4, r4.length.symm⟩
            · rintro i x σ' H' H2 hi' ⟨μ', h', ρ', s', hr', er', p'⟩ ⟨T, u, rfl, nT, rfl, y⟩
              obtain ⟨e, vs, e4, r4⟩ := stay i μ' h' H' ρ' hr' (s'.get hl) p'
              obtain ⟨v, ev, vr⟩ := r4.get' (y vs (SqL.of e4))
              have ed : (numd 0 xs).drop i = .tup [.int (i : Nat), v] :: (numd 0 xs).drop (i + 1) := by
                have h0 := numd_get xs 0 i v ev
                rw [Nat.zero_add] at h0
                have hlt : i < (numd 0 xs).length := by rw [el]; exact hi'
                rw [List.drop_eq_getElem_cons hlt]
                congr 1
                rw [List.getElem?_eq_getElem hlt] at h0
                exact Option.some.inj h0
              rw [ed, forP, atP_ok e] at p'
              have sT : Step μ' H' μ' (upd H' T (.tup [.int (i : Nat), u])) := Step.new nT
              have hr2 := hr'.new nT (o := .tup [.int (i : Nat), u])
              have er2 := er'.step sT
              have vr2 : VR X.K μ' z (upd H' T (.tup [.int (i : Nat), u])) (.tup [.int (i : Nat), v]) (.ref T) := .tup (.inl (.inl upd_same)) (.cons (.int _) (.cons (vr.step sT) .nil))
              cases et : t (.tup [.int (i : Nat), v]) ρ' with
              | none => rw [et] at p'; exact p'.elim
              | some ρ1 =>
                rw [et] at p'
                refine ⟨μ', z, ρ', _, ρ1, er2, vr2, et, fun σ3 er3 => ?_⟩
                refine ⟨μ', z, h', ρ1, hr2, er3, (p'.later sT).bind.mono fun μ4 h4 H4 r s4 hr4 p4 => ?_⟩
                obtain ⟨f, ρ4⟩ := r
                cases f with
                | nx => exact fun σ5 er5 _ => ⟨μ4, h4, ρ4, (s'.trans sT).trans s4, hr4, er5, p4⟩
                | ct => exact fun σ5 er5 => ⟨μ4, h4, ρ4, (s'.trans sT).trans s4, hr4, er5, p4⟩
                | bk =>
                  have p5 := p4 μ4 H4 Step.refl hr4
                  rw [← hk] at p5
                  exact fun σ5 er5 => p5 σ5 er5 hr4
                | rt w =>
                  have p5 := p4 μ4 H4 Step.refl hr4
                  rw [← hk] at p5
                  exact p5
            · rintro σ' H' ⟨μ', h', ρ', s', hr', er', p'⟩
              obtain ⟨e, _⟩ := stay xs.length μ' h' H' ρ' hr' (s'.get hl) p'
              rw [← el, List.drop_length, forP, atP_ok e] at p'
              have p5 := p' μ' H' Step.refl hr'
              rw [← hk] at p5
              exact p5 σ' er' hr'
    | _ => cases tl <;> exact p1.elim)
end
end VI
end

section
/-! What holds behind a run of a plain function: rules that reckon step by step, the rest of the run kept as a name. -/
namespace VI
open PySem PySem.Spec PyProof.Rows L2
@[irreducible] def Ret.wp {α : Type} (r : Ret α) (Q : α → Mem → Prop) : Prop := match r with
  | .ok a h => Q a h
  | _ => False
section
variable {α β : Type} {Q Q' : α → Mem → Prop} {h h' : Mem} {a : α} {r : Ret α}
theorem wp_ok : (Ret.ok a h).wp Q = Q a h := id (by with_unfolding_all rfl)
theorem wp_bad : (Ret.bad : Ret α).wp Q = False := id (by with_unfolding_all rfl)
theorem wp_bind {f : α → Mem → Ret β} {R : β → Mem → Prop} : (r.bind f).wp R = r.wp fun a h => (f a h).wp R := by cases r <;> with_unfolding_all rfl
theorem wp_mono (p : r.wp Q) (q : ∀ a h, Q a h → Q' a h) : r.wp Q' := by
  cases r with
  | ok a h => with_unfolding_all exact q a h p
  | ex _ _ => with_unfolding_all exact p
  | bad => with_unfolding_all exact p
theorem wp_of (e : r = .ok a h) (q : Q a h) : r.wp Q := by rw [e]; with_unfolding_all exact q
theorem wp_ex (p : r.wp Q) : ∃ a h, r = .ok a h ∧ Q a h := by
  cases r with
  | ok a h => with_unfolding_all exact ⟨a, h, rfl, p⟩
  | ex _ _ => with_unfolding_all exact p.elim
  | bad => with_unfolding_all exact p.elim
theorem wp_nox : (nox r).wp Q = r.wp Q := by cases r <;> with_unfolding_all rfl
end
abbrev KV := IV → Mem → Prop
abbrev KA := List IV → Mem → Prop
abbrev KT := Bool → Mem → Prop
abbrev KS := Fl × Sl → Mem → Prop
section
variable {ρ : Sl} {h : Mem} {Q : KV} {QA : KA} {QT : KT} {QS : KS} {a b c : Den} {f g : IV → IV → Mem → Ret IV} {k r : DenA} {s t : DenT} {x y : DenS} {i j n m l : Nat} {v u : IV} {vs xs : List IV} {bb cc : Bool}
/-! ### expressions -/
def kVar (Q : KV) (h : Mem) : Option (Option IV) → Prop
  | some (some v) => Q v h
  | _ => False
theorem kVar_eq : kVar Q h (some (some v)) = Q v h := id (by with_unfolding_all rfl)
theorem wVar : (dVar i ρ h).wp Q = kVar Q h ρ[i]? := by
  unfold dVar kVar
  cases ρ[i]? with
  | none => with_unfolding_all rfl
  | some o => cases o <;> with_unfolding_all rfl
theorem wC : (dC v ρ h).wp Q = Q v h := id (by with_unfolding_all rfl)
def kBin2 (f : IV → IV → Mem → Ret IV) (v : IV) (Q : KV) : KV := fun u h => (f v u h).wp Q
def kBin (f : IV → IV → Mem → Ret IV) (b : Den) (ρ : Sl) (Q : KV) : KV := fun v h => (b ρ h).wp (kBin2 f v Q)
theorem kBin2_eq : kBin2 f v Q u h = (f v u h).wp Q := id (by with_unfolding_all rfl)
theorem kBin_eq : kBin f b ρ Q v h = (b ρ h).wp (kBin2 f v Q) := id (by with_unfolding_all rfl)
theorem wBin : (dBin f a b ρ h).wp Q = (a ρ h).wp (kBin f b ρ Q) := by
  unfold dBin; rw [wp_bind]; congr 1; funext v h1; rw [wp_bind]; with_unfolding_all rfl
def kUn (f : IV → Mem → Ret IV) (Q : KV) : KV := fun u h => (f u h).wp Q
theorem kUn_eq {f : IV → Mem → Ret IV} : kUn f Q u h = (f u h).wp Q := id (by with_unfolding_all rfl)
theorem wUn {f : IV → Mem → Ret IV} : (dUn f a ρ h).wp Q = (a ρ h).wp (kUn f Q) := by
  unfold dUn; rw [wp_bind]; with_unfolding_all rfl
def kC2 (v : IV) (QA : KA) : KA := fun vs h => QA (v :: vs) h
def kC (r : DenA) (ρ : Sl) (QA : KA) : KV := fun v h => (r ρ h).wp (kC2 v QA)
theorem kC2_eq : kC2 v QA vs h = QA (v :: vs) h := id (by with_unfolding_all rfl)
theorem kC_eq : kC r ρ QA v h = (r ρ h).wp (kC2 v QA) := id (by with_unfolding_all rfl)
theorem wCons : (aCons a r ρ h).wp QA = (a ρ h).wp (kC r ρ QA) := by
  unfold aCons; rw [wp_bind]; congr 1; funext v h1; rw [wp_bind]; with_unfolding_all rfl
theorem wNil : (aNil ρ h).wp QA = QA [] h := id (by with_unfolding_all rfl)
def kArg (f : List IV → Mem → Ret IV) (Q : KV) : KA := fun vs h => (f vs h).wp Q
theorem kArg_eq {f : List IV → Mem → Ret IV} : kArg f Q vs h = (f vs h).wp Q := id (by with_unfolding_all rfl)
theorem wArg {f : List IV → Mem → Ret IV} : (dArg f r ρ h).wp Q = (r ρ h).wp (kArg f Q) := by
  unfold dArg; rw [wp_bind]; with_unfolding_all rfl
def kFArg (f : List IV → Mem → Ret (List IV)) (QA : KA) : KA := fun vs h => (f vs h).wp QA
theorem kFArg_eq {f : List IV → Mem → Ret (List IV)} : kFArg f QA vs h = (f vs h).wp QA := id (by with_unfolding_all rfl)
theorem wFArg {f : List IV → Mem → Ret (List IV)} : (fArg f r ρ h).wp QA = (r ρ h).wp (kFArg f QA) := by
  unfold fArg; rw [wp_bind]; with_unfolding_all rfl
def kFl (Q : KV) : KA := fun xs h => Q (.fl xs) h
theorem kFl_eq : kFl Q xs h = Q (.fl xs) h := id (by with_unfolding_all rfl)
theorem wFlv : (dFl r ρ h).wp Q = (r ρ h).wp (kFl Q) := by
  unfold dFl; rw [wp_bind]; with_unfolding_all rfl
def kAl (Q : KV) : KA := fun xs h => Q (.loc h.length) (h ++ [.lst xs])
theorem kAl_eq : kAl Q xs h = Q (.loc h.length) (h ++ [.lst xs]) := id (by with_unfolding_all rfl)
theorem wAl : (dAl r ρ h).wp Q = (r ρ h).wp (kAl Q) := by
  unfold dAl; rw [wp_bind]; with_unfolding_all rfl

def kLst (QA : KA) : KA := fun xs h => xs.length ≤ sizeLine ∧ QA xs h
theorem wLst : (fLst r ρ h).wp QA = (r ρ h).wp (kLst QA) := by
  unfold fLst; rw [wp_bind]; congr 1; funext xs h1
  by_cases e : xs.length ≤ sizeLine
  · rw [if_pos e]; with_unfolding_all exact propext ⟨fun q => ⟨e, q⟩, fun q => q.2⟩
  · rw [if_neg e]; with_unfolding_all exact propext ⟨fun q => q.elim, fun q => (e q.1).elim⟩
theorem kLst_of (e : xs.length ≤ 100000) : kLst QA xs h = QA xs h := propext ⟨fun q => q.2, fun q => ⟨sl_le e, q⟩⟩
theorem kLst0 : kLst QA [] h = QA [] h := kLst_of (by decide)
theorem kLst1 {a} : kLst QA [a] h = QA [a] h := kLst_of (by simp)
theorem kLst2 {a b} : kLst QA [a, b] h = QA [a, b] h := kLst_of (by simp)
theorem kLst3 {a b c} : kLst QA [a, b, c] h = QA [a, b, c] h := kLst_of (by simp)
theorem kLst4 {a b c d} : kLst QA [a, b, c, d] h = QA [a, b, c, d] h := kLst_of (by simp)
theorem kLst5 {a b c d e} : kLst QA [a, b, c, d, e] h = QA [a, b, c, d, e] h := kLst_of (by simp)
theorem kLst6 {a b c d e f} : kLst QA [a, b, c, d, e, f] h = QA [a, b, c, d, e, f] h := kLst_of (by simp)
def kTup (Q : KV) : KA := fun xs h => xs.length ≤ sizeLine ∧ Q (.tup xs) h
theorem wTupv : (dTup r ρ h).wp Q = (r ρ h).wp (kTup Q) := by
  unfold dTup; rw [wp_bind]; congr 1; funext xs h1
  by_cases e : xs.length ≤ sizeLine
  · rw [if_pos e]; with_unfolding_all exact propext ⟨fun q => ⟨e, q⟩, fun q => q.2⟩
  · rw [if_neg e]; with_unfolding_all exact propext ⟨fun q => q.elim, fun q => (e q.1).elim⟩
theorem kTup_of (e : xs.length ≤ 100000) : kTup Q xs h = Q (.tup xs) h := propext ⟨fun q => q.2, fun q => ⟨sl_le e, q⟩⟩
theorem kTup0 : kTup Q [] h = Q (.tup []) h := kTup_of (by decide)
theorem kTup1 {a} : kTup Q [a] h = Q (.tup [a]) h := kTup_of (by simp)
theorem kTup2 {a b} : kTup Q [a, b] h = Q (.tup [a, b]) h := kTup_of (by simp)
theorem kTup3 {a b c} : kTup Q [a, b, c] h = Q (.tup [a, b, c]) h := kTup_of (by simp)
theorem kTup4 {a b c d} : kTup Q [a, b, c, d] h = Q (.tup [a, b, c, d]) h := kTup_of (by simp)
theorem kTup5 {a b c d e} : kTup Q [a, b, c, d, e] h = Q (.tup [a, b, c, d, e]) h := kTup_of (by simp)
theorem kTup6 {a b c d e f} : kTup Q [a, b, c, d, e, f] h = Q (.tup [a, b, c, d, e, f]) h := kTup_of (by simp)
/-! ### tests -/
def kTst (QT : KT) (h : Mem) : IV → Prop
  | .bl b => QT b h
  | _ => False
def kTst' (QT : KT) : KV := fun v h => kTst QT h v
theorem kTst_eq : kTst' QT (.bl bb) h = QT bb h := id (by with_unfolding_all rfl)
theorem wTst : (dTst a ρ h).wp QT = (a ρ h).wp (kTst' QT) := by
  unfold dTst; rw [wp_bind]; congr 1; funext v h1; cases v <;> with_unfolding_all rfl
@[irreducible] def kAnd (t : DenT) (ρ : Sl) (QT : KT) : KT := fun b h => if b then (t ρ h).wp QT else QT false h
theorem kAnd_t : kAnd t ρ QT true h = (t ρ h).wp QT := id (by with_unfolding_all rfl)
theorem kAnd_f : kAnd t ρ QT false h = QT false h := id (by with_unfolding_all rfl)
theorem kAnd_c (p : bb = true → (t ρ h).wp QT) (q : bb = false → QT false h) : kAnd t ρ QT bb h := by
  cases bb with
  | true => with_unfolding_all exact p rfl
  | false => with_unfolding_all exact q rfl
theorem wAnd : (dAndT s t ρ h).wp QT = (s ρ h).wp (kAnd t ρ QT) := by
  unfold dAndT; rw [wp_bind]; congr 1; funext b h1; cases b <;> with_unfolding_all rfl
@[irreducible] def kOr (t : DenT) (ρ : Sl) (QT : KT) : KT := fun b h => if b then QT true h else (t ρ h).wp QT
theorem kOr_t : kOr t ρ QT true h = QT true h := id (by with_unfolding_all rfl)
theorem kOr_f : kOr t ρ QT false h = (t ρ h).wp QT := id (by with_unfolding_all rfl)
theorem kOr_c (p : bb = true → QT true h) (q : bb = false → (t ρ h).wp QT) : kOr t ρ QT bb h := by
  cases bb with
  | true => with_unfolding_all exact p rfl
  | false => with_unfolding_all exact q rfl
theorem wOr : (dOrT s t ρ h).wp QT = (s ρ h).wp (kOr t ρ QT) := by
  unfold dOrT; rw [wp_bind]; congr 1; funext b h1; cases b <;> with_unfolding_all rfl
def kNot (QT : KT) : KT := fun b h => QT (!b) h
theorem kNot_eq : kNot QT bb h = QT (!bb) h := id (by with_unfolding_all rfl)
theorem wNot : (dNotT s ρ h).wp QT = (s ρ h).wp (kNot QT) := by
  unfold dNotT; rw [wp_bind]; with_unfolding_all rfl
theorem wYes : (dYes ρ h).wp QT = QT true h := id (by with_unfolding_all rfl)
@[irreducible] def kIfE (a b : Den) (ρ : Sl) (Q : KV) : KT := fun c h => if c then (a ρ h).wp Q else (b ρ h).wp Q
theorem kIfE_t : kIfE a b ρ Q true h = (a ρ h).wp Q := id (by with_unfolding_all rfl)
theorem kIfE_f : kIfE a b ρ Q false h = (b ρ h).wp Q := id (by with_unfolding_all rfl)
theorem kIfE_c (p : bb = true → (a ρ h).wp Q) (q : bb = false → (b ρ h).wp Q) : kIfE a b ρ Q bb h := by
  cases bb with
  | true => with_unfolding_all exact p rfl
  | false => with_unfolding_all exact q rfl
theorem wIfE : (dIf s a b ρ h).wp Q = (s ρ h).wp (kIfE a b ρ Q) := by
  unfold dIf; rw [wp_bind]; congr 1; funext c h1; cases c <;> with_unfolding_all rfl
def kAndV0 (b : Den) (ρ : Sl) (Q : KV) (h : Mem) : IV → Prop
  | .bl true => (b ρ h).wp Q
  | .bl false => Q (.bl false) h
  | _ => False
@[irreducible] def kAndV (b : Den) (ρ : Sl) (Q : KV) : KV := fun v h => kAndV0 b ρ Q h v
theorem kAndV_t : kAndV b ρ Q (.bl true) h = (b ρ h).wp Q := id (by with_unfolding_all rfl)
theorem kAndV_f : kAndV b ρ Q (.bl false) h = Q (.bl false) h := id (by with_unfolding_all rfl)
theorem kAndV_c (p : bb = true → (b ρ h).wp Q) (q : bb = false → Q (.bl false) h) : kAndV b ρ Q (.bl bb) h := by
  cases bb with
  | true => with_unfolding_all exact p rfl
  | false => with_unfolding_all exact q rfl
theorem wAndV : (dAnd a b ρ h).wp Q = (a ρ h).wp (kAndV b ρ Q) := by
  unfold dAnd; rw [wp_bind]; congr 1; funext v h1
  cases v with
  | bl c => cases c <;> with_unfolding_all rfl
  | _ => with_unfolding_all rfl
def kOrV0 (b : Den) (ρ : Sl) (Q : KV) (h : Mem) : IV → Prop
  | .bl false => (b ρ h).wp Q
  | .bl true => Q (.bl true) h
  | _ => False
@[irreducible] def kOrV (b : Den) (ρ : Sl) (Q : KV) : KV := fun v h => kOrV0 b ρ Q h v
theorem kOrV_f : kOrV b ρ Q (.bl false) h = (b ρ h).wp Q := id (by with_unfolding_all rfl)
theorem kOrV_t : kOrV b ρ Q (.bl true) h = Q (.bl true) h := id (by with_unfolding_all rfl)
theorem kOrV_c (p : bb = true → Q (.bl true) h) (q : bb = false → (b ρ h).wp Q) : kOrV b ρ Q (.bl bb) h := by
  cases bb with
  | true => with_unfolding_all exact p rfl
  | false => with_unfolding_all exact q rfl
theorem wOrV : (dOr a b ρ h).wp Q = (a ρ h).wp (kOrV b ρ Q) := by
  unfold dOr; rw [wp_bind]; congr 1; funext v h1
  cases v with
  | bl c => cases c <;> with_unfolding_all rfl
  | _ => with_unfolding_all rfl
def kNotV0 (Q : KV) (h : Mem) : IV → Prop
  | .bl c => Q (.bl (!c)) h
  | _ => False
def kNotV (Q : KV) : KV := fun v h => kNotV0 Q h v
theorem kNotV_eq : kNotV Q (.bl bb) h = Q (.bl (!bb)) h := id (by with_unfolding_all rfl)
theorem wNotV : (dNot a ρ h).wp Q = (a ρ h).wp (kNotV Q) := by
  unfold dNot; rw [wp_bind]; congr 1; funext v h1; cases v <;> with_unfolding_all rfl
def kChn4 (g : IV → IV → Mem → Ret IV) (u : IV) (Q : KV) : KV := fun w h => (g u w h).wp Q
theorem kChn4_eq : kChn4 g u Q v h = (g u v h).wp Q := id (by with_unfolding_all rfl)
def kChn3 (g : IV → IV → Mem → Ret IV) (c : Den) (u : IV) (ρ : Sl) (Q : KV) (h : Mem) : IV → Prop
  | .bl true => (c ρ h).wp (kChn4 g u Q)
  | .bl false => Q (.bl false) h
  | _ => False
def kChn2' (g : IV → IV → Mem → Ret IV) (c : Den) (u : IV) (ρ : Sl) (Q : KV) : KV := fun v h => kChn3 g c u ρ Q h v
theorem kChn_t : kChn2' g c u ρ Q (.bl true) h = (c ρ h).wp (kChn4 g u Q) := id (by with_unfolding_all rfl)
theorem kChn_f : kChn2' g c u ρ Q (.bl false) h = Q (.bl false) h := id (by with_unfolding_all rfl)
theorem kChn_c (p : bb = true → (c ρ h).wp (kChn4 g u Q)) (q : bb = false → Q (.bl false) h) : kChn2' g c u ρ Q (.bl bb) h := by
  cases bb with
  | true => with_unfolding_all exact p rfl
  | false => with_unfolding_all exact q rfl
def kChn2 (f g : IV → IV → Mem → Ret IV) (c : Den) (v : IV) (ρ : Sl) (Q : KV) : KV := fun u h => (f v u h).wp (kChn2' g c u ρ Q)
theorem kChn2_eq : kChn2 f g c v ρ Q u h = (f v u h).wp (kChn2' g c u ρ Q) := id (by with_unfolding_all rfl)
def kChn1 (f g : IV → IV → Mem → Ret IV) (b c : Den) (ρ : Sl) (Q : KV) : KV := fun v h => (b ρ h).wp (kChn2 f g c v ρ Q)
theorem kChn1_eq : kChn1 f g b c ρ Q v h = (b ρ h).wp (kChn2 f g c v ρ Q) := id (by with_unfolding_all rfl)
theorem wChn : (dChn f g a b c ρ h).wp Q = (a ρ h).wp (kChn1 f g b c ρ Q) := by
  unfold dChn; rw [wp_bind]; congr 1; funext v h1; rw [wp_bind, kChn1]; congr 1; funext u h2; rw [wp_bind, kChn2]; congr 1; funext k h3
  cases k with
  | bl k =>
    cases k with
    | true => simp only; rw [wp_bind]; with_unfolding_all rfl
    | false => with_unfolding_all rfl
  | _ => with_unfolding_all rfl
/-! ### walks, ranges, slices -/
def kSeq0 (QA : KA) (h : Mem) : IV → Prop
  | .tup xs => QA xs h
  | .fl xs => QA xs h
  | .fz xs => QA xs h
  | _ => False
def kSeq (QA : KA) : KV := fun v h => kSeq0 QA h v
theorem kSeq_t : kSeq QA (.tup xs) h = QA xs h := id (by with_unfolding_all rfl)
theorem kSeq_l : kSeq QA (.fl xs) h = QA xs h := id (by with_unfolding_all rfl)
theorem kSeq_z : kSeq QA (.fz xs) h = QA xs h := id (by with_unfolding_all rfl)
theorem wSeqv : (wSeq a ρ h).wp QA = (a ρ h).wp (kSeq QA) := by
  unfold wSeq; rw [wp_bind]; congr 1; funext v h1; cases v <;> with_unfolding_all rfl
def kEnum (QA : KA) : KA := fun vs h1 => (match vs with
  | [.tup xs] => Ret.ok (numd 0 xs) h1
  | [.fl xs] => .ok (numd 0 xs) h1
  | _ => .bad).wp QA
theorem kEnum_t : kEnum QA [.tup xs] h = QA (numd 0 xs) h := id (by with_unfolding_all rfl)
theorem kEnum_l : kEnum QA [.fl xs] h = QA (numd 0 xs) h := id (by with_unfolding_all rfl)
theorem wEnumv : (wEnum r ρ h).wp QA = (r ρ h).wp (kEnum QA) := by
  unfold wEnum; rw [wp_bind]; with_unfolding_all rfl
def kZip (QA : KA) : KA := fun vs h1 => (match vs with
  | [.tup xs, .tup ys] => Ret.ok (zipI xs ys) h1
  | [.fl xs, .fl ys] => .ok (zipI xs ys) h1
  | _ => .bad).wp QA
theorem kZip_t {ys : List IV} : kZip QA [.tup xs, .tup ys] h = QA (zipI xs ys) h := id (by with_unfolding_all rfl)
theorem kZip_l {ys : List IV} : kZip QA [.fl xs, .fl ys] h = QA (zipI xs ys) h := id (by with_unfolding_all rfl)
theorem wZipv : (wZip r ρ h).wp QA = (r ρ h).wp (kZip QA) := by
  unfold wZip; rw [wp_bind]; with_unfolding_all rfl
theorem okR_iff {j : Int} : okR j = true ↔ (-4611686018427387904 ≤ j ∧ j < 4611686018427387904) := by
  unfold okR
  rw [Bool.and_eq_true, decide_eq_true_eq, decide_eq_true_eq]
  have e : (2 ^ 62 : Int) = 4611686018427387904 := by decide
  rw [e]
theorem bif_prop {c : Prop} {b : Bool} (e : b = true ↔ c) {α : Type} {r : Ret α} {Q : α → Mem → Prop} : (bif b then r else .bad).wp Q = (c ∧ r.wp Q) := by
  cases hb : b with
  | true => with_unfolding_all exact propext ⟨fun q => ⟨e.mp hb, q⟩, fun q => q.2⟩
  | false => with_unfolding_all exact propext ⟨fun q => q.elim, fun q => by rw [e.mpr q.1] at hb; cases hb⟩
def kRng1 (QA : KA) : KA := fun vs h1 => (match vs with
  | [.int j] => bif okR j then Ret.ok (rgI 0 j) h1 else .bad
  | _ => .bad).wp QA
theorem bif_ok {c : Prop} {b : Bool} (e : b = true ↔ c) {α : Type} {a : α} {h : Mem} {Q : α → Mem → Prop} : (bif b then Ret.ok a h else .bad).wp Q = (c ∧ Q a h) := by rw [bif_prop e, wp_ok]
theorem kRng1_eq {j : Int} : kRng1 QA [.int j] h = ((-4611686018427387904 ≤ j ∧ j < 4611686018427387904) ∧ QA (rgI 0 j) h) := bif_ok okR_iff
theorem wRng1v : (wRng1 r ρ h).wp QA = (r ρ h).wp (kRng1 QA) := by
  unfold wRng1; rw [wp_bind]; with_unfolding_all rfl
def kRng2 (QA : KA) : KA := fun vs h1 => (match vs with
  | [.int i, .int j] => bif okR i && okR j then Ret.ok (rgI i j) h1 else .bad
  | _ => .bad).wp QA
theorem kRng2_eq {i j : Int} : kRng2 QA [.int i, .int j] h = (((-4611686018427387904 ≤ i ∧ i < 4611686018427387904) ∧ (-4611686018427387904 ≤ j ∧ j < 4611686018427387904)) ∧ QA (rgI i j) h) := bif_ok (by rw [Bool.and_eq_true, okR_iff, okR_iff])
theorem wRng2v : (wRng2 r ρ h).wp QA = (r ρ h).wp (kRng2 QA) := by
  unfold wRng2; rw [wp_bind]; with_unfolding_all rfl
def kRgL10 (QA : KA) (h : Mem) : IV → Prop
  | .int j => ((-4611686018427387904 ≤ j ∧ j < 4611686018427387904) ∧ j.toNat ≤ 16777216) ∧ QA (rgI 0 j) h
  | _ => False
def kRgL1 (QA : KA) : KV := fun v h => kRgL10 QA h v
theorem kRgL1_eq {j : Int} : kRgL1 QA (.int j) h = (((-4611686018427387904 ≤ j ∧ j < 4611686018427387904) ∧ j.toNat ≤ 16777216) ∧ QA (rgI 0 j) h) := id (by with_unfolding_all rfl)
theorem wRgL1 : (fRg1 a ρ h).wp QA = (a ρ h).wp (kRgL1 QA) := by
  unfold fRg1; rw [wp_bind]; congr 1; funext v h1
  cases v with
  | int j => with_unfolding_all exact bif_ok (by rw [Bool.and_eq_true, okR_iff, decide_eq_true_eq])
  | _ => with_unfolding_all rfl
def kRgL3 (i : Int) (QA : KA) (h : Mem) : IV → Prop
  | .int j => (((-4611686018427387904 ≤ i ∧ i < 4611686018427387904) ∧ (-4611686018427387904 ≤ j ∧ j < 4611686018427387904)) ∧ (j - i).toNat ≤ 16777216) ∧ QA (rgI i j) h
  | _ => False
def kRgL20 (v : IV) (QA : KA) (h : Mem) (u : IV) : Prop := match v with
  | .int i => kRgL3 i QA h u
  | _ => False
def kRgL2' (v : IV) (QA : KA) : KV := fun u h => kRgL20 v QA h u
def kRgL2 (b : Den) (ρ : Sl) (QA : KA) : KV := fun v h => (b ρ h).wp (kRgL2' v QA)
theorem kRgL2_eq : kRgL2 b ρ QA v h = (b ρ h).wp (kRgL2' v QA) := id (by with_unfolding_all rfl)
theorem kRgL2'_eq {i j : Int} : kRgL2' (.int i) QA (.int j) h = ((((-4611686018427387904 ≤ i ∧ i < 4611686018427387904) ∧ (-4611686018427387904 ≤ j ∧ j < 4611686018427387904)) ∧ (j - i).toNat ≤ 16777216) ∧ QA (rgI i j) h) := id (by with_unfolding_all rfl)
theorem wRgL2 : (fRg2 a b ρ h).wp QA = (a ρ h).wp (kRgL2 b ρ QA) := by
  unfold fRg2; rw [wp_bind]; congr 1; funext v h1; rw [wp_bind, kRgL2]; congr 1; funext u h2
  cases v with
  | int i =>
    cases u with
    | int j => with_unfolding_all exact bif_ok (by rw [Bool.and_eq_true, Bool.and_eq_true, okR_iff, okR_iff, decide_eq_true_eq])
    | _ => with_unfolding_all rfl
  | _ => with_unfolding_all rfl
/-- a place's list, or a list as data -/
def onL (h : Mem) (v : IV) (P : List IV → Prop) : Prop := match lstOf h v with
  | some xs => P xs
  | none => False
def onSeq (h : Mem) (v : IV) (P : List IV → Prop) : Prop := match seqOf h v with
  | some xs => P xs
  | none => False
def onLsq (h : Mem) (v : IV) (P : List IV → Prop) : Prop := match lsq h v with
  | some xs => P xs
  | none => False
def onIO (P : List IV → Prop) : Option IO → Prop
  | some (.lst xs) => P xs
  | _ => False
theorem onIO_l {P : List IV → Prop} : onIO P (some (.lst xs)) = P xs := id (by with_unfolding_all rfl)
theorem onL_fl {P : List IV → Prop} : onL h (.fl xs) P = P xs := id (by with_unfolding_all rfl)
theorem onL_loc {P : List IV → Prop} : onL h (.loc l) P = onIO P h[l]? := by
  unfold onL lstOf onIO
  simp only
  cases h[l]? with
  | none => with_unfolding_all rfl
  | some o => cases o <;> with_unfolding_all rfl
theorem onSeq_t {P : List IV → Prop} : onSeq h (.tup xs) P = P xs := id (by with_unfolding_all rfl)
theorem onSeq_fl {P : List IV → Prop} : onSeq h (.fl xs) P = P xs := id (by with_unfolding_all rfl)
theorem onSeq_fz {P : List IV → Prop} : onSeq h (.fz xs) P = P xs := id (by with_unfolding_all rfl)
theorem onSeq_loc {P : List IV → Prop} : onSeq h (.loc l) P = onIO P h[l]? := onL_loc
theorem onLsq_fl {P : List IV → Prop} : onLsq h (.fl xs) P = P xs := id (by with_unfolding_all rfl)
theorem onLsq_fz {P : List IV → Prop} : onLsq h (.fz xs) P = P xs := id (by with_unfolding_all rfl)
theorem onLsq_loc {P : List IV → Prop} : onLsq h (.loc l) P = onIO P h[l]? := onL_loc
def kRep1 (v : IV) (QA : KA) (h : Mem) : IV → Prop
  | .int k => onL h v fun xs => ((-9223372036854775808 ≤ k ∧ k < 9223372036854775808) ∧ xs.length * k.toNat ≤ sizeLine) ∧ QA (List.replicate k.toNat xs).flatten h
  | _ => False
def kRep2 (v : IV) (QA : KA) : KV := fun u h => kRep1 v QA h u
def kRep (b : Den) (ρ : Sl) (QA : KA) : KV := fun v h => (b ρ h).wp (kRep2 v QA)
theorem kRep_eq : kRep b ρ QA v h = (b ρ h).wp (kRep2 v QA) := id (by with_unfolding_all rfl)
theorem kRep2_eq {k : Int} : kRep2 (.fl [v]) QA (.int k) h = (((-9223372036854775808 ≤ k ∧ k < 9223372036854775808) ∧ k.toNat ≤ sizeLine) ∧ QA (List.replicate k.toNat v) h) := by
  show (((-9223372036854775808 ≤ k ∧ k < 9223372036854775808) ∧ [v].length * k.toNat ≤ sizeLine) ∧ QA (List.replicate k.toNat [v]).flatten h) = _
  have e : (List.replicate k.toNat [v]).flatten = List.replicate k.toNat v := by
    generalize k.toNat = n
    induction n with
    | zero => with_unfolding_all rfl
    | succ n ih => rw [List.replicate_succ, List.flatten_cons, ih]; with_unfolding_all rfl
  rw [e, List.length_singleton, Nat.one_mul]
theorem wRep : (fRep a b ρ h).wp QA = (a ρ h).wp (kRep b ρ QA) := by
  unfold fRep; rw [wp_bind]; congr 1; funext v h1; rw [wp_bind, kRep]; congr 1; funext u h2
  unfold kRep2 kRep1
  cases u with
  | int k =>
    simp only
    unfold onL
    cases lstOf h2 v with
    | none => with_unfolding_all rfl
    | some xs => with_unfolding_all exact bif_ok (by rw [Bool.and_eq_true, Bool.and_eq_true, decide_eq_true_eq, decide_eq_true_eq, decide_eq_true_eq])
  | _ => with_unfolding_all rfl
abbrev KO := Option Int → Mem → Prop
theorem woNone {QO : KO} : (oNone ρ h).wp QO = QO none h := id (by with_unfolding_all rfl)
def kOSome0 (QO : KO) (h : Mem) : IV → Prop
  | .int i => QO (some i) h
  | _ => False
def kOSome (QO : KO) : KV := fun v h => kOSome0 QO h v
theorem kOSome_eq {QO : KO} {i : Int} : kOSome QO (.int i) h = QO (some i) h := id (by with_unfolding_all rfl)
theorem woSome {QO : KO} : (oSome a ρ h).wp QO = (a ρ h).wp (kOSome QO) := by
  unfold oSome; rw [wp_bind]; congr 1; funext v h1; cases v <;> with_unfolding_all rfl
def kCut3 (v : IV) (l : Option Int) (Q : KV) : KO := fun u h => (cutF v l u h).wp Q
theorem kCut3_eq {o o' : Option Int} : kCut3 v o Q o' h = (cutF v o o' h).wp Q := id (by with_unfolding_all rfl)
def kCut2 (v : IV) (hi : DenO) (ρ : Sl) (Q : KV) : KO := fun l h => (hi ρ h).wp (kCut3 v l Q)
theorem kCut2_eq {hi : DenO} {o : Option Int} : kCut2 v hi ρ Q o h = (hi ρ h).wp (kCut3 v o Q) := id (by with_unfolding_all rfl)
def kCut (lo hi : DenO) (ρ : Sl) (Q : KV) : KV := fun v h => (lo ρ h).wp (kCut2 v hi ρ Q)
theorem kCut_eq {lo hi : DenO} : kCut lo hi ρ Q v h = (lo ρ h).wp (kCut2 v hi ρ Q) := id (by with_unfolding_all rfl)
theorem wCut {lo hi : DenO} : (dCut a lo hi ρ h).wp Q = (a ρ h).wp (kCut lo hi ρ Q) := by
  unfold dCut; rw [wp_bind]; congr 1; funext v h1; rw [wp_bind, kCut]; congr 1; funext l h2; rw [wp_bind]; with_unfolding_all rfl
theorem cutF_t {o o' : Option Int} : cutF (.tup xs) o o' h = .ok (.tup (cutI xs o o')) h := id (by with_unfolding_all rfl)
theorem cutF_l {o o' : Option Int} : cutF (.fl xs) o o' h = .ok (.fl (cutI xs o o')) h := id (by with_unfolding_all rfl)
theorem cutF_p {o o' : Option Int} : (cutF (.loc l) o o' h).wp Q = onIO (fun xs => Q (.fl (cutI xs o o')) h) h[l]? := by
  unfold cutF lsq lstOf onIO
  simp only
  cases h[l]? with
  | none => with_unfolding_all rfl
  | some q => cases q <;> with_unfolding_all rfl
def kRev (QA : KA) : KV := fun v h => onLsq h v fun xs => QA xs.reverse h
theorem kRev_eq : kRev QA v h = onLsq h v fun xs => QA xs.reverse h := id (by with_unfolding_all rfl)
theorem wRev : (fRev a ρ h).wp QA = (a ρ h).wp (kRev QA) := by
  unfold fRev; rw [wp_bind]; congr 1; funext v h1
  unfold kRev onLsq
  cases lsq h1 v <;> with_unfolding_all rfl
end
end VI
end

section
namespace VI
open PySem PySem.Spec PyProof.Rows L2
section
variable {ρ ρ' : Sl} {h : Mem} {Q : KV} {QA : KA} {QT : KT} {QS : KS} {QU : Unit → Mem → Prop} {a b c : Den} {f g : IV → IV → Mem → Ret IV} {k r : DenA} {s t : DenT} {x y : DenS} {i j n m l : Nat} {v u w : IV} {vs xs ys : List IV} {bb cc : Bool}
/-! ### values -/
theorem lenF_t : lenF [.tup xs] h = .ok (.int (xs.length : Nat)) h := id (by with_unfolding_all rfl)
theorem lenF_l : lenF [.fl xs] h = .ok (.int (xs.length : Nat)) h := id (by with_unfolding_all rfl)
theorem lenF_z : lenF [.fz xs] h = .ok (.int (xs.length : Nat)) h := id (by with_unfolding_all rfl)
theorem lenF_p : (lenF [.loc l] h).wp Q = onIO (fun xs => Q (.int (xs.length : Nat)) h) h[l]? := by
  unfold lenF seqOf lstOf onIO
  simp only
  cases h[l]? with
  | none => with_unfolding_all rfl
  | some q => cases q <;> with_unfolding_all rfl
theorem tupleF_t : tupleF [.tup xs] h = .ok (.tup xs) h := id (by with_unfolding_all rfl)
theorem tupleF_l : tupleF [.fl xs] h = .ok (.tup xs) h := id (by with_unfolding_all rfl)
theorem tupleF_p : (tupleF [.loc l] h).wp Q = onIO (fun xs => Q (.tup xs) h) h[l]? := by
  unfold tupleF seqOf lstOf onIO
  simp only
  cases h[l]? with
  | none => with_unfolding_all rfl
  | some q => cases q <;> with_unfolding_all rfl
theorem listF_t : listF [.tup xs] h = .ok xs h := id (by with_unfolding_all rfl)
theorem listF_l : listF [.fl xs] h = .ok xs h := id (by with_unfolding_all rfl)
theorem listF_z : listF [.fz xs] h = .ok xs h := id (by with_unfolding_all rfl)
theorem listF_p : (listF [.loc l] h).wp QA = onIO (fun xs => QA xs h) h[l]? := by
  unfold listF seqOf lstOf onIO
  simp only
  cases h[l]? with
  | none => with_unfolding_all rfl
  | some q => cases q <;> with_unfolding_all rfl
def kOpt (Q : KV) (h : Mem) : Option IV → Prop
  | some y => Q y h
  | none => False
theorem kOpt_eq : kOpt Q h (some v) = Q v h := id (by with_unfolding_all rfl)
theorem ixF_t {i : Int} : (ixF (.tup xs) (.int i) h).wp Q = kOpt Q h (atI xs i) := by
  unfold ixF seqOf kOpt; simp only; cases atI xs i <;> with_unfolding_all rfl
theorem ixF_l {i : Int} : (ixF (.fl xs) (.int i) h).wp Q = kOpt Q h (atI xs i) := by
  unfold ixF seqOf lstOf kOpt; simp only; cases atI xs i <;> with_unfolding_all rfl
theorem ixF_z {i : Int} : (ixF (.fz xs) (.int i) h).wp Q = kOpt Q h (atI xs i) := by
  unfold ixF seqOf kOpt; simp only; cases atI xs i <;> with_unfolding_all rfl
theorem ixF_p {i : Int} : (ixF (.loc l) (.int i) h).wp Q = onIO (fun xs => kOpt Q h (atI xs i)) h[l]? := by
  unfold ixF seqOf lstOf onIO kOpt; simp only
  cases h[l]? with
  | none => with_unfolding_all rfl
  | some q =>
    cases q with
    | lst xs => simp only; cases atI xs i <;> with_unfolding_all rfl
    | _ => with_unfolding_all rfl
theorem atI_0 {v : IV} : atI (v :: xs) 0 = some v := atI_nat (j := 0) rfl
theorem atI_1 {a v : IV} : atI (a :: v :: xs) 1 = some v := atI_nat (j := 1) rfl
theorem atI_2 {a b v : IV} : atI (a :: b :: v :: xs) 2 = some v := atI_nat (j := 2) rfl
theorem atI_3 {a b c v : IV} : atI (a :: b :: c :: v :: xs) 3 = some v := atI_nat (j := 3) rfl
theorem mulF_w {i j : Int} : (mulF (.int i) (.int j) h).wp Q = (((-18446744073709551616 < i ∧ i < 18446744073709551616) ∨ (-18446744073709551616 < j ∧ j < 18446744073709551616)) ∧ Q (.int (i * j)) h) := by
  show (bif cMul i j then Ret.ok (IV.int (i * j)) h else .bad).wp Q = _
  with_unfolding_all exact bif_ok (by unfold cMul; rw [Bool.or_eq_true, Bool.and_eq_true, Bool.and_eq_true, decide_eq_true_eq, decide_eq_true_eq, decide_eq_true_eq, decide_eq_true_eq])
theorem divF_w {i j : Int} : (divF (.int i) (.int j) h).wp Q = ((j ≠ 0 ∧ j.natAbs < 1073741824) ∧ Q (.int (i.fdiv j)) h) := by
  show (bif cDiv i j then Ret.ok (IV.int (i.fdiv j)) h else .bad).wp Q = _
  with_unfolding_all exact bif_ok (by unfold cDiv; rw [Bool.and_eq_true, decide_eq_true_eq, decide_eq_true_eq])
theorem modF_w {i j : Int} : (modF (.int i) (.int j) h).wp Q = (j ≠ 0 ∧ Q (.int (i.fmod j)) h) := by
  show (bif decide (j ≠ 0) then Ret.ok (IV.int (i.fmod j)) h else .bad).wp Q = _
  with_unfolding_all exact bif_ok (by rw [decide_eq_true_eq])
theorem powF_w {i j : Int} : (powF (.int i) (.int j) h).wp Q = (((0 ≤ j ∧ j ≤ 1000000) ∧ i.natAbs < 18446744073709551616) ∧ Q (.int (i ^ j.toNat)) h) := by
  show (bif cPow i j then Ret.ok (IV.int (i ^ j.toNat)) h else .bad).wp Q = _
  with_unfolding_all exact bif_ok (by unfold cPow; rw [Bool.and_eq_true, Bool.and_eq_true, decide_eq_true_eq, decide_eq_true_eq, decide_eq_true_eq])
theorem addF_ii {i j : Int} : addF (.int i) (.int j) h = .ok (.int (i + j)) h := id (by with_unfolding_all rfl)
theorem addF_tt : (addF (.tup xs) (.tup ys) h).wp Q = (xs.length + ys.length ≤ sizeLine ∧ Q (.tup (xs ++ ys)) h) := by
  show (bif decide (xs.length + ys.length ≤ sizeLine) then Ret.ok (IV.tup (xs ++ ys)) h else .bad).wp Q = _
  with_unfolding_all exact bif_ok (decide_eq_true_iff)
theorem addF_ll : (addF (.fl xs) (.fl ys) h).wp Q = (xs.length + ys.length ≤ sizeLine ∧ Q (.fl (xs ++ ys)) h) := by
  show (bif decide (xs.length + ys.length ≤ sizeLine) then Ret.ok (IV.fl (xs ++ ys)) h else .bad).wp Q = _
  with_unfolding_all exact bif_ok (decide_eq_true_iff)
theorem addF_pl : (addF (.loc l) (.fl ys) h).wp Q = onIO (fun xs => xs.length + ys.length ≤ sizeLine ∧ Q (.fl (xs ++ ys)) h) h[l]? := by
  unfold addF lstOf onIO; simp only
  cases h[l]? with
  | none => with_unfolding_all rfl
  | some q =>
    cases q with
    | lst xs => with_unfolding_all exact bif_ok decide_eq_true_iff
    | _ => with_unfolding_all rfl
theorem subF_ii {i j : Int} : subF (.int i) (.int j) h = .ok (.int (i - j)) h := id (by with_unfolding_all rfl)
theorem ltF_ii {i j : Int} : ltF (.int i) (.int j) h = .ok (.bl (decide (i < j))) h := id (by with_unfolding_all rfl)
theorem leF_ii {i j : Int} : leF (.int i) (.int j) h = .ok (.bl (decide (i ≤ j))) h := id (by with_unfolding_all rfl)
theorem gtF_ii {i j : Int} : gtF (.int i) (.int j) h = .ok (.bl (decide (j < i))) h := id (by with_unfolding_all rfl)
theorem geF_ii {i j : Int} : geF (.int i) (.int j) h = .ok (.bl (decide (j ≤ i))) h := id (by with_unfolding_all rfl)
theorem eqF_ii {i j : Int} : eqF (.int i) (.int j) h = .ok (.bl (decide (i = j))) h := id (by with_unfolding_all rfl)
theorem neF_ii {i j : Int} : neF (.int i) (.int j) h = .ok (.bl (!decide (i = j))) h := id (by with_unfolding_all rfl)
theorem eqF_ss {i j : Str} : eqF (.str i) (.str j) h = .ok (.bl (decide (i = j))) h := id (by with_unfolding_all rfl)
theorem neF_ss {i j : Str} : neF (.str i) (.str j) h = .ok (.bl (!decide (i = j))) h := id (by with_unfolding_all rfl)
theorem negF_i {i : Int} : negF (.int i) h = .ok (.int (-i)) h := id (by with_unfolding_all rfl)
theorem absF_i {i : Int} : absF [.int i] h = .ok (.int (if i < 0 then -i else i)) h := id (by with_unfolding_all rfl)
theorem maxF_ii {i j : Int} : maxF [.int i, .int j] h = .ok (.int (if j > i then j else i)) h := id (by with_unfolding_all rfl)
theorem minF_ii {i j : Int} : minF [.int i, .int j] h = .ok (.int (if j < i then j else i)) h := id (by with_unfolding_all rfl)
theorem toIntF_i {i : Int} : toIntF [.int i] h = .ok (.int i) h := id (by with_unfolding_all rfl)
theorem toIntF_b : toIntF [.bl bb] h = .ok (.int (if bb then 1 else 0)) h := id (by with_unfolding_all rfl)
theorem isN_n : isNF .non .non h = .ok (.bl true) h := id (by with_unfolding_all rfl)
theorem isN_i {i : Int} : isNF (.int i) .non h = .ok (.bl false) h := id (by with_unfolding_all rfl)
theorem isN_t : isNF (.tup xs) .non h = .ok (.bl false) h := id (by with_unfolding_all rfl)
theorem notN_n : notNF .non .non h = .ok (.bl false) h := id (by with_unfolding_all rfl)
theorem notN_i {i : Int} : notNF (.int i) .non h = .ok (.bl true) h := id (by with_unfolding_all rfl)
theorem notN_t : notNF (.tup xs) .non h = .ok (.bl true) h := id (by with_unfolding_all rfl)
theorem isN_g (g : Option Nat) : isNF (giftIV g) .non h = .ok (.bl g.isNone) h := by cases g <;> with_unfolding_all rfl
theorem notN_g (g : Option Nat) : notNF (giftIV g) .non h = .ok (.bl g.isSome) h := by cases g <;> with_unfolding_all rfl
theorem sumF_l {ns : List Int} : sumF [.fl (ns.map .int)] h = .ok (.int ns.sum) h := by
  unfold sumF intsF
  show (match allS ((ns.map IV.int).map asI) with
    | some ns => Ret.ok (IV.int ns.sum) h
    | none => .bad) = _
  rw [allS_ints]
theorem isi_i {T : Ty} {i : Int} : isiF T (.int i) h = .ok (.bl (Ty.isi .int T)) h := id (by with_unfolding_all rfl)
theorem isi_b {T : Ty} : isiF T (.bl bb) h = .ok (.bl (Ty.isi .bl T)) h := id (by with_unfolding_all rfl)
theorem isi_t {T : Ty} : isiF T (.tup xs) h = .ok (.bl (Ty.isi .tup T)) h := id (by with_unfolding_all rfl)
theorem isi_n {T : Ty} : isiF T .non h = .ok (.bl (Ty.isi .non T)) h := id (by with_unfolding_all rfl)
theorem isi_s {T : Ty} {z : Str} : isiF T (.str z) h = .ok (.bl (Ty.isi .str T)) h := id (by with_unfolding_all rfl)
/-! ### lists at places -/
def kML0 (f : IV → List IV → Mem → Ret IV) (v : IV) (Q : KV) : KA := fun vs h => (f v vs h).wp Q
theorem kML0_eq {f : IV → List IV → Mem → Ret IV} : kML0 f v Q vs h = (f v vs h).wp Q := id (by with_unfolding_all rfl)
def kML1 (f : IV → List IV → Mem → Ret IV) (r : DenA) (ρ : Sl) (v : IV) (Q : KV) (h : Mem) : Bool → Prop
  | true => (r ρ h).wp (kML0 f v Q)
  | false => False
def kML (f : IV → List IV → Mem → Ret IV) (r : DenA) (ρ : Sl) (Q : KV) : KV := fun v h => kML1 f r ρ v Q h (isL h v)
theorem kML_l {f : IV → List IV → Mem → Ret IV} : kML f r ρ Q (.fl xs) h = (r ρ h).wp (kML0 f (.fl xs) Q) := id (by with_unfolding_all rfl)
theorem kML_p {f : IV → List IV → Mem → Ret IV} : kML f r ρ Q (.loc l) h = onIO (fun _ => (r ρ h).wp (kML0 f (.loc l) Q)) h[l]? := by
  unfold kML isL lstOf onIO; simp only
  cases h[l]? with
  | none => with_unfolding_all rfl
  | some q => cases q <;> with_unfolding_all rfl
theorem wML {f : IV → List IV → Mem → Ret IV} : (dML f a r ρ h).wp Q = (a ρ h).wp (kML f r ρ Q) := by
  unfold dML; rw [wp_bind]; congr 1; funext v h1
  unfold kML
  cases isL h1 v with
  | false => with_unfolding_all rfl
  | true => simp only [cond_true]; rw [wp_bind]; with_unfolding_all rfl
theorem appF_p : (appF (.loc l) [v] h).wp Q = onIO (fun xs => xs.length < sizeLine ∧ Q .non (h.set l (.lst (xs ++ [v])))) h[l]? := by
  unfold appF onIO; simp only
  cases h[l]? with
  | none => with_unfolding_all rfl
  | some q =>
    cases q with
    | lst xs => with_unfolding_all exact bif_ok decide_eq_true_iff
    | _ => with_unfolding_all rfl
theorem popF_p : (popF (.loc l) [] h).wp Q = onIO (fun xs => kOpt (fun y _ => Q y (h.set l (.lst xs.dropLast))) h xs[xs.length - 1]?) h[l]? := by
  unfold popF onIO kOpt; simp only
  cases h[l]? with
  | none => with_unfolding_all rfl
  | some q =>
    cases q with
    | lst xs => simp only; cases xs[xs.length - 1]? <;> with_unfolding_all rfl
    | _ => with_unfolding_all rfl
def kN (P : Nat → Prop) : Option Nat → Prop
  | some k => P k
  | none => False
theorem kN_eq {P : Nat → Prop} : kN P (some i) = P i := id (by with_unfolding_all rfl)
theorem putF_p {k : Int} : (putF (.loc l) (.int k) v h).wp QU = onIO (fun xs => kN (fun j => QU () (h.set l (.lst (xs.set j v)))) (ixN xs.length k)) h[l]? := by
  unfold putF onIO kN; simp only
  cases h[l]? with
  | none => with_unfolding_all rfl
  | some q =>
    cases q with
    | lst xs => simp only; cases ixN xs.length k <;> with_unfolding_all rfl
    | _ => with_unfolding_all rfl
theorem getF_p {k : Int} : (getF (.loc l) (.int k) h).wp Q = onIO (fun xs => 0 ≤ k ∧ kOpt Q h (atI xs k)) h[l]? := by
  unfold getF onIO kOpt; simp only
  cases h[l]? with
  | none => with_unfolding_all rfl
  | some q =>
    cases q with
    | lst xs =>
      by_cases e : 0 ≤ k
      · simp only [decide_eq_true e, cond_true]
        cases atI xs k with
        | none => with_unfolding_all exact propext ⟨fun q => q.elim, fun q => q.2⟩
        | some z => with_unfolding_all exact propext ⟨fun q => ⟨e, q⟩, fun q => q.2⟩
      · simp only [decide_eq_false e, cond_false]
        with_unfolding_all exact propext ⟨fun q => q.elim, fun q => (e q.1).elim⟩
    | _ => with_unfolding_all rfl
/-! ### statements -/
theorem wNx : (sNx ρ h).wp QS = QS (.nx, ρ) h := id (by with_unfolding_all rfl)
theorem wBk : (sBk ρ h).wp QS = QS (.bk, ρ) h := id (by with_unfolding_all rfl)
theorem wCt : (sCt ρ h).wp QS = QS (.ct, ρ) h := id (by with_unfolding_all rfl)
def kSeqS0 (y : DenS) (QS : KS) (h : Mem) : Fl → Sl → Prop
  | .nx, ρ => (y ρ h).wp QS
  | f, ρ => QS (f, ρ) h
@[irreducible] def kS (y : DenS) (QS : KS) : KS := fun r h => kSeqS0 y QS h r.1 r.2
theorem kS_nx : kS y QS (.nx, ρ) h = (y ρ h).wp QS := id (by with_unfolding_all rfl)
theorem kS_bk : kS y QS (.bk, ρ) h = QS (.bk, ρ) h := id (by with_unfolding_all rfl)
theorem kS_ct : kS y QS (.ct, ρ) h = QS (.ct, ρ) h := id (by with_unfolding_all rfl)
theorem kS_rt : kS y QS (.rt v, ρ) h = QS (.rt v, ρ) h := id (by with_unfolding_all rfl)
theorem wSeqS : (sSeq x y ρ h).wp QS = (x ρ h).wp (kS y QS) := by
  unfold sSeq; rw [wp_bind]; congr 1; funext r h1
  obtain ⟨f, ρ1⟩ := r
  cases f <;> with_unfolding_all rfl
def kRet (ρ : Sl) (QS : KS) : KV := fun v h => QS (.rt v, ρ) h
theorem kRet_eq : kRet ρ QS v h = QS (.rt v, ρ) h := id (by with_unfolding_all rfl)
theorem wRet : (sRet a ρ h).wp QS = (a ρ h).wp (kRet ρ QS) := by
  unfold sRet; rw [wp_bind]; with_unfolding_all rfl
def kExp (ρ : Sl) (QS : KS) : KV := fun _ h => QS (.nx, ρ) h
theorem kExp_eq : kExp ρ QS v h = QS (.nx, ρ) h := id (by with_unfolding_all rfl)
theorem wExp : (sExp a ρ h).wp QS = (a ρ h).wp (kExp ρ QS) := by
  unfold sExp; rw [wp_bind]; with_unfolding_all rfl
@[irreducible] def kIf (x y : DenS) (ρ : Sl) (QS : KS) : KT := fun c h => if c then (x ρ h).wp QS else (y ρ h).wp QS
theorem kIf_t : kIf x y ρ QS true h = (x ρ h).wp QS := id (by with_unfolding_all rfl)
theorem kIf_f : kIf x y ρ QS false h = (y ρ h).wp QS := id (by with_unfolding_all rfl)
theorem kIf_c (p : bb = true → (x ρ h).wp QS) (q : bb = false → (y ρ h).wp QS) : kIf x y ρ QS bb h := by
  cases bb with
  | true => with_unfolding_all exact p rfl
  | false => with_unfolding_all exact q rfl
theorem wIf : (sIf s x y ρ h).wp QS = (s ρ h).wp (kIf x y ρ QS) := by
  unfold sIf; rw [wp_bind]; congr 1; funext c h1; cases c <;> with_unfolding_all rfl
def kTg (QS : KS) (h : Mem) : Option Sl → Prop
  | some ρ => QS (.nx, ρ) h
  | none => False
theorem kTg_eq : kTg QS h (some ρ) = QS (.nx, ρ) h := id (by with_unfolding_all rfl)
def kAsg (t : Tg) (ρ : Sl) (QS : KS) : KV := fun v h => kTg QS h (t v ρ)
theorem kAsg_eq {t : Tg} : kAsg t ρ QS v h = kTg QS h (t v ρ) := id (by with_unfolding_all rfl)
theorem wAsg {t : Tg} : (sAsg t a ρ h).wp QS = (a ρ h).wp (kAsg t ρ QS) := by
  unfold sAsg; rw [wp_bind]; congr 1; funext v h1
  unfold kAsg kTg
  cases t v ρ <;> with_unfolding_all rfl
theorem tgN_eq : tgN i v ρ = some (ρ.set i (some v)) := id (by with_unfolding_all rfl)
theorem shN_eq : Sh.tg (.n i) v ρ = some (ρ.set i (some v)) := id (by with_unfolding_all rfl)
theorem sh2_eq : Sh.tg (.t (.cons (.n i) (.cons (.n j) .nil))) (.tup [v, u]) ρ = some ((ρ.set i (some v)).set j (some u)) := id (by with_unfolding_all rfl)
theorem sh3_eq : Sh.tg (.t (.cons (.n i) (.cons (.n j) (.cons (.n m) .nil)))) (.tup [v, u, w]) ρ = some (((ρ.set i (some v)).set j (some u)).set m (some w)) := id (by with_unfolding_all rfl)
theorem sh12_eq : Sh.tg (.t (.cons (.n i) (.cons (.t (.cons (.n j) (.cons (.n m) .nil))) .nil))) (.tup [v, .tup [u, w]]) ρ = some (((ρ.set i (some v)).set j (some u)).set m (some w)) := id (by with_unfolding_all rfl)
theorem sh21_eq : Sh.tg (.t (.cons (.t (.cons (.n j) (.cons (.n m) .nil))) (.cons (.n i) .nil))) (.tup [.tup [u, w], v]) ρ = some (((ρ.set j (some u)).set m (some w)).set i (some v)) := id (by with_unfolding_all rfl)
def kAug2 (i : Nat) (ρ : Sl) (QS : KS) : KV := fun w h => QS (.nx, ρ.set i (some w)) h
theorem kAug2_eq : kAug2 i ρ QS v h = QS (.nx, ρ.set i (some v)) h := id (by with_unfolding_all rfl)
def kAug1 (f : IV → IV → Mem → Ret IV) (i : Nat) (x : IV) (ρ : Sl) (QS : KS) : KV := fun v h => (f x v h).wp (kAug2 i ρ QS)
theorem kAug1_eq : kAug1 f i u ρ QS v h = (f u v h).wp (kAug2 i ρ QS) := id (by with_unfolding_all rfl)
def kAug (f : IV → IV → Mem → Ret IV) (i : Nat) (d : Den) (ρ : Sl) (h : Mem) (QS : KS) : Option (Option IV) → Prop
  | some (some x) => (d ρ h).wp (kAug1 f i x ρ QS)
  | _ => False
theorem kAug_eq : kAug f i a ρ h QS (some (some v)) = (a ρ h).wp (kAug1 f i v ρ QS) := id (by with_unfolding_all rfl)
theorem wAug : (sAug i f a ρ h).wp QS = kAug f i a ρ h QS ρ[i]? := by
  unfold sAug kAug
  cases ρ[i]? with
  | none => with_unfolding_all rfl
  | some o =>
    cases o with
    | none => with_unfolding_all rfl
    | some v =>
      simp only
      rw [wp_bind]; congr 1; funext u h1; rw [wp_bind]; with_unfolding_all rfl
theorem addI_ii {i j : Int} : addI (.int i) (.int j) h = .ok (.int (i + j)) h := id (by with_unfolding_all rfl)
def kPut4 (ρ : Sl) (QS : KS) : Unit → Mem → Prop := fun _ h => QS (.nx, ρ) h
theorem kPut4_eq {z : Unit} : kPut4 ρ QS z h = QS (.nx, ρ) h := id (by with_unfolding_all rfl)
def kPut3 (o v : IV) (ρ : Sl) (QS : KS) : KV := fun i h => (putF o i v h).wp (kPut4 ρ QS)
theorem kPut3_eq : kPut3 u v ρ QS w h = (putF u w v h).wp (kPut4 ρ QS) := id (by with_unfolding_all rfl)
def kPut2 (di : Den) (v : IV) (ρ : Sl) (QS : KS) : KV := fun o h => (di ρ h).wp (kPut3 o v ρ QS)
theorem kPut2_eq : kPut2 b v ρ QS u h = (b ρ h).wp (kPut3 u v ρ QS) := id (by with_unfolding_all rfl)
def kPut1 (d di : Den) (ρ : Sl) (QS : KS) : KV := fun v h => (d ρ h).wp (kPut2 di v ρ QS)
theorem kPut1_eq : kPut1 a b ρ QS v h = (a ρ h).wp (kPut2 b v ρ QS) := id (by with_unfolding_all rfl)
theorem wPut : (sPut a b c ρ h).wp QS = (c ρ h).wp (kPut1 a b ρ QS) := by
  unfold sPut; rw [wp_bind]; congr 1; funext v h1; rw [wp_bind, kPut1]; congr 1; funext o h2; rw [wp_bind, kPut2]; congr 1; funext i h3; rw [wp_bind]; with_unfolding_all rfl
def kAL5 (o i : IV) (ρ : Sl) (QS : KS) : KV := fun w h => (putF o i w h).wp (kPut4 ρ QS)
theorem kAL5_eq : kAL5 u v ρ QS w h = (putF u v w h).wp (kPut4 ρ QS) := id (by with_unfolding_all rfl)
def kAL4 (f : IV → IV → Mem → Ret IV) (o i x : IV) (ρ : Sl) (QS : KS) : KV := fun y h => (f x y h).wp (kAL5 o i ρ QS)
theorem kAL4_eq {z : IV} : kAL4 f u v w ρ QS z h = (f w z h).wp (kAL5 u v ρ QS) := id (by with_unfolding_all rfl)
def kAL3 (f : IV → IV → Mem → Ret IV) (de : Den) (o i : IV) (ρ : Sl) (QS : KS) : KV := fun x h => (de ρ h).wp (kAL4 f o i x ρ QS)
theorem kAL3_eq : kAL3 f c u v ρ QS w h = (c ρ h).wp (kAL4 f u v w ρ QS) := id (by with_unfolding_all rfl)
def kAL2 (f : IV → IV → Mem → Ret IV) (de : Den) (o : IV) (ρ : Sl) (QS : KS) : KV := fun i h => (getF o i h).wp (kAL3 f de o i ρ QS)
theorem kAL2_eq : kAL2 f c u ρ QS v h = (getF u v h).wp (kAL3 f c u v ρ QS) := id (by with_unfolding_all rfl)
def kAL1 (f : IV → IV → Mem → Ret IV) (di de : Den) (ρ : Sl) (QS : KS) : KV := fun o h => (di ρ h).wp (kAL2 f de o ρ QS)
theorem kAL1_eq : kAL1 f b c ρ QS u h = (b ρ h).wp (kAL2 f c u ρ QS) := id (by with_unfolding_all rfl)
theorem wAugL : (sAugL a b c f ρ h).wp QS = (a ρ h).wp (kAL1 f b c ρ QS) := by
  unfold sAugL; rw [wp_bind]; congr 1; funext o h1; rw [wp_bind, kAL1]; congr 1; funext i h2; rw [wp_bind, kAL2]; congr 1; funext x h3; rw [wp_bind, kAL3]; congr 1; funext y h4; rw [wp_bind, kAL4]; congr 1; funext w h5; rw [wp_bind]; with_unfolding_all rfl
def kPar (i j : Nat) (ρ : Sl) (QS : KS) : KA := fun vs h1 => (match vs with
  | [v, w] => Ret.ok (Fl.nx, (ρ.set i (some v)).set j (some w)) h1
  | _ => .bad).wp QS
theorem kPar_eq : kPar i j ρ QS [v, w] h = QS (.nx, (ρ.set i (some v)).set j (some w)) h := id (by with_unfolding_all rfl)
theorem wPar : (sPar i j r ρ h).wp QS = (r ρ h).wp (kPar i j ρ QS) := by
  unfold sPar; rw [wp_bind]; with_unfolding_all rfl
def kPar3 (i j l : Nat) (ρ : Sl) (QS : KS) : KA := fun vs h1 => (match vs with
  | [v, w, u] => Ret.ok (Fl.nx, ((ρ.set i (some v)).set j (some w)).set l (some u)) h1
  | _ => .bad).wp QS
theorem kPar3_eq : kPar3 i j l ρ QS [v, w, u] h = QS (.nx, ((ρ.set i (some v)).set j (some w)).set l (some u)) h := id (by with_unfolding_all rfl)
theorem wPar3 : (sPar3 i j l r ρ h).wp QS = (r ρ h).wp (kPar3 i j l ρ QS) := by
  unfold sPar3; rw [wp_bind]; with_unfolding_all rfl
/-! ### loops -/
@[irreducible] def kFor (t : Tg) (b : DenS) (ρ : Sl) (QS : KS) : KA := fun vs h => (forV t b vs ρ h).wp QS
theorem kFor_eq {t : Tg} : kFor t x ρ QS vs h = (forV t x vs ρ h).wp QS := id (by with_unfolding_all rfl)
theorem wFor {t : Tg} : (sFor r t x ρ h).wp QS = (r ρ h).wp (kFor t x ρ QS) := by
  unfold sFor; rw [wp_bind]; with_unfolding_all rfl
def kLoop0 (N : Sl → Mem → Prop) (QS : KS) (h : Mem) : Fl → Sl → Prop
  | .nx, ρ => N ρ h
  | .ct, ρ => N ρ h
  | .bk, ρ => QS (.nx, ρ) h
  | .rt w, ρ => QS (.rt w, ρ) h
@[irreducible] def kLoop (N : Sl → Mem → Prop) (QS : KS) : KS := fun r h => kLoop0 N QS h r.1 r.2
theorem kLoop_nx {N : Sl → Mem → Prop} : kLoop N QS (.nx, ρ) h = N ρ h := id (by with_unfolding_all rfl)
theorem kLoop_ct {N : Sl → Mem → Prop} : kLoop N QS (.ct, ρ) h = N ρ h := id (by with_unfolding_all rfl)
theorem kLoop_bk {N : Sl → Mem → Prop} : kLoop N QS (.bk, ρ) h = QS (.nx, ρ) h := id (by with_unfolding_all rfl)
theorem kLoop_rt {N : Sl → Mem → Prop} : kLoop N QS (.rt v, ρ) h = QS (.rt v, ρ) h := id (by with_unfolding_all rfl)
end
end VI
end

section
namespace VI
open PySem PySem.Spec PyProof.Rows L2
section
variable {α : Type} {ρ ρ' : Sl} {h : Mem} {Q : KV} {QA : KA} {QT : KT} {QS : KS} {a b c : Den} {r : DenA} {s tt : DenT} {x y : DenS} {t : Tg} {el : Den} {i j n m l : Nat} {v u w : IV} {vs xs ys : List IV}
@[irreducible] def kTgt (N : Sl → Prop) : Option Sl → Prop
  | some ρ => N ρ
  | none => False
theorem kTgt_eq {N : Sl → Prop} : kTgt N (some ρ) = N ρ := id (by with_unfolding_all rfl)
/-- for, by what is left -/
theorem for_wp (I : List IV → Sl → Mem → Prop) (step : ∀ v rest ρ h, I (v :: rest) ρ h → kTgt (fun ρ1 => (x ρ1 h).wp (kLoop (I rest) QS)) (t v ρ)) (fin : ∀ ρ h, I [] ρ h → QS (.nx, ρ) h) :
    ∀ (items : List IV) (ρ : Sl) (h : Mem), I items ρ h → (forV t x items ρ h).wp QS
  | [], ρ, h, q => by
    rw [forV, wp_ok]; exact fin ρ h q
  | v :: rest, ρ, h, q => by
    have st := step v rest ρ h q
    unfold forV
    cases e : t v ρ with
    | none => rw [e] at st; with_unfolding_all exact st.elim
    | some ρ1 =>
      rw [e, kTgt_eq] at st
      simp only
      rw [wp_bind]
      refine wp_mono st fun r h1 p => ?_
      obtain ⟨f, ρ2⟩ := r
      cases f with
      | nx => with_unfolding_all exact for_wp I step fin rest ρ2 h1 p
      | ct => with_unfolding_all exact for_wp I step fin rest ρ2 h1 p
      | bk => with_unfolding_all exact p
      | rt w => with_unfolding_all exact p
/-- for, by the number of turns done -/
theorem for_at {emb : α → IV} {xs : List α} (I : Nat → Sl → Mem → Prop) (h0 : I 0 ρ h) (step : ∀ k (hk : k < xs.length) ρ h, I k ρ h → kTgt (fun ρ1 => (x ρ1 h).wp (kLoop (I (k + 1)) QS)) (t (emb xs[k]) ρ)) (fin : ∀ ρ h, I xs.length ρ h → QS (.nx, ρ) h) :
    (forV t x (xs.map emb) ρ h).wp QS := by
  refine for_wp (fun rest ρ h => ∃ k, rest = (xs.map emb).drop k ∧ k ≤ xs.length ∧ I k ρ h) ?_ ?_ _ _ _ ⟨0, rfl, Nat.zero_le _, h0⟩
  · rintro v rest ρ h ⟨k, e, hk, q⟩
    have hl : k < xs.length := by
      by_cases z : k < xs.length
      · with_unfolding_all exact z
      · rw [List.drop_eq_nil_of_le (by rw [List.length_map]; omega)] at e; cases e
    rw [List.drop_eq_getElem_cons (by rw [List.length_map]; with_unfolding_all exact hl)] at e
    injection e with e1 e2
    have st := step k hl ρ h q
    rw [List.getElem_map] at e1
    rw [← e1] at st
    revert st
    cases t v ρ with
    | none => with_unfolding_all exact id
    | some ρ1 =>
      intro st
      rw [kTgt_eq] at st ⊢
      refine wp_mono st fun r h1 p => ?_
      obtain ⟨f, ρ2⟩ := r
      cases f with
      | nx => with_unfolding_all exact ⟨k + 1, e2, hl, p⟩
      | ct => with_unfolding_all exact ⟨k + 1, e2, hl, p⟩
      | bk => with_unfolding_all exact p
      | rt w => with_unfolding_all exact p
  · rintro ρ h ⟨k, e, hk, q⟩
    have : k = xs.length := by
      have e2 := congrArg List.length e
      rw [List.length_drop, List.length_map] at e2
      simp at e2
      omega
    subst this
    with_unfolding_all exact fin ρ h q
/-- for over a range -/
theorem for_rg {lo hi : Int} (I : Nat → Sl → Mem → Prop) (h0 : I 0 ρ h) (step : ∀ k : Nat, (k : Int) < hi - lo → ∀ ρ h, I k ρ h → kTgt (fun ρ1 => (x ρ1 h).wp (kLoop (I (k + 1)) QS)) (t (.int (lo + (k : Nat))) ρ)) (fin : ∀ ρ h, I (hi - lo).toNat ρ h → QS (.nx, ρ) h) :
    (forV t x (rgI lo hi) ρ h).wp QS := by
  unfold rgI
  refine for_at I h0 (fun k hk ρ h q => ?_) (fun ρ h q => fin ρ h (by rw [List.length_range] at q; with_unfolding_all exact q))
  rw [List.getElem_range]
  rw [List.length_range] at hk
  with_unfolding_all exact step k (by omega) ρ h q
/-- while, by a number that falls -/
@[irreducible] def kWh (b : DenS) (ρ : Sl) (N : Sl → Mem → Prop) (QS : KS) : KT := fun c h => if c then (b ρ h).wp (kLoop N QS) else QS (.nx, ρ) h
theorem kWh_t {N : Sl → Mem → Prop} : kWh x ρ N QS true h = (x ρ h).wp (kLoop N QS) := id (by with_unfolding_all rfl)
theorem kWh_f {N : Sl → Mem → Prop} : kWh x ρ N QS false h = QS (.nx, ρ) h := id (by with_unfolding_all rfl)
theorem kWh_c {N : Sl → Mem → Prop} {bb : Bool} (p : bb = true → (x ρ h).wp (kLoop N QS)) (q : bb = false → QS (.nx, ρ) h) : kWh x ρ N QS bb h := by
  cases bb with
  | true => with_unfolding_all exact p rfl
  | false => with_unfolding_all exact q rfl
theorem wh_wp (I : Nat → Sl → Mem → Prop) (step : ∀ k ρ h, I k ρ h → (s ρ h).wp (kWh x ρ (fun ρ' h' => ∃ k', k' < k ∧ I k' ρ' h') QS)) : ∀ (n k : Nat) (ρ : Sl) (h : Mem), k < n → I k ρ h → (whN s x n ρ h).wp QS
  | 0, _, _, _, z, _ => absurd z (Nat.not_lt_zero _)
  | n + 1, k, ρ, h, hk, q => by
    unfold whN
    rw [wp_bind]
    refine wp_mono (step k ρ h q) fun c h1 p => ?_
    cases c with
    | false => with_unfolding_all exact p
    | true =>
      rw [if_pos rfl, wp_bind]
      rw [kWh_t] at p
      have p' := p
      refine wp_mono p' fun r h2 p2 => ?_
      obtain ⟨f, ρ2⟩ := r
      cases f with
      | nx =>
        rw [kLoop_nx] at p2
        obtain ⟨k', hk', q'⟩ := p2
        with_unfolding_all exact wh_wp I step n k' ρ2 h2 (by omega) q'
      | ct =>
        rw [kLoop_ct] at p2
        obtain ⟨k', hk', q'⟩ := p2
        with_unfolding_all exact wh_wp I step n k' ρ2 h2 (by omega) q'
      | bk => with_unfolding_all exact p2
      | rt w => with_unfolding_all exact p2
theorem sWh_wp (I : Nat → Sl → Mem → Prop) {k : Nat} (hk : k < 1000000000000) (q : I k ρ h) (step : ∀ k ρ h, I k ρ h → (s ρ h).wp (kWh x ρ (fun ρ' h' => ∃ k', k' < k ∧ I k' ρ' h') QS)) : (sWh s x ρ h).wp QS := by
  unfold sWh
  refine wh_wp I step fuel k ρ h ?_ q
  have e : (1000000000000 : Nat) ≤ fuel := by decide
  omega
/-! ### comprehensions -/
@[irreducible] def kLc (t : Tg) (tt : DenT) (el : Den) (ρ : Sl) (QA : KA) : KA := fun vs h => (lcV t tt el ρ vs 0 h).wp QA
theorem kLc_eq : kLc t tt el ρ QA vs h = (lcV t tt el ρ vs 0 h).wp QA := id (by with_unfolding_all rfl)
theorem wLc {own : List Nat} : (fLc r t tt el own ρ h).wp QA = (r ρ h).wp (kLc t tt el (wipeI ρ own) QA) := by
  unfold fLc; rw [wp_bind]; with_unfolding_all rfl
def kIs (k : Bool) (h : Mem) : KT := fun k' h' => k' = k ∧ h' = h
theorem kIs_eq {k k' : Bool} {h h' : Mem} : kIs k h k' h' = (k' = k ∧ h' = h) := id (by with_unfolding_all rfl)
def kIsV (v : IV) (h : Mem) : KV := fun v' h' => v' = v ∧ h' = h
theorem kIsV_eq {v v' : IV} {h h' : Mem} : kIsV v h v' h' = (v' = v ∧ h' = h) := id (by with_unfolding_all rfl)
theorem wp_isT {r : Ret Bool} {k : Bool} (p : r.wp (kIs k h)) : r = .ok k h := by
  obtain ⟨a, h1, e, q1, q2⟩ := wp_ex p
  rw [e, q1, q2]
theorem wp_isV {r : Ret IV} {k : IV} (p : r.wp (kIsV k h)) : r = .ok k h := by
  obtain ⟨a, h1, e, q1, q2⟩ := wp_ex p
  rw [e, q1, q2]
/-- one that changes nothing -/
theorem lw_pure {emb : α → IV} (p : α → Bool) (g : α → IV) {xs : List α} (hn : xs.length ≤ 100000) (step : ∀ z ∈ xs, kTgt (fun ρ1 => (tt ρ1 h).wp (kIs (p z) h) ∧ (p z = true → (el ρ1 h).wp (kIsV (g z) h))) (t (emb z) ρ)) (q : QA ((xs.filter p).map g) h) :
    (lcV t tt el ρ (xs.map emb) 0 h).wp QA := by
  refine wp_of (lc_typed (p := p) (g := g) xs 0 (by omega) fun z hz => ?_) q
  have st := step z hz
  revert st
  cases t (emb z) ρ with
  | none => with_unfolding_all exact fun f => f.elim
  | some ρ1 => with_unfolding_all exact fun st => ⟨ρ1, rfl, wp_isT st.1, fun hp => wp_isV (st.2 hp)⟩
theorem lw_map {emb : α → IV} (g : α → IV) {xs : List α} (hn : xs.length ≤ 100000) (step : ∀ z ∈ xs, kTgt (fun ρ1 => (el ρ1 h).wp (kIsV (g z) h)) (t (emb z) ρ)) (q : QA (xs.map g) h) :
    (lcV t dYes el ρ (xs.map emb) 0 h).wp QA := by
  have fe : xs.filter (fun _ => true) = xs := List.filter_eq_self.mpr fun _ _ => rfl
  refine lw_pure (fun _ => true) g hn (fun z hz => ?_) (by rw [fe]; with_unfolding_all exact q)
  have st := step z hz
  revert st
  cases t (emb z) ρ with
  | none => with_unfolding_all exact id
  | some ρ1 => with_unfolding_all exact fun st => ⟨⟨rfl, rfl⟩, fun _ => st⟩
/-- one that draws -/
theorem lw_run (I : List IV → List IV → Mem → Prop) (step : ∀ v rest out h, I (v :: rest) out h → kTgt (fun ρ1 => (el ρ1 h).wp fun z h1 => I rest (out ++ [z]) h1) (t v ρ)) : ∀ (items out : List IV) (k : Nat) (h : Mem), k + items.length ≤ 100000 → I items out h →
    (lcV t dYes el ρ items k h).wp fun ys h1 => I [] (out ++ ys) h1
  | [], out, k, h, _, q => by
    rw [lcV, wp_ok, List.append_nil]; exact q
  | v :: rest, out, k, h, hk, q => by
    have st := step v rest out h q
    rw [List.length_cons] at hk
    unfold lcV
    cases e : t v ρ with
    | none => rw [e] at st; with_unfolding_all exact st.elim
    | some ρ1 =>
      rw [e, kTgt_eq] at st
      have st' := st
      show ((nox (dYes ρ1 h)).bind _).wp _
      rw [wp_bind, wp_nox]
      rw [wYes, if_pos rfl, wp_bind, wp_nox]
      refine wp_mono st' fun z h1 p => ?_
      rw [if_pos (sl_lt (show k ≤ 100000 by omega)), wp_bind]
      refine wp_mono (lw_run I step rest (out ++ [z]) (k + 1) h1 (by omega) p) fun ys h2 p2 => ?_
      rw [wp_ok]
      rw [List.append_assoc] at p2
      with_unfolding_all exact p2
theorem lw_draw {items : List IV} (I : List IV → List IV → Mem → Prop) (hn : items.length ≤ 100000) (h0 : I items [] h) (step : ∀ v rest out h, I (v :: rest) out h → kTgt (fun ρ1 => (el ρ1 h).wp fun z h1 => I rest (out ++ [z]) h1) (t v ρ)) (fin : ∀ ys h1, I [] ys h1 → QA ys h1) :
    (lcV t dYes el ρ items 0 h).wp QA := wp_mono (lw_run I step items [] 0 h (by omega) h0) fun ys h1 p => fin ys h1 p
/-! ### written lists, turn by turn -/
theorem wForN : (forV t x [] ρ h).wp QS = QS (.nx, ρ) h := id (by with_unfolding_all rfl)
theorem wForC : (forV t x (v :: vs) ρ h).wp QS = kTgt (fun ρ1 => (x ρ1 h).wp (kLoop (fun ρ' h' => (forV t x vs ρ' h').wp QS) QS)) (t v ρ) := by
  rw [forV]
  cases t v ρ with
  | none => with_unfolding_all rfl
  | some ρ1 =>
    simp only
    rw [wp_bind, kTgt_eq]
    congr 1
    funext r h1
    obtain ⟨f, ρ2⟩ := r
    cases f <;> with_unfolding_all rfl
def kLcC (v : IV) (QA : KA) : KA := fun vs h => QA (v :: vs) h
theorem kLcC_eq : kLcC v QA vs h = QA (v :: vs) h := id (by with_unfolding_all rfl)
def kLcE (t : Tg) (tt : DenT) (el : Den) (ρ : Sl) (vs : List IV) (n : Nat) (QA : KA) : KV := fun y h => n < sizeLine ∧ (lcV t tt el ρ vs (n + 1) h).wp (kLcC y QA)
theorem kLcE_eq : kLcE t tt el ρ vs n QA u h = (n < sizeLine ∧ (lcV t tt el ρ vs (n + 1) h).wp (kLcC u QA)) := id (by with_unfolding_all rfl)
def kLcT (t : Tg) (tt : DenT) (el : Den) (ρ ρ1 : Sl) (vs : List IV) (n : Nat) (QA : KA) : KT := fun b h => if b then (el ρ1 h).wp (kLcE t tt el ρ vs n QA) else (lcV t tt el ρ vs n h).wp QA
theorem kLcT_t : kLcT t tt el ρ ρ' vs n QA true h = (el ρ' h).wp (kLcE t tt el ρ vs n QA) := id (by with_unfolding_all rfl)
theorem kLcT_f : kLcT t tt el ρ ρ' vs n QA false h = (lcV t tt el ρ vs n h).wp QA := id (by with_unfolding_all rfl)
theorem wLcN : (lcV t tt el ρ [] n h).wp QA = QA [] h := id (by with_unfolding_all rfl)
theorem wLcC : (lcV t tt el ρ (v :: vs) n h).wp QA = kTgt (fun ρ1 => (tt ρ1 h).wp (kLcT t tt el ρ ρ1 vs n QA)) (t v ρ) := by
  rw [lcV]
  cases t v ρ with
  | none => with_unfolding_all rfl
  | some ρ1 =>
    simp only
    rw [wp_bind, kTgt_eq, wp_nox]
    congr 1
    funext b h1
    cases b with
    | false => with_unfolding_all rfl
    | true =>
      rw [if_pos rfl, wp_bind, wp_nox, kLcT_t]
      congr 1
      funext y h2
      by_cases hn : n < sizeLine
      · rw [if_pos hn, wp_bind]
        with_unfolding_all exact propext ⟨fun q => ⟨hn, q⟩, fun q => q.2⟩
      · rw [if_neg hn]
        with_unfolding_all exact propext ⟨fun q => q.elim, fun q => (hn q.1).elim⟩
/-! ### defs -/
def kFn0 (Q : KV) (h : Mem) : Fl → Prop
  | .nx => Q .non h
  | .rt v => Q v h
  | _ => False
def kFn (Q : KV) : KS := fun r h => kFn0 Q h r.1
theorem kFn_nx : kFn Q (.nx, ρ) h = Q .non h := id (by with_unfolding_all rfl)
theorem kFn_rt : kFn Q (.rt v, ρ) h = Q v h := id (by with_unfolding_all rfl)
def slots : List IV → Nat → Sl
  | [], n => List.replicate n none
  | a :: as, n => some a :: slots as (n - 1)
theorem slots_nil : slots [] n = List.replicate n none := id (by with_unfolding_all rfl)
theorem slots_cons {a : IV} {as : List IV} : slots (a :: as) (n + 1) = some a :: slots as n := id (by with_unfolding_all rfl)
theorem slots_eq : ∀ (as : List IV) (n : Nat), as.map some ++ List.replicate (n - as.length) none = slots as n
  | [], n => by rw [slots_nil]; with_unfolding_all rfl
  | a :: as, n => by
    rw [List.map_cons, List.cons_append, List.length_cons, Nat.sub_add_eq, Nat.sub_right_comm, slots_eq as (n - 1)]
    with_unfolding_all rfl
theorem wFn {d : DenS} {as : List IV} (e : as.length = m) (p : (d (slots as n) h).wp (kFn Q)) : (funI n m d as h).wp Q := by
  unfold funI
  rw [if_pos e, wp_bind, slots_eq]
  refine wp_mono p fun r h1 q => ?_
  obtain ⟨f, ρ1⟩ := r
  cases f <;> with_unfolding_all exact q
/-! ### places -/
variable {o o1 o2 o3 o4 p : IO} {ext base rest : Mem} {sc : Src}
theorem g_at0 : (base ++ o :: ext)[base.length]? = some o := by rw [List.getElem?_append_right (Nat.le_refl _), Nat.sub_self]; with_unfolding_all rfl
theorem g_at1 : (base ++ o1 :: o :: ext)[base.length + 1]? = some o := by
  rw [List.getElem?_append_right (by omega), show base.length + 1 - base.length = 1 by omega]; with_unfolding_all rfl
theorem g_at2 : (base ++ o1 :: o2 :: o :: ext)[base.length + 2]? = some o := by
  rw [List.getElem?_append_right (by omega), show base.length + 2 - base.length = 2 by omega]; with_unfolding_all rfl
theorem g_at3 : (base ++ o1 :: o2 :: o3 :: o :: ext)[base.length + 3]? = some o := by
  rw [List.getElem?_append_right (by omega), show base.length + 3 - base.length = 3 by omega]; with_unfolding_all rfl
theorem g_at4 : (base ++ o1 :: o2 :: o3 :: o4 :: o :: ext)[base.length + 4]? = some o := by
  rw [List.getElem?_append_right (by omega), show base.length + 4 - base.length = 4 by omega]; with_unfolding_all rfl
theorem g_set0 : (base ++ o :: ext).set base.length p = base ++ p :: ext := by
  rw [List.set_append_right _ _ (Nat.le_refl _), Nat.sub_self]; with_unfolding_all rfl
theorem g_set1 : (base ++ o1 :: o :: ext).set (base.length + 1) p = base ++ o1 :: p :: ext := by
  rw [List.set_append_right _ _ (by omega), show base.length + 1 - base.length = 1 by omega]; with_unfolding_all rfl
theorem g_set2 : (base ++ o1 :: o2 :: o :: ext).set (base.length + 2) p = base ++ o1 :: o2 :: p :: ext := by
  rw [List.set_append_right _ _ (by omega), show base.length + 2 - base.length = 2 by omega]; with_unfolding_all rfl
theorem g_set3 : (base ++ o1 :: o2 :: o3 :: o :: ext).set (base.length + 3) p = base ++ o1 :: o2 :: o3 :: p :: ext := by
  rw [List.set_append_right _ _ (by omega), show base.length + 3 - base.length = 3 by omega]; with_unfolding_all rfl
theorem g_set4 : (base ++ o1 :: o2 :: o3 :: o4 :: o :: ext).set (base.length + 4) p = base ++ o1 :: o2 :: o3 :: o4 :: p :: ext := by
  rw [List.set_append_right _ _ (by omega), show base.length + 4 - base.length = 4 by omega]; with_unfolding_all rfl
theorem m_at {k : Nat} : (mem sc rest)[k + 2]? = rest[k]? := id (by with_unfolding_all rfl)
theorem m_set {k : Nat} : (mem sc rest).set (k + 2) p = mem sc (rest.set k p) := id (by with_unfolding_all rfl)
theorem m_atL {k : Nat} : (mem sc rest)[rest.length + k + 2]? = rest[rest.length + k]? := id (by with_unfolding_all rfl)
end
end VI
end

section
namespace VI
open PySem PySem.Spec PyProof.Rows L2
theorem dec_self {α : Type} [DecidableEq α] {a : α} : decide (a = a) = true := by simp
theorem dec_selfI {a : Int} : decide (a = a) = true := by simp
theorem dec_selfS {a : Str} : decide (a = a) = true := by simp
section
variable {ρ : Sl} {h : Mem} {Q : KV}
theorem mulWF_w {i j : Int} : (mulWF (.int i) (.int j) h).wp Q = (i.natAbs.log2 + j.natAbs.log2 < 1000000 ∧ Q (.int (i * j)) h) := by
  show (bif decide (i.natAbs.log2 + j.natAbs.log2 < 1000000) then Ret.ok (IV.int (i * j)) h else .bad).wp Q = _
  with_unfolding_all exact bif_ok decide_eq_true_iff
theorem divWF_w {i j : Int} : (divWF (.int i) (.int j) h).wp Q = ((0 < j ∧ j.natAbs.log2 < 9000) ∧ Q (.int (i / j)) h) := by
  show (bif decide (0 < j) && decide (j.natAbs.log2 < 9000) then Ret.ok (IV.int (i / j)) h else .bad).wp Q = _
  with_unfolding_all exact bif_ok (by rw [Bool.and_eq_true, decide_eq_true_eq, decide_eq_true_eq])
theorem shlF_w {i j : Int} : (shlF (.int i) (.int j) h).wp Q = (((0 ≤ j ∧ j ≤ 1000000) ∧ i.natAbs < 18446744073709551616) ∧ Q (.int (i * 2 ^ j.toNat)) h) := by
  show (bif cPow i j then Ret.ok (IV.int (i * 2 ^ j.toNat)) h else .bad).wp Q = _
  with_unfolding_all exact bif_ok (by unfold cPow; rw [Bool.and_eq_true, Bool.and_eq_true, decide_eq_true_eq, decide_eq_true_eq, decide_eq_true_eq])
theorem shrF_w {i j : Int} : (shrF (.int i) (.int j) h).wp Q = (0 ≤ j ∧ Q (.int (i / 2 ^ j.toNat)) h) := by
  show (bif decide (0 ≤ j) then Ret.ok (IV.int (i / 2 ^ j.toNat)) h else .bad).wp Q = _
  with_unfolding_all exact bif_ok decide_eq_true_iff
theorem bandF_ii {i j : Int} : bandF (.int i) (.int j) h = .ok (.int (Builtin.bitAnd i j)) h := id (by with_unfolding_all rfl)
theorem divmodF_w {i j : Int} : (divmodF [.int i, .int j] h).wp Q = ((0 < j ∧ j < 1073741824) ∧ Q (.tup [.int (i / j), .int (i % j)]) h) := by
  show (bif decide (0 < j) && decide (j < 1073741824) then Ret.ok (IV.tup [.int (i / j), .int (i % j)]) h else .bad).wp Q = _
  with_unfolding_all exact bif_ok (by rw [Bool.and_eq_true, decide_eq_true_eq, decide_eq_true_eq])
end
end VI
end

section
namespace VI
open PySem PySem.Spec PyProof.Rows L2
section
variable {s : Src} {rest h : Mem} {m : Int} {Q : KV} {v : IV} {d : PyData} {k w : Nat}
theorem pick_wp (g : s.Good) (hm : m < 1073741824) (q : ∀ (s' : Src) (k : Nat), s'.Good → ((k : Int) < m ∨ k = 0) → Q (.int (k : Nat)) (mem s' rest)) : (fn__law_pick [.loc 1, .int m] (mem s rest)).wp Q := by
  obtain ⟨s', k, g', e, hk⟩ := pickG (rest := rest) g hm
  exact wp_of e (q s' k g' hk)
theorem source_wp {ns : List Int} (hn : ns.length ≤ 63) (q : ∀ s : Src, s.Good → Q (.loc 1) (mem s [])) : (fn__law_source [.fz (ns.map .int)] []).wp Q := by
  obtain ⟨s, g, e⟩ := source hn
  exact wp_of e (q s g)
theorem mixed_wp {xs : List IV} (g : s.Good) (hv : seqOf (mem s rest) v = some xs) (hl : xs.length ≤ 50000) (q : ∀ (s' : Src) (zs : List IV), s'.Good → zs.Perm xs → Q (.fl zs) (mem s' (rest ++ [.lst []]))) : (fn__law_mixed [.loc 1, v] (mem s rest)).wp Q := by
  obtain ⟨s', zs, g', pm, e⟩ := mixed g hv hl
  exact wp_of e (q s' zs g' pm)
theorem of_wp {xs : List IV} (g : s.Good) (hv : ∀ s, seqOf (mem s rest) v = some xs) (hne : xs ≠ []) (hl : xs.length < 1073741824) (q : ∀ (s' : Src) (y : IV), s'.Good → y ∈ xs → Q y (mem s' rest)) : (fn__law_of [.loc 1, v] (mem s rest)).wp Q := by
  obtain ⟨s', k, y, g', ey, e⟩ := of g hv hne hl
  exact wp_of e (q s' y g' (List.mem_of_getElem? ey))
theorem repr_wp (s : Sz h v d k w) (hk : k ≤ 60) (hw : w ≤ 1048576) (q : Q (.str d.shown) h) : (reprF [v] h).wp Q := wp_of (repr_ok s hk hw) q
theorem atI_lastI {pre : List Int} {l : Int} : atI ((pre ++ [l]).map IV.int) (-1) = some (.int l) := by
  rw [List.map_append]; exact atI_last _ _
theorem cut_from (xs : List IV) (k : Nat) : cutI xs (some (k : Nat)) none = xs.drop k := by
  unfold cutI
  rw [HT.sIx_nat]
  by_cases e : k ≤ xs.length
  · rw [Nat.min_eq_left e]
    have : HT.sIx xs.length xs.length none = xs.length := HT.sIx_none _ _
    rw [this]
    exact List.take_of_length_le (by rw [List.length_drop]; omega)
  · rw [Nat.min_eq_right (by omega), List.drop_length, List.take_nil, List.drop_eq_nil_of_le (by omega)]
theorem cut_1 {xs : List IV} : cutI xs (some 1) none = xs.drop 1 := cut_from xs 1
theorem numd_zip' {α : Type} {f : α → IV} : ∀ (l : List α) (k : Nat), numd k (l.map f) = (l.zipIdx k).map fun x => IV.tup [.int (x.2 : Nat), f x.1]
  | [], _ => rfl
  | x :: l, k => by
    rw [List.map_cons, List.zipIdx_cons, List.map_cons]
    unfold numd
    rw [numd_zip' l (k + 1)]
theorem ltF_ok : (100000 : Nat) < sizeLine := by rw [sizeLine_eq]; decide
theorem eqvAll_ints : ∀ as bs : List Int, PyData.eqvAll (as.map .int) (bs.map .int) = decide (as = bs)
  | [], [] => rfl
  | [], _ :: _ => by simp [PyData.eqvAll]
  | _ :: _, [] => by simp [PyData.eqvAll]
  | a :: as, b :: bs => by
    rw [List.map_cons, List.map_cons, PyData.eqvAll, eqvAll_ints as bs, PyData.eqv]
    by_cases h1 : a = b
    · by_cases h2 : as = bs
      · simp [h1, h2]
      · simp [h1, h2]
    · simp [h1]
theorem ne_ints {as bs : List Int} (ha : ∀ i ∈ as, i.natAbs < 10 ^ 12) (hb : ∀ i ∈ bs, i.natAbs < 10 ^ 12) : neF (.tup (as.map .int)) (.tup (bs.map .int)) h = .ok (.bl (!decide (as = bs))) h := by
  have e1 : neF (.tup (as.map .int)) (.tup (bs.map .int)) h = dataF (fun d e => !PyData.eqv d e) (.tup (as.map .int)) (.tup (bs.map .int)) h := rfl
  rw [e1, data_ok (Sz.tup (SzL.ints ha)) (Sz.tup (SzL.ints hb)) (by decide) (by decide), PyData.eqv, eqvAll_ints]
theorem eq_ints {as bs : List Int} (ha : ∀ i ∈ as, i.natAbs < 10 ^ 12) (hb : ∀ i ∈ bs, i.natAbs < 10 ^ 12) : eqF (.tup (as.map .int)) (.tup (bs.map .int)) h = .ok (.bl (decide (as = bs))) h := by
  have e1 : eqF (.tup (as.map .int)) (.tup (bs.map .int)) h = dataF (fun d e => PyData.eqv d e) (.tup (as.map .int)) (.tup (bs.map .int)) h := rfl
  rw [e1, data_ok (Sz.tup (SzL.ints ha)) (Sz.tup (SzL.ints hb)) (by decide) (by decide), PyData.eqv, eqvAll_ints]
theorem eq_intsL {as bs : List Int} (ha : ∀ i ∈ as, i.natAbs < 10 ^ 12) (hb : ∀ i ∈ bs, i.natAbs < 10 ^ 12) : eqF (.fl (as.map .int)) (.fl (bs.map .int)) h = .ok (.bl (decide (as = bs))) h := by
  have e1 : eqF (.fl (as.map .int)) (.fl (bs.map .int)) h = dataF (fun d e => PyData.eqv d e) (.fl (as.map .int)) (.fl (bs.map .int)) h := rfl
  rw [e1, data_ok (Sz.fl (SzL.ints ha)) (Sz.fl (SzL.ints hb)) (by decide) (by decide), PyData.eqv, eqvAll_ints]
theorem ne_intsL {as bs : List Int} (ha : ∀ i ∈ as, i.natAbs < 10 ^ 12) (hb : ∀ i ∈ bs, i.natAbs < 10 ^ 12) : neF (.fl (as.map .int)) (.fl (bs.map .int)) h = .ok (.bl (!decide (as = bs))) h := by
  have e1 : neF (.fl (as.map .int)) (.fl (bs.map .int)) h = dataF (fun d e => !PyData.eqv d e) (.fl (as.map .int)) (.fl (bs.map .int)) h := rfl
  rw [e1, data_ok (Sz.fl (SzL.ints ha)) (Sz.fl (SzL.ints hb)) (by decide) (by decide), PyData.eqv, eqvAll_ints]
end
end VI
end

section
namespace VI
open PySem PySem.Spec PyProof.Rows L2
/-! ### data with greater ints -/
structure Sb (h : Mem) (v : IV) (d : PyData) (k w : Nat) : Prop where
  see : ∀ n, k ≤ n → toD h n v = some d
  lay : d.canLay0 = true
  shw : d.showable = true
  dep : d.depth ≤ k
  wt : d.weight ≤ w
  sh : d.leavesShort 60 = true
structure SbL (h : Mem) (vs : List IV) (ds : List PyData) (k w : Nat) : Prop where
  see : ∀ n, k ≤ n → allS (vs.map (toD h n)) = some ds
  lay : PyData.canLayAll0 ds = true
  shw : PyData.showableAll ds = true
  dep : PyData.depthAll ds ≤ k
  wt : PyData.weightAll ds ≤ w
  sh : PyData.leavesShortAll 60 ds = true
section
variable {h : Mem} {v u : IV} {d e : PyData} {k w k' w' : Nat} {vs us : List IV} {ds es : List PyData} {Q : KV}
theorem Sb.mono (s : Sb h v d k w) (hk : k ≤ k') (hw : w ≤ w') : Sb h v d k' w' := ⟨fun n hn => s.see n (Nat.le_trans hk hn), s.lay, s.shw, Nat.le_trans s.dep hk, Nat.le_trans s.wt hw, s.sh⟩
theorem Sb.int {i : Int} (hi : i.natAbs < 10 ^ 58) : Sb h (.int i) (.int i) 1 200 := by
  have e2 : (10 : Nat) ^ 58 < 2 ^ 199 := by decide
  have hl : i.natAbs.log2 < 199 := by
    by_cases z : i.natAbs = 0
    · rw [z]; decide
    · exact (Nat.log2_lt z).mpr (Nat.lt_trans hi e2)
  refine ⟨fun n hn => ?_, ?_, ?_, ?_, ?_, ?_⟩
  · obtain ⟨m, rfl⟩ : ∃ m, n = m + 1 := ⟨n - 1, by omega⟩
    rfl
  · unfold PyData.canLay0; rfl
  · unfold PyData.showable
    rw [decide_eq_true_eq]
    omega
  · unfold PyData.depth
    omega
  · unfold PyData.weight
    split
    · omega
    · omega
  · unfold PyData.leavesShort
    rw [decide_eq_true_eq]
    have e3 := int_text_length_le10 (k := 58) (by decide) hi
    have e4 : (PyData.shown (.int i)).length ≤ 59 := by
      show (Str.ofString (toString i)).length ≤ 59
      rw [PySem.ofString_length]
      exact e3
    omega
theorem SbL.nil : SbL h [] [] k 0 := by
  refine ⟨fun n hn => rfl, ?_, ?_, ?_, ?_, ?_⟩
  · unfold PyData.canLayAll0; rfl
  · unfold PyData.showableAll; rfl
  · unfold PyData.depthAll
    omega
  · unfold PyData.weightAll
    omega
  · unfold PyData.leavesShortAll; rfl
theorem SbL.cons (s : Sb h v d k w) (t : SbL h vs ds k w') : SbL h (v :: vs) (d :: ds) k (w + 1 + w') := by
  refine ⟨fun n hn => ?_, ?_, ?_, ?_, ?_, ?_⟩
  · rw [List.map_cons, s.see n hn]
    unfold allS
    rw [t.see n hn]
  · unfold PyData.canLayAll0
    rw [s.lay, t.lay]
    rfl
  · unfold PyData.showableAll
    rw [s.shw, t.shw]
    rfl
  · unfold PyData.depthAll
    have := s.dep
    have := t.dep
    omega
  · unfold PyData.weightAll
    have := s.wt
    have := t.wt
    omega
  · unfold PyData.leavesShortAll
    rw [s.sh, t.sh]
    rfl
theorem SbL.map {α : Type} {f : α → IV} {g : α → PyData} : ∀ {l : List α}, (∀ a ∈ l, Sb h (f a) (g a) k w) → SbL h (l.map f) (l.map g) k ((w + 1) * l.length)
  | [], _ => by
    rw [List.length_nil, Nat.mul_zero]
    exact SbL.nil
  | a :: l, q => by
    rw [List.map_cons, List.map_cons, List.length_cons, Nat.mul_add, Nat.mul_one, Nat.add_comm ((w + 1) * l.length)]
    exact SbL.cons (q a List.mem_cons_self) (SbL.map fun b hb => q b (List.mem_cons_of_mem _ hb))
theorem Sb.fl (t : SbL h vs ds k w) : Sb h (.fl vs) (.list ds) (k + 1) w := by
  refine ⟨fun n hn => ?_, ?_, ?_, ?_, ?_, ?_⟩
  · obtain ⟨m, rfl⟩ : ∃ m, n = m + 1 := ⟨n - 1, by omega⟩
    rw [toD, t.see m (by omega)]
    rfl
  · unfold PyData.canLay0; exact t.lay
  · unfold PyData.showable; exact t.shw
  · unfold PyData.depth
    have := t.dep
    omega
  · unfold PyData.weight
    exact t.wt
  · unfold PyData.leavesShort; exact t.sh
theorem Sb.tup (t : SbL h vs ds k w) : Sb h (.tup vs) (.tuple ds) (k + 1) w := by
  refine ⟨fun n hn => ?_, ?_, ?_, ?_, ?_, ?_⟩
  · obtain ⟨m, rfl⟩ : ∃ m, n = m + 1 := ⟨n - 1, by omega⟩
    rw [toD, t.see m (by omega)]
    rfl
  · unfold PyData.canLay0; exact t.lay
  · unfold PyData.showable; exact t.shw
  · unfold PyData.depth
    have := t.dep
    omega
  · unfold PyData.weight
    exact t.wt
  · unfold PyData.leavesShort; exact t.sh
theorem reprb_ok (s : Sb h v d k w) (hk : k ≤ 60) (hw : w ≤ 250000) : reprF [v] h = .ok (.str d.shown) h := by
  have hdp : d.depth ≤ 60 := Nat.le_trans s.dep hk
  have hlen : d.shown.length ≤ sizeLine := by
    have h1 := PyData.shown_le 60 (by decide) d s.sh
    have h2 := s.wt
    rw [sizeLine_eq]
    omega
  have hdd : deep = 66 := rfl
  unfold reprF
  simp only
  rw [s.see deep (by omega)]
  simp only
  rw [s.shw, PyData.hasDict_of_canLay d s.lay, decide_eq_true hdp, decide_eq_true hlen]
  rfl
theorem reprb_wp (s : Sb h v d k w) (hk : k ≤ 60) (hw : w ≤ 250000) (q : Q (.str d.shown) h) : (reprF [v] h).wp Q := wp_of (reprb_ok s hk hw) q
theorem ne_bb {a b : Bool} : neF (.bl a) (.bl b) h = .ok (.bl (!(a == b))) h := by
  have e1 : neF (.bl a) (.bl b) h = dataF (fun d e => !PyData.eqv d e) (.bl a) (.bl b) h := rfl
  rw [e1]
  cases a <;> cases b <;> rfl
theorem eq_bb {a b : Bool} : eqF (.bl a) (.bl b) h = .ok (.bl (a == b)) h := by
  have e1 : eqF (.bl a) (.bl b) h = dataF (fun d e => PyData.eqv d e) (.bl a) (.bl b) h := rfl
  rw [e1]
  cases a <;> cases b <;> rfl
theorem ne_nilnil : neF (.fl []) (.fl []) h = .ok (.bl false) h := by rfl
theorem kIfE_join {a b : Den} {ρ : Sl} {bb : Bool} (P : KV) (hQ : ∀ v h, P v h → Q v h) (p : bb = true → (a ρ h).wp P) (q : bb = false → (b ρ h).wp P) : kIfE a b ρ Q bb h := by
  cases bb with
  | true => rw [kIfE_t]; exact wp_mono (p rfl) hQ
  | false => rw [kIfE_f]; exact wp_mono (q rfl) hQ
theorem kIf_join {x y : DenS} {ρ : Sl} {bb : Bool} {QS : KS} (P : KS) (hQ : ∀ v h, P v h → QS v h) (p : bb = true → (x ρ h).wp P) (q : bb = false → (y ρ h).wp P) : kIf x y ρ QS bb h := by
  cases bb with
  | true => rw [kIf_t]; exact wp_mono (p rfl) hQ
  | false => rw [kIf_f]; exact wp_mono (q rfl) hQ
theorem rgI_c (c : Nat) : rgI 0 ((c : Nat) : Int) = (List.range c).map fun l => IV.int ((l : Nat) : Int) := by
  have := rgI_nat 0 c
  rw [Nat.sub_zero] at this
  rw [show ((0 : Nat) : Int) = 0 from rfl] at this
  rw [this, List.map_map]
  apply List.map_congr_left
  intro i _
  show IV.int (((0 + i : Nat) : Nat) : Int) = IV.int ((i : Nat) : Int)
  rw [Nat.zero_add]
theorem filter_no {α : Type} (l : List α) : l.filter (fun _ => false) = [] := by simp
/-! ### powers -/
theorem pow_wp {b : Int} {n : Nat} (hb : -18446744073709551616 < b ∧ b < 18446744073709551616) (hn : n < 1000000) (q : Q (.int (b ^ n)) h) :
    (funI 4 2 (sSeq (sAsg (tgN 2) (dC (.int 1))) (sSeq (sFor (wRng1 (aCons (dVar 1) aNil)) (Sh.tg (.n 3)) (sAsg (tgN 2) (dBin mulF (dVar 2) (dVar 0)))) (sRet (dVar 2)))) [.int b, .int (n : Nat)] h).wp Q := by
  refine wFn rfl ?_
  simp only [kLcC_eq, kLcE_eq, kLcT_t, kLcT_f, Int.zero_add, List.length_map, List.length_range, List.length_replicate, mulWF_w, divWF_w, shlF_w, shrF_w, bandF_ii, divmodF_w, dec_selfI, dec_selfS, wp_ok, wp_nox, kVar_eq, wVar, wC, kBin2_eq, kBin_eq, wBin, kUn_eq, wUn, kC2_eq, kC_eq, wCons, wNil, kArg_eq, wArg, kFArg_eq, wFArg, kFl_eq, wFlv, kAl_eq, wAl, wLst, kLst0, kLst1, kLst2, kLst3, kLst4, kLst5, kLst6, wTupv, kTup0, kTup1, kTup2, kTup3, kTup4, kTup5, kTup6, kTst_eq, wTst, kAnd_t, kAnd_f, wAnd, kOr_t, kOr_f, wOr, kNot_eq, wNot, wYes, kIfE_t, kIfE_f, wIfE, kAndV_t, kAndV_f, wAndV, kOrV_f, kOrV_t, wOrV, kNotV_eq, wNotV, kChn4_eq, kChn_t, kChn_f, kChn2_eq, kChn1_eq, wChn, kSeq_t, kSeq_l, kSeq_z, wSeqv, kEnum_t, kEnum_l, wEnumv, kZip_t, kZip_l, wZipv, kRng1_eq, wRng1v, kRng2_eq, wRng2v, kRgL1_eq, wRgL1, kRgL2_eq, kRgL2, wRgL2, onIO_l, onL_fl, onL_loc, onSeq_t, onSeq_fl, onSeq_fz, onSeq_loc, onLsq_fl, onLsq_fz, onLsq_loc, kRep_eq, kRep2_eq, wRep, woNone, kOSome_eq, woSome, kCut3_eq, kCut2_eq, kCut_eq, wCut, cutF_t, cutF_l, cutF_p, kRev_eq, wRev, lenF_t, lenF_l, lenF_z, lenF_p, tupleF_t, tupleF_l, tupleF_p, listF_t, listF_l, listF_z, listF_p, kOpt_eq, ixF_t, ixF_l, ixF_z, ixF_p, atI_0, atI_1, atI_2, atI_3, mulF_w, divF_w, modF_w, powF_w, addF_ii, addF_tt, addF_ll, addF_pl, subF_ii, ltF_ii, leF_ii, gtF_ii, geF_ii, eqF_ii, neF_ii, eqF_ss, neF_ss, negF_i, absF_i, maxF_ii, minF_ii, toIntF_i, toIntF_b, isN_n, isN_i, isN_t, notN_n, notN_i, notN_t, isN_g, notN_g, sumF_l, isi_i, isi_b, isi_t, isi_n, isi_s, kML0_eq, kML_l, kML_p, wML, appF_p, popF_p, kN_eq, putF_p, getF_p, wNx, wBk, wCt, kS_nx, kS_bk, kS_ct, kS_rt, wSeqS, kRet_eq, wRet, kExp_eq, wExp, kIf_t, kIf_f, wIf, kTg_eq, kAsg_eq, wAsg, tgN_eq, shN_eq, sh2_eq, sh3_eq, sh12_eq, sh21_eq, kAug2_eq, kAug1_eq, kAug_eq, wAug, addI_ii, kPut4_eq, kPut3_eq, kPut2_eq, kPut1_eq, wPut, kAL5_eq, kAL4_eq, kAL3_eq, kAL2_eq, kAL1_eq, wAugL, kPar_eq, wPar, kPar3_eq, wPar3, kFor_eq, wFor, kLoop_nx, kLoop_ct, kLoop_bk, kLoop_rt, kTgt_eq, kWh_t, kWh_f, kLc_eq, wLc, kIs_eq, kIsV_eq, kFn_nx, kFn_rt, g_at0, g_at1, g_at2, g_at3, g_at4, g_set0, g_set1, g_set2, g_set3, g_set4, m_at, m_set, m_atL, List.getElem?_cons_zero, List.getElem?_cons_succ, List.set_cons_zero, List.set_cons_succ, List.length_cons, List.length_nil, slots_cons, slots_nil, List.cons_append, List.nil_append, List.replicate_succ, List.replicate_zero, Nat.reduceAdd, Nat.reduceSub, Nat.reduceEqDiff, Nat.reduceLeDiff, Bool.false_eq_true, wipeI, mem_len, mem_app, Bool.not_true, Bool.not_false, List.length_append, Nat.add_assoc, List.append_assoc]
  refine ⟨⟨by omega, by omega⟩, ?_⟩
  refine for_rg (fun k ρ h' => ∃ a, ρ = [some (.int b), some (.int (n : Nat)), some (.int (b ^ k)), a] ∧ h' = h) ⟨none, by rw [Int.pow_zero], rfl⟩ ?_ ?_
  · rintro k hk ρ h' ⟨a, rfl, rfl⟩
    simp only [kLcC_eq, kLcE_eq, kLcT_t, kLcT_f, Int.zero_add, List.length_map, List.length_range, List.length_replicate, mulWF_w, divWF_w, shlF_w, shrF_w, bandF_ii, divmodF_w, dec_selfI, dec_selfS, wp_ok, wp_nox, kVar_eq, wVar, wC, kBin2_eq, kBin_eq, wBin, kUn_eq, wUn, kC2_eq, kC_eq, wCons, wNil, kArg_eq, wArg, kFArg_eq, wFArg, kFl_eq, wFlv, kAl_eq, wAl, wLst, kLst0, kLst1, kLst2, kLst3, kLst4, kLst5, kLst6, wTupv, kTup0, kTup1, kTup2, kTup3, kTup4, kTup5, kTup6, kTst_eq, wTst, kAnd_t, kAnd_f, wAnd, kOr_t, kOr_f, wOr, kNot_eq, wNot, wYes, kIfE_t, kIfE_f, wIfE, kAndV_t, kAndV_f, wAndV, kOrV_f, kOrV_t, wOrV, kNotV_eq, wNotV, kChn4_eq, kChn_t, kChn_f, kChn2_eq, kChn1_eq, wChn, kSeq_t, kSeq_l, kSeq_z, wSeqv, kEnum_t, kEnum_l, wEnumv, kZip_t, kZip_l, wZipv, kRng1_eq, wRng1v, kRng2_eq, wRng2v, kRgL1_eq, wRgL1, kRgL2_eq, kRgL2, wRgL2, onIO_l, onL_fl, onL_loc, onSeq_t, onSeq_fl, onSeq_fz, onSeq_loc, onLsq_fl, onLsq_fz, onLsq_loc, kRep_eq, kRep2_eq, wRep, woNone, kOSome_eq, woSome, kCut3_eq, kCut2_eq, kCut_eq, wCut, cutF_t, cutF_l, cutF_p, kRev_eq, wRev, lenF_t, lenF_l, lenF_z, lenF_p, tupleF_t, tupleF_l, tupleF_p, listF_t, listF_l, listF_z, listF_p, kOpt_eq, ixF_t, ixF_l, ixF_z, ixF_p, atI_0, atI_1, atI_2, atI_3, mulF_w, divF_w, modF_w, powF_w, addF_ii, addF_tt, addF_ll, addF_pl, subF_ii, ltF_ii, leF_ii, gtF_ii, geF_ii, eqF_ii, neF_ii, eqF_ss, neF_ss, negF_i, absF_i, maxF_ii, minF_ii, toIntF_i, toIntF_b, isN_n, isN_i, isN_t, notN_n, notN_i, notN_t, isN_g, notN_g, sumF_l, isi_i, isi_b, isi_t, isi_n, isi_s, kML0_eq, kML_l, kML_p, wML, appF_p, popF_p, kN_eq, putF_p, getF_p, wNx, wBk, wCt, kS_nx, kS_bk, kS_ct, kS_rt, wSeqS, kRet_eq, wRet, kExp_eq, wExp, kIf_t, kIf_f, wIf, kTg_eq, kAsg_eq, wAsg, tgN_eq, shN_eq, sh2_eq, sh3_eq, sh12_eq, sh21_eq, kAug2_eq, kAug1_eq, kAug_eq, wAug, addI_ii, kPut4_eq, kPut3_eq, kPut2_eq, kPut1_eq, wPut, kAL5_eq, kAL4_eq, kAL3_eq, kAL2_eq, kAL1_eq, wAugL, kPar_eq, wPar, kPar3_eq, wPar3, kFor_eq, wFor, kLoop_nx, kLoop_ct, kLoop_bk, kLoop_rt, kTgt_eq, kWh_t, kWh_f, kLc_eq, wLc, kIs_eq, kIsV_eq, kFn_nx, kFn_rt, g_at0, g_at1, g_at2, g_at3, g_at4, g_set0, g_set1, g_set2, g_set3, g_set4, m_at, m_set, m_atL, List.getElem?_cons_zero, List.getElem?_cons_succ, List.set_cons_zero, List.set_cons_succ, List.length_cons, List.length_nil, slots_cons, slots_nil, List.cons_append, List.nil_append, List.replicate_succ, List.replicate_zero, Nat.reduceAdd, Nat.reduceSub, Nat.reduceEqDiff, Nat.reduceLeDiff, Bool.false_eq_true, wipeI, mem_len, mem_app, Bool.not_true, Bool.not_false, List.length_append, Nat.add_assoc, List.append_assoc]
    exact ⟨.inr hb, _, by rw [Int.pow_succ], by trivial⟩
  · rintro ρ h' ⟨a, rfl, rfl⟩
    simp only [kLcC_eq, kLcE_eq, kLcT_t, kLcT_f, Int.zero_add, List.length_map, List.length_range, List.length_replicate, mulWF_w, divWF_w, shlF_w, shrF_w, bandF_ii, divmodF_w, dec_selfI, dec_selfS, wp_ok, wp_nox, kVar_eq, wVar, wC, kBin2_eq, kBin_eq, wBin, kUn_eq, wUn, kC2_eq, kC_eq, wCons, wNil, kArg_eq, wArg, kFArg_eq, wFArg, kFl_eq, wFlv, kAl_eq, wAl, wLst, kLst0, kLst1, kLst2, kLst3, kLst4, kLst5, kLst6, wTupv, kTup0, kTup1, kTup2, kTup3, kTup4, kTup5, kTup6, kTst_eq, wTst, kAnd_t, kAnd_f, wAnd, kOr_t, kOr_f, wOr, kNot_eq, wNot, wYes, kIfE_t, kIfE_f, wIfE, kAndV_t, kAndV_f, wAndV, kOrV_f, kOrV_t, wOrV, kNotV_eq, wNotV, kChn4_eq, kChn_t, kChn_f, kChn2_eq, kChn1_eq, wChn, kSeq_t, kSeq_l, kSeq_z, wSeqv, kEnum_t, kEnum_l, wEnumv, kZip_t, kZip_l, wZipv, kRng1_eq, wRng1v, kRng2_eq, wRng2v, kRgL1_eq, wRgL1, kRgL2_eq, kRgL2, wRgL2, onIO_l, onL_fl, onL_loc, onSeq_t, onSeq_fl, onSeq_fz, onSeq_loc, onLsq_fl, onLsq_fz, onLsq_loc, kRep_eq, kRep2_eq, wRep, woNone, kOSome_eq, woSome, kCut3_eq, kCut2_eq, kCut_eq, wCut, cutF_t, cutF_l, cutF_p, kRev_eq, wRev, lenF_t, lenF_l, lenF_z, lenF_p, tupleF_t, tupleF_l, tupleF_p, listF_t, listF_l, listF_z, listF_p, kOpt_eq, ixF_t, ixF_l, ixF_z, ixF_p, atI_0, atI_1, atI_2, atI_3, mulF_w, divF_w, modF_w, powF_w, addF_ii, addF_tt, addF_ll, addF_pl, subF_ii, ltF_ii, leF_ii, gtF_ii, geF_ii, eqF_ii, neF_ii, eqF_ss, neF_ss, negF_i, absF_i, maxF_ii, minF_ii, toIntF_i, toIntF_b, isN_n, isN_i, isN_t, notN_n, notN_i, notN_t, isN_g, notN_g, sumF_l, isi_i, isi_b, isi_t, isi_n, isi_s, kML0_eq, kML_l, kML_p, wML, appF_p, popF_p, kN_eq, putF_p, getF_p, wNx, wBk, wCt, kS_nx, kS_bk, kS_ct, kS_rt, wSeqS, kRet_eq, wRet, kExp_eq, wExp, kIf_t, kIf_f, wIf, kTg_eq, kAsg_eq, wAsg, tgN_eq, shN_eq, sh2_eq, sh3_eq, sh12_eq, sh21_eq, kAug2_eq, kAug1_eq, kAug_eq, wAug, addI_ii, kPut4_eq, kPut3_eq, kPut2_eq, kPut1_eq, wPut, kAL5_eq, kAL4_eq, kAL3_eq, kAL2_eq, kAL1_eq, wAugL, kPar_eq, wPar, kPar3_eq, wPar3, kFor_eq, wFor, kLoop_nx, kLoop_ct, kLoop_bk, kLoop_rt, kTgt_eq, kWh_t, kWh_f, kLc_eq, wLc, kIs_eq, kIsV_eq, kFn_nx, kFn_rt, g_at0, g_at1, g_at2, g_at3, g_at4, g_set0, g_set1, g_set2, g_set3, g_set4, m_at, m_set, m_atL, List.getElem?_cons_zero, List.getElem?_cons_succ, List.set_cons_zero, List.set_cons_succ, List.length_cons, List.length_nil, slots_cons, slots_nil, List.cons_append, List.nil_append, List.replicate_succ, List.replicate_zero, Nat.reduceAdd, Nat.reduceSub, Nat.reduceEqDiff, Nat.reduceLeDiff, Bool.false_eq_true, wipeI, mem_len, mem_app, Bool.not_true, Bool.not_false, List.length_append, Nat.add_assoc, List.append_assoc]
    have e : ((n : Int) - 0).toNat = n := by omega
    rw [e]
    exact q
/-! ### Euclid -/
def gcm (a b : Nat) : Nat := if b = 0 then 0 else 1 + a.log2 + b.log2 + (if a < b then 1 else 0)
theorem log2_half {r a : Nat} (h : 2 * r < a) (hr : 0 < r) : r.log2 < a.log2 := by
  have h1 : 2 ^ r.log2 ≤ r := Nat.log2_self_le (by omega)
  have h2 : 2 ^ (r.log2 + 1) ≤ a := by rw [Nat.pow_succ]; omega
  have := (Nat.le_log2 (by omega)).mpr h2
  omega
theorem gcm_step {a b : Nat} (hb : 0 < b) : gcm b (a % b) < gcm a b := by
  have hlt := Nat.mod_lt a hb
  unfold gcm
  rw [if_neg (show b ≠ 0 by omega)]
  by_cases hr : a % b = 0
  · rw [if_pos hr]; omega
  · rw [if_neg hr, if_neg (show ¬ b < a % b by omega)]
    by_cases hab : a < b
    · rw [if_pos hab, Nat.mod_eq_of_lt hab]
      omega
    · rw [if_neg hab]
      have h1 : a % b + b ≤ a := by
        have := Nat.div_add_mod a b
        have h2 : 1 ≤ a / b := (Nat.one_le_div_iff hb).mpr (by omega)
        have h3 : b * 1 ≤ b * (a / b) := Nat.mul_le_mul_left b h2
        omega
      have := log2_half (r := a % b) (a := a) (by omega) (by omega)
      omega
end
end VI
end

section
namespace VI
open PySem PySem.Spec PyProof.Rows L2
section
variable {ρ : Sl} {h : Mem} {Q : KV} {QA : KA} {QT : KT} {a b : Den} {l : Nat} {v : IV} {xs : List IV} {bb : Bool}
theorem repTF_w {k : Int} (h1 : 1 ≤ k ∧ k ≤ 1000) (q : Q (.tup (List.replicate k.toNat v)) h) : (repTF (.tup [v]) (.int k) h).wp Q := by
  have e : (List.replicate k.toNat [v]).flatten = List.replicate k.toNat v := by
    generalize k.toNat = n
    induction n with
    | zero => rfl
    | succ n ih => rw [List.replicate_succ, List.flatten_cons, ih]; rfl
  by_cases hk : k = 1
  · subst hk
    exact wp_of (h := h) (a := .tup [v]) rfl q
  · refine wp_of (h := h) (a := .tup (List.replicate k.toNat v)) ?_ q
    unfold repTF
    rw [← e]
    simp only [List.isEmpty_cons, Bool.false_or, Bool.not_false, Bool.true_and, decide_eq_false hk, Bool.false_and, cond_false, List.length_singleton]
    rw [decide_eq_true (show 2 ≤ k by omega), decide_eq_true h1.2, decide_eq_true (show 1 ≤ 1000 by decide)]
    rfl
theorem kTup7 {a0 a1 a2 a3 a4 a5 a6 : IV} : kTup Q [a0, a1, a2, a3, a4, a5, a6] h = Q (.tup [a0, a1, a2, a3, a4, a5, a6]) h := kTup_of (by simp)
theorem kTup8 {a0 a1 a2 a3 a4 a5 a6 a7 : IV} : kTup Q [a0, a1, a2, a3, a4, a5, a6, a7] h = Q (.tup [a0, a1, a2, a3, a4, a5, a6, a7]) h := kTup_of (by simp)
theorem kTup9 {a0 a1 a2 a3 a4 a5 a6 a7 a8 : IV} : kTup Q [a0, a1, a2, a3, a4, a5, a6, a7, a8] h = Q (.tup [a0, a1, a2, a3, a4, a5, a6, a7, a8]) h := kTup_of (by simp)
theorem kTup10 {a0 a1 a2 a3 a4 a5 a6 a7 a8 a9 : IV} : kTup Q [a0, a1, a2, a3, a4, a5, a6, a7, a8, a9] h = Q (.tup [a0, a1, a2, a3, a4, a5, a6, a7, a8, a9]) h := kTup_of (by simp)
theorem kLst7 {a0 a1 a2 a3 a4 a5 a6 : IV} : kLst QA [a0, a1, a2, a3, a4, a5, a6] h = QA [a0, a1, a2, a3, a4, a5, a6] h := kLst_of (by simp)
theorem kLst8 {a0 a1 a2 a3 a4 a5 a6 a7 : IV} : kLst QA [a0, a1, a2, a3, a4, a5, a6, a7] h = QA [a0, a1, a2, a3, a4, a5, a6, a7] h := kLst_of (by simp)
theorem kLst9 {a0 a1 a2 a3 a4 a5 a6 a7 a8 : IV} : kLst QA [a0, a1, a2, a3, a4, a5, a6, a7, a8] h = QA [a0, a1, a2, a3, a4, a5, a6, a7, a8] h := kLst_of (by simp)
theorem kLst10 {a0 a1 a2 a3 a4 a5 a6 a7 a8 a9 : IV} : kLst QA [a0, a1, a2, a3, a4, a5, a6, a7, a8, a9] h = QA [a0, a1, a2, a3, a4, a5, a6, a7, a8, a9] h := kLst_of (by simp)
theorem kLst11 {a0 a1 a2 a3 a4 a5 a6 a7 a8 a9 a10 : IV} : kLst QA [a0, a1, a2, a3, a4, a5, a6, a7, a8, a9, a10] h = QA [a0, a1, a2, a3, a4, a5, a6, a7, a8, a9, a10] h := kLst_of (by simp)
theorem kLst12 {a0 a1 a2 a3 a4 a5 a6 a7 a8 a9 a10 a11 : IV} : kLst QA [a0, a1, a2, a3, a4, a5, a6, a7, a8, a9, a10, a11] h = QA [a0, a1, a2, a3, a4, a5, a6, a7, a8, a9, a10, a11] h := kLst_of (by simp)
theorem kLst13 {a0 a1 a2 a3 a4 a5 a6 a7 a8 a9 a10 a11 a12 : IV} : kLst QA [a0, a1, a2, a3, a4, a5, a6, a7, a8, a9, a10, a11, a12] h = QA [a0, a1, a2, a3, a4, a5, a6, a7, a8, a9, a10, a11, a12] h := kLst_of (by simp)
def kSst (QA : KA) : KV := fun v h1 => (match v with
  | .tup xs => (match allS (xs.map asI) with
    | some ns => bif decide (ns.length < 63) then Ret.ok ((usort ns).map IV.int) h1 else .bad
    | none => .bad)
  | _ => .bad).wp QA
theorem wSst : (fSst a ρ h).wp QA = (a ρ h).wp (kSst QA) := by
  unfold fSst; rw [wp_bind]; rfl
theorem kSst_eq {ns : List Int} : kSst QA (.tup (ns.map .int)) h = (ns.length < 63 ∧ QA ((usort ns).map .int) h) := by
  unfold kSst
  simp only [allS_ints]
  exact bif_ok decide_eq_true_iff
def kTru (QT : KT) : KV := fun v h1 => (match truI h1 v with
  | some b => Ret.ok b h1
  | none => .bad).wp QT
theorem wTru : (dTru a ρ h).wp QT = (a ρ h).wp (kTru QT) := by
  unfold dTru; rw [wp_bind]; rfl
theorem kTru_i {i : Int} : kTru QT (.int i) h = QT (i != 0) h := by
  unfold kTru truI; exact wp_ok
theorem minLF_l {ns : List Int} (hn : ns ≠ []) : minLF [.fl (ns.map .int)] h = .ok (.int (minOf ns)) h := by
  unfold minLF ints1F
  simp only [lsq, lstOf, Option.bind_some, allS_ints]
  cases ns with
  | nil => exact absurd rfl hn
  | cons _ _ => rfl
theorem minLF_p {ns : List Int} (hl : h[l]? = some (.lst (ns.map .int))) (hn : ns ≠ []) : minLF [.loc l] h = .ok (.int (minOf ns)) h := by
  unfold minLF ints1F
  simp only [lsq, lstOf, hl, Option.bind_some, allS_ints]
  cases ns with
  | nil => exact absurd rfl hn
  | cons _ _ => rfl
theorem band_nat (a b : Nat) : Builtin.bitAnd (a : Int) (b : Int) = ((a &&& b : Nat) : Int) := rfl
theorem perm_map {α β : Type} {f : α → β} : ∀ {zs ys : List β}, zs.Perm ys → ∀ l : List α, ys = l.map f → ∃ l' : List α, zs = l'.map f ∧ l'.Perm l := by
  intro zs ys h
  induction h with
  | nil => intro l e; cases l with
    | nil => exact ⟨[], rfl, .refl _⟩
    | cons _ _ => cases e
  | cons x h ih =>
    intro l e
    cases l with
    | nil => cases e
    | cons y l =>
      injection e with e1 e2
      obtain ⟨l', e3, p⟩ := ih l e2
      exact ⟨y :: l', by rw [e3, e1]; rfl, p.cons _⟩
  | swap x y t =>
    intro l e
    cases l with
    | nil => cases e
    | cons u l =>
      cases l with
      | nil => cases e
      | cons w l =>
        injection e with e1 e2
        injection e2 with e2 e3
        exact ⟨w :: u :: l, by rw [e1, e2, e3]; rfl, .swap _ _ _⟩
  | trans h1 h2 ih1 ih2 =>
    intro l e
    obtain ⟨l1, e1, p1⟩ := ih2 l e
    obtain ⟨l2, e2, p2⟩ := ih1 l1 e1
    exact ⟨l2, e2, p2.trans p1⟩
end
/-- the places where p holds -/
def idx {α : Type} (p : α → Bool) (l : List α) : List Nat := (l.zipIdx.filter fun x => p x.1).map (·.2)
theorem idx_range' {α : Type} (p : α → Bool) : ∀ (l : List α) (k : Nat), (List.range' k l.length).filter (fun r => (l[r - k]?.map p).getD false) = ((l.zipIdx k).filter fun x => p x.1).map (·.2)
  | [], _ => rfl
  | x :: l, k => by
    have ih := idx_range' p l (k + 1)
    have e : (List.range' (k + 1) l.length).filter (fun r => ((x :: l)[r - k]?.map p).getD false) = (List.range' (k + 1) l.length).filter (fun r => (l[r - (k + 1)]?.map p).getD false) := by
      apply List.filter_congr
      intro r hr
      have := List.mem_range'.mp hr
      obtain ⟨i, hi, rfl⟩ := this
      rw [show k + 1 + 1 * i - k = (k + 1 + 1 * i - (k + 1)) + 1 by omega, List.getElem?_cons_succ]
    rw [List.length_cons, List.range'_succ, List.zipIdx_cons]
    cases hp : p x with
    | true =>
      rw [List.filter_cons_of_pos (by rw [Nat.sub_self]; simpa using hp), List.filter_cons_of_pos (by simpa using hp), List.map_cons, e, ih]
    | false =>
      rw [List.filter_cons_of_neg (by rw [Nat.sub_self]; simpa using hp), List.filter_cons_of_neg (by simpa using hp), e, ih]
theorem idx_range {α : Type} (p : α → Bool) (l : List α) : (List.range l.length).filter (fun r => (l[r]?.map p).getD false) = idx p l := by
  have := idx_range' p l 0
  rw [List.range_eq_range']
  exact this
theorem idx_lt {α : Type} {p : α → Bool} {l : List α} {k : Nat} (h : k ∈ idx p l) : k < l.length := by
  rw [← idx_range] at h
  exact List.mem_range.mp (List.mem_filter.mp h).1
theorem idx_len {α : Type} {p : α → Bool} {l : List α} : (idx p l).length ≤ l.length := by
  rw [← idx_range]
  refine Nat.le_trans (List.length_filter_le _ _) ?_
  rw [List.length_range]
  exact Nat.le_refl _
section
variable {s : Src} {rest : Mem} {Q : KV}
theorem request_wp {n : Nat} (g : s.Good) (hn0 : 0 < n) (hn : n ≤ 1000) (q : ∀ (s' : Src) (ext : Mem) (r : List Nat), s'.Good → RqOk n r → Q (reqIV r) (mem s' (rest ++ ext))) : (fn__law_draw_request [.loc 1, .int (n : Nat)] (mem s rest)).wp Q := by
  obtain ⟨s', ext, r, g', o, e⟩ := requestR (rest := rest) g hn0 hn
  exact wp_of e (q s' ext r g' o)
theorem row_wp {n most : Nat} (g : s.Good) (hn0 : 0 < n) (hn : n ≤ 1000) (hm : most ≤ 1000) (q : ∀ (s' : Src) (ext : Mem) (rs : List (List Nat)), s'.Good → rs.length ≤ most → (∀ r ∈ rs, RqOk n r) → Q (.tup (rs.map reqIV)) (mem s' (rest ++ ext))) : (fn__law_draw_row [.loc 1, .int (n : Nat), .int (most : Nat)] (mem s rest)).wp Q := by
  obtain ⟨s', ext, rs, g', hl, o, e⟩ := row (rest := rest) g hn0 hn hm
  exact wp_of e (q s' ext rs g' hl o)
end
end VI
end

section
namespace VI
open PySem PySem.Spec PyProof.Rows L2
section
variable {α : Type} {ρ : Sl} {h : Mem} {Q : KV} {QS : KS} {a b : Den} {x : DenS} {t : Tg} {l : Nat} {v u : IV} {xs ys : List IV}
noncomputable def kForP (t : Tg) (x : DenS) (ρ : Sl) (QS : KS) : KV := fun v h1 => (match v with
  | .loc l => (match h1[l]? with
    | some (.lst xs) => forP t x l xs xs ρ h1
    | _ => .bad)
  | _ => .bad : Ret (Fl × Sl)).wp QS
theorem wForP : (sForP a t x ρ h).wp QS = (a ρ h).wp (kForP t x ρ QS) := by
  unfold sForP; rw [wp_bind]; rfl
theorem kForP_eq : kForP t x ρ QS (.loc l) h = onIO (fun xs => (forP t x l xs xs ρ h).wp QS) h[l]? := by
  unfold kForP onIO
  simp only
  cases h[l]? with
  | none => exact wp_bad
  | some o =>
    cases o with
    | lst xs => rfl
    | dK _ => exact wp_bad
    | oth _ => exact wp_bad
theorem forP_wp {all : List IV} (I : List IV → Sl → Mem → Prop) (stay : ∀ rest ρ h, I rest ρ h → h[l]? = some (.lst all)) (step : ∀ v rest ρ h, I (v :: rest) ρ h → kTgt (fun ρ1 => (x ρ1 h).wp (kLoop (I rest) QS)) (t v ρ)) (fin : ∀ ρ h, I [] ρ h → QS (.nx, ρ) h) :
    ∀ (items : List IV) (ρ : Sl) (h : Mem), I items ρ h → (forP t x l all items ρ h).wp QS
  | [], ρ, h, q => by
    rw [forP, atP_ok (stay _ _ _ q), wp_ok]
    exact fin ρ h q
  | v :: rest, ρ, h, q => by
    have st := step v rest ρ h q
    rw [forP, atP_ok (stay _ _ _ q)]
    cases e : t v ρ with
    | none => rw [e] at st; with_unfolding_all exact st.elim
    | some ρ1 =>
      rw [e, kTgt_eq] at st
      simp only
      rw [wp_bind]
      refine wp_mono st fun r h1 p => ?_
      obtain ⟨f, ρ2⟩ := r
      cases f with
      | nx => rw [kLoop_nx] at p; exact forP_wp I stay step fin rest ρ2 h1 p
      | ct => rw [kLoop_ct] at p; exact forP_wp I stay step fin rest ρ2 h1 p
      | bk => rw [kLoop_bk] at p; with_unfolding_all exact p
      | rt w => rw [kLoop_rt] at p; with_unfolding_all exact p
theorem empF_t {neg : Bool} : empF neg (.tup xs) (.tup []) h = .ok (.bl (if neg then !xs.isEmpty else xs.isEmpty)) h := rfl
end
end VI
end

section
namespace VI
open PySem PySem.Spec PyProof.Rows L2
section
variable {α : Type} {ρ : Sl} {h : Mem} {QA : KA} {a el : Den} {tt : DenT} {t : Tg} {l : Nat} {v u : IV} {xs : List IV}
theorem lcP_typed {emb : α → IV} {all : List IV} (g : α → IV) (hl : h[l]? = some (.lst all)) : ∀ (xs : List α) (n : Nat), n + xs.length ≤ 100000 → (∀ z ∈ xs, ∃ ρ1, t (emb z) ρ = some ρ1 ∧ el ρ1 h = .ok (g z) h) → lcP t dYes el l all ρ (xs.map emb) n h = .ok (xs.map g) h
  | [], n, _, _ => by
    rw [List.map_nil, lcP, atP_ok hl]; rfl
  | x :: xs, n, hn, st => by
    obtain ⟨ρ1, e1, e2⟩ := st x List.mem_cons_self
    have ih := lcP_typed g hl xs (n + 1) (by rw [List.length_cons] at hn; omega) fun z hz => st z (List.mem_cons_of_mem _ hz)
    rw [List.map_cons, lcP, atP_ok hl, e1]
    show ((nox (dYes ρ1 h)).bind _) = _
    have ed : dYes ρ1 h = .ok true h := rfl
    simp only [ed, nox, Ret.bind_ok, if_true, e2]
    rw [List.length_cons] at hn
    rw [if_pos (sl_lt (show n ≤ 100000 by omega)), ih]
    rfl
noncomputable def kLcP (t : Tg) (tt : DenT) (el : Den) (ρ : Sl) (QA : KA) : KV := fun v h1 => (match v with
  | .loc l => (match h1[l]? with
    | some (.lst xs) => lcP t tt el l xs ρ xs 0 h1
    | _ => .bad)
  | _ => .bad : Ret (List IV)).wp QA
theorem wLcP {own : List Nat} : (fLcP a t tt el own ρ h).wp QA = (a ρ h).wp (kLcP t tt el (wipeI ρ own) QA) := by
  unfold fLcP; rw [wp_bind]; rfl
theorem kLcP_map {emb : α → IV} (g : α → IV) {xs : List α} (hl : h[l]? = some (.lst (xs.map emb))) (hn : xs.length ≤ 100000) (step : ∀ z ∈ xs, kTgt (fun ρ1 => (el ρ1 h).wp (kIsV (g z) h)) (t (emb z) ρ)) (q : QA (xs.map g) h) : kLcP t dYes el ρ QA (.loc l) h := by
  unfold kLcP
  simp only [hl]
  refine wp_of (lcP_typed g hl xs 0 (by omega) fun z hz => ?_) q
  have st := step z hz
  revert st
  cases t (emb z) ρ with
  | none => with_unfolding_all exact fun f => f.elim
  | some ρ1 => with_unfolding_all exact fun st => ⟨ρ1, rfl, wp_isV st⟩
end
end VI
end

section
namespace Vi_k31
open PySem PySem.Spec PyProof.Rows L2 VI
def d_power : DenS :=
    (sSeq (sAsg (tgN 2) (dC (.int 1)))
    (sSeq (sFor (wRng1 (aCons (dVar 1) aNil)) (Sh.tg (.n 3)) (sAsg (tgN 2) (dBin mulF (dVar 2) (dVar 0))))
    (sRet (dVar 2))))
def fn_power : FnI := funI 4 2 d_power
def d__law_times : DenS :=
    (sSeq (sAsg (tgN 2) (dC (.int 1)))
    (sSeq (sFor (wRng1 (aCons (dVar 1) aNil)) (Sh.tg (.n 3)) (sAsg (tgN 2) (dBin mulF (dVar 2) (dVar 0))))
    (sRet (dVar 2))))
def fn__law_times : FnI := funI 4 2 d__law_times
def d__law_lowest : DenS :=
    (sSeq (sPar 2 3 (aCons (dVar 0) (aCons (dVar 1) aNil)))
    (sSeq (sWh (dTst (dBin neF (dVar 3) (dC (.int 0)))) (sPar 2 3 (aCons (dVar 3) (aCons (dBin modF (dArg toIntF (aCons (dVar 2) aNil)) (dVar 3)) aNil))))
    (sRet (dTup (aCons (dBin divF (dVar 0) (dVar 2)) (aCons (dBin divF (dVar 1) (dVar 2)) aNil))))))
def fn__law_lowest : FnI := funI 4 2 d__law_lowest
def d_rise : DenS :=
    (sRet (dBin subF (dBin mulWF (dArg fn_power (aCons (dBin addF (dVar 0) (dC (.int 1))) (aCons (dVar 1) aNil))) (dArg fn_power (aCons (dVar 0) (aCons (dBin subF (dVar 0) (dVar 1)) aNil)))) (dArg fn_power (aCons (dVar 0) (aCons (dVar 0) aNil)))))
def fn_rise : FnI := funI 2 2 d_rise
def d_share : DenS :=
    (sSeq (sAsg (tgN 1) (dArg fn_power (aCons (dBin addF (dVar 0) (dC (.int 1))) (aCons (dVar 0) aNil))))
    (sRet (dTup (aCons (dBin subF (dVar 1) (dArg fn_power (aCons (dVar 0) (aCons (dVar 0) aNil)))) (aCons (dVar 1) aNil)))))
def fn_share : FnI := funI 2 1 d_share
def d__law_rise : DenS :=
    (sRet (dBin subF (dBin mulWF (dArg fn__law_times (aCons (dBin addF (dVar 0) (dC (.int 1))) (aCons (dVar 1) aNil))) (dArg fn__law_times (aCons (dVar 0) (aCons (dBin subF (dVar 0) (dVar 1)) aNil)))) (dArg fn__law_times (aCons (dVar 0) (aCons (dVar 0) aNil)))))
def fn__law_rise : FnI := funI 2 2 d__law_rise
def d__law_yard : DenS :=
    (sSeq (sAsg (Sh.tg (.t (.cons (.n 3) (.cons (.n 4) .nil)))) (dTup (aCons (dBin addF (dC (.int 1)) (dArg fn__law_pick (aCons (dVar 0) (aCons (dVar 1) aNil)))) (aCons (dArg fn__law_pick (aCons (dVar 0) (aCons (dC (.int 3)) aNil))) aNil))))
    (sSeq (sAsg (tgN 5) (dFl (fLc (wRng1 (aCons (dVar 3) aNil)) (Sh.tg (.n 6)) dYes (dBin addF (dC (.int 1)) (dArg fn__law_pick (aCons (dVar 0) (aCons (dBin ixF (dFl (fLst (aCons (dC (.int 1)) (aCons (dC (.int 4)) (aCons (dC (.int 1000)) aNil))))) (dVar 4)) aNil)))) [6])))
    (sRet (dTup (aCons (dBin addF (dC (.int 1)) (dArg fn__law_pick (aCons (dVar 0) (aCons (dVar 2) aNil)))) (aCons (dArg tupleF (aCons (dVar 5) aNil)) aNil))))))
def fn__law_yard : FnI := funI 7 3 d__law_yard
def d_pull : DenS :=
    (sSeq (sAsg (Sh.tg (.t (.cons (.n 3) (.cons (.n 4) .nil)))) (dVar 0))
    (sRet (dBin mulF (dBin ixF (dVar 4) (dVar 1)) (dBin subF (dArg fn_rise (aCons (dVar 3) (aCons (dVar 3) aNil))) (dArg fn_rise (aCons (dVar 3) (aCons (dVar 2) aNil)))))))
def fn_pull : FnI := funI 5 3 d_pull
def d_law : DenS :=
    (sSeq (sAsg (tgN 1) (dArg fn__law_source (aCons (dVar 0) aNil)))
    (sSeq (sFor (wRng1 (aCons (dC (.int 6)) aNil)) (Sh.tg (.n 2)) (sSeq (sAsg (tgN 3) (dIf (dTst (dBin ltF (dVar 2) (dC (.int 4)))) (dBin addF (dC (.int 1)) (dArg fn__law_pick (aCons (dVar 1) (aCons (dC (.int 12)) aNil)))) (dBin subF (dC (.int 30)) (dBin mulF (dArg fn__law_pick (aCons (dVar 1) (aCons (dC (.int 18)) aNil))) (dArg toIntF (aCons (dBin eqF (dVar 2) (dC (.int 5))) aNil))))))
    (sSeq (sAsg (Sh.tg (.t (.cons (.n 4) (.cons (.n 5) .nil)))) (dTup (aCons (dArg fn__law_times (aCons (dBin addF (dVar 3) (dC (.int 1))) (aCons (dVar 3) aNil))) (aCons (dArg fn__law_rise (aCons (dVar 3) (aCons (dVar 3) aNil))) aNil))))
    (sSeq (sAsg (tgN 7) (dFl (fLc (wRng1 (aCons (dBin addF (dVar 3) (dC (.int 1))) aNil)) (Sh.tg (.n 6)) dYes (dArg fn_rise (aCons (dVar 3) (aCons (dVar 6) aNil))) [6])))
    (sSeq (sIf (dOrT (dTst (dBin neF (dArg reprF (aCons (dVar 7) aNil)) (dArg reprF (aCons (dFl (fLc (wRng1 (aCons (dBin addF (dVar 3) (dC (.int 1))) aNil)) (Sh.tg (.n 6)) dYes (dArg fn__law_rise (aCons (dVar 3) (aCons (dVar 6) aNil))) [6])) aNil)))) (dOrT (dTst (dBin neF (dBin ixF (dVar 7) (dC (.int 0))) (dC (.int 0)))) (dTst (dBin neF (dBin ixF (dVar 7) (dUn negF (dC (.int 1)))) (dBin subF (dVar 4) (dArg fn__law_times (aCons (dVar 3) (aCons (dVar 3) aNil)))))))) (sRet (dC (.bl false))) sNx)
    (sSeq (sIf (dTst (dBin neF (dFl (fLc (wRng1 (aCons (dVar 3) aNil)) (Sh.tg (.n 6)) (dOrT (dNotT (dTst (dBin ltF (dBin ixF (dVar 7) (dVar 6)) (dBin ixF (dVar 7) (dBin addF (dVar 6) (dC (.int 1))))))) (dTst (dBin neF (dBin subF (dBin addF (dBin mulF (dVar 3) (dBin subF (dBin ixF (dVar 7) (dBin addF (dVar 6) (dC (.int 1)))) (dBin ixF (dVar 7) (dVar 6)))) (dVar 5)) (dBin ixF (dVar 7) (dVar 6))) (dVar 4)))) (dVar 6) [6])) (dFl (fLst aNil)))) (sRet (dC (.bl false))) sNx)
    (sSeq (sIf (dTst (dBin neF (dArg reprF (aCons (dArg fn_share (aCons (dVar 3) aNil)) aNil)) (dArg reprF (aCons (dArg fn__law_lowest (aCons (dVar 5) (aCons (dVar 4) aNil))) aNil)))) (sRet (dC (.bl false))) sNx)
    (sSeq (sAsg (tgN 8) (dArg fn__law_yard (aCons (dVar 1) (aCons (dC (.int 6)) (aCons (dIf (dTst (dBin ltF (dVar 2) (dC (.int 3)))) (dC (.int 12)) (dC (.int 30))) aNil)))))
    (sSeq (sAsg (tgN 8) (dIf (dTst (dBin eqF (dVar 2) (dC (.int 4)))) (dTup (aCons (dC (.int 30)) (aCons (dBin ixF (dVar 8) (dC (.int 1))) aNil))) (dVar 8)))
    (sSeq (sPar 9 6 (aCons (dArg fn__law_pick (aCons (dVar 1) (aCons (dArg lenF (aCons (dBin ixF (dVar 8) (dC (.int 1))) aNil)) aNil))) (aCons (dArg fn__law_pick (aCons (dVar 1) (aCons (dBin addF (dBin ixF (dVar 8) (dC (.int 0))) (dC (.int 1))) aNil))) aNil)))
    (sSeq (sAsg (tgN 10) (dBin mulF (dBin ixF (dBin ixF (dVar 8) (dC (.int 1))) (dVar 9)) (dBin subF (dArg fn__law_rise (aCons (dBin ixF (dVar 8) (dC (.int 0))) (aCons (dBin ixF (dVar 8) (dC (.int 0))) aNil))) (dArg fn__law_rise (aCons (dBin ixF (dVar 8) (dC (.int 0))) (aCons (dVar 6) aNil))))))
    (sIf (dOrT (dTst (dBin neF (dArg reprF (aCons (dArg fn_pull (aCons (dVar 8) (aCons (dVar 9) (aCons (dVar 6) aNil)))) aNil)) (dArg reprF (aCons (dVar 10) aNil)))) (dTst (dBin neF (dBin eqF (dVar 10) (dC (.int 0))) (dBin eqF (dVar 6) (dBin ixF (dVar 8) (dC (.int 0))))))) (sRet (dC (.bl false))) sNx))))))))))))
    (sRet (dBin eqF (dFl (fLc (wSeq (dTup (aCons (dC (.int 1)) (aCons (dC (.int 2)) (aCons (dC (.int 3)) (aCons (dC (.int 4)) aNil)))))) (Sh.tg (.n 3)) dYes (dArg fn_share (aCons (dVar 3) aNil)) [3])) (dFl (fLst (aCons (dTup (aCons (dC (.int 1)) (aCons (dC (.int 2)) aNil))) (aCons (dTup (aCons (dC (.int 5)) (aCons (dC (.int 9)) aNil))) (aCons (dTup (aCons (dC (.int 37)) (aCons (dC (.int 64)) aNil))) (aCons (dTup (aCons (dC (.int 369)) (aCons (dC (.int 625)) aNil))) aNil))))))))))
def fn_law : FnI := funI 11 1 d_law
end Vi_k31
end

section
namespace Vi_k31
open PySem PySem.Spec PyProof.Rows L2 VI
/-! ### the mathematics -/
def ri (c l : Nat) : Int := ((c : Int) + 1) ^ l * (c : Int) ^ (c - l) - (c : Int) ^ c
theorem pw_nn (c l : Nat) : 0 ≤ (c : Int) ^ l := Int.pow_nonneg (by omega)
theorem pw_nn1 (c l : Nat) : 0 ≤ ((c : Int) + 1) ^ l := Int.pow_nonneg (by omega)
theorem pw_abs (c l : Nat) (hc : c ≤ 100) (hl : l ≤ 100) : ((c : Int) ^ l).natAbs < 2 ^ 701 ∧ (((c : Int) + 1) ^ l).natAbs < 2 ^ 701 := by
  have key : ∀ b : Nat, b ≤ 128 → ((b : Int) ^ l).natAbs < 2 ^ 701 := fun b hb => by
    rw [Int.natAbs_pow, Int.natAbs_natCast]
    calc b ^ l ≤ 128 ^ l := Nat.pow_le_pow_left hb l
      _ ≤ 128 ^ 100 := Nat.pow_le_pow_right (by decide) hl
      _ < 2 ^ 701 := by decide +kernel
  exact ⟨key c (by omega), by have := key (c + 1) (by omega); rw [Int.natCast_add] at this; exact this⟩
theorem ri_0 (c : Nat) : ri c 0 = 0 := by
  unfold ri
  rw [Int.pow_zero, Int.one_mul, Nat.sub_zero, Int.sub_self]
theorem ri_c (c : Nat) : ri c c = ((c : Int) + 1) ^ c - (c : Int) ^ c := by
  unfold ri
  rw [Nat.sub_self, Int.pow_zero, Int.mul_one]
/-- one load more -/
theorem ri_step {c l : Nat} (hl : l < c) : ri c (l + 1) - ri c l = ((c : Int) + 1) ^ l * (c : Int) ^ (c - (l + 1)) := by
  unfold ri
  obtain ⟨m, hm⟩ : ∃ m, c - l = m + 1 := ⟨c - l - 1, by omega⟩
  rw [hm, show c - (l + 1) = m by omega, Int.pow_succ, Int.pow_succ]
  generalize ((c : Int) + 1) ^ l = x
  generalize (c : Int) ^ m = y
  generalize (c : Int) ^ c = w
  rw [Int.mul_assoc, Int.mul_comm ((c : Int) + 1) y, ← Int.mul_assoc, Int.mul_add, Int.mul_one, ← Int.mul_assoc x y]
  omega
theorem ri_pos {c l : Nat} (hl : l < c) : ri c l < ri c (l + 1) := by
  have e := ri_step hl
  have h1 : 0 < ((c : Int) + 1) ^ l := Int.pow_pos (by omega)
  have h2 : 0 < (c : Int) ^ (c - (l + 1)) := Int.pow_pos (by omega)
  have := Int.mul_pos h1 h2
  omega
theorem ri_whole {c l : Nat} (hl : l < c) : (c : Int) * (ri c (l + 1) - ri c l) + ri c c - ri c l = ((c : Int) + 1) ^ c := by
  rw [ri_step hl, ri_c]
  unfold ri
  obtain ⟨m, hm⟩ : ∃ m, c - l = m + 1 := ⟨c - l - 1, by omega⟩
  rw [hm, show c - (l + 1) = m by omega, Int.pow_succ]
  generalize ((c : Int) + 1) ^ l = x
  generalize (c : Int) ^ m = y
  generalize (c : Int) ^ c = w
  generalize ((c : Int) + 1) ^ c = z
  have e : (c : Int) * (x * y) = x * (y * c) := by rw [Int.mul_comm, Int.mul_assoc]
  rw [e]
  omega
theorem ri_lt {c l : Nat} (hl : l < c) : ri c l < ri c c := by
  have go : ∀ k, l + k + 1 ≤ c → ri c l < ri c (l + k + 1) := fun k => by
    induction k with
    | zero => exact fun h => ri_pos (by omega)
    | succ k ih => exact fun h => Int.lt_trans (ih (by omega)) (ri_pos (by omega))
  have := go (c - l - 1) (by omega)
  rw [show l + (c - l - 1) + 1 = c by omega] at this
  exact this
theorem ri_nn {c l : Nat} (hl : l ≤ c) : 0 ≤ ri c l := by
  by_cases h0 : l = 0
  · rw [h0, ri_0]; exact Int.le_refl _
  · have go : ∀ k, k ≤ c → 0 ≤ ri c k := fun k => by
      induction k with
      | zero => intro _; rw [ri_0]; exact Int.le_refl _
      | succ k ih => exact fun h => Int.le_trans (ih (by omega)) (Int.le_of_lt (ri_pos (by omega)))
    exact go l hl
theorem ri_le {c l : Nat} (hl : l ≤ c) (hc : c ≤ 30) : ri c l < 10 ^ 46 := by
  have h1 : ri c l ≤ ri c c := by
    by_cases e : l = c
    · rw [e]; exact Int.le_refl _
    · exact Int.le_of_lt (ri_lt (by omega))
  rw [ri_c] at h1
  have h2 := pw_nn c c
  have h3 : ((c : Int) + 1) ^ c ≤ 31 ^ 30 := by
    have e : ((c : Int) + 1) ^ c = (((c + 1) ^ c : Nat) : Int) := by rw [Int.natCast_pow]; rfl
    rw [e]
    have : (c + 1) ^ c ≤ 31 ^ 30 := Nat.le_trans (Nat.pow_le_pow_left (by omega : c + 1 ≤ 31) c) (Nat.pow_le_pow_right (by decide) hc)
    have e2 : ((31 ^ 30 : Nat) : Int) = 31 ^ 30 := by decide +kernel
    rw [← e2]
    exact Int.ofNat_le.mpr this
  have h4 : (31 : Int) ^ 30 < 10 ^ 46 := by decide +kernel
  omega
theorem f_power {b : Int} {n : Nat} {h : Mem} {Q : KV} (hb : -18446744073709551616 < b ∧ b < 18446744073709551616) (hn : n < 1000000) (q : Q (.int (b ^ n)) h) : (fn_power [.int b, .int (n : Nat)] h).wp Q := pow_wp hb hn q
theorem f_times {b : Int} {n : Nat} {h : Mem} {Q : KV} (hb : -18446744073709551616 < b ∧ b < 18446744073709551616) (hn : n < 1000000) (q : Q (.int (b ^ n)) h) : (fn__law_times [.int b, .int (n : Nat)] h).wp Q := pow_wp hb hn q
theorem f_rise {c l : Nat} {h : Mem} {Q : KV} (hc : c ≤ 100) (hl : l ≤ c) (q : Q (.int (ri c l)) h) : (fn_rise [.int (c : Nat), .int (l : Nat)] h).wp Q := by
  unfold fn_rise
  refine wFn rfl ?_
  unfold d_rise
  have e : (c : Int) - l = ((c - l : Nat) : Int) := by omega
  simp only [kLcC_eq, kLcE_eq, kLcT_t, kLcT_f, Int.zero_add, List.length_map, List.length_range, List.length_replicate, mulWF_w, divWF_w, shlF_w, shrF_w, bandF_ii, divmodF_w, dec_selfI, dec_selfS, wp_ok, wp_nox, kVar_eq, wVar, wC, kBin2_eq, kBin_eq, wBin, kUn_eq, wUn, kC2_eq, kC_eq, wCons, wNil, kArg_eq, wArg, kFArg_eq, wFArg, kFl_eq, wFlv, kAl_eq, wAl, wLst, kLst0, kLst1, kLst2, kLst3, kLst4, kLst5, kLst6, wTupv, kTup0, kTup1, kTup2, kTup3, kTup4, kTup5, kTup6, kTst_eq, wTst, kAnd_t, kAnd_f, wAnd, kOr_t, kOr_f, wOr, kNot_eq, wNot, wYes, kIfE_t, kIfE_f, wIfE, kAndV_t, kAndV_f, wAndV, kOrV_f, kOrV_t, wOrV, kNotV_eq, wNotV, kChn4_eq, kChn_t, kChn_f, kChn2_eq, kChn1_eq, wChn, kSeq_t, kSeq_l, kSeq_z, wSeqv, kEnum_t, kEnum_l, wEnumv, kZip_t, kZip_l, wZipv, kRng1_eq, wRng1v, kRng2_eq, wRng2v, kRgL1_eq, wRgL1, kRgL2_eq, kRgL2, wRgL2, onIO_l, onL_fl, onL_loc, onSeq_t, onSeq_fl, onSeq_fz, onSeq_loc, onLsq_fl, onLsq_fz, onLsq_loc, kRep_eq, kRep2_eq, wRep, woNone, kOSome_eq, woSome, kCut3_eq, kCut2_eq, kCut_eq, wCut, cutF_t, cutF_l, cutF_p, kRev_eq, wRev, lenF_t, lenF_l, lenF_z, lenF_p, tupleF_t, tupleF_l, tupleF_p, listF_t, listF_l, listF_z, listF_p, kOpt_eq, ixF_t, ixF_l, ixF_z, ixF_p, atI_0, atI_1, atI_2, atI_3, mulF_w, divF_w, modF_w, powF_w, addF_ii, addF_tt, addF_ll, addF_pl, subF_ii, ltF_ii, leF_ii, gtF_ii, geF_ii, eqF_ii, neF_ii, eqF_ss, neF_ss, negF_i, absF_i, maxF_ii, minF_ii, toIntF_i, toIntF_b, isN_n, isN_i, isN_t, notN_n, notN_i, notN_t, isN_g, notN_g, sumF_l, isi_i, isi_b, isi_t, isi_n, isi_s, kML0_eq, kML_l, kML_p, wML, appF_p, popF_p, kN_eq, putF_p, getF_p, wNx, wBk, wCt, kS_nx, kS_bk, kS_ct, kS_rt, wSeqS, kRet_eq, wRet, kExp_eq, wExp, kIf_t, kIf_f, wIf, kTg_eq, kAsg_eq, wAsg, tgN_eq, shN_eq, sh2_eq, sh3_eq, sh12_eq, sh21_eq, kAug2_eq, kAug1_eq, kAug_eq, wAug, addI_ii, kPut4_eq, kPut3_eq, kPut2_eq, kPut1_eq, wPut, kAL5_eq, kAL4_eq, kAL3_eq, kAL2_eq, kAL1_eq, wAugL, kPar_eq, wPar, kPar3_eq, wPar3, kFor_eq, wFor, kLoop_nx, kLoop_ct, kLoop_bk, kLoop_rt, kTgt_eq, kWh_t, kWh_f, kLc_eq, wLc, kIs_eq, kIsV_eq, kFn_nx, kFn_rt, g_at0, g_at1, g_at2, g_at3, g_at4, g_set0, g_set1, g_set2, g_set3, g_set4, m_at, m_set, m_atL, List.getElem?_cons_zero, List.getElem?_cons_succ, List.set_cons_zero, List.set_cons_succ, List.length_cons, List.length_nil, slots_cons, slots_nil, List.cons_append, List.nil_append, List.replicate_succ, List.replicate_zero, Nat.reduceAdd, Nat.reduceSub, Nat.reduceEqDiff, Nat.reduceLeDiff, Bool.false_eq_true, wipeI, mem_len, mem_app, Bool.not_true, Bool.not_false, List.length_append, Nat.add_assoc, List.append_assoc]
  refine f_power ⟨by omega, by omega⟩ (by omega) ?_
  simp only [kLcC_eq, kLcE_eq, kLcT_t, kLcT_f, Int.zero_add, List.length_map, List.length_range, List.length_replicate, mulWF_w, divWF_w, shlF_w, shrF_w, bandF_ii, divmodF_w, dec_selfI, dec_selfS, wp_ok, wp_nox, kVar_eq, wVar, wC, kBin2_eq, kBin_eq, wBin, kUn_eq, wUn, kC2_eq, kC_eq, wCons, wNil, kArg_eq, wArg, kFArg_eq, wFArg, kFl_eq, wFlv, kAl_eq, wAl, wLst, kLst0, kLst1, kLst2, kLst3, kLst4, kLst5, kLst6, wTupv, kTup0, kTup1, kTup2, kTup3, kTup4, kTup5, kTup6, kTst_eq, wTst, kAnd_t, kAnd_f, wAnd, kOr_t, kOr_f, wOr, kNot_eq, wNot, wYes, kIfE_t, kIfE_f, wIfE, kAndV_t, kAndV_f, wAndV, kOrV_f, kOrV_t, wOrV, kNotV_eq, wNotV, kChn4_eq, kChn_t, kChn_f, kChn2_eq, kChn1_eq, wChn, kSeq_t, kSeq_l, kSeq_z, wSeqv, kEnum_t, kEnum_l, wEnumv, kZip_t, kZip_l, wZipv, kRng1_eq, wRng1v, kRng2_eq, wRng2v, kRgL1_eq, wRgL1, kRgL2_eq, kRgL2, wRgL2, onIO_l, onL_fl, onL_loc, onSeq_t, onSeq_fl, onSeq_fz, onSeq_loc, onLsq_fl, onLsq_fz, onLsq_loc, kRep_eq, kRep2_eq, wRep, woNone, kOSome_eq, woSome, kCut3_eq, kCut2_eq, kCut_eq, wCut, cutF_t, cutF_l, cutF_p, kRev_eq, wRev, lenF_t, lenF_l, lenF_z, lenF_p, tupleF_t, tupleF_l, tupleF_p, listF_t, listF_l, listF_z, listF_p, kOpt_eq, ixF_t, ixF_l, ixF_z, ixF_p, atI_0, atI_1, atI_2, atI_3, mulF_w, divF_w, modF_w, powF_w, addF_ii, addF_tt, addF_ll, addF_pl, subF_ii, ltF_ii, leF_ii, gtF_ii, geF_ii, eqF_ii, neF_ii, eqF_ss, neF_ss, negF_i, absF_i, maxF_ii, minF_ii, toIntF_i, toIntF_b, isN_n, isN_i, isN_t, notN_n, notN_i, notN_t, isN_g, notN_g, sumF_l, isi_i, isi_b, isi_t, isi_n, isi_s, kML0_eq, kML_l, kML_p, wML, appF_p, popF_p, kN_eq, putF_p, getF_p, wNx, wBk, wCt, kS_nx, kS_bk, kS_ct, kS_rt, wSeqS, kRet_eq, wRet, kExp_eq, wExp, kIf_t, kIf_f, wIf, kTg_eq, kAsg_eq, wAsg, tgN_eq, shN_eq, sh2_eq, sh3_eq, sh12_eq, sh21_eq, kAug2_eq, kAug1_eq, kAug_eq, wAug, addI_ii, kPut4_eq, kPut3_eq, kPut2_eq, kPut1_eq, wPut, kAL5_eq, kAL4_eq, kAL3_eq, kAL2_eq, kAL1_eq, wAugL, kPar_eq, wPar, kPar3_eq, wPar3, kFor_eq, wFor, kLoop_nx, kLoop_ct, kLoop_bk, kLoop_rt, kTgt_eq, kWh_t, kWh_f, kLc_eq, wLc, kIs_eq, kIsV_eq, kFn_nx, kFn_rt, g_at0, g_at1, g_at2, g_at3, g_at4, g_set0, g_set1, g_set2, g_set3, g_set4, m_at, m_set, m_atL, List.getElem?_cons_zero, List.getElem?_cons_succ, List.set_cons_zero, List.set_cons_succ, List.length_cons, List.length_nil, slots_cons, slots_nil, List.cons_append, List.nil_append, List.replicate_succ, List.replicate_zero, Nat.reduceAdd, Nat.reduceSub, Nat.reduceEqDiff, Nat.reduceLeDiff, Bool.false_eq_true, wipeI, mem_len, mem_app, Bool.not_true, Bool.not_false, List.length_append, Nat.add_assoc, List.append_assoc, e]
  refine f_power ⟨by omega, by omega⟩ (by omega) ?_
  simp only [kLcC_eq, kLcE_eq, kLcT_t, kLcT_f, Int.zero_add, List.length_map, List.length_range, List.length_replicate, mulWF_w, divWF_w, shlF_w, shrF_w, bandF_ii, divmodF_w, dec_selfI, dec_selfS, wp_ok, wp_nox, kVar_eq, wVar, wC, kBin2_eq, kBin_eq, wBin, kUn_eq, wUn, kC2_eq, kC_eq, wCons, wNil, kArg_eq, wArg, kFArg_eq, wFArg, kFl_eq, wFlv, kAl_eq, wAl, wLst, kLst0, kLst1, kLst2, kLst3, kLst4, kLst5, kLst6, wTupv, kTup0, kTup1, kTup2, kTup3, kTup4, kTup5, kTup6, kTst_eq, wTst, kAnd_t, kAnd_f, wAnd, kOr_t, kOr_f, wOr, kNot_eq, wNot, wYes, kIfE_t, kIfE_f, wIfE, kAndV_t, kAndV_f, wAndV, kOrV_f, kOrV_t, wOrV, kNotV_eq, wNotV, kChn4_eq, kChn_t, kChn_f, kChn2_eq, kChn1_eq, wChn, kSeq_t, kSeq_l, kSeq_z, wSeqv, kEnum_t, kEnum_l, wEnumv, kZip_t, kZip_l, wZipv, kRng1_eq, wRng1v, kRng2_eq, wRng2v, kRgL1_eq, wRgL1, kRgL2_eq, kRgL2, wRgL2, onIO_l, onL_fl, onL_loc, onSeq_t, onSeq_fl, onSeq_fz, onSeq_loc, onLsq_fl, onLsq_fz, onLsq_loc, kRep_eq, kRep2_eq, wRep, woNone, kOSome_eq, woSome, kCut3_eq, kCut2_eq, kCut_eq, wCut, cutF_t, cutF_l, cutF_p, kRev_eq, wRev, lenF_t, lenF_l, lenF_z, lenF_p, tupleF_t, tupleF_l, tupleF_p, listF_t, listF_l, listF_z, listF_p, kOpt_eq, ixF_t, ixF_l, ixF_z, ixF_p, atI_0, atI_1, atI_2, atI_3, mulF_w, divF_w, modF_w, powF_w, addF_ii, addF_tt, addF_ll, addF_pl, subF_ii, ltF_ii, leF_ii, gtF_ii, geF_ii, eqF_ii, neF_ii, eqF_ss, neF_ss, negF_i, absF_i, maxF_ii, minF_ii, toIntF_i, toIntF_b, isN_n, isN_i, isN_t, notN_n, notN_i, notN_t, isN_g, notN_g, sumF_l, isi_i, isi_b, isi_t, isi_n, isi_s, kML0_eq, kML_l, kML_p, wML, appF_p, popF_p, kN_eq, putF_p, getF_p, wNx, wBk, wCt, kS_nx, kS_bk, kS_ct, kS_rt, wSeqS, kRet_eq, wRet, kExp_eq, wExp, kIf_t, kIf_f, wIf, kTg_eq, kAsg_eq, wAsg, tgN_eq, shN_eq, sh2_eq, sh3_eq, sh12_eq, sh21_eq, kAug2_eq, kAug1_eq, kAug_eq, wAug, addI_ii, kPut4_eq, kPut3_eq, kPut2_eq, kPut1_eq, wPut, kAL5_eq, kAL4_eq, kAL3_eq, kAL2_eq, kAL1_eq, wAugL, kPar_eq, wPar, kPar3_eq, wPar3, kFor_eq, wFor, kLoop_nx, kLoop_ct, kLoop_bk, kLoop_rt, kTgt_eq, kWh_t, kWh_f, kLc_eq, wLc, kIs_eq, kIsV_eq, kFn_nx, kFn_rt, g_at0, g_at1, g_at2, g_at3, g_at4, g_set0, g_set1, g_set2, g_set3, g_set4, m_at, m_set, m_atL, List.getElem?_cons_zero, List.getElem?_cons_succ, List.set_cons_zero, List.set_cons_succ, List.length_cons, List.length_nil, slots_cons, slots_nil, List.cons_append, List.nil_append, List.replicate_succ, List.replicate_zero, Nat.reduceAdd, Nat.reduceSub, Nat.reduceEqDiff, Nat.reduceLeDiff, Bool.false_eq_true, wipeI, mem_len, mem_app, Bool.not_true, Bool.not_false, List.length_append, Nat.add_assoc, List.append_assoc]
  refine ⟨wide_mul (pw_abs c l hc (by omega)).2 (pw_abs c (c - l) hc (by omega)).1 (by decide) (by decide) (by decide), ?_⟩
  refine f_power ⟨by omega, by omega⟩ (by omega) ?_
  simp only [kLcC_eq, kLcE_eq, kLcT_t, kLcT_f, Int.zero_add, List.length_map, List.length_range, List.length_replicate, mulWF_w, divWF_w, shlF_w, shrF_w, bandF_ii, divmodF_w, dec_selfI, dec_selfS, wp_ok, wp_nox, kVar_eq, wVar, wC, kBin2_eq, kBin_eq, wBin, kUn_eq, wUn, kC2_eq, kC_eq, wCons, wNil, kArg_eq, wArg, kFArg_eq, wFArg, kFl_eq, wFlv, kAl_eq, wAl, wLst, kLst0, kLst1, kLst2, kLst3, kLst4, kLst5, kLst6, wTupv, kTup0, kTup1, kTup2, kTup3, kTup4, kTup5, kTup6, kTst_eq, wTst, kAnd_t, kAnd_f, wAnd, kOr_t, kOr_f, wOr, kNot_eq, wNot, wYes, kIfE_t, kIfE_f, wIfE, kAndV_t, kAndV_f, wAndV, kOrV_f, kOrV_t, wOrV, kNotV_eq, wNotV, kChn4_eq, kChn_t, kChn_f, kChn2_eq, kChn1_eq, wChn, kSeq_t, kSeq_l, kSeq_z, wSeqv, kEnum_t, kEnum_l, wEnumv, kZip_t, kZip_l, wZipv, kRng1_eq, wRng1v, kRng2_eq, wRng2v, kRgL1_eq, wRgL1, kRgL2_eq, kRgL2, wRgL2, onIO_l, onL_fl, onL_loc, onSeq_t, onSeq_fl, onSeq_fz, onSeq_loc, onLsq_fl, onLsq_fz, onLsq_loc, kRep_eq, kRep2_eq, wRep, woNone, kOSome_eq, woSome, kCut3_eq, kCut2_eq, kCut_eq, wCut, cutF_t, cutF_l, cutF_p, kRev_eq, wRev, lenF_t, lenF_l, lenF_z, lenF_p, tupleF_t, tupleF_l, tupleF_p, listF_t, listF_l, listF_z, listF_p, kOpt_eq, ixF_t, ixF_l, ixF_z, ixF_p, atI_0, atI_1, atI_2, atI_3, mulF_w, divF_w, modF_w, powF_w, addF_ii, addF_tt, addF_ll, addF_pl, subF_ii, ltF_ii, leF_ii, gtF_ii, geF_ii, eqF_ii, neF_ii, eqF_ss, neF_ss, negF_i, absF_i, maxF_ii, minF_ii, toIntF_i, toIntF_b, isN_n, isN_i, isN_t, notN_n, notN_i, notN_t, isN_g, notN_g, sumF_l, isi_i, isi_b, isi_t, isi_n, isi_s, kML0_eq, kML_l, kML_p, wML, appF_p, popF_p, kN_eq, putF_p, getF_p, wNx, wBk, wCt, kS_nx, kS_bk, kS_ct, kS_rt, wSeqS, kRet_eq, wRet, kExp_eq, wExp, kIf_t, kIf_f, wIf, kTg_eq, kAsg_eq, wAsg, tgN_eq, shN_eq, sh2_eq, sh3_eq, sh12_eq, sh21_eq, kAug2_eq, kAug1_eq, kAug_eq, wAug, addI_ii, kPut4_eq, kPut3_eq, kPut2_eq, kPut1_eq, wPut, kAL5_eq, kAL4_eq, kAL3_eq, kAL2_eq, kAL1_eq, wAugL, kPar_eq, wPar, kPar3_eq, wPar3, kFor_eq, wFor, kLoop_nx, kLoop_ct, kLoop_bk, kLoop_rt, kTgt_eq, kWh_t, kWh_f, kLc_eq, wLc, kIs_eq, kIsV_eq, kFn_nx, kFn_rt, g_at0, g_at1, g_at2, g_at3, g_at4, g_set0, g_set1, g_set2, g_set3, g_set4, m_at, m_set, m_atL, List.getElem?_cons_zero, List.getElem?_cons_succ, List.set_cons_zero, List.set_cons_succ, List.length_cons, List.length_nil, slots_cons, slots_nil, List.cons_append, List.nil_append, List.replicate_succ, List.replicate_zero, Nat.reduceAdd, Nat.reduceSub, Nat.reduceEqDiff, Nat.reduceLeDiff, Bool.false_eq_true, wipeI, mem_len, mem_app, Bool.not_true, Bool.not_false, List.length_append, Nat.add_assoc, List.append_assoc]
  exact q
theorem f_lawRise {c l : Nat} {h : Mem} {Q : KV} (hc : c ≤ 100) (hl : l ≤ c) (q : Q (.int (ri c l)) h) : (fn__law_rise [.int (c : Nat), .int (l : Nat)] h).wp Q := by
  unfold fn__law_rise
  refine wFn rfl ?_
  unfold d__law_rise
  have e : (c : Int) - l = ((c - l : Nat) : Int) := by omega
  simp only [kLcC_eq, kLcE_eq, kLcT_t, kLcT_f, Int.zero_add, List.length_map, List.length_range, List.length_replicate, mulWF_w, divWF_w, shlF_w, shrF_w, bandF_ii, divmodF_w, dec_selfI, dec_selfS, wp_ok, wp_nox, kVar_eq, wVar, wC, kBin2_eq, kBin_eq, wBin, kUn_eq, wUn, kC2_eq, kC_eq, wCons, wNil, kArg_eq, wArg, kFArg_eq, wFArg, kFl_eq, wFlv, kAl_eq, wAl, wLst, kLst0, kLst1, kLst2, kLst3, kLst4, kLst5, kLst6, wTupv, kTup0, kTup1, kTup2, kTup3, kTup4, kTup5, kTup6, kTst_eq, wTst, kAnd_t, kAnd_f, wAnd, kOr_t, kOr_f, wOr, kNot_eq, wNot, wYes, kIfE_t, kIfE_f, wIfE, kAndV_t, kAndV_f, wAndV, kOrV_f, kOrV_t, wOrV, kNotV_eq, wNotV, kChn4_eq, kChn_t, kChn_f, kChn2_eq, kChn1_eq, wChn, kSeq_t, kSeq_l, kSeq_z, wSeqv, kEnum_t, kEnum_l, wEnumv, kZip_t, kZip_l, wZipv, kRng1_eq, wRng1v, kRng2_eq, wRng2v, kRgL1_eq, wRgL1, kRgL2_eq, kRgL2, wRgL2, onIO_l, onL_fl, onL_loc, onSeq_t, onSeq_fl, onSeq_fz, onSeq_loc, onLsq_fl, onLsq_fz, onLsq_loc, kRep_eq, kRep2_eq, wRep, woNone, kOSome_eq, woSome, kCut3_eq, kCut2_eq, kCut_eq, wCut, cutF_t, cutF_l, cutF_p, kRev_eq, wRev, lenF_t, lenF_l, lenF_z, lenF_p, tupleF_t, tupleF_l, tupleF_p, listF_t, listF_l, listF_z, listF_p, kOpt_eq, ixF_t, ixF_l, ixF_z, ixF_p, atI_0, atI_1, atI_2, atI_3, mulF_w, divF_w, modF_w, powF_w, addF_ii, addF_tt, addF_ll, addF_pl, subF_ii, ltF_ii, leF_ii, gtF_ii, geF_ii, eqF_ii, neF_ii, eqF_ss, neF_ss, negF_i, absF_i, maxF_ii, minF_ii, toIntF_i, toIntF_b, isN_n, isN_i, isN_t, notN_n, notN_i, notN_t, isN_g, notN_g, sumF_l, isi_i, isi_b, isi_t, isi_n, isi_s, kML0_eq, kML_l, kML_p, wML, appF_p, popF_p, kN_eq, putF_p, getF_p, wNx, wBk, wCt, kS_nx, kS_bk, kS_ct, kS_rt, wSeqS, kRet_eq, wRet, kExp_eq, wExp, kIf_t, kIf_f, wIf, kTg_eq, kAsg_eq, wAsg, tgN_eq, shN_eq, sh2_eq, sh3_eq, sh12_eq, sh21_eq, kAug2_eq, kAug1_eq, kAug_eq, wAug, addI_ii, kPut4_eq, kPut3_eq, kPut2_eq, kPut1_eq, wPut, kAL5_eq, kAL4_eq, kAL3_eq, kAL2_eq, kAL1_eq, wAugL, kPar_eq, wPar, kPar3_eq, wPar3, kFor_eq, wFor, kLoop_nx, kLoop_ct, kLoop_bk, kLoop_rt, kTgt_eq, kWh_t, kWh_f, kLc_eq, wLc, kIs_eq, kIsV_eq, kFn_nx, kFn_rt, g_at0, g_at1, g_at2, g_at3, g_at4, g_set0, g_set1, g_set2, g_set3, g_set4, m_at, m_set, m_atL, List.getElem?_cons_zero, List.getElem?_cons_succ, List.set_cons_zero, List.set_cons_succ, List.length_cons, List.length_nil, slots_cons, slots_nil, List.cons_append, List.nil_append, List.replicate_succ, List.replicate_zero, Nat.reduceAdd, Nat.reduceSub, Nat.reduceEqDiff, Nat.reduceLeDiff, Bool.false_eq_true, wipeI, mem_len, mem_app, Bool.not_true, Bool.not_false, List.length_append, Nat.add_assoc, List.append_assoc]
  refine f_times ⟨by omega, by omega⟩ (by omega) ?_
  simp only [kLcC_eq, kLcE_eq, kLcT_t, kLcT_f, Int.zero_add, List.length_map, List.length_range, List.length_replicate, mulWF_w, divWF_w, shlF_w, shrF_w, bandF_ii, divmodF_w, dec_selfI, dec_selfS, wp_ok, wp_nox, kVar_eq, wVar, wC, kBin2_eq, kBin_eq, wBin, kUn_eq, wUn, kC2_eq, kC_eq, wCons, wNil, kArg_eq, wArg, kFArg_eq, wFArg, kFl_eq, wFlv, kAl_eq, wAl, wLst, kLst0, kLst1, kLst2, kLst3, kLst4, kLst5, kLst6, wTupv, kTup0, kTup1, kTup2, kTup3, kTup4, kTup5, kTup6, kTst_eq, wTst, kAnd_t, kAnd_f, wAnd, kOr_t, kOr_f, wOr, kNot_eq, wNot, wYes, kIfE_t, kIfE_f, wIfE, kAndV_t, kAndV_f, wAndV, kOrV_f, kOrV_t, wOrV, kNotV_eq, wNotV, kChn4_eq, kChn_t, kChn_f, kChn2_eq, kChn1_eq, wChn, kSeq_t, kSeq_l, kSeq_z, wSeqv, kEnum_t, kEnum_l, wEnumv, kZip_t, kZip_l, wZipv, kRng1_eq, wRng1v, kRng2_eq, wRng2v, kRgL1_eq, wRgL1, kRgL2_eq, kRgL2, wRgL2, onIO_l, onL_fl, onL_loc, onSeq_t, onSeq_fl, onSeq_fz, onSeq_loc, onLsq_fl, onLsq_fz, onLsq_loc, kRep_eq, kRep2_eq, wRep, woNone, kOSome_eq, woSome, kCut3_eq, kCut2_eq, kCut_eq, wCut, cutF_t, cutF_l, cutF_p, kRev_eq, wRev, lenF_t, lenF_l, lenF_z, lenF_p, tupleF_t, tupleF_l, tupleF_p, listF_t, listF_l, listF_z, listF_p, kOpt_eq, ixF_t, ixF_l, ixF_z, ixF_p, atI_0, atI_1, atI_2, atI_3, mulF_w, divF_w, modF_w, powF_w, addF_ii, addF_tt, addF_ll, addF_pl, subF_ii, ltF_ii, leF_ii, gtF_ii, geF_ii, eqF_ii, neF_ii, eqF_ss, neF_ss, negF_i, absF_i, maxF_ii, minF_ii, toIntF_i, toIntF_b, isN_n, isN_i, isN_t, notN_n, notN_i, notN_t, isN_g, notN_g, sumF_l, isi_i, isi_b, isi_t, isi_n, isi_s, kML0_eq, kML_l, kML_p, wML, appF_p, popF_p, kN_eq, putF_p, getF_p, wNx, wBk, wCt, kS_nx, kS_bk, kS_ct, kS_rt, wSeqS, kRet_eq, wRet, kExp_eq, wExp, kIf_t, kIf_f, wIf, kTg_eq, kAsg_eq, wAsg, tgN_eq, shN_eq, sh2_eq, sh3_eq, sh12_eq, sh21_eq, kAug2_eq, kAug1_eq, kAug_eq, wAug, addI_ii, kPut4_eq, kPut3_eq, kPut2_eq, kPut1_eq, wPut, kAL5_eq, kAL4_eq, kAL3_eq, kAL2_eq, kAL1_eq, wAugL, kPar_eq, wPar, kPar3_eq, wPar3, kFor_eq, wFor, kLoop_nx, kLoop_ct, kLoop_bk, kLoop_rt, kTgt_eq, kWh_t, kWh_f, kLc_eq, wLc, kIs_eq, kIsV_eq, kFn_nx, kFn_rt, g_at0, g_at1, g_at2, g_at3, g_at4, g_set0, g_set1, g_set2, g_set3, g_set4, m_at, m_set, m_atL, List.getElem?_cons_zero, List.getElem?_cons_succ, List.set_cons_zero, List.set_cons_succ, List.length_cons, List.length_nil, slots_cons, slots_nil, List.cons_append, List.nil_append, List.replicate_succ, List.replicate_zero, Nat.reduceAdd, Nat.reduceSub, Nat.reduceEqDiff, Nat.reduceLeDiff, Bool.false_eq_true, wipeI, mem_len, mem_app, Bool.not_true, Bool.not_false, List.length_append, Nat.add_assoc, List.append_assoc, e]
  refine f_times ⟨by omega, by omega⟩ (by omega) ?_
  simp only [kLcC_eq, kLcE_eq, kLcT_t, kLcT_f, Int.zero_add, List.length_map, List.length_range, List.length_replicate, mulWF_w, divWF_w, shlF_w, shrF_w, bandF_ii, divmodF_w, dec_selfI, dec_selfS, wp_ok, wp_nox, kVar_eq, wVar, wC, kBin2_eq, kBin_eq, wBin, kUn_eq, wUn, kC2_eq, kC_eq, wCons, wNil, kArg_eq, wArg, kFArg_eq, wFArg, kFl_eq, wFlv, kAl_eq, wAl, wLst, kLst0, kLst1, kLst2, kLst3, kLst4, kLst5, kLst6, wTupv, kTup0, kTup1, kTup2, kTup3, kTup4, kTup5, kTup6, kTst_eq, wTst, kAnd_t, kAnd_f, wAnd, kOr_t, kOr_f, wOr, kNot_eq, wNot, wYes, kIfE_t, kIfE_f, wIfE, kAndV_t, kAndV_f, wAndV, kOrV_f, kOrV_t, wOrV, kNotV_eq, wNotV, kChn4_eq, kChn_t, kChn_f, kChn2_eq, kChn1_eq, wChn, kSeq_t, kSeq_l, kSeq_z, wSeqv, kEnum_t, kEnum_l, wEnumv, kZip_t, kZip_l, wZipv, kRng1_eq, wRng1v, kRng2_eq, wRng2v, kRgL1_eq, wRgL1, kRgL2_eq, kRgL2, wRgL2, onIO_l, onL_fl, onL_loc, onSeq_t, onSeq_fl, onSeq_fz, onSeq_loc, onLsq_fl, onLsq_fz, onLsq_loc, kRep_eq, kRep2_eq, wRep, woNone, kOSome_eq, woSome, kCut3_eq, kCut2_eq, kCut_eq, wCut, cutF_t, cutF_l, cutF_p, kRev_eq, wRev, lenF_t, lenF_l, lenF_z, lenF_p, tupleF_t, tupleF_l, tupleF_p, listF_t, listF_l, listF_z, listF_p, kOpt_eq, ixF_t, ixF_l, ixF_z, ixF_p, atI_0, atI_1, atI_2, atI_3, mulF_w, divF_w, modF_w, powF_w, addF_ii, addF_tt, addF_ll, addF_pl, subF_ii, ltF_ii, leF_ii, gtF_ii, geF_ii, eqF_ii, neF_ii, eqF_ss, neF_ss, negF_i, absF_i, maxF_ii, minF_ii, toIntF_i, toIntF_b, isN_n, isN_i, isN_t, notN_n, notN_i, notN_t, isN_g, notN_g, sumF_l, isi_i, isi_b, isi_t, isi_n, isi_s, kML0_eq, kML_l, kML_p, wML, appF_p, popF_p, kN_eq, putF_p, getF_p, wNx, wBk, wCt, kS_nx, kS_bk, kS_ct, kS_rt, wSeqS, kRet_eq, wRet, kExp_eq, wExp, kIf_t, kIf_f, wIf, kTg_eq, kAsg_eq, wAsg, tgN_eq, shN_eq, sh2_eq, sh3_eq, sh12_eq, sh21_eq, kAug2_eq, kAug1_eq, kAug_eq, wAug, addI_ii, kPut4_eq, kPut3_eq, kPut2_eq, kPut1_eq, wPut, kAL5_eq, kAL4_eq, kAL3_eq, kAL2_eq, kAL1_eq, wAugL, kPar_eq, wPar, kPar3_eq, wPar3, kFor_eq, wFor, kLoop_nx, kLoop_ct, kLoop_bk, kLoop_rt, kTgt_eq, kWh_t, kWh_f, kLc_eq, wLc, kIs_eq, kIsV_eq, kFn_nx, kFn_rt, g_at0, g_at1, g_at2, g_at3, g_at4, g_set0, g_set1, g_set2, g_set3, g_set4, m_at, m_set, m_atL, List.getElem?_cons_zero, List.getElem?_cons_succ, List.set_cons_zero, List.set_cons_succ, List.length_cons, List.length_nil, slots_cons, slots_nil, List.cons_append, List.nil_append, List.replicate_succ, List.replicate_zero, Nat.reduceAdd, Nat.reduceSub, Nat.reduceEqDiff, Nat.reduceLeDiff, Bool.false_eq_true, wipeI, mem_len, mem_app, Bool.not_true, Bool.not_false, List.length_append, Nat.add_assoc, List.append_assoc]
  refine ⟨wide_mul (pw_abs c l hc (by omega)).2 (pw_abs c (c - l) hc (by omega)).1 (by decide) (by decide) (by decide), ?_⟩
  refine f_times ⟨by omega, by omega⟩ (by omega) ?_
  simp only [kLcC_eq, kLcE_eq, kLcT_t, kLcT_f, Int.zero_add, List.length_map, List.length_range, List.length_replicate, mulWF_w, divWF_w, shlF_w, shrF_w, bandF_ii, divmodF_w, dec_selfI, dec_selfS, wp_ok, wp_nox, kVar_eq, wVar, wC, kBin2_eq, kBin_eq, wBin, kUn_eq, wUn, kC2_eq, kC_eq, wCons, wNil, kArg_eq, wArg, kFArg_eq, wFArg, kFl_eq, wFlv, kAl_eq, wAl, wLst, kLst0, kLst1, kLst2, kLst3, kLst4, kLst5, kLst6, wTupv, kTup0, kTup1, kTup2, kTup3, kTup4, kTup5, kTup6, kTst_eq, wTst, kAnd_t, kAnd_f, wAnd, kOr_t, kOr_f, wOr, kNot_eq, wNot, wYes, kIfE_t, kIfE_f, wIfE, kAndV_t, kAndV_f, wAndV, kOrV_f, kOrV_t, wOrV, kNotV_eq, wNotV, kChn4_eq, kChn_t, kChn_f, kChn2_eq, kChn1_eq, wChn, kSeq_t, kSeq_l, kSeq_z, wSeqv, kEnum_t, kEnum_l, wEnumv, kZip_t, kZip_l, wZipv, kRng1_eq, wRng1v, kRng2_eq, wRng2v, kRgL1_eq, wRgL1, kRgL2_eq, kRgL2, wRgL2, onIO_l, onL_fl, onL_loc, onSeq_t, onSeq_fl, onSeq_fz, onSeq_loc, onLsq_fl, onLsq_fz, onLsq_loc, kRep_eq, kRep2_eq, wRep, woNone, kOSome_eq, woSome, kCut3_eq, kCut2_eq, kCut_eq, wCut, cutF_t, cutF_l, cutF_p, kRev_eq, wRev, lenF_t, lenF_l, lenF_z, lenF_p, tupleF_t, tupleF_l, tupleF_p, listF_t, listF_l, listF_z, listF_p, kOpt_eq, ixF_t, ixF_l, ixF_z, ixF_p, atI_0, atI_1, atI_2, atI_3, mulF_w, divF_w, modF_w, powF_w, addF_ii, addF_tt, addF_ll, addF_pl, subF_ii, ltF_ii, leF_ii, gtF_ii, geF_ii, eqF_ii, neF_ii, eqF_ss, neF_ss, negF_i, absF_i, maxF_ii, minF_ii, toIntF_i, toIntF_b, isN_n, isN_i, isN_t, notN_n, notN_i, notN_t, isN_g, notN_g, sumF_l, isi_i, isi_b, isi_t, isi_n, isi_s, kML0_eq, kML_l, kML_p, wML, appF_p, popF_p, kN_eq, putF_p, getF_p, wNx, wBk, wCt, kS_nx, kS_bk, kS_ct, kS_rt, wSeqS, kRet_eq, wRet, kExp_eq, wExp, kIf_t, kIf_f, wIf, kTg_eq, kAsg_eq, wAsg, tgN_eq, shN_eq, sh2_eq, sh3_eq, sh12_eq, sh21_eq, kAug2_eq, kAug1_eq, kAug_eq, wAug, addI_ii, kPut4_eq, kPut3_eq, kPut2_eq, kPut1_eq, wPut, kAL5_eq, kAL4_eq, kAL3_eq, kAL2_eq, kAL1_eq, wAugL, kPar_eq, wPar, kPar3_eq, wPar3, kFor_eq, wFor, kLoop_nx, kLoop_ct, kLoop_bk, kLoop_rt, kTgt_eq, kWh_t, kWh_f, kLc_eq, wLc, kIs_eq, kIsV_eq, kFn_nx, kFn_rt, g_at0, g_at1, g_at2, g_at3, g_at4, g_set0, g_set1, g_set2, g_set3, g_set4, m_at, m_set, m_atL, List.getElem?_cons_zero, List.getElem?_cons_succ, List.set_cons_zero, List.set_cons_succ, List.length_cons, List.length_nil, slots_cons, slots_nil, List.cons_append, List.nil_append, List.replicate_succ, List.replicate_zero, Nat.reduceAdd, Nat.reduceSub, Nat.reduceEqDiff, Nat.reduceLeDiff, Bool.false_eq_true, wipeI, mem_len, mem_app, Bool.not_true, Bool.not_false, List.length_append, Nat.add_assoc, List.append_assoc]
  exact q
theorem f_share {c : Nat} {h : Mem} {Q : KV} (hc : c ≤ 100) (q : Q (.tup [.int (ri c c), .int (((c : Int) + 1) ^ c)]) h) : (fn_share [.int (c : Nat)] h).wp Q := by
  unfold fn_share
  refine wFn rfl ?_
  unfold d_share
  simp only [kLcC_eq, kLcE_eq, kLcT_t, kLcT_f, Int.zero_add, List.length_map, List.length_range, List.length_replicate, mulWF_w, divWF_w, shlF_w, shrF_w, bandF_ii, divmodF_w, dec_selfI, dec_selfS, wp_ok, wp_nox, kVar_eq, wVar, wC, kBin2_eq, kBin_eq, wBin, kUn_eq, wUn, kC2_eq, kC_eq, wCons, wNil, kArg_eq, wArg, kFArg_eq, wFArg, kFl_eq, wFlv, kAl_eq, wAl, wLst, kLst0, kLst1, kLst2, kLst3, kLst4, kLst5, kLst6, wTupv, kTup0, kTup1, kTup2, kTup3, kTup4, kTup5, kTup6, kTst_eq, wTst, kAnd_t, kAnd_f, wAnd, kOr_t, kOr_f, wOr, kNot_eq, wNot, wYes, kIfE_t, kIfE_f, wIfE, kAndV_t, kAndV_f, wAndV, kOrV_f, kOrV_t, wOrV, kNotV_eq, wNotV, kChn4_eq, kChn_t, kChn_f, kChn2_eq, kChn1_eq, wChn, kSeq_t, kSeq_l, kSeq_z, wSeqv, kEnum_t, kEnum_l, wEnumv, kZip_t, kZip_l, wZipv, kRng1_eq, wRng1v, kRng2_eq, wRng2v, kRgL1_eq, wRgL1, kRgL2_eq, kRgL2, wRgL2, onIO_l, onL_fl, onL_loc, onSeq_t, onSeq_fl, onSeq_fz, onSeq_loc, onLsq_fl, onLsq_fz, onLsq_loc, kRep_eq, kRep2_eq, wRep, woNone, kOSome_eq, woSome, kCut3_eq, kCut2_eq, kCut_eq, wCut, cutF_t, cutF_l, cutF_p, kRev_eq, wRev, lenF_t, lenF_l, lenF_z, lenF_p, tupleF_t, tupleF_l, tupleF_p, listF_t, listF_l, listF_z, listF_p, kOpt_eq, ixF_t, ixF_l, ixF_z, ixF_p, atI_0, atI_1, atI_2, atI_3, mulF_w, divF_w, modF_w, powF_w, addF_ii, addF_tt, addF_ll, addF_pl, subF_ii, ltF_ii, leF_ii, gtF_ii, geF_ii, eqF_ii, neF_ii, eqF_ss, neF_ss, negF_i, absF_i, maxF_ii, minF_ii, toIntF_i, toIntF_b, isN_n, isN_i, isN_t, notN_n, notN_i, notN_t, isN_g, notN_g, sumF_l, isi_i, isi_b, isi_t, isi_n, isi_s, kML0_eq, kML_l, kML_p, wML, appF_p, popF_p, kN_eq, putF_p, getF_p, wNx, wBk, wCt, kS_nx, kS_bk, kS_ct, kS_rt, wSeqS, kRet_eq, wRet, kExp_eq, wExp, kIf_t, kIf_f, wIf, kTg_eq, kAsg_eq, wAsg, tgN_eq, shN_eq, sh2_eq, sh3_eq, sh12_eq, sh21_eq, kAug2_eq, kAug1_eq, kAug_eq, wAug, addI_ii, kPut4_eq, kPut3_eq, kPut2_eq, kPut1_eq, wPut, kAL5_eq, kAL4_eq, kAL3_eq, kAL2_eq, kAL1_eq, wAugL, kPar_eq, wPar, kPar3_eq, wPar3, kFor_eq, wFor, kLoop_nx, kLoop_ct, kLoop_bk, kLoop_rt, kTgt_eq, kWh_t, kWh_f, kLc_eq, wLc, kIs_eq, kIsV_eq, kFn_nx, kFn_rt, g_at0, g_at1, g_at2, g_at3, g_at4, g_set0, g_set1, g_set2, g_set3, g_set4, m_at, m_set, m_atL, List.getElem?_cons_zero, List.getElem?_cons_succ, List.set_cons_zero, List.set_cons_succ, List.length_cons, List.length_nil, slots_cons, slots_nil, List.cons_append, List.nil_append, List.replicate_succ, List.replicate_zero, Nat.reduceAdd, Nat.reduceSub, Nat.reduceEqDiff, Nat.reduceLeDiff, Bool.false_eq_true, wipeI, mem_len, mem_app, Bool.not_true, Bool.not_false, List.length_append, Nat.add_assoc, List.append_assoc]
  refine f_power ⟨by omega, by omega⟩ (by omega) ?_
  simp only [kLcC_eq, kLcE_eq, kLcT_t, kLcT_f, Int.zero_add, List.length_map, List.length_range, List.length_replicate, mulWF_w, divWF_w, shlF_w, shrF_w, bandF_ii, divmodF_w, dec_selfI, dec_selfS, wp_ok, wp_nox, kVar_eq, wVar, wC, kBin2_eq, kBin_eq, wBin, kUn_eq, wUn, kC2_eq, kC_eq, wCons, wNil, kArg_eq, wArg, kFArg_eq, wFArg, kFl_eq, wFlv, kAl_eq, wAl, wLst, kLst0, kLst1, kLst2, kLst3, kLst4, kLst5, kLst6, wTupv, kTup0, kTup1, kTup2, kTup3, kTup4, kTup5, kTup6, kTst_eq, wTst, kAnd_t, kAnd_f, wAnd, kOr_t, kOr_f, wOr, kNot_eq, wNot, wYes, kIfE_t, kIfE_f, wIfE, kAndV_t, kAndV_f, wAndV, kOrV_f, kOrV_t, wOrV, kNotV_eq, wNotV, kChn4_eq, kChn_t, kChn_f, kChn2_eq, kChn1_eq, wChn, kSeq_t, kSeq_l, kSeq_z, wSeqv, kEnum_t, kEnum_l, wEnumv, kZip_t, kZip_l, wZipv, kRng1_eq, wRng1v, kRng2_eq, wRng2v, kRgL1_eq, wRgL1, kRgL2_eq, kRgL2, wRgL2, onIO_l, onL_fl, onL_loc, onSeq_t, onSeq_fl, onSeq_fz, onSeq_loc, onLsq_fl, onLsq_fz, onLsq_loc, kRep_eq, kRep2_eq, wRep, woNone, kOSome_eq, woSome, kCut3_eq, kCut2_eq, kCut_eq, wCut, cutF_t, cutF_l, cutF_p, kRev_eq, wRev, lenF_t, lenF_l, lenF_z, lenF_p, tupleF_t, tupleF_l, tupleF_p, listF_t, listF_l, listF_z, listF_p, kOpt_eq, ixF_t, ixF_l, ixF_z, ixF_p, atI_0, atI_1, atI_2, atI_3, mulF_w, divF_w, modF_w, powF_w, addF_ii, addF_tt, addF_ll, addF_pl, subF_ii, ltF_ii, leF_ii, gtF_ii, geF_ii, eqF_ii, neF_ii, eqF_ss, neF_ss, negF_i, absF_i, maxF_ii, minF_ii, toIntF_i, toIntF_b, isN_n, isN_i, isN_t, notN_n, notN_i, notN_t, isN_g, notN_g, sumF_l, isi_i, isi_b, isi_t, isi_n, isi_s, kML0_eq, kML_l, kML_p, wML, appF_p, popF_p, kN_eq, putF_p, getF_p, wNx, wBk, wCt, kS_nx, kS_bk, kS_ct, kS_rt, wSeqS, kRet_eq, wRet, kExp_eq, wExp, kIf_t, kIf_f, wIf, kTg_eq, kAsg_eq, wAsg, tgN_eq, shN_eq, sh2_eq, sh3_eq, sh12_eq, sh21_eq, kAug2_eq, kAug1_eq, kAug_eq, wAug, addI_ii, kPut4_eq, kPut3_eq, kPut2_eq, kPut1_eq, wPut, kAL5_eq, kAL4_eq, kAL3_eq, kAL2_eq, kAL1_eq, wAugL, kPar_eq, wPar, kPar3_eq, wPar3, kFor_eq, wFor, kLoop_nx, kLoop_ct, kLoop_bk, kLoop_rt, kTgt_eq, kWh_t, kWh_f, kLc_eq, wLc, kIs_eq, kIsV_eq, kFn_nx, kFn_rt, g_at0, g_at1, g_at2, g_at3, g_at4, g_set0, g_set1, g_set2, g_set3, g_set4, m_at, m_set, m_atL, List.getElem?_cons_zero, List.getElem?_cons_succ, List.set_cons_zero, List.set_cons_succ, List.length_cons, List.length_nil, slots_cons, slots_nil, List.cons_append, List.nil_append, List.replicate_succ, List.replicate_zero, Nat.reduceAdd, Nat.reduceSub, Nat.reduceEqDiff, Nat.reduceLeDiff, Bool.false_eq_true, wipeI, mem_len, mem_app, Bool.not_true, Bool.not_false, List.length_append, Nat.add_assoc, List.append_assoc]
  refine f_power ⟨by omega, by omega⟩ (by omega) ?_
  rw [ri_c] at q
  simp only [kLcC_eq, kLcE_eq, kLcT_t, kLcT_f, Int.zero_add, List.length_map, List.length_range, List.length_replicate, mulWF_w, divWF_w, shlF_w, shrF_w, bandF_ii, divmodF_w, dec_selfI, dec_selfS, wp_ok, wp_nox, kVar_eq, wVar, wC, kBin2_eq, kBin_eq, wBin, kUn_eq, wUn, kC2_eq, kC_eq, wCons, wNil, kArg_eq, wArg, kFArg_eq, wFArg, kFl_eq, wFlv, kAl_eq, wAl, wLst, kLst0, kLst1, kLst2, kLst3, kLst4, kLst5, kLst6, wTupv, kTup0, kTup1, kTup2, kTup3, kTup4, kTup5, kTup6, kTst_eq, wTst, kAnd_t, kAnd_f, wAnd, kOr_t, kOr_f, wOr, kNot_eq, wNot, wYes, kIfE_t, kIfE_f, wIfE, kAndV_t, kAndV_f, wAndV, kOrV_f, kOrV_t, wOrV, kNotV_eq, wNotV, kChn4_eq, kChn_t, kChn_f, kChn2_eq, kChn1_eq, wChn, kSeq_t, kSeq_l, kSeq_z, wSeqv, kEnum_t, kEnum_l, wEnumv, kZip_t, kZip_l, wZipv, kRng1_eq, wRng1v, kRng2_eq, wRng2v, kRgL1_eq, wRgL1, kRgL2_eq, kRgL2, wRgL2, onIO_l, onL_fl, onL_loc, onSeq_t, onSeq_fl, onSeq_fz, onSeq_loc, onLsq_fl, onLsq_fz, onLsq_loc, kRep_eq, kRep2_eq, wRep, woNone, kOSome_eq, woSome, kCut3_eq, kCut2_eq, kCut_eq, wCut, cutF_t, cutF_l, cutF_p, kRev_eq, wRev, lenF_t, lenF_l, lenF_z, lenF_p, tupleF_t, tupleF_l, tupleF_p, listF_t, listF_l, listF_z, listF_p, kOpt_eq, ixF_t, ixF_l, ixF_z, ixF_p, atI_0, atI_1, atI_2, atI_3, mulF_w, divF_w, modF_w, powF_w, addF_ii, addF_tt, addF_ll, addF_pl, subF_ii, ltF_ii, leF_ii, gtF_ii, geF_ii, eqF_ii, neF_ii, eqF_ss, neF_ss, negF_i, absF_i, maxF_ii, minF_ii, toIntF_i, toIntF_b, isN_n, isN_i, isN_t, notN_n, notN_i, notN_t, isN_g, notN_g, sumF_l, isi_i, isi_b, isi_t, isi_n, isi_s, kML0_eq, kML_l, kML_p, wML, appF_p, popF_p, kN_eq, putF_p, getF_p, wNx, wBk, wCt, kS_nx, kS_bk, kS_ct, kS_rt, wSeqS, kRet_eq, wRet, kExp_eq, wExp, kIf_t, kIf_f, wIf, kTg_eq, kAsg_eq, wAsg, tgN_eq, shN_eq, sh2_eq, sh3_eq, sh12_eq, sh21_eq, kAug2_eq, kAug1_eq, kAug_eq, wAug, addI_ii, kPut4_eq, kPut3_eq, kPut2_eq, kPut1_eq, wPut, kAL5_eq, kAL4_eq, kAL3_eq, kAL2_eq, kAL1_eq, wAugL, kPar_eq, wPar, kPar3_eq, wPar3, kFor_eq, wFor, kLoop_nx, kLoop_ct, kLoop_bk, kLoop_rt, kTgt_eq, kWh_t, kWh_f, kLc_eq, wLc, kIs_eq, kIsV_eq, kFn_nx, kFn_rt, g_at0, g_at1, g_at2, g_at3, g_at4, g_set0, g_set1, g_set2, g_set3, g_set4, m_at, m_set, m_atL, List.getElem?_cons_zero, List.getElem?_cons_succ, List.set_cons_zero, List.set_cons_succ, List.length_cons, List.length_nil, slots_cons, slots_nil, List.cons_append, List.nil_append, List.replicate_succ, List.replicate_zero, Nat.reduceAdd, Nat.reduceSub, Nat.reduceEqDiff, Nat.reduceLeDiff, Bool.false_eq_true, wipeI, mem_len, mem_app, Bool.not_true, Bool.not_false, List.length_append, Nat.add_assoc, List.append_assoc]
  exact q
theorem f_pull {c l : Nat} {ws : List Int} {j : Nat} {w : Int} {h : Mem} {Q : KV} (hc : c ≤ 100) (hl : l ≤ c) (hj : ws[j]? = some w) (hw : 0 ≤ w ∧ w ≤ 100000000) (q : Q (.int (w * (ri c c - ri c l))) h) : (fn_pull [.tup [.int (c : Nat), .tup (ws.map .int)], .int (j : Nat), .int (l : Nat)] h).wp Q := by
  unfold fn_pull
  refine wFn rfl ?_
  unfold d_pull
  have e : atI (ws.map IV.int) ((j : Nat) : Int) = some (.int w) := atI_nat (by rw [List.getElem?_map, hj]; rfl)
  simp only [kLcC_eq, kLcE_eq, kLcT_t, kLcT_f, Int.zero_add, List.length_map, List.length_range, List.length_replicate, mulWF_w, divWF_w, shlF_w, shrF_w, bandF_ii, divmodF_w, dec_selfI, dec_selfS, wp_ok, wp_nox, kVar_eq, wVar, wC, kBin2_eq, kBin_eq, wBin, kUn_eq, wUn, kC2_eq, kC_eq, wCons, wNil, kArg_eq, wArg, kFArg_eq, wFArg, kFl_eq, wFlv, kAl_eq, wAl, wLst, kLst0, kLst1, kLst2, kLst3, kLst4, kLst5, kLst6, wTupv, kTup0, kTup1, kTup2, kTup3, kTup4, kTup5, kTup6, kTst_eq, wTst, kAnd_t, kAnd_f, wAnd, kOr_t, kOr_f, wOr, kNot_eq, wNot, wYes, kIfE_t, kIfE_f, wIfE, kAndV_t, kAndV_f, wAndV, kOrV_f, kOrV_t, wOrV, kNotV_eq, wNotV, kChn4_eq, kChn_t, kChn_f, kChn2_eq, kChn1_eq, wChn, kSeq_t, kSeq_l, kSeq_z, wSeqv, kEnum_t, kEnum_l, wEnumv, kZip_t, kZip_l, wZipv, kRng1_eq, wRng1v, kRng2_eq, wRng2v, kRgL1_eq, wRgL1, kRgL2_eq, kRgL2, wRgL2, onIO_l, onL_fl, onL_loc, onSeq_t, onSeq_fl, onSeq_fz, onSeq_loc, onLsq_fl, onLsq_fz, onLsq_loc, kRep_eq, kRep2_eq, wRep, woNone, kOSome_eq, woSome, kCut3_eq, kCut2_eq, kCut_eq, wCut, cutF_t, cutF_l, cutF_p, kRev_eq, wRev, lenF_t, lenF_l, lenF_z, lenF_p, tupleF_t, tupleF_l, tupleF_p, listF_t, listF_l, listF_z, listF_p, kOpt_eq, ixF_t, ixF_l, ixF_z, ixF_p, atI_0, atI_1, atI_2, atI_3, mulF_w, divF_w, modF_w, powF_w, addF_ii, addF_tt, addF_ll, addF_pl, subF_ii, ltF_ii, leF_ii, gtF_ii, geF_ii, eqF_ii, neF_ii, eqF_ss, neF_ss, negF_i, absF_i, maxF_ii, minF_ii, toIntF_i, toIntF_b, isN_n, isN_i, isN_t, notN_n, notN_i, notN_t, isN_g, notN_g, sumF_l, isi_i, isi_b, isi_t, isi_n, isi_s, kML0_eq, kML_l, kML_p, wML, appF_p, popF_p, kN_eq, putF_p, getF_p, wNx, wBk, wCt, kS_nx, kS_bk, kS_ct, kS_rt, wSeqS, kRet_eq, wRet, kExp_eq, wExp, kIf_t, kIf_f, wIf, kTg_eq, kAsg_eq, wAsg, tgN_eq, shN_eq, sh2_eq, sh3_eq, sh12_eq, sh21_eq, kAug2_eq, kAug1_eq, kAug_eq, wAug, addI_ii, kPut4_eq, kPut3_eq, kPut2_eq, kPut1_eq, wPut, kAL5_eq, kAL4_eq, kAL3_eq, kAL2_eq, kAL1_eq, wAugL, kPar_eq, wPar, kPar3_eq, wPar3, kFor_eq, wFor, kLoop_nx, kLoop_ct, kLoop_bk, kLoop_rt, kTgt_eq, kWh_t, kWh_f, kLc_eq, wLc, kIs_eq, kIsV_eq, kFn_nx, kFn_rt, g_at0, g_at1, g_at2, g_at3, g_at4, g_set0, g_set1, g_set2, g_set3, g_set4, m_at, m_set, m_atL, List.getElem?_cons_zero, List.getElem?_cons_succ, List.set_cons_zero, List.set_cons_succ, List.length_cons, List.length_nil, slots_cons, slots_nil, List.cons_append, List.nil_append, List.replicate_succ, List.replicate_zero, Nat.reduceAdd, Nat.reduceSub, Nat.reduceEqDiff, Nat.reduceLeDiff, Bool.false_eq_true, wipeI, mem_len, mem_app, Bool.not_true, Bool.not_false, List.length_append, Nat.add_assoc, List.append_assoc, e]
  refine f_rise hc (Nat.le_refl _) ?_
  simp only [kLcC_eq, kLcE_eq, kLcT_t, kLcT_f, Int.zero_add, List.length_map, List.length_range, List.length_replicate, mulWF_w, divWF_w, shlF_w, shrF_w, bandF_ii, divmodF_w, dec_selfI, dec_selfS, wp_ok, wp_nox, kVar_eq, wVar, wC, kBin2_eq, kBin_eq, wBin, kUn_eq, wUn, kC2_eq, kC_eq, wCons, wNil, kArg_eq, wArg, kFArg_eq, wFArg, kFl_eq, wFlv, kAl_eq, wAl, wLst, kLst0, kLst1, kLst2, kLst3, kLst4, kLst5, kLst6, wTupv, kTup0, kTup1, kTup2, kTup3, kTup4, kTup5, kTup6, kTst_eq, wTst, kAnd_t, kAnd_f, wAnd, kOr_t, kOr_f, wOr, kNot_eq, wNot, wYes, kIfE_t, kIfE_f, wIfE, kAndV_t, kAndV_f, wAndV, kOrV_f, kOrV_t, wOrV, kNotV_eq, wNotV, kChn4_eq, kChn_t, kChn_f, kChn2_eq, kChn1_eq, wChn, kSeq_t, kSeq_l, kSeq_z, wSeqv, kEnum_t, kEnum_l, wEnumv, kZip_t, kZip_l, wZipv, kRng1_eq, wRng1v, kRng2_eq, wRng2v, kRgL1_eq, wRgL1, kRgL2_eq, kRgL2, wRgL2, onIO_l, onL_fl, onL_loc, onSeq_t, onSeq_fl, onSeq_fz, onSeq_loc, onLsq_fl, onLsq_fz, onLsq_loc, kRep_eq, kRep2_eq, wRep, woNone, kOSome_eq, woSome, kCut3_eq, kCut2_eq, kCut_eq, wCut, cutF_t, cutF_l, cutF_p, kRev_eq, wRev, lenF_t, lenF_l, lenF_z, lenF_p, tupleF_t, tupleF_l, tupleF_p, listF_t, listF_l, listF_z, listF_p, kOpt_eq, ixF_t, ixF_l, ixF_z, ixF_p, atI_0, atI_1, atI_2, atI_3, mulF_w, divF_w, modF_w, powF_w, addF_ii, addF_tt, addF_ll, addF_pl, subF_ii, ltF_ii, leF_ii, gtF_ii, geF_ii, eqF_ii, neF_ii, eqF_ss, neF_ss, negF_i, absF_i, maxF_ii, minF_ii, toIntF_i, toIntF_b, isN_n, isN_i, isN_t, notN_n, notN_i, notN_t, isN_g, notN_g, sumF_l, isi_i, isi_b, isi_t, isi_n, isi_s, kML0_eq, kML_l, kML_p, wML, appF_p, popF_p, kN_eq, putF_p, getF_p, wNx, wBk, wCt, kS_nx, kS_bk, kS_ct, kS_rt, wSeqS, kRet_eq, wRet, kExp_eq, wExp, kIf_t, kIf_f, wIf, kTg_eq, kAsg_eq, wAsg, tgN_eq, shN_eq, sh2_eq, sh3_eq, sh12_eq, sh21_eq, kAug2_eq, kAug1_eq, kAug_eq, wAug, addI_ii, kPut4_eq, kPut3_eq, kPut2_eq, kPut1_eq, wPut, kAL5_eq, kAL4_eq, kAL3_eq, kAL2_eq, kAL1_eq, wAugL, kPar_eq, wPar, kPar3_eq, wPar3, kFor_eq, wFor, kLoop_nx, kLoop_ct, kLoop_bk, kLoop_rt, kTgt_eq, kWh_t, kWh_f, kLc_eq, wLc, kIs_eq, kIsV_eq, kFn_nx, kFn_rt, g_at0, g_at1, g_at2, g_at3, g_at4, g_set0, g_set1, g_set2, g_set3, g_set4, m_at, m_set, m_atL, List.getElem?_cons_zero, List.getElem?_cons_succ, List.set_cons_zero, List.set_cons_succ, List.length_cons, List.length_nil, slots_cons, slots_nil, List.cons_append, List.nil_append, List.replicate_succ, List.replicate_zero, Nat.reduceAdd, Nat.reduceSub, Nat.reduceEqDiff, Nat.reduceLeDiff, Bool.false_eq_true, wipeI, mem_len, mem_app, Bool.not_true, Bool.not_false, List.length_append, Nat.add_assoc, List.append_assoc]
  refine f_rise hc hl ?_
  simp only [kLcC_eq, kLcE_eq, kLcT_t, kLcT_f, Int.zero_add, List.length_map, List.length_range, List.length_replicate, mulWF_w, divWF_w, shlF_w, shrF_w, bandF_ii, divmodF_w, dec_selfI, dec_selfS, wp_ok, wp_nox, kVar_eq, wVar, wC, kBin2_eq, kBin_eq, wBin, kUn_eq, wUn, kC2_eq, kC_eq, wCons, wNil, kArg_eq, wArg, kFArg_eq, wFArg, kFl_eq, wFlv, kAl_eq, wAl, wLst, kLst0, kLst1, kLst2, kLst3, kLst4, kLst5, kLst6, wTupv, kTup0, kTup1, kTup2, kTup3, kTup4, kTup5, kTup6, kTst_eq, wTst, kAnd_t, kAnd_f, wAnd, kOr_t, kOr_f, wOr, kNot_eq, wNot, wYes, kIfE_t, kIfE_f, wIfE, kAndV_t, kAndV_f, wAndV, kOrV_f, kOrV_t, wOrV, kNotV_eq, wNotV, kChn4_eq, kChn_t, kChn_f, kChn2_eq, kChn1_eq, wChn, kSeq_t, kSeq_l, kSeq_z, wSeqv, kEnum_t, kEnum_l, wEnumv, kZip_t, kZip_l, wZipv, kRng1_eq, wRng1v, kRng2_eq, wRng2v, kRgL1_eq, wRgL1, kRgL2_eq, kRgL2, wRgL2, onIO_l, onL_fl, onL_loc, onSeq_t, onSeq_fl, onSeq_fz, onSeq_loc, onLsq_fl, onLsq_fz, onLsq_loc, kRep_eq, kRep2_eq, wRep, woNone, kOSome_eq, woSome, kCut3_eq, kCut2_eq, kCut_eq, wCut, cutF_t, cutF_l, cutF_p, kRev_eq, wRev, lenF_t, lenF_l, lenF_z, lenF_p, tupleF_t, tupleF_l, tupleF_p, listF_t, listF_l, listF_z, listF_p, kOpt_eq, ixF_t, ixF_l, ixF_z, ixF_p, atI_0, atI_1, atI_2, atI_3, mulF_w, divF_w, modF_w, powF_w, addF_ii, addF_tt, addF_ll, addF_pl, subF_ii, ltF_ii, leF_ii, gtF_ii, geF_ii, eqF_ii, neF_ii, eqF_ss, neF_ss, negF_i, absF_i, maxF_ii, minF_ii, toIntF_i, toIntF_b, isN_n, isN_i, isN_t, notN_n, notN_i, notN_t, isN_g, notN_g, sumF_l, isi_i, isi_b, isi_t, isi_n, isi_s, kML0_eq, kML_l, kML_p, wML, appF_p, popF_p, kN_eq, putF_p, getF_p, wNx, wBk, wCt, kS_nx, kS_bk, kS_ct, kS_rt, wSeqS, kRet_eq, wRet, kExp_eq, wExp, kIf_t, kIf_f, wIf, kTg_eq, kAsg_eq, wAsg, tgN_eq, shN_eq, sh2_eq, sh3_eq, sh12_eq, sh21_eq, kAug2_eq, kAug1_eq, kAug_eq, wAug, addI_ii, kPut4_eq, kPut3_eq, kPut2_eq, kPut1_eq, wPut, kAL5_eq, kAL4_eq, kAL3_eq, kAL2_eq, kAL1_eq, wAugL, kPar_eq, wPar, kPar3_eq, wPar3, kFor_eq, wFor, kLoop_nx, kLoop_ct, kLoop_bk, kLoop_rt, kTgt_eq, kWh_t, kWh_f, kLc_eq, wLc, kIs_eq, kIsV_eq, kFn_nx, kFn_rt, g_at0, g_at1, g_at2, g_at3, g_at4, g_set0, g_set1, g_set2, g_set3, g_set4, m_at, m_set, m_atL, List.getElem?_cons_zero, List.getElem?_cons_succ, List.set_cons_zero, List.set_cons_succ, List.length_cons, List.length_nil, slots_cons, slots_nil, List.cons_append, List.nil_append, List.replicate_succ, List.replicate_zero, Nat.reduceAdd, Nat.reduceSub, Nat.reduceEqDiff, Nat.reduceLeDiff, Bool.false_eq_true, wipeI, mem_len, mem_app, Bool.not_true, Bool.not_false, List.length_append, Nat.add_assoc, List.append_assoc]
  exact ⟨.inl ⟨by omega, by omega⟩, q⟩
theorem gcd_one : ∀ c, c < 31 → Nat.gcd ((c + 1) ^ c - c ^ c) ((c + 1) ^ c) = 1 := by decide +kernel
theorem f_lowest {p q : Nat} {h : Mem} {Q : KV} (hg : Nat.gcd p q = 1) (hq : 0 < q) (l1 : p.log2 ≤ 1000) (l2 : q.log2 ≤ 1000) (k : Q (.tup [.int (p : Nat), .int (q : Nat)]) h) : (fn__law_lowest [.int (p : Nat), .int (q : Nat)] h).wp Q := by
  unfold fn__law_lowest
  refine wFn rfl ?_
  unfold d__law_lowest
  simp only [kLcC_eq, kLcE_eq, kLcT_t, kLcT_f, Int.zero_add, List.length_map, List.length_range, List.length_replicate, mulWF_w, divWF_w, shlF_w, shrF_w, bandF_ii, divmodF_w, dec_selfI, dec_selfS, wp_ok, wp_nox, kVar_eq, wVar, wC, kBin2_eq, kBin_eq, wBin, kUn_eq, wUn, kC2_eq, kC_eq, wCons, wNil, kArg_eq, wArg, kFArg_eq, wFArg, kFl_eq, wFlv, kAl_eq, wAl, wLst, kLst0, kLst1, kLst2, kLst3, kLst4, kLst5, kLst6, wTupv, kTup0, kTup1, kTup2, kTup3, kTup4, kTup5, kTup6, kTst_eq, wTst, kAnd_t, kAnd_f, wAnd, kOr_t, kOr_f, wOr, kNot_eq, wNot, wYes, kIfE_t, kIfE_f, wIfE, kAndV_t, kAndV_f, wAndV, kOrV_f, kOrV_t, wOrV, kNotV_eq, wNotV, kChn4_eq, kChn_t, kChn_f, kChn2_eq, kChn1_eq, wChn, kSeq_t, kSeq_l, kSeq_z, wSeqv, kEnum_t, kEnum_l, wEnumv, kZip_t, kZip_l, wZipv, kRng1_eq, wRng1v, kRng2_eq, wRng2v, kRgL1_eq, wRgL1, kRgL2_eq, kRgL2, wRgL2, onIO_l, onL_fl, onL_loc, onSeq_t, onSeq_fl, onSeq_fz, onSeq_loc, onLsq_fl, onLsq_fz, onLsq_loc, kRep_eq, kRep2_eq, wRep, woNone, kOSome_eq, woSome, kCut3_eq, kCut2_eq, kCut_eq, wCut, cutF_t, cutF_l, cutF_p, kRev_eq, wRev, lenF_t, lenF_l, lenF_z, lenF_p, tupleF_t, tupleF_l, tupleF_p, listF_t, listF_l, listF_z, listF_p, kOpt_eq, ixF_t, ixF_l, ixF_z, ixF_p, atI_0, atI_1, atI_2, atI_3, mulF_w, divF_w, modF_w, powF_w, addF_ii, addF_tt, addF_ll, addF_pl, subF_ii, ltF_ii, leF_ii, gtF_ii, geF_ii, eqF_ii, neF_ii, eqF_ss, neF_ss, negF_i, absF_i, maxF_ii, minF_ii, toIntF_i, toIntF_b, isN_n, isN_i, isN_t, notN_n, notN_i, notN_t, isN_g, notN_g, sumF_l, isi_i, isi_b, isi_t, isi_n, isi_s, kML0_eq, kML_l, kML_p, wML, appF_p, popF_p, kN_eq, putF_p, getF_p, wNx, wBk, wCt, kS_nx, kS_bk, kS_ct, kS_rt, wSeqS, kRet_eq, wRet, kExp_eq, wExp, kIf_t, kIf_f, wIf, kTg_eq, kAsg_eq, wAsg, tgN_eq, shN_eq, sh2_eq, sh3_eq, sh12_eq, sh21_eq, kAug2_eq, kAug1_eq, kAug_eq, wAug, addI_ii, kPut4_eq, kPut3_eq, kPut2_eq, kPut1_eq, wPut, kAL5_eq, kAL4_eq, kAL3_eq, kAL2_eq, kAL1_eq, wAugL, kPar_eq, wPar, kPar3_eq, wPar3, kFor_eq, wFor, kLoop_nx, kLoop_ct, kLoop_bk, kLoop_rt, kTgt_eq, kWh_t, kWh_f, kLc_eq, wLc, kIs_eq, kIsV_eq, kFn_nx, kFn_rt, g_at0, g_at1, g_at2, g_at3, g_at4, g_set0, g_set1, g_set2, g_set3, g_set4, m_at, m_set, m_atL, List.getElem?_cons_zero, List.getElem?_cons_succ, List.set_cons_zero, List.set_cons_succ, List.length_cons, List.length_nil, slots_cons, slots_nil, List.cons_append, List.nil_append, List.replicate_succ, List.replicate_zero, Nat.reduceAdd, Nat.reduceSub, Nat.reduceEqDiff, Nat.reduceLeDiff, Bool.false_eq_true, wipeI, mem_len, mem_app, Bool.not_true, Bool.not_false, List.length_append, Nat.add_assoc, List.append_assoc]
  refine sWh_wp (fun k ρ h' => ∃ a b : Nat, k = gcm a b ∧ Nat.gcd a b = 1 ∧ ρ = [some (.int (p : Nat)), some (.int (q : Nat)), some (.int (a : Nat)), some (.int (b : Nat))] ∧ h' = h) (k := gcm p q) (by unfold gcm; split <;> (try split) <;> omega) ⟨p, q, rfl, hg, rfl, rfl⟩ ?_
  rintro k1 ρ h' ⟨a, b, rfl, g1, rfl, rfl⟩
  simp only [kLcC_eq, kLcE_eq, kLcT_t, kLcT_f, Int.zero_add, List.length_map, List.length_range, List.length_replicate, mulWF_w, divWF_w, shlF_w, shrF_w, bandF_ii, divmodF_w, dec_selfI, dec_selfS, wp_ok, wp_nox, kVar_eq, wVar, wC, kBin2_eq, kBin_eq, wBin, kUn_eq, wUn, kC2_eq, kC_eq, wCons, wNil, kArg_eq, wArg, kFArg_eq, wFArg, kFl_eq, wFlv, kAl_eq, wAl, wLst, kLst0, kLst1, kLst2, kLst3, kLst4, kLst5, kLst6, wTupv, kTup0, kTup1, kTup2, kTup3, kTup4, kTup5, kTup6, kTst_eq, wTst, kAnd_t, kAnd_f, wAnd, kOr_t, kOr_f, wOr, kNot_eq, wNot, wYes, kIfE_t, kIfE_f, wIfE, kAndV_t, kAndV_f, wAndV, kOrV_f, kOrV_t, wOrV, kNotV_eq, wNotV, kChn4_eq, kChn_t, kChn_f, kChn2_eq, kChn1_eq, wChn, kSeq_t, kSeq_l, kSeq_z, wSeqv, kEnum_t, kEnum_l, wEnumv, kZip_t, kZip_l, wZipv, kRng1_eq, wRng1v, kRng2_eq, wRng2v, kRgL1_eq, wRgL1, kRgL2_eq, kRgL2, wRgL2, onIO_l, onL_fl, onL_loc, onSeq_t, onSeq_fl, onSeq_fz, onSeq_loc, onLsq_fl, onLsq_fz, onLsq_loc, kRep_eq, kRep2_eq, wRep, woNone, kOSome_eq, woSome, kCut3_eq, kCut2_eq, kCut_eq, wCut, cutF_t, cutF_l, cutF_p, kRev_eq, wRev, lenF_t, lenF_l, lenF_z, lenF_p, tupleF_t, tupleF_l, tupleF_p, listF_t, listF_l, listF_z, listF_p, kOpt_eq, ixF_t, ixF_l, ixF_z, ixF_p, atI_0, atI_1, atI_2, atI_3, mulF_w, divF_w, modF_w, powF_w, addF_ii, addF_tt, addF_ll, addF_pl, subF_ii, ltF_ii, leF_ii, gtF_ii, geF_ii, eqF_ii, neF_ii, eqF_ss, neF_ss, negF_i, absF_i, maxF_ii, minF_ii, toIntF_i, toIntF_b, isN_n, isN_i, isN_t, notN_n, notN_i, notN_t, isN_g, notN_g, sumF_l, isi_i, isi_b, isi_t, isi_n, isi_s, kML0_eq, kML_l, kML_p, wML, appF_p, popF_p, kN_eq, putF_p, getF_p, wNx, wBk, wCt, kS_nx, kS_bk, kS_ct, kS_rt, wSeqS, kRet_eq, wRet, kExp_eq, wExp, kIf_t, kIf_f, wIf, kTg_eq, kAsg_eq, wAsg, tgN_eq, shN_eq, sh2_eq, sh3_eq, sh12_eq, sh21_eq, kAug2_eq, kAug1_eq, kAug_eq, wAug, addI_ii, kPut4_eq, kPut3_eq, kPut2_eq, kPut1_eq, wPut, kAL5_eq, kAL4_eq, kAL3_eq, kAL2_eq, kAL1_eq, wAugL, kPar_eq, wPar, kPar3_eq, wPar3, kFor_eq, wFor, kLoop_nx, kLoop_ct, kLoop_bk, kLoop_rt, kTgt_eq, kWh_t, kWh_f, kLc_eq, wLc, kIs_eq, kIsV_eq, kFn_nx, kFn_rt, g_at0, g_at1, g_at2, g_at3, g_at4, g_set0, g_set1, g_set2, g_set3, g_set4, m_at, m_set, m_atL, List.getElem?_cons_zero, List.getElem?_cons_succ, List.set_cons_zero, List.set_cons_succ, List.length_cons, List.length_nil, slots_cons, slots_nil, List.cons_append, List.nil_append, List.replicate_succ, List.replicate_zero, Nat.reduceAdd, Nat.reduceSub, Nat.reduceEqDiff, Nat.reduceLeDiff, Bool.false_eq_true, wipeI, mem_len, mem_app, Bool.not_true, Bool.not_false, List.length_append, Nat.add_assoc, List.append_assoc]
  refine kWh_c (fun hb => ?_) (fun hb => ?_)
  · have hb0 : 0 < b := by
      simp at hb
      omega
    have e : ((a : Nat) : Int).fmod ((b : Nat) : Int) = ((a % b : Nat) : Int) := by rw [Int.fmod_eq_emod_of_nonneg _ (by omega)]; rfl
    simp only [kLcC_eq, kLcE_eq, kLcT_t, kLcT_f, Int.zero_add, List.length_map, List.length_range, List.length_replicate, mulWF_w, divWF_w, shlF_w, shrF_w, bandF_ii, divmodF_w, dec_selfI, dec_selfS, wp_ok, wp_nox, kVar_eq, wVar, wC, kBin2_eq, kBin_eq, wBin, kUn_eq, wUn, kC2_eq, kC_eq, wCons, wNil, kArg_eq, wArg, kFArg_eq, wFArg, kFl_eq, wFlv, kAl_eq, wAl, wLst, kLst0, kLst1, kLst2, kLst3, kLst4, kLst5, kLst6, wTupv, kTup0, kTup1, kTup2, kTup3, kTup4, kTup5, kTup6, kTst_eq, wTst, kAnd_t, kAnd_f, wAnd, kOr_t, kOr_f, wOr, kNot_eq, wNot, wYes, kIfE_t, kIfE_f, wIfE, kAndV_t, kAndV_f, wAndV, kOrV_f, kOrV_t, wOrV, kNotV_eq, wNotV, kChn4_eq, kChn_t, kChn_f, kChn2_eq, kChn1_eq, wChn, kSeq_t, kSeq_l, kSeq_z, wSeqv, kEnum_t, kEnum_l, wEnumv, kZip_t, kZip_l, wZipv, kRng1_eq, wRng1v, kRng2_eq, wRng2v, kRgL1_eq, wRgL1, kRgL2_eq, kRgL2, wRgL2, onIO_l, onL_fl, onL_loc, onSeq_t, onSeq_fl, onSeq_fz, onSeq_loc, onLsq_fl, onLsq_fz, onLsq_loc, kRep_eq, kRep2_eq, wRep, woNone, kOSome_eq, woSome, kCut3_eq, kCut2_eq, kCut_eq, wCut, cutF_t, cutF_l, cutF_p, kRev_eq, wRev, lenF_t, lenF_l, lenF_z, lenF_p, tupleF_t, tupleF_l, tupleF_p, listF_t, listF_l, listF_z, listF_p, kOpt_eq, ixF_t, ixF_l, ixF_z, ixF_p, atI_0, atI_1, atI_2, atI_3, mulF_w, divF_w, modF_w, powF_w, addF_ii, addF_tt, addF_ll, addF_pl, subF_ii, ltF_ii, leF_ii, gtF_ii, geF_ii, eqF_ii, neF_ii, eqF_ss, neF_ss, negF_i, absF_i, maxF_ii, minF_ii, toIntF_i, toIntF_b, isN_n, isN_i, isN_t, notN_n, notN_i, notN_t, isN_g, notN_g, sumF_l, isi_i, isi_b, isi_t, isi_n, isi_s, kML0_eq, kML_l, kML_p, wML, appF_p, popF_p, kN_eq, putF_p, getF_p, wNx, wBk, wCt, kS_nx, kS_bk, kS_ct, kS_rt, wSeqS, kRet_eq, wRet, kExp_eq, wExp, kIf_t, kIf_f, wIf, kTg_eq, kAsg_eq, wAsg, tgN_eq, shN_eq, sh2_eq, sh3_eq, sh12_eq, sh21_eq, kAug2_eq, kAug1_eq, kAug_eq, wAug, addI_ii, kPut4_eq, kPut3_eq, kPut2_eq, kPut1_eq, wPut, kAL5_eq, kAL4_eq, kAL3_eq, kAL2_eq, kAL1_eq, wAugL, kPar_eq, wPar, kPar3_eq, wPar3, kFor_eq, wFor, kLoop_nx, kLoop_ct, kLoop_bk, kLoop_rt, kTgt_eq, kWh_t, kWh_f, kLc_eq, wLc, kIs_eq, kIsV_eq, kFn_nx, kFn_rt, g_at0, g_at1, g_at2, g_at3, g_at4, g_set0, g_set1, g_set2, g_set3, g_set4, m_at, m_set, m_atL, List.getElem?_cons_zero, List.getElem?_cons_succ, List.set_cons_zero, List.set_cons_succ, List.length_cons, List.length_nil, slots_cons, slots_nil, List.cons_append, List.nil_append, List.replicate_succ, List.replicate_zero, Nat.reduceAdd, Nat.reduceSub, Nat.reduceEqDiff, Nat.reduceLeDiff, Bool.false_eq_true, wipeI, mem_len, mem_app, Bool.not_true, Bool.not_false, List.length_append, Nat.add_assoc, List.append_assoc, e]
    refine ⟨by omega, _, gcm_step hb0, b, a % b, rfl, ?_, by trivial, by trivial⟩
    rw [Nat.gcd_comm, ← Nat.gcd_rec, Nat.gcd_comm]
    exact g1
  · have hb0 : b = 0 := by
      simp at hb
      exact hb
    subst hb0
    rw [Nat.gcd_zero_right] at g1
    subst g1
    simp only [kLcC_eq, kLcE_eq, kLcT_t, kLcT_f, Int.zero_add, List.length_map, List.length_range, List.length_replicate, mulWF_w, divWF_w, shlF_w, shrF_w, bandF_ii, divmodF_w, dec_selfI, dec_selfS, wp_ok, wp_nox, kVar_eq, wVar, wC, kBin2_eq, kBin_eq, wBin, kUn_eq, wUn, kC2_eq, kC_eq, wCons, wNil, kArg_eq, wArg, kFArg_eq, wFArg, kFl_eq, wFlv, kAl_eq, wAl, wLst, kLst0, kLst1, kLst2, kLst3, kLst4, kLst5, kLst6, wTupv, kTup0, kTup1, kTup2, kTup3, kTup4, kTup5, kTup6, kTst_eq, wTst, kAnd_t, kAnd_f, wAnd, kOr_t, kOr_f, wOr, kNot_eq, wNot, wYes, kIfE_t, kIfE_f, wIfE, kAndV_t, kAndV_f, wAndV, kOrV_f, kOrV_t, wOrV, kNotV_eq, wNotV, kChn4_eq, kChn_t, kChn_f, kChn2_eq, kChn1_eq, wChn, kSeq_t, kSeq_l, kSeq_z, wSeqv, kEnum_t, kEnum_l, wEnumv, kZip_t, kZip_l, wZipv, kRng1_eq, wRng1v, kRng2_eq, wRng2v, kRgL1_eq, wRgL1, kRgL2_eq, kRgL2, wRgL2, onIO_l, onL_fl, onL_loc, onSeq_t, onSeq_fl, onSeq_fz, onSeq_loc, onLsq_fl, onLsq_fz, onLsq_loc, kRep_eq, kRep2_eq, wRep, woNone, kOSome_eq, woSome, kCut3_eq, kCut2_eq, kCut_eq, wCut, cutF_t, cutF_l, cutF_p, kRev_eq, wRev, lenF_t, lenF_l, lenF_z, lenF_p, tupleF_t, tupleF_l, tupleF_p, listF_t, listF_l, listF_z, listF_p, kOpt_eq, ixF_t, ixF_l, ixF_z, ixF_p, atI_0, atI_1, atI_2, atI_3, mulF_w, divF_w, modF_w, powF_w, addF_ii, addF_tt, addF_ll, addF_pl, subF_ii, ltF_ii, leF_ii, gtF_ii, geF_ii, eqF_ii, neF_ii, eqF_ss, neF_ss, negF_i, absF_i, maxF_ii, minF_ii, toIntF_i, toIntF_b, isN_n, isN_i, isN_t, notN_n, notN_i, notN_t, isN_g, notN_g, sumF_l, isi_i, isi_b, isi_t, isi_n, isi_s, kML0_eq, kML_l, kML_p, wML, appF_p, popF_p, kN_eq, putF_p, getF_p, wNx, wBk, wCt, kS_nx, kS_bk, kS_ct, kS_rt, wSeqS, kRet_eq, wRet, kExp_eq, wExp, kIf_t, kIf_f, wIf, kTg_eq, kAsg_eq, wAsg, tgN_eq, shN_eq, sh2_eq, sh3_eq, sh12_eq, sh21_eq, kAug2_eq, kAug1_eq, kAug_eq, wAug, addI_ii, kPut4_eq, kPut3_eq, kPut2_eq, kPut1_eq, wPut, kAL5_eq, kAL4_eq, kAL3_eq, kAL2_eq, kAL1_eq, wAugL, kPar_eq, wPar, kPar3_eq, wPar3, kFor_eq, wFor, kLoop_nx, kLoop_ct, kLoop_bk, kLoop_rt, kTgt_eq, kWh_t, kWh_f, kLc_eq, wLc, kIs_eq, kIsV_eq, kFn_nx, kFn_rt, g_at0, g_at1, g_at2, g_at3, g_at4, g_set0, g_set1, g_set2, g_set3, g_set4, m_at, m_set, m_atL, List.getElem?_cons_zero, List.getElem?_cons_succ, List.set_cons_zero, List.set_cons_succ, List.length_cons, List.length_nil, slots_cons, slots_nil, List.cons_append, List.nil_append, List.replicate_succ, List.replicate_zero, Nat.reduceAdd, Nat.reduceSub, Nat.reduceEqDiff, Nat.reduceLeDiff, Bool.false_eq_true, wipeI, mem_len, mem_app, Bool.not_true, Bool.not_false, List.length_append, Nat.add_assoc, List.append_assoc]
    have e1 : ∀ x : Int, x.fdiv ((1 : Nat) : Int) = x := fun x => by rw [Int.fdiv_eq_ediv_of_nonneg _ (by decide)]; exact Int.ediv_one x
    rw [e1, e1]
    exact ⟨⟨by decide, by decide⟩, ⟨by decide, by decide⟩, k⟩
end Vi_k31
end

section
namespace Vi_k31
open PySem PySem.Spec PyProof.Rows L2 VI
theorem f_yard {s : Src} {R : Mem} {top high : Nat} {Q : KV} (g : s.Good) (ht : 1 ≤ top ∧ top ≤ 1000) (hh : 1 ≤ high ∧ high ≤ 1000)
    (q : ∀ (s' : Src) (R' : Mem) (c : Nat) (ws : List Int), s'.Good → 1 ≤ c ∧ c ≤ high → 1 ≤ ws.length ∧ ws.length ≤ top → (∀ w ∈ ws, 1 ≤ w ∧ w ≤ 1000) → Q (.tup [.int (c : Nat), .tup (ws.map .int)]) (mem s' R')) :
    (fn__law_yard [.loc 1, .int (top : Nat), .int (high : Nat)] (mem s R)).wp Q := by
  unfold fn__law_yard
  refine wFn rfl ?_
  unfold d__law_yard
  simp only [kLcC_eq, kLcE_eq, kLcT_t, kLcT_f, Int.zero_add, List.length_map, List.length_range, List.length_replicate, mulWF_w, divWF_w, shlF_w, shrF_w, bandF_ii, divmodF_w, dec_selfI, dec_selfS, wp_ok, wp_nox, kVar_eq, wVar, wC, kBin2_eq, kBin_eq, wBin, kUn_eq, wUn, kC2_eq, kC_eq, wCons, wNil, kArg_eq, wArg, kFArg_eq, wFArg, kFl_eq, wFlv, kAl_eq, wAl, wLst, kLst0, kLst1, kLst2, kLst3, kLst4, kLst5, kLst6, wTupv, kTup0, kTup1, kTup2, kTup3, kTup4, kTup5, kTup6, kTst_eq, wTst, kAnd_t, kAnd_f, wAnd, kOr_t, kOr_f, wOr, kNot_eq, wNot, wYes, kIfE_t, kIfE_f, wIfE, kAndV_t, kAndV_f, wAndV, kOrV_f, kOrV_t, wOrV, kNotV_eq, wNotV, kChn4_eq, kChn_t, kChn_f, kChn2_eq, kChn1_eq, wChn, kSeq_t, kSeq_l, kSeq_z, wSeqv, kEnum_t, kEnum_l, wEnumv, kZip_t, kZip_l, wZipv, kRng1_eq, wRng1v, kRng2_eq, wRng2v, kRgL1_eq, wRgL1, kRgL2_eq, kRgL2, wRgL2, onIO_l, onL_fl, onL_loc, onSeq_t, onSeq_fl, onSeq_fz, onSeq_loc, onLsq_fl, onLsq_fz, onLsq_loc, kRep_eq, kRep2_eq, wRep, woNone, kOSome_eq, woSome, kCut3_eq, kCut2_eq, kCut_eq, wCut, cutF_t, cutF_l, cutF_p, kRev_eq, wRev, lenF_t, lenF_l, lenF_z, lenF_p, tupleF_t, tupleF_l, tupleF_p, listF_t, listF_l, listF_z, listF_p, kOpt_eq, ixF_t, ixF_l, ixF_z, ixF_p, atI_0, atI_1, atI_2, atI_3, mulF_w, divF_w, modF_w, powF_w, addF_ii, addF_tt, addF_ll, addF_pl, subF_ii, ltF_ii, leF_ii, gtF_ii, geF_ii, eqF_ii, neF_ii, eqF_ss, neF_ss, negF_i, absF_i, maxF_ii, minF_ii, toIntF_i, toIntF_b, isN_n, isN_i, isN_t, notN_n, notN_i, notN_t, isN_g, notN_g, sumF_l, isi_i, isi_b, isi_t, isi_n, isi_s, kML0_eq, kML_l, kML_p, wML, appF_p, popF_p, kN_eq, putF_p, getF_p, wNx, wBk, wCt, kS_nx, kS_bk, kS_ct, kS_rt, wSeqS, kRet_eq, wRet, kExp_eq, wExp, kIf_t, kIf_f, wIf, kTg_eq, kAsg_eq, wAsg, tgN_eq, shN_eq, sh2_eq, sh3_eq, sh12_eq, sh21_eq, kAug2_eq, kAug1_eq, kAug_eq, wAug, addI_ii, kPut4_eq, kPut3_eq, kPut2_eq, kPut1_eq, wPut, kAL5_eq, kAL4_eq, kAL3_eq, kAL2_eq, kAL1_eq, wAugL, kPar_eq, wPar, kPar3_eq, wPar3, kFor_eq, wFor, kLoop_nx, kLoop_ct, kLoop_bk, kLoop_rt, kTgt_eq, kWh_t, kWh_f, kLc_eq, wLc, kIs_eq, kIsV_eq, kFn_nx, kFn_rt, g_at0, g_at1, g_at2, g_at3, g_at4, g_set0, g_set1, g_set2, g_set3, g_set4, m_at, m_set, m_atL, List.getElem?_cons_zero, List.getElem?_cons_succ, List.set_cons_zero, List.set_cons_succ, List.length_cons, List.length_nil, slots_cons, slots_nil, List.cons_append, List.nil_append, List.replicate_succ, List.replicate_zero, Nat.reduceAdd, Nat.reduceSub, Nat.reduceEqDiff, Nat.reduceLeDiff, Bool.false_eq_true, wipeI, mem_len, mem_app, Bool.not_true, Bool.not_false, List.length_append, Nat.add_assoc, List.append_assoc]
  refine pick_wp g (by omega) fun s1 k1 g1 hk1 => ?_
  simp only [kLcC_eq, kLcE_eq, kLcT_t, kLcT_f, Int.zero_add, List.length_map, List.length_range, List.length_replicate, mulWF_w, divWF_w, shlF_w, shrF_w, bandF_ii, divmodF_w, dec_selfI, dec_selfS, wp_ok, wp_nox, kVar_eq, wVar, wC, kBin2_eq, kBin_eq, wBin, kUn_eq, wUn, kC2_eq, kC_eq, wCons, wNil, kArg_eq, wArg, kFArg_eq, wFArg, kFl_eq, wFlv, kAl_eq, wAl, wLst, kLst0, kLst1, kLst2, kLst3, kLst4, kLst5, kLst6, wTupv, kTup0, kTup1, kTup2, kTup3, kTup4, kTup5, kTup6, kTst_eq, wTst, kAnd_t, kAnd_f, wAnd, kOr_t, kOr_f, wOr, kNot_eq, wNot, wYes, kIfE_t, kIfE_f, wIfE, kAndV_t, kAndV_f, wAndV, kOrV_f, kOrV_t, wOrV, kNotV_eq, wNotV, kChn4_eq, kChn_t, kChn_f, kChn2_eq, kChn1_eq, wChn, kSeq_t, kSeq_l, kSeq_z, wSeqv, kEnum_t, kEnum_l, wEnumv, kZip_t, kZip_l, wZipv, kRng1_eq, wRng1v, kRng2_eq, wRng2v, kRgL1_eq, wRgL1, kRgL2_eq, kRgL2, wRgL2, onIO_l, onL_fl, onL_loc, onSeq_t, onSeq_fl, onSeq_fz, onSeq_loc, onLsq_fl, onLsq_fz, onLsq_loc, kRep_eq, kRep2_eq, wRep, woNone, kOSome_eq, woSome, kCut3_eq, kCut2_eq, kCut_eq, wCut, cutF_t, cutF_l, cutF_p, kRev_eq, wRev, lenF_t, lenF_l, lenF_z, lenF_p, tupleF_t, tupleF_l, tupleF_p, listF_t, listF_l, listF_z, listF_p, kOpt_eq, ixF_t, ixF_l, ixF_z, ixF_p, atI_0, atI_1, atI_2, atI_3, mulF_w, divF_w, modF_w, powF_w, addF_ii, addF_tt, addF_ll, addF_pl, subF_ii, ltF_ii, leF_ii, gtF_ii, geF_ii, eqF_ii, neF_ii, eqF_ss, neF_ss, negF_i, absF_i, maxF_ii, minF_ii, toIntF_i, toIntF_b, isN_n, isN_i, isN_t, notN_n, notN_i, notN_t, isN_g, notN_g, sumF_l, isi_i, isi_b, isi_t, isi_n, isi_s, kML0_eq, kML_l, kML_p, wML, appF_p, popF_p, kN_eq, putF_p, getF_p, wNx, wBk, wCt, kS_nx, kS_bk, kS_ct, kS_rt, wSeqS, kRet_eq, wRet, kExp_eq, wExp, kIf_t, kIf_f, wIf, kTg_eq, kAsg_eq, wAsg, tgN_eq, shN_eq, sh2_eq, sh3_eq, sh12_eq, sh21_eq, kAug2_eq, kAug1_eq, kAug_eq, wAug, addI_ii, kPut4_eq, kPut3_eq, kPut2_eq, kPut1_eq, wPut, kAL5_eq, kAL4_eq, kAL3_eq, kAL2_eq, kAL1_eq, wAugL, kPar_eq, wPar, kPar3_eq, wPar3, kFor_eq, wFor, kLoop_nx, kLoop_ct, kLoop_bk, kLoop_rt, kTgt_eq, kWh_t, kWh_f, kLc_eq, wLc, kIs_eq, kIsV_eq, kFn_nx, kFn_rt, g_at0, g_at1, g_at2, g_at3, g_at4, g_set0, g_set1, g_set2, g_set3, g_set4, m_at, m_set, m_atL, List.getElem?_cons_zero, List.getElem?_cons_succ, List.set_cons_zero, List.set_cons_succ, List.length_cons, List.length_nil, slots_cons, slots_nil, List.cons_append, List.nil_append, List.replicate_succ, List.replicate_zero, Nat.reduceAdd, Nat.reduceSub, Nat.reduceEqDiff, Nat.reduceLeDiff, Bool.false_eq_true, wipeI, mem_len, mem_app, Bool.not_true, Bool.not_false, List.length_append, Nat.add_assoc, List.append_assoc]
  refine pick_wp g1 (by decide) fun s2 k2 g2 hk2 => ?_
  simp only [kLcC_eq, kLcE_eq, kLcT_t, kLcT_f, Int.zero_add, List.length_map, List.length_range, List.length_replicate, mulWF_w, divWF_w, shlF_w, shrF_w, bandF_ii, divmodF_w, dec_selfI, dec_selfS, wp_ok, wp_nox, kVar_eq, wVar, wC, kBin2_eq, kBin_eq, wBin, kUn_eq, wUn, kC2_eq, kC_eq, wCons, wNil, kArg_eq, wArg, kFArg_eq, wFArg, kFl_eq, wFlv, kAl_eq, wAl, wLst, kLst0, kLst1, kLst2, kLst3, kLst4, kLst5, kLst6, wTupv, kTup0, kTup1, kTup2, kTup3, kTup4, kTup5, kTup6, kTst_eq, wTst, kAnd_t, kAnd_f, wAnd, kOr_t, kOr_f, wOr, kNot_eq, wNot, wYes, kIfE_t, kIfE_f, wIfE, kAndV_t, kAndV_f, wAndV, kOrV_f, kOrV_t, wOrV, kNotV_eq, wNotV, kChn4_eq, kChn_t, kChn_f, kChn2_eq, kChn1_eq, wChn, kSeq_t, kSeq_l, kSeq_z, wSeqv, kEnum_t, kEnum_l, wEnumv, kZip_t, kZip_l, wZipv, kRng1_eq, wRng1v, kRng2_eq, wRng2v, kRgL1_eq, wRgL1, kRgL2_eq, kRgL2, wRgL2, onIO_l, onL_fl, onL_loc, onSeq_t, onSeq_fl, onSeq_fz, onSeq_loc, onLsq_fl, onLsq_fz, onLsq_loc, kRep_eq, kRep2_eq, wRep, woNone, kOSome_eq, woSome, kCut3_eq, kCut2_eq, kCut_eq, wCut, cutF_t, cutF_l, cutF_p, kRev_eq, wRev, lenF_t, lenF_l, lenF_z, lenF_p, tupleF_t, tupleF_l, tupleF_p, listF_t, listF_l, listF_z, listF_p, kOpt_eq, ixF_t, ixF_l, ixF_z, ixF_p, atI_0, atI_1, atI_2, atI_3, mulF_w, divF_w, modF_w, powF_w, addF_ii, addF_tt, addF_ll, addF_pl, subF_ii, ltF_ii, leF_ii, gtF_ii, geF_ii, eqF_ii, neF_ii, eqF_ss, neF_ss, negF_i, absF_i, maxF_ii, minF_ii, toIntF_i, toIntF_b, isN_n, isN_i, isN_t, notN_n, notN_i, notN_t, isN_g, notN_g, sumF_l, isi_i, isi_b, isi_t, isi_n, isi_s, kML0_eq, kML_l, kML_p, wML, appF_p, popF_p, kN_eq, putF_p, getF_p, wNx, wBk, wCt, kS_nx, kS_bk, kS_ct, kS_rt, wSeqS, kRet_eq, wRet, kExp_eq, wExp, kIf_t, kIf_f, wIf, kTg_eq, kAsg_eq, wAsg, tgN_eq, shN_eq, sh2_eq, sh3_eq, sh12_eq, sh21_eq, kAug2_eq, kAug1_eq, kAug_eq, wAug, addI_ii, kPut4_eq, kPut3_eq, kPut2_eq, kPut1_eq, wPut, kAL5_eq, kAL4_eq, kAL3_eq, kAL2_eq, kAL1_eq, wAugL, kPar_eq, wPar, kPar3_eq, wPar3, kFor_eq, wFor, kLoop_nx, kLoop_ct, kLoop_bk, kLoop_rt, kTgt_eq, kWh_t, kWh_f, kLc_eq, wLc, kIs_eq, kIsV_eq, kFn_nx, kFn_rt, g_at0, g_at1, g_at2, g_at3, g_at4, g_set0, g_set1, g_set2, g_set3, g_set4, m_at, m_set, m_atL, List.getElem?_cons_zero, List.getElem?_cons_succ, List.set_cons_zero, List.set_cons_succ, List.length_cons, List.length_nil, slots_cons, slots_nil, List.cons_append, List.nil_append, List.replicate_succ, List.replicate_zero, Nat.reduceAdd, Nat.reduceSub, Nat.reduceEqDiff, Nat.reduceLeDiff, Bool.false_eq_true, wipeI, mem_len, mem_app, Bool.not_true, Bool.not_false, List.length_append, Nat.add_assoc, List.append_assoc]
  refine ⟨⟨by omega, by omega⟩, ?_⟩
  refine lw_draw (fun rest out h => ∃ (s : Src) (ws : List Int), s.Good ∧ (∀ w ∈ ws, 1 ≤ w ∧ w ≤ 1000) ∧ out = ws.map .int ∧ ws.length + rest.length = 1 + k1 ∧ h = mem s R) (by rw [rgI_len]; omega) ⟨s2, [], g2, by simp, rfl, by rw [rgI_len]; simp; omega, rfl⟩ ?_ ?_
  · rintro v rest out h ⟨s, ws, g, hw, rfl, hl, rfl⟩
    obtain ⟨m, hm, hm2⟩ : ∃ m : Int, atI [IV.int 1, .int 4, .int 1000] ((k2 : Nat) : Int) = some (.int m) ∧ 1 ≤ m ∧ m ≤ 1000 := by
      have h3 : k2 = 0 ∨ k2 = 1 ∨ k2 = 2 := by omega
      rcases h3 with rfl | rfl | rfl
      · exact ⟨1, atI_nat rfl, by decide⟩
      · exact ⟨4, atI_nat rfl, by decide⟩
      · exact ⟨1000, atI_nat rfl, by decide⟩
    simp only [kLcC_eq, kLcE_eq, kLcT_t, kLcT_f, Int.zero_add, List.length_map, List.length_range, List.length_replicate, mulWF_w, divWF_w, shlF_w, shrF_w, bandF_ii, divmodF_w, dec_selfI, dec_selfS, wp_ok, wp_nox, kVar_eq, wVar, wC, kBin2_eq, kBin_eq, wBin, kUn_eq, wUn, kC2_eq, kC_eq, wCons, wNil, kArg_eq, wArg, kFArg_eq, wFArg, kFl_eq, wFlv, kAl_eq, wAl, wLst, kLst0, kLst1, kLst2, kLst3, kLst4, kLst5, kLst6, wTupv, kTup0, kTup1, kTup2, kTup3, kTup4, kTup5, kTup6, kTst_eq, wTst, kAnd_t, kAnd_f, wAnd, kOr_t, kOr_f, wOr, kNot_eq, wNot, wYes, kIfE_t, kIfE_f, wIfE, kAndV_t, kAndV_f, wAndV, kOrV_f, kOrV_t, wOrV, kNotV_eq, wNotV, kChn4_eq, kChn_t, kChn_f, kChn2_eq, kChn1_eq, wChn, kSeq_t, kSeq_l, kSeq_z, wSeqv, kEnum_t, kEnum_l, wEnumv, kZip_t, kZip_l, wZipv, kRng1_eq, wRng1v, kRng2_eq, wRng2v, kRgL1_eq, wRgL1, kRgL2_eq, kRgL2, wRgL2, onIO_l, onL_fl, onL_loc, onSeq_t, onSeq_fl, onSeq_fz, onSeq_loc, onLsq_fl, onLsq_fz, onLsq_loc, kRep_eq, kRep2_eq, wRep, woNone, kOSome_eq, woSome, kCut3_eq, kCut2_eq, kCut_eq, wCut, cutF_t, cutF_l, cutF_p, kRev_eq, wRev, lenF_t, lenF_l, lenF_z, lenF_p, tupleF_t, tupleF_l, tupleF_p, listF_t, listF_l, listF_z, listF_p, kOpt_eq, ixF_t, ixF_l, ixF_z, ixF_p, atI_0, atI_1, atI_2, atI_3, mulF_w, divF_w, modF_w, powF_w, addF_ii, addF_tt, addF_ll, addF_pl, subF_ii, ltF_ii, leF_ii, gtF_ii, geF_ii, eqF_ii, neF_ii, eqF_ss, neF_ss, negF_i, absF_i, maxF_ii, minF_ii, toIntF_i, toIntF_b, isN_n, isN_i, isN_t, notN_n, notN_i, notN_t, isN_g, notN_g, sumF_l, isi_i, isi_b, isi_t, isi_n, isi_s, kML0_eq, kML_l, kML_p, wML, appF_p, popF_p, kN_eq, putF_p, getF_p, wNx, wBk, wCt, kS_nx, kS_bk, kS_ct, kS_rt, wSeqS, kRet_eq, wRet, kExp_eq, wExp, kIf_t, kIf_f, wIf, kTg_eq, kAsg_eq, wAsg, tgN_eq, shN_eq, sh2_eq, sh3_eq, sh12_eq, sh21_eq, kAug2_eq, kAug1_eq, kAug_eq, wAug, addI_ii, kPut4_eq, kPut3_eq, kPut2_eq, kPut1_eq, wPut, kAL5_eq, kAL4_eq, kAL3_eq, kAL2_eq, kAL1_eq, wAugL, kPar_eq, wPar, kPar3_eq, wPar3, kFor_eq, wFor, kLoop_nx, kLoop_ct, kLoop_bk, kLoop_rt, kTgt_eq, kWh_t, kWh_f, kLc_eq, wLc, kIs_eq, kIsV_eq, kFn_nx, kFn_rt, g_at0, g_at1, g_at2, g_at3, g_at4, g_set0, g_set1, g_set2, g_set3, g_set4, m_at, m_set, m_atL, List.getElem?_cons_zero, List.getElem?_cons_succ, List.set_cons_zero, List.set_cons_succ, List.length_cons, List.length_nil, slots_cons, slots_nil, List.cons_append, List.nil_append, List.replicate_succ, List.replicate_zero, Nat.reduceAdd, Nat.reduceSub, Nat.reduceEqDiff, Nat.reduceLeDiff, Bool.false_eq_true, wipeI, mem_len, mem_app, Bool.not_true, Bool.not_false, List.length_append, Nat.add_assoc, List.append_assoc, hm]
    refine pick_wp g (by omega) fun s3 k3 g3 hk3 => ?_
    simp only [kLcC_eq, kLcE_eq, kLcT_t, kLcT_f, Int.zero_add, List.length_map, List.length_range, List.length_replicate, mulWF_w, divWF_w, shlF_w, shrF_w, bandF_ii, divmodF_w, dec_selfI, dec_selfS, wp_ok, wp_nox, kVar_eq, wVar, wC, kBin2_eq, kBin_eq, wBin, kUn_eq, wUn, kC2_eq, kC_eq, wCons, wNil, kArg_eq, wArg, kFArg_eq, wFArg, kFl_eq, wFlv, kAl_eq, wAl, wLst, kLst0, kLst1, kLst2, kLst3, kLst4, kLst5, kLst6, wTupv, kTup0, kTup1, kTup2, kTup3, kTup4, kTup5, kTup6, kTst_eq, wTst, kAnd_t, kAnd_f, wAnd, kOr_t, kOr_f, wOr, kNot_eq, wNot, wYes, kIfE_t, kIfE_f, wIfE, kAndV_t, kAndV_f, wAndV, kOrV_f, kOrV_t, wOrV, kNotV_eq, wNotV, kChn4_eq, kChn_t, kChn_f, kChn2_eq, kChn1_eq, wChn, kSeq_t, kSeq_l, kSeq_z, wSeqv, kEnum_t, kEnum_l, wEnumv, kZip_t, kZip_l, wZipv, kRng1_eq, wRng1v, kRng2_eq, wRng2v, kRgL1_eq, wRgL1, kRgL2_eq, kRgL2, wRgL2, onIO_l, onL_fl, onL_loc, onSeq_t, onSeq_fl, onSeq_fz, onSeq_loc, onLsq_fl, onLsq_fz, onLsq_loc, kRep_eq, kRep2_eq, wRep, woNone, kOSome_eq, woSome, kCut3_eq, kCut2_eq, kCut_eq, wCut, cutF_t, cutF_l, cutF_p, kRev_eq, wRev, lenF_t, lenF_l, lenF_z, lenF_p, tupleF_t, tupleF_l, tupleF_p, listF_t, listF_l, listF_z, listF_p, kOpt_eq, ixF_t, ixF_l, ixF_z, ixF_p, atI_0, atI_1, atI_2, atI_3, mulF_w, divF_w, modF_w, powF_w, addF_ii, addF_tt, addF_ll, addF_pl, subF_ii, ltF_ii, leF_ii, gtF_ii, geF_ii, eqF_ii, neF_ii, eqF_ss, neF_ss, negF_i, absF_i, maxF_ii, minF_ii, toIntF_i, toIntF_b, isN_n, isN_i, isN_t, notN_n, notN_i, notN_t, isN_g, notN_g, sumF_l, isi_i, isi_b, isi_t, isi_n, isi_s, kML0_eq, kML_l, kML_p, wML, appF_p, popF_p, kN_eq, putF_p, getF_p, wNx, wBk, wCt, kS_nx, kS_bk, kS_ct, kS_rt, wSeqS, kRet_eq, wRet, kExp_eq, wExp, kIf_t, kIf_f, wIf, kTg_eq, kAsg_eq, wAsg, tgN_eq, shN_eq, sh2_eq, sh3_eq, sh12_eq, sh21_eq, kAug2_eq, kAug1_eq, kAug_eq, wAug, addI_ii, kPut4_eq, kPut3_eq, kPut2_eq, kPut1_eq, wPut, kAL5_eq, kAL4_eq, kAL3_eq, kAL2_eq, kAL1_eq, wAugL, kPar_eq, wPar, kPar3_eq, wPar3, kFor_eq, wFor, kLoop_nx, kLoop_ct, kLoop_bk, kLoop_rt, kTgt_eq, kWh_t, kWh_f, kLc_eq, wLc, kIs_eq, kIsV_eq, kFn_nx, kFn_rt, g_at0, g_at1, g_at2, g_at3, g_at4, g_set0, g_set1, g_set2, g_set3, g_set4, m_at, m_set, m_atL, List.getElem?_cons_zero, List.getElem?_cons_succ, List.set_cons_zero, List.set_cons_succ, List.length_cons, List.length_nil, slots_cons, slots_nil, List.cons_append, List.nil_append, List.replicate_succ, List.replicate_zero, Nat.reduceAdd, Nat.reduceSub, Nat.reduceEqDiff, Nat.reduceLeDiff, Bool.false_eq_true, wipeI, mem_len, mem_app, Bool.not_true, Bool.not_false, List.length_append, Nat.add_assoc, List.append_assoc]
    refine ⟨s3, ws ++ [1 + (k3 : Int)], g3, fun w hw' => ?_, by rw [List.map_append]; rfl, by simp at hl ⊢; omega, rfl⟩
    rcases List.mem_append.mp hw' with h1 | h1
    · exact hw w h1
    · rw [List.mem_singleton.mp h1]; omega
  · rintro ys h ⟨s, ws, g, hw, rfl, hl, rfl⟩
    simp only [kLcC_eq, kLcE_eq, kLcT_t, kLcT_f, Int.zero_add, List.length_map, List.length_range, List.length_replicate, mulWF_w, divWF_w, shlF_w, shrF_w, bandF_ii, divmodF_w, dec_selfI, dec_selfS, wp_ok, wp_nox, kVar_eq, wVar, wC, kBin2_eq, kBin_eq, wBin, kUn_eq, wUn, kC2_eq, kC_eq, wCons, wNil, kArg_eq, wArg, kFArg_eq, wFArg, kFl_eq, wFlv, kAl_eq, wAl, wLst, kLst0, kLst1, kLst2, kLst3, kLst4, kLst5, kLst6, wTupv, kTup0, kTup1, kTup2, kTup3, kTup4, kTup5, kTup6, kTst_eq, wTst, kAnd_t, kAnd_f, wAnd, kOr_t, kOr_f, wOr, kNot_eq, wNot, wYes, kIfE_t, kIfE_f, wIfE, kAndV_t, kAndV_f, wAndV, kOrV_f, kOrV_t, wOrV, kNotV_eq, wNotV, kChn4_eq, kChn_t, kChn_f, kChn2_eq, kChn1_eq, wChn, kSeq_t, kSeq_l, kSeq_z, wSeqv, kEnum_t, kEnum_l, wEnumv, kZip_t, kZip_l, wZipv, kRng1_eq, wRng1v, kRng2_eq, wRng2v, kRgL1_eq, wRgL1, kRgL2_eq, kRgL2, wRgL2, onIO_l, onL_fl, onL_loc, onSeq_t, onSeq_fl, onSeq_fz, onSeq_loc, onLsq_fl, onLsq_fz, onLsq_loc, kRep_eq, kRep2_eq, wRep, woNone, kOSome_eq, woSome, kCut3_eq, kCut2_eq, kCut_eq, wCut, cutF_t, cutF_l, cutF_p, kRev_eq, wRev, lenF_t, lenF_l, lenF_z, lenF_p, tupleF_t, tupleF_l, tupleF_p, listF_t, listF_l, listF_z, listF_p, kOpt_eq, ixF_t, ixF_l, ixF_z, ixF_p, atI_0, atI_1, atI_2, atI_3, mulF_w, divF_w, modF_w, powF_w, addF_ii, addF_tt, addF_ll, addF_pl, subF_ii, ltF_ii, leF_ii, gtF_ii, geF_ii, eqF_ii, neF_ii, eqF_ss, neF_ss, negF_i, absF_i, maxF_ii, minF_ii, toIntF_i, toIntF_b, isN_n, isN_i, isN_t, notN_n, notN_i, notN_t, isN_g, notN_g, sumF_l, isi_i, isi_b, isi_t, isi_n, isi_s, kML0_eq, kML_l, kML_p, wML, appF_p, popF_p, kN_eq, putF_p, getF_p, wNx, wBk, wCt, kS_nx, kS_bk, kS_ct, kS_rt, wSeqS, kRet_eq, wRet, kExp_eq, wExp, kIf_t, kIf_f, wIf, kTg_eq, kAsg_eq, wAsg, tgN_eq, shN_eq, sh2_eq, sh3_eq, sh12_eq, sh21_eq, kAug2_eq, kAug1_eq, kAug_eq, wAug, addI_ii, kPut4_eq, kPut3_eq, kPut2_eq, kPut1_eq, wPut, kAL5_eq, kAL4_eq, kAL3_eq, kAL2_eq, kAL1_eq, wAugL, kPar_eq, wPar, kPar3_eq, wPar3, kFor_eq, wFor, kLoop_nx, kLoop_ct, kLoop_bk, kLoop_rt, kTgt_eq, kWh_t, kWh_f, kLc_eq, wLc, kIs_eq, kIsV_eq, kFn_nx, kFn_rt, g_at0, g_at1, g_at2, g_at3, g_at4, g_set0, g_set1, g_set2, g_set3, g_set4, m_at, m_set, m_atL, List.getElem?_cons_zero, List.getElem?_cons_succ, List.set_cons_zero, List.set_cons_succ, List.length_cons, List.length_nil, slots_cons, slots_nil, List.cons_append, List.nil_append, List.replicate_succ, List.replicate_zero, Nat.reduceAdd, Nat.reduceSub, Nat.reduceEqDiff, Nat.reduceLeDiff, Bool.false_eq_true, wipeI, mem_len, mem_app, Bool.not_true, Bool.not_false, List.length_append, Nat.add_assoc, List.append_assoc]
    refine pick_wp g (by omega) fun s3 k3 g3 hk3 => ?_
    simp only [kLcC_eq, kLcE_eq, kLcT_t, kLcT_f, Int.zero_add, List.length_map, List.length_range, List.length_replicate, mulWF_w, divWF_w, shlF_w, shrF_w, bandF_ii, divmodF_w, dec_selfI, dec_selfS, wp_ok, wp_nox, kVar_eq, wVar, wC, kBin2_eq, kBin_eq, wBin, kUn_eq, wUn, kC2_eq, kC_eq, wCons, wNil, kArg_eq, wArg, kFArg_eq, wFArg, kFl_eq, wFlv, kAl_eq, wAl, wLst, kLst0, kLst1, kLst2, kLst3, kLst4, kLst5, kLst6, wTupv, kTup0, kTup1, kTup2, kTup3, kTup4, kTup5, kTup6, kTst_eq, wTst, kAnd_t, kAnd_f, wAnd, kOr_t, kOr_f, wOr, kNot_eq, wNot, wYes, kIfE_t, kIfE_f, wIfE, kAndV_t, kAndV_f, wAndV, kOrV_f, kOrV_t, wOrV, kNotV_eq, wNotV, kChn4_eq, kChn_t, kChn_f, kChn2_eq, kChn1_eq, wChn, kSeq_t, kSeq_l, kSeq_z, wSeqv, kEnum_t, kEnum_l, wEnumv, kZip_t, kZip_l, wZipv, kRng1_eq, wRng1v, kRng2_eq, wRng2v, kRgL1_eq, wRgL1, kRgL2_eq, kRgL2, wRgL2, onIO_l, onL_fl, onL_loc, onSeq_t, onSeq_fl, onSeq_fz, onSeq_loc, onLsq_fl, onLsq_fz, onLsq_loc, kRep_eq, kRep2_eq, wRep, woNone, kOSome_eq, woSome, kCut3_eq, kCut2_eq, kCut_eq, wCut, cutF_t, cutF_l, cutF_p, kRev_eq, wRev, lenF_t, lenF_l, lenF_z, lenF_p, tupleF_t, tupleF_l, tupleF_p, listF_t, listF_l, listF_z, listF_p, kOpt_eq, ixF_t, ixF_l, ixF_z, ixF_p, atI_0, atI_1, atI_2, atI_3, mulF_w, divF_w, modF_w, powF_w, addF_ii, addF_tt, addF_ll, addF_pl, subF_ii, ltF_ii, leF_ii, gtF_ii, geF_ii, eqF_ii, neF_ii, eqF_ss, neF_ss, negF_i, absF_i, maxF_ii, minF_ii, toIntF_i, toIntF_b, isN_n, isN_i, isN_t, notN_n, notN_i, notN_t, isN_g, notN_g, sumF_l, isi_i, isi_b, isi_t, isi_n, isi_s, kML0_eq, kML_l, kML_p, wML, appF_p, popF_p, kN_eq, putF_p, getF_p, wNx, wBk, wCt, kS_nx, kS_bk, kS_ct, kS_rt, wSeqS, kRet_eq, wRet, kExp_eq, wExp, kIf_t, kIf_f, wIf, kTg_eq, kAsg_eq, wAsg, tgN_eq, shN_eq, sh2_eq, sh3_eq, sh12_eq, sh21_eq, kAug2_eq, kAug1_eq, kAug_eq, wAug, addI_ii, kPut4_eq, kPut3_eq, kPut2_eq, kPut1_eq, wPut, kAL5_eq, kAL4_eq, kAL3_eq, kAL2_eq, kAL1_eq, wAugL, kPar_eq, wPar, kPar3_eq, wPar3, kFor_eq, wFor, kLoop_nx, kLoop_ct, kLoop_bk, kLoop_rt, kTgt_eq, kWh_t, kWh_f, kLc_eq, wLc, kIs_eq, kIsV_eq, kFn_nx, kFn_rt, g_at0, g_at1, g_at2, g_at3, g_at4, g_set0, g_set1, g_set2, g_set3, g_set4, m_at, m_set, m_atL, List.getElem?_cons_zero, List.getElem?_cons_succ, List.set_cons_zero, List.set_cons_succ, List.length_cons, List.length_nil, slots_cons, slots_nil, List.cons_append, List.nil_append, List.replicate_succ, List.replicate_zero, Nat.reduceAdd, Nat.reduceSub, Nat.reduceEqDiff, Nat.reduceLeDiff, Bool.false_eq_true, wipeI, mem_len, mem_app, Bool.not_true, Bool.not_false, List.length_append, Nat.add_assoc, List.append_assoc]
    have := q s3 R (1 + k3) ws g3 ⟨by omega, by omega⟩ ⟨by simp at hl; omega, by simp at hl; omega⟩ hw
    rw [show (1 : Int) + (k3 : Int) = ((1 + k3 : Nat) : Int) by omega]
    exact this
theorem sz_told {h : Mem} {xs : List Int} (hx : ∀ i ∈ xs, i.natAbs < 10 ^ 58) (hl : xs.length ≤ 100) : Sb h (.fl (xs.map .int)) (.list (xs.map .int)) 2 30000 := by
  refine (Sb.fl (SbL.map fun i hi => Sb.int (hx i hi))).mono (by decide) ?_
  omega
def told (c : Nat) : List Int := (List.range (c + 1)).map (ri c)
theorem told_at {c l : Nat} (hl : l ≤ c) : (told c)[l]? = some (ri c l) := by
  unfold told
  rw [List.getElem?_map, List.getElem?_range (by omega)]
  rfl
theorem told_last (c : Nat) : atI ((told c).map IV.int) (-1) = some (.int (ri c c)) := by
  unfold told
  rw [List.range_succ, List.map_append, List.map_cons, List.map_nil]
  exact atI_lastI
theorem told_bd {c : Nat} (hc : c ≤ 30) : ∀ i ∈ told c, i.natAbs < 10 ^ 58 := fun i hi => by
  obtain ⟨l, hl, rfl⟩ := List.mem_map.mp hi
  have hl' := List.mem_range.mp hl
  have h1 := ri_le (c := c) (l := l) (by omega) hc
  have h2 := ri_nn (c := c) (l := l) (by omega)
  have h3 : (10 : Int) ^ 46 < ((10 ^ 58 : Nat) : Int) := by decide +kernel
  omega
theorem whole_bd {c : Nat} (hc : c ≤ 30) : (((c : Int) + 1) ^ c).natAbs < 10 ^ 58 := by
  have e : ((c : Int) + 1) ^ c = (((c + 1) ^ c : Nat) : Int) := by rw [Int.natCast_pow]; rfl
  rw [e, Int.natAbs_natCast]
  have : (c + 1) ^ c ≤ 31 ^ 30 := Nat.le_trans (Nat.pow_le_pow_left (by omega : c + 1 ≤ 31) c) (Nat.pow_le_pow_right (by decide) hc)
  exact Nat.lt_of_le_of_lt this (by decide +kernel)
end Vi_k31
end

section
namespace Vi_k31
open PySem PySem.Spec PyProof.Rows L2 VI
theorem log_bd {n : Nat} (h : n < 10 ^ 58) : n.log2 ≤ 1000 := by
  by_cases z : n = 0
  · rw [z]; decide
  · have := (Nat.log2_lt (k := 199) z).mpr (Nat.lt_trans h (by decide +kernel))
    omega
theorem due_iff {c l : Nat} {w : Int} (hl : l ≤ c) (hw : 1 ≤ w) : decide (w * (ri c c - ri c l) = 0) = decide (((l : Nat) : Int) = ((c : Nat) : Int)) := by
  by_cases e : l = c
  · subst e
    rw [Int.sub_self, Int.mul_zero]
    simp
  · have h1 := ri_lt (c := c) (l := l) (by omega)
    have h2 := Int.mul_pos (show (0 : Int) < w by omega) (show 0 < ri c c - ri c l by omega)
    rw [decide_eq_false (by omega), decide_eq_false (by omega)]
theorem due_bd {c l : Nat} {w : Int} (hc : c ≤ 30) (hl : l ≤ c) (hw : 1 ≤ w ∧ w ≤ 1000) : (w * (ri c c - ri c l)).natAbs < 10 ^ 58 := by
  have h1 := ri_le (c := c) (l := c) (by omega) hc
  have h2 := ri_nn (c := c) (l := l) hl
  have h3 : ri c l ≤ ri c c := by
    by_cases e : l = c
    · rw [e]; exact Int.le_refl _
    · exact Int.le_of_lt (ri_lt (by omega))
  have h4 : w * (ri c c - ri c l) ≤ 1000 * 10 ^ 46 := Int.mul_le_mul hw.2 (by omega) (by omega) (by decide)
  have h5 : 0 ≤ w * (ri c c - ri c l) := Int.mul_nonneg (by omega) (by omega)
  have h6 : (1000 * 10 ^ 46 : Int) < ((10 ^ 58 : Nat) : Int) := by decide +kernel
  omega
theorem ri_nat (c : Nat) : ri c c = (((c + 1) ^ c - c ^ c : Nat) : Int) := by
  rw [ri_c]
  have h : c ^ c ≤ (c + 1) ^ c := Nat.pow_le_pow_left (by omega) c
  rw [Int.ofNat_sub h, Int.natCast_pow, Int.natCast_pow]
  rfl
theorem wh_nat (c : Nat) : ((c : Int) + 1) ^ c = (((c + 1) ^ c : Nat) : Int) := by rw [Int.natCast_pow]; rfl
theorem law_true (ns : List Int) (hn : ns.length ≤ 63) : ∃ h, fn_law [.fz (ns.map .int)] [] = .ok (.bl true) h := by
  suffices w : (fn_law [.fz (ns.map .int)] []).wp fun v _ => v = .bl true by
    obtain ⟨v, h, e, q⟩ := wp_ex w
    exact ⟨h, by rw [e, q]⟩
  unfold fn_law
  refine wFn rfl ?_
  unfold d_law
  generalize eX : IV.fz (ns.map .int) = X
  simp only [kLcC_eq, kLcE_eq, kLcT_t, kLcT_f, Int.zero_add, List.length_map, List.length_range, List.length_replicate, mulWF_w, divWF_w, shlF_w, shrF_w, bandF_ii, divmodF_w, dec_selfI, dec_selfS, wp_ok, wp_nox, kVar_eq, wVar, wC, kBin2_eq, kBin_eq, wBin, kUn_eq, wUn, kC2_eq, kC_eq, wCons, wNil, kArg_eq, wArg, kFArg_eq, wFArg, kFl_eq, wFlv, kAl_eq, wAl, wLst, kLst0, kLst1, kLst2, kLst3, kLst4, kLst5, kLst6, wTupv, kTup0, kTup1, kTup2, kTup3, kTup4, kTup5, kTup6, kTst_eq, wTst, kAnd_t, kAnd_f, wAnd, kOr_t, kOr_f, wOr, kNot_eq, wNot, wYes, kIfE_t, kIfE_f, wIfE, kAndV_t, kAndV_f, wAndV, kOrV_f, kOrV_t, wOrV, kNotV_eq, wNotV, kChn4_eq, kChn_t, kChn_f, kChn2_eq, kChn1_eq, wChn, kSeq_t, kSeq_l, kSeq_z, wSeqv, kEnum_t, kEnum_l, wEnumv, kZip_t, kZip_l, wZipv, kRng1_eq, wRng1v, kRng2_eq, wRng2v, kRgL1_eq, wRgL1, kRgL2_eq, kRgL2, wRgL2, onIO_l, onL_fl, onL_loc, onSeq_t, onSeq_fl, onSeq_fz, onSeq_loc, onLsq_fl, onLsq_fz, onLsq_loc, kRep_eq, kRep2_eq, wRep, woNone, kOSome_eq, woSome, kCut3_eq, kCut2_eq, kCut_eq, wCut, cutF_t, cutF_l, cutF_p, kRev_eq, wRev, lenF_t, lenF_l, lenF_z, lenF_p, tupleF_t, tupleF_l, tupleF_p, listF_t, listF_l, listF_z, listF_p, kOpt_eq, ixF_t, ixF_l, ixF_z, ixF_p, atI_0, atI_1, atI_2, atI_3, mulF_w, divF_w, modF_w, powF_w, addF_ii, addF_tt, addF_ll, addF_pl, subF_ii, ltF_ii, leF_ii, gtF_ii, geF_ii, eqF_ii, neF_ii, eqF_ss, neF_ss, negF_i, absF_i, maxF_ii, minF_ii, toIntF_i, toIntF_b, isN_n, isN_i, isN_t, notN_n, notN_i, notN_t, isN_g, notN_g, sumF_l, isi_i, isi_b, isi_t, isi_n, isi_s, kML0_eq, kML_l, kML_p, wML, appF_p, popF_p, kN_eq, putF_p, getF_p, wNx, wBk, wCt, kS_nx, kS_bk, kS_ct, kS_rt, wSeqS, kRet_eq, wRet, kExp_eq, wExp, kIf_t, kIf_f, wIf, kTg_eq, kAsg_eq, wAsg, tgN_eq, shN_eq, sh2_eq, sh3_eq, sh12_eq, sh21_eq, kAug2_eq, kAug1_eq, kAug_eq, wAug, addI_ii, kPut4_eq, kPut3_eq, kPut2_eq, kPut1_eq, wPut, kAL5_eq, kAL4_eq, kAL3_eq, kAL2_eq, kAL1_eq, wAugL, kPar_eq, wPar, kPar3_eq, wPar3, kFor_eq, wFor, kLoop_nx, kLoop_ct, kLoop_bk, kLoop_rt, kTgt_eq, kWh_t, kWh_f, kLc_eq, wLc, kIs_eq, kIsV_eq, kFn_nx, kFn_rt, g_at0, g_at1, g_at2, g_at3, g_at4, g_set0, g_set1, g_set2, g_set3, g_set4, m_at, m_set, m_atL, List.getElem?_cons_zero, List.getElem?_cons_succ, List.set_cons_zero, List.set_cons_succ, List.length_cons, List.length_nil, slots_cons, slots_nil, List.cons_append, List.nil_append, List.replicate_succ, List.replicate_zero, Nat.reduceAdd, Nat.reduceSub, Nat.reduceEqDiff, if_true, if_false, Nat.reduceLeDiff, cond_true, cond_false, Bool.false_eq_true, wipeI, mem_len, mem_app, Bool.not_true, Bool.not_false, decide_true, decide_false, List.length_append, Nat.add_assoc, List.append_assoc]
  rw [← eX]
  refine source_wp hn fun s g => ?_
  rw [eX]
  simp only [kLcC_eq, kLcE_eq, kLcT_t, kLcT_f, Int.zero_add, List.length_map, List.length_range, List.length_replicate, mulWF_w, divWF_w, shlF_w, shrF_w, bandF_ii, divmodF_w, dec_selfI, dec_selfS, wp_ok, wp_nox, kVar_eq, wVar, wC, kBin2_eq, kBin_eq, wBin, kUn_eq, wUn, kC2_eq, kC_eq, wCons, wNil, kArg_eq, wArg, kFArg_eq, wFArg, kFl_eq, wFlv, kAl_eq, wAl, wLst, kLst0, kLst1, kLst2, kLst3, kLst4, kLst5, kLst6, wTupv, kTup0, kTup1, kTup2, kTup3, kTup4, kTup5, kTup6, kTst_eq, wTst, kAnd_t, kAnd_f, wAnd, kOr_t, kOr_f, wOr, kNot_eq, wNot, wYes, kIfE_t, kIfE_f, wIfE, kAndV_t, kAndV_f, wAndV, kOrV_f, kOrV_t, wOrV, kNotV_eq, wNotV, kChn4_eq, kChn_t, kChn_f, kChn2_eq, kChn1_eq, wChn, kSeq_t, kSeq_l, kSeq_z, wSeqv, kEnum_t, kEnum_l, wEnumv, kZip_t, kZip_l, wZipv, kRng1_eq, wRng1v, kRng2_eq, wRng2v, kRgL1_eq, wRgL1, kRgL2_eq, kRgL2, wRgL2, onIO_l, onL_fl, onL_loc, onSeq_t, onSeq_fl, onSeq_fz, onSeq_loc, onLsq_fl, onLsq_fz, onLsq_loc, kRep_eq, kRep2_eq, wRep, woNone, kOSome_eq, woSome, kCut3_eq, kCut2_eq, kCut_eq, wCut, cutF_t, cutF_l, cutF_p, kRev_eq, wRev, lenF_t, lenF_l, lenF_z, lenF_p, tupleF_t, tupleF_l, tupleF_p, listF_t, listF_l, listF_z, listF_p, kOpt_eq, ixF_t, ixF_l, ixF_z, ixF_p, atI_0, atI_1, atI_2, atI_3, mulF_w, divF_w, modF_w, powF_w, addF_ii, addF_tt, addF_ll, addF_pl, subF_ii, ltF_ii, leF_ii, gtF_ii, geF_ii, eqF_ii, neF_ii, eqF_ss, neF_ss, negF_i, absF_i, maxF_ii, minF_ii, toIntF_i, toIntF_b, isN_n, isN_i, isN_t, notN_n, notN_i, notN_t, isN_g, notN_g, sumF_l, isi_i, isi_b, isi_t, isi_n, isi_s, kML0_eq, kML_l, kML_p, wML, appF_p, popF_p, kN_eq, putF_p, getF_p, wNx, wBk, wCt, kS_nx, kS_bk, kS_ct, kS_rt, wSeqS, kRet_eq, wRet, kExp_eq, wExp, kIf_t, kIf_f, wIf, kTg_eq, kAsg_eq, wAsg, tgN_eq, shN_eq, sh2_eq, sh3_eq, sh12_eq, sh21_eq, kAug2_eq, kAug1_eq, kAug_eq, wAug, addI_ii, kPut4_eq, kPut3_eq, kPut2_eq, kPut1_eq, wPut, kAL5_eq, kAL4_eq, kAL3_eq, kAL2_eq, kAL1_eq, wAugL, kPar_eq, wPar, kPar3_eq, wPar3, kFor_eq, wFor, kLoop_nx, kLoop_ct, kLoop_bk, kLoop_rt, kTgt_eq, kWh_t, kWh_f, kLc_eq, wLc, kIs_eq, kIsV_eq, kFn_nx, kFn_rt, g_at0, g_at1, g_at2, g_at3, g_at4, g_set0, g_set1, g_set2, g_set3, g_set4, m_at, m_set, m_atL, List.getElem?_cons_zero, List.getElem?_cons_succ, List.set_cons_zero, List.set_cons_succ, List.length_cons, List.length_nil, slots_cons, slots_nil, List.cons_append, List.nil_append, List.replicate_succ, List.replicate_zero, Nat.reduceAdd, Nat.reduceSub, Nat.reduceEqDiff, if_true, if_false, Nat.reduceLeDiff, cond_true, cond_false, Bool.false_eq_true, wipeI, mem_len, mem_app, Bool.not_true, Bool.not_false, decide_true, decide_false, List.length_append, Nat.add_assoc, List.append_assoc]
  refine ⟨⟨by omega, by omega⟩, ?_⟩
  refine for_rg (fun k ρ h => ∃ (s : Src) (R : Mem) (a b c d e f i j t : Option IV), s.Good ∧ ρ = [some X, some (.loc 1), a, b, c, d, e, f, i, j, t] ∧ h = mem s R) ⟨s, [], none, none, none, none, none, none, none, none, none, g, rfl, rfl⟩ ?_ ?_
  · rintro k hk ρ h ⟨s, R, a, b, c, d, e, f, i, j, t, g, rfl, rfl⟩
    simp only [kLcC_eq, kLcE_eq, kLcT_t, kLcT_f, Int.zero_add, List.length_map, List.length_range, List.length_replicate, mulWF_w, divWF_w, shlF_w, shrF_w, bandF_ii, divmodF_w, dec_selfI, dec_selfS, wp_ok, wp_nox, kVar_eq, wVar, wC, kBin2_eq, kBin_eq, wBin, kUn_eq, wUn, kC2_eq, kC_eq, wCons, wNil, kArg_eq, wArg, kFArg_eq, wFArg, kFl_eq, wFlv, kAl_eq, wAl, wLst, kLst0, kLst1, kLst2, kLst3, kLst4, kLst5, kLst6, wTupv, kTup0, kTup1, kTup2, kTup3, kTup4, kTup5, kTup6, kTst_eq, wTst, kAnd_t, kAnd_f, wAnd, kOr_t, kOr_f, wOr, kNot_eq, wNot, wYes, kIfE_t, kIfE_f, wIfE, kAndV_t, kAndV_f, wAndV, kOrV_f, kOrV_t, wOrV, kNotV_eq, wNotV, kChn4_eq, kChn_t, kChn_f, kChn2_eq, kChn1_eq, wChn, kSeq_t, kSeq_l, kSeq_z, wSeqv, kEnum_t, kEnum_l, wEnumv, kZip_t, kZip_l, wZipv, kRng1_eq, wRng1v, kRng2_eq, wRng2v, kRgL1_eq, wRgL1, kRgL2_eq, kRgL2, wRgL2, onIO_l, onL_fl, onL_loc, onSeq_t, onSeq_fl, onSeq_fz, onSeq_loc, onLsq_fl, onLsq_fz, onLsq_loc, kRep_eq, kRep2_eq, wRep, woNone, kOSome_eq, woSome, kCut3_eq, kCut2_eq, kCut_eq, wCut, cutF_t, cutF_l, cutF_p, kRev_eq, wRev, lenF_t, lenF_l, lenF_z, lenF_p, tupleF_t, tupleF_l, tupleF_p, listF_t, listF_l, listF_z, listF_p, kOpt_eq, ixF_t, ixF_l, ixF_z, ixF_p, atI_0, atI_1, atI_2, atI_3, mulF_w, divF_w, modF_w, powF_w, addF_ii, addF_tt, addF_ll, addF_pl, subF_ii, ltF_ii, leF_ii, gtF_ii, geF_ii, eqF_ii, neF_ii, eqF_ss, neF_ss, negF_i, absF_i, maxF_ii, minF_ii, toIntF_i, toIntF_b, isN_n, isN_i, isN_t, notN_n, notN_i, notN_t, isN_g, notN_g, sumF_l, isi_i, isi_b, isi_t, isi_n, isi_s, kML0_eq, kML_l, kML_p, wML, appF_p, popF_p, kN_eq, putF_p, getF_p, wNx, wBk, wCt, kS_nx, kS_bk, kS_ct, kS_rt, wSeqS, kRet_eq, wRet, kExp_eq, wExp, kIf_t, kIf_f, wIf, kTg_eq, kAsg_eq, wAsg, tgN_eq, shN_eq, sh2_eq, sh3_eq, sh12_eq, sh21_eq, kAug2_eq, kAug1_eq, kAug_eq, wAug, addI_ii, kPut4_eq, kPut3_eq, kPut2_eq, kPut1_eq, wPut, kAL5_eq, kAL4_eq, kAL3_eq, kAL2_eq, kAL1_eq, wAugL, kPar_eq, wPar, kPar3_eq, wPar3, kFor_eq, wFor, kLoop_nx, kLoop_ct, kLoop_bk, kLoop_rt, kTgt_eq, kWh_t, kWh_f, kLc_eq, wLc, kIs_eq, kIsV_eq, kFn_nx, kFn_rt, g_at0, g_at1, g_at2, g_at3, g_at4, g_set0, g_set1, g_set2, g_set3, g_set4, m_at, m_set, m_atL, List.getElem?_cons_zero, List.getElem?_cons_succ, List.set_cons_zero, List.set_cons_succ, List.length_cons, List.length_nil, slots_cons, slots_nil, List.cons_append, List.nil_append, List.replicate_succ, List.replicate_zero, Nat.reduceAdd, Nat.reduceSub, Nat.reduceEqDiff, if_true, if_false, Nat.reduceLeDiff, cond_true, cond_false, Bool.false_eq_true, wipeI, mem_len, mem_app, Bool.not_true, Bool.not_false, decide_true, decide_false, List.length_append, Nat.add_assoc, List.append_assoc]
    refine kIfE_join (fun v h => ∃ (c : Nat) (s1 : Src), s1.Good ∧ 1 ≤ c ∧ c ≤ 30 ∧ v = .int (c : Nat) ∧ h = mem s1 R) ?_ (fun hb => ?_) (fun hb => ?_)
    rotate_left
    · simp only [kLcC_eq, kLcE_eq, kLcT_t, kLcT_f, Int.zero_add, List.length_map, List.length_range, List.length_replicate, mulWF_w, divWF_w, shlF_w, shrF_w, bandF_ii, divmodF_w, dec_selfI, dec_selfS, wp_ok, wp_nox, kVar_eq, wVar, wC, kBin2_eq, kBin_eq, wBin, kUn_eq, wUn, kC2_eq, kC_eq, wCons, wNil, kArg_eq, wArg, kFArg_eq, wFArg, kFl_eq, wFlv, kAl_eq, wAl, wLst, kLst0, kLst1, kLst2, kLst3, kLst4, kLst5, kLst6, wTupv, kTup0, kTup1, kTup2, kTup3, kTup4, kTup5, kTup6, kTst_eq, wTst, kAnd_t, kAnd_f, wAnd, kOr_t, kOr_f, wOr, kNot_eq, wNot, wYes, kIfE_t, kIfE_f, wIfE, kAndV_t, kAndV_f, wAndV, kOrV_f, kOrV_t, wOrV, kNotV_eq, wNotV, kChn4_eq, kChn_t, kChn_f, kChn2_eq, kChn1_eq, wChn, kSeq_t, kSeq_l, kSeq_z, wSeqv, kEnum_t, kEnum_l, wEnumv, kZip_t, kZip_l, wZipv, kRng1_eq, wRng1v, kRng2_eq, wRng2v, kRgL1_eq, wRgL1, kRgL2_eq, kRgL2, wRgL2, onIO_l, onL_fl, onL_loc, onSeq_t, onSeq_fl, onSeq_fz, onSeq_loc, onLsq_fl, onLsq_fz, onLsq_loc, kRep_eq, kRep2_eq, wRep, woNone, kOSome_eq, woSome, kCut3_eq, kCut2_eq, kCut_eq, wCut, cutF_t, cutF_l, cutF_p, kRev_eq, wRev, lenF_t, lenF_l, lenF_z, lenF_p, tupleF_t, tupleF_l, tupleF_p, listF_t, listF_l, listF_z, listF_p, kOpt_eq, ixF_t, ixF_l, ixF_z, ixF_p, atI_0, atI_1, atI_2, atI_3, mulF_w, divF_w, modF_w, powF_w, addF_ii, addF_tt, addF_ll, addF_pl, subF_ii, ltF_ii, leF_ii, gtF_ii, geF_ii, eqF_ii, neF_ii, eqF_ss, neF_ss, negF_i, absF_i, maxF_ii, minF_ii, toIntF_i, toIntF_b, isN_n, isN_i, isN_t, notN_n, notN_i, notN_t, isN_g, notN_g, sumF_l, isi_i, isi_b, isi_t, isi_n, isi_s, kML0_eq, kML_l, kML_p, wML, appF_p, popF_p, kN_eq, putF_p, getF_p, wNx, wBk, wCt, kS_nx, kS_bk, kS_ct, kS_rt, wSeqS, kRet_eq, wRet, kExp_eq, wExp, kIf_t, kIf_f, wIf, kTg_eq, kAsg_eq, wAsg, tgN_eq, shN_eq, sh2_eq, sh3_eq, sh12_eq, sh21_eq, kAug2_eq, kAug1_eq, kAug_eq, wAug, addI_ii, kPut4_eq, kPut3_eq, kPut2_eq, kPut1_eq, wPut, kAL5_eq, kAL4_eq, kAL3_eq, kAL2_eq, kAL1_eq, wAugL, kPar_eq, wPar, kPar3_eq, wPar3, kFor_eq, wFor, kLoop_nx, kLoop_ct, kLoop_bk, kLoop_rt, kTgt_eq, kWh_t, kWh_f, kLc_eq, wLc, kIs_eq, kIsV_eq, kFn_nx, kFn_rt, g_at0, g_at1, g_at2, g_at3, g_at4, g_set0, g_set1, g_set2, g_set3, g_set4, m_at, m_set, m_atL, List.getElem?_cons_zero, List.getElem?_cons_succ, List.set_cons_zero, List.set_cons_succ, List.length_cons, List.length_nil, slots_cons, slots_nil, List.cons_append, List.nil_append, List.replicate_succ, List.replicate_zero, Nat.reduceAdd, Nat.reduceSub, Nat.reduceEqDiff, if_true, if_false, Nat.reduceLeDiff, cond_true, cond_false, Bool.false_eq_true, wipeI, mem_len, mem_app, Bool.not_true, Bool.not_false, decide_true, decide_false, List.length_append, Nat.add_assoc, List.append_assoc]
      refine pick_wp g (by decide) fun s1 k1 g1 hk1 => ?_
      simp only [kLcC_eq, kLcE_eq, kLcT_t, kLcT_f, Int.zero_add, List.length_map, List.length_range, List.length_replicate, mulWF_w, divWF_w, shlF_w, shrF_w, bandF_ii, divmodF_w, dec_selfI, dec_selfS, wp_ok, wp_nox, kVar_eq, wVar, wC, kBin2_eq, kBin_eq, wBin, kUn_eq, wUn, kC2_eq, kC_eq, wCons, wNil, kArg_eq, wArg, kFArg_eq, wFArg, kFl_eq, wFlv, kAl_eq, wAl, wLst, kLst0, kLst1, kLst2, kLst3, kLst4, kLst5, kLst6, wTupv, kTup0, kTup1, kTup2, kTup3, kTup4, kTup5, kTup6, kTst_eq, wTst, kAnd_t, kAnd_f, wAnd, kOr_t, kOr_f, wOr, kNot_eq, wNot, wYes, kIfE_t, kIfE_f, wIfE, kAndV_t, kAndV_f, wAndV, kOrV_f, kOrV_t, wOrV, kNotV_eq, wNotV, kChn4_eq, kChn_t, kChn_f, kChn2_eq, kChn1_eq, wChn, kSeq_t, kSeq_l, kSeq_z, wSeqv, kEnum_t, kEnum_l, wEnumv, kZip_t, kZip_l, wZipv, kRng1_eq, wRng1v, kRng2_eq, wRng2v, kRgL1_eq, wRgL1, kRgL2_eq, kRgL2, wRgL2, onIO_l, onL_fl, onL_loc, onSeq_t, onSeq_fl, onSeq_fz, onSeq_loc, onLsq_fl, onLsq_fz, onLsq_loc, kRep_eq, kRep2_eq, wRep, woNone, kOSome_eq, woSome, kCut3_eq, kCut2_eq, kCut_eq, wCut, cutF_t, cutF_l, cutF_p, kRev_eq, wRev, lenF_t, lenF_l, lenF_z, lenF_p, tupleF_t, tupleF_l, tupleF_p, listF_t, listF_l, listF_z, listF_p, kOpt_eq, ixF_t, ixF_l, ixF_z, ixF_p, atI_0, atI_1, atI_2, atI_3, mulF_w, divF_w, modF_w, powF_w, addF_ii, addF_tt, addF_ll, addF_pl, subF_ii, ltF_ii, leF_ii, gtF_ii, geF_ii, eqF_ii, neF_ii, eqF_ss, neF_ss, negF_i, absF_i, maxF_ii, minF_ii, toIntF_i, toIntF_b, isN_n, isN_i, isN_t, notN_n, notN_i, notN_t, isN_g, notN_g, sumF_l, isi_i, isi_b, isi_t, isi_n, isi_s, kML0_eq, kML_l, kML_p, wML, appF_p, popF_p, kN_eq, putF_p, getF_p, wNx, wBk, wCt, kS_nx, kS_bk, kS_ct, kS_rt, wSeqS, kRet_eq, wRet, kExp_eq, wExp, kIf_t, kIf_f, wIf, kTg_eq, kAsg_eq, wAsg, tgN_eq, shN_eq, sh2_eq, sh3_eq, sh12_eq, sh21_eq, kAug2_eq, kAug1_eq, kAug_eq, wAug, addI_ii, kPut4_eq, kPut3_eq, kPut2_eq, kPut1_eq, wPut, kAL5_eq, kAL4_eq, kAL3_eq, kAL2_eq, kAL1_eq, wAugL, kPar_eq, wPar, kPar3_eq, wPar3, kFor_eq, wFor, kLoop_nx, kLoop_ct, kLoop_bk, kLoop_rt, kTgt_eq, kWh_t, kWh_f, kLc_eq, wLc, kIs_eq, kIsV_eq, kFn_nx, kFn_rt, g_at0, g_at1, g_at2, g_at3, g_at4, g_set0, g_set1, g_set2, g_set3, g_set4, m_at, m_set, m_atL, List.getElem?_cons_zero, List.getElem?_cons_succ, List.set_cons_zero, List.set_cons_succ, List.length_cons, List.length_nil, slots_cons, slots_nil, List.cons_append, List.nil_append, List.replicate_succ, List.replicate_zero, Nat.reduceAdd, Nat.reduceSub, Nat.reduceEqDiff, if_true, if_false, Nat.reduceLeDiff, cond_true, cond_false, Bool.false_eq_true, wipeI, mem_len, mem_app, Bool.not_true, Bool.not_false, decide_true, decide_false, List.length_append, Nat.add_assoc, List.append_assoc]
      exact ⟨1 + k1, s1, g1, by omega, by omega, by congr 1, rfl⟩
    · simp only [kLcC_eq, kLcE_eq, kLcT_t, kLcT_f, Int.zero_add, List.length_map, List.length_range, List.length_replicate, mulWF_w, divWF_w, shlF_w, shrF_w, bandF_ii, divmodF_w, dec_selfI, dec_selfS, wp_ok, wp_nox, kVar_eq, wVar, wC, kBin2_eq, kBin_eq, wBin, kUn_eq, wUn, kC2_eq, kC_eq, wCons, wNil, kArg_eq, wArg, kFArg_eq, wFArg, kFl_eq, wFlv, kAl_eq, wAl, wLst, kLst0, kLst1, kLst2, kLst3, kLst4, kLst5, kLst6, wTupv, kTup0, kTup1, kTup2, kTup3, kTup4, kTup5, kTup6, kTst_eq, wTst, kAnd_t, kAnd_f, wAnd, kOr_t, kOr_f, wOr, kNot_eq, wNot, wYes, kIfE_t, kIfE_f, wIfE, kAndV_t, kAndV_f, wAndV, kOrV_f, kOrV_t, wOrV, kNotV_eq, wNotV, kChn4_eq, kChn_t, kChn_f, kChn2_eq, kChn1_eq, wChn, kSeq_t, kSeq_l, kSeq_z, wSeqv, kEnum_t, kEnum_l, wEnumv, kZip_t, kZip_l, wZipv, kRng1_eq, wRng1v, kRng2_eq, wRng2v, kRgL1_eq, wRgL1, kRgL2_eq, kRgL2, wRgL2, onIO_l, onL_fl, onL_loc, onSeq_t, onSeq_fl, onSeq_fz, onSeq_loc, onLsq_fl, onLsq_fz, onLsq_loc, kRep_eq, kRep2_eq, wRep, woNone, kOSome_eq, woSome, kCut3_eq, kCut2_eq, kCut_eq, wCut, cutF_t, cutF_l, cutF_p, kRev_eq, wRev, lenF_t, lenF_l, lenF_z, lenF_p, tupleF_t, tupleF_l, tupleF_p, listF_t, listF_l, listF_z, listF_p, kOpt_eq, ixF_t, ixF_l, ixF_z, ixF_p, atI_0, atI_1, atI_2, atI_3, mulF_w, divF_w, modF_w, powF_w, addF_ii, addF_tt, addF_ll, addF_pl, subF_ii, ltF_ii, leF_ii, gtF_ii, geF_ii, eqF_ii, neF_ii, eqF_ss, neF_ss, negF_i, absF_i, maxF_ii, minF_ii, toIntF_i, toIntF_b, isN_n, isN_i, isN_t, notN_n, notN_i, notN_t, isN_g, notN_g, sumF_l, isi_i, isi_b, isi_t, isi_n, isi_s, kML0_eq, kML_l, kML_p, wML, appF_p, popF_p, kN_eq, putF_p, getF_p, wNx, wBk, wCt, kS_nx, kS_bk, kS_ct, kS_rt, wSeqS, kRet_eq, wRet, kExp_eq, wExp, kIf_t, kIf_f, wIf, kTg_eq, kAsg_eq, wAsg, tgN_eq, shN_eq, sh2_eq, sh3_eq, sh12_eq, sh21_eq, kAug2_eq, kAug1_eq, kAug_eq, wAug, addI_ii, kPut4_eq, kPut3_eq, kPut2_eq, kPut1_eq, wPut, kAL5_eq, kAL4_eq, kAL3_eq, kAL2_eq, kAL1_eq, wAugL, kPar_eq, wPar, kPar3_eq, wPar3, kFor_eq, wFor, kLoop_nx, kLoop_ct, kLoop_bk, kLoop_rt, kTgt_eq, kWh_t, kWh_f, kLc_eq, wLc, kIs_eq, kIsV_eq, kFn_nx, kFn_rt, g_at0, g_at1, g_at2, g_at3, g_at4, g_set0, g_set1, g_set2, g_set3, g_set4, m_at, m_set, m_atL, List.getElem?_cons_zero, List.getElem?_cons_succ, List.set_cons_zero, List.set_cons_succ, List.length_cons, List.length_nil, slots_cons, slots_nil, List.cons_append, List.nil_append, List.replicate_succ, List.replicate_zero, Nat.reduceAdd, Nat.reduceSub, Nat.reduceEqDiff, if_true, if_false, Nat.reduceLeDiff, cond_true, cond_false, Bool.false_eq_true, wipeI, mem_len, mem_app, Bool.not_true, Bool.not_false, decide_true, decide_false, List.length_append, Nat.add_assoc, List.append_assoc]
      refine pick_wp g (by decide) fun s1 k1 g1 hk1 => ?_
      simp only [kLcC_eq, kLcE_eq, kLcT_t, kLcT_f, Int.zero_add, List.length_map, List.length_range, List.length_replicate, mulWF_w, divWF_w, shlF_w, shrF_w, bandF_ii, divmodF_w, dec_selfI, dec_selfS, wp_ok, wp_nox, kVar_eq, wVar, wC, kBin2_eq, kBin_eq, wBin, kUn_eq, wUn, kC2_eq, kC_eq, wCons, wNil, kArg_eq, wArg, kFArg_eq, wFArg, kFl_eq, wFlv, kAl_eq, wAl, wLst, kLst0, kLst1, kLst2, kLst3, kLst4, kLst5, kLst6, wTupv, kTup0, kTup1, kTup2, kTup3, kTup4, kTup5, kTup6, kTst_eq, wTst, kAnd_t, kAnd_f, wAnd, kOr_t, kOr_f, wOr, kNot_eq, wNot, wYes, kIfE_t, kIfE_f, wIfE, kAndV_t, kAndV_f, wAndV, kOrV_f, kOrV_t, wOrV, kNotV_eq, wNotV, kChn4_eq, kChn_t, kChn_f, kChn2_eq, kChn1_eq, wChn, kSeq_t, kSeq_l, kSeq_z, wSeqv, kEnum_t, kEnum_l, wEnumv, kZip_t, kZip_l, wZipv, kRng1_eq, wRng1v, kRng2_eq, wRng2v, kRgL1_eq, wRgL1, kRgL2_eq, kRgL2, wRgL2, onIO_l, onL_fl, onL_loc, onSeq_t, onSeq_fl, onSeq_fz, onSeq_loc, onLsq_fl, onLsq_fz, onLsq_loc, kRep_eq, kRep2_eq, wRep, woNone, kOSome_eq, woSome, kCut3_eq, kCut2_eq, kCut_eq, wCut, cutF_t, cutF_l, cutF_p, kRev_eq, wRev, lenF_t, lenF_l, lenF_z, lenF_p, tupleF_t, tupleF_l, tupleF_p, listF_t, listF_l, listF_z, listF_p, kOpt_eq, ixF_t, ixF_l, ixF_z, ixF_p, atI_0, atI_1, atI_2, atI_3, mulF_w, divF_w, modF_w, powF_w, addF_ii, addF_tt, addF_ll, addF_pl, subF_ii, ltF_ii, leF_ii, gtF_ii, geF_ii, eqF_ii, neF_ii, eqF_ss, neF_ss, negF_i, absF_i, maxF_ii, minF_ii, toIntF_i, toIntF_b, isN_n, isN_i, isN_t, notN_n, notN_i, notN_t, isN_g, notN_g, sumF_l, isi_i, isi_b, isi_t, isi_n, isi_s, kML0_eq, kML_l, kML_p, wML, appF_p, popF_p, kN_eq, putF_p, getF_p, wNx, wBk, wCt, kS_nx, kS_bk, kS_ct, kS_rt, wSeqS, kRet_eq, wRet, kExp_eq, wExp, kIf_t, kIf_f, wIf, kTg_eq, kAsg_eq, wAsg, tgN_eq, shN_eq, sh2_eq, sh3_eq, sh12_eq, sh21_eq, kAug2_eq, kAug1_eq, kAug_eq, wAug, addI_ii, kPut4_eq, kPut3_eq, kPut2_eq, kPut1_eq, wPut, kAL5_eq, kAL4_eq, kAL3_eq, kAL2_eq, kAL1_eq, wAugL, kPar_eq, wPar, kPar3_eq, wPar3, kFor_eq, wFor, kLoop_nx, kLoop_ct, kLoop_bk, kLoop_rt, kTgt_eq, kWh_t, kWh_f, kLc_eq, wLc, kIs_eq, kIsV_eq, kFn_nx, kFn_rt, g_at0, g_at1, g_at2, g_at3, g_at4, g_set0, g_set1, g_set2, g_set3, g_set4, m_at, m_set, m_atL, List.getElem?_cons_zero, List.getElem?_cons_succ, List.set_cons_zero, List.set_cons_succ, List.length_cons, List.length_nil, slots_cons, slots_nil, List.cons_append, List.nil_append, List.replicate_succ, List.replicate_zero, Nat.reduceAdd, Nat.reduceSub, Nat.reduceEqDiff, if_true, if_false, Nat.reduceLeDiff, cond_true, cond_false, Bool.false_eq_true, wipeI, mem_len, mem_app, Bool.not_true, Bool.not_false, decide_true, decide_false, List.length_append, Nat.add_assoc, List.append_assoc]
      refine ⟨.inl ⟨by omega, by omega⟩, ?_⟩
      cases decide ((k : Int) = 5) with
      | true => exact ⟨30 - k1, s1, g1, by omega, by omega, by simp; omega, rfl⟩
      | false => exact ⟨30, s1, g1, by omega, by omega, by simp, rfl⟩
    rintro v h ⟨c, s1, g1, hc1, hc2, rfl, rfl⟩
    have e0 : atI ((told c).map IV.int) 0 = some (.int 0) := by
      have := atI_nat (xs := (told c).map IV.int) (j := 0) (v := .int 0) (by rw [List.getElem?_map, told_at (by omega), ri_0]; rfl)
      exact this
    have el := told_last c
    have et : ((List.range (c + 1)).map fun l => IV.int (ri c l)) = (told c).map .int := by
      unfold told
      rw [List.map_map]
      rfl
    have ec : (c : Int) + 1 = ((c + 1 : Nat) : Int) := by omega
    have hd : decide (ri c c = ((c : Int) + 1) ^ c - (c : Int) ^ c) = true := decide_eq_true (ri_c c)
    have szT : ∀ h, Sb h (.fl ((told c).map .int)) _ 2 30000 := fun h => sz_told (told_bd hc2) (by unfold told; simp; omega)
    simp only [kLcC_eq, kLcE_eq, kLcT_t, kLcT_f, Int.zero_add, List.length_map, List.length_range, List.length_replicate, mulWF_w, divWF_w, shlF_w, shrF_w, bandF_ii, divmodF_w, dec_selfI, dec_selfS, wp_ok, wp_nox, kVar_eq, wVar, wC, kBin2_eq, kBin_eq, wBin, kUn_eq, wUn, kC2_eq, kC_eq, wCons, wNil, kArg_eq, wArg, kFArg_eq, wFArg, kFl_eq, wFlv, kAl_eq, wAl, wLst, kLst0, kLst1, kLst2, kLst3, kLst4, kLst5, kLst6, wTupv, kTup0, kTup1, kTup2, kTup3, kTup4, kTup5, kTup6, kTst_eq, wTst, kAnd_t, kAnd_f, wAnd, kOr_t, kOr_f, wOr, kNot_eq, wNot, wYes, kIfE_t, kIfE_f, wIfE, kAndV_t, kAndV_f, wAndV, kOrV_f, kOrV_t, wOrV, kNotV_eq, wNotV, kChn4_eq, kChn_t, kChn_f, kChn2_eq, kChn1_eq, wChn, kSeq_t, kSeq_l, kSeq_z, wSeqv, kEnum_t, kEnum_l, wEnumv, kZip_t, kZip_l, wZipv, kRng1_eq, wRng1v, kRng2_eq, wRng2v, kRgL1_eq, wRgL1, kRgL2_eq, kRgL2, wRgL2, onIO_l, onL_fl, onL_loc, onSeq_t, onSeq_fl, onSeq_fz, onSeq_loc, onLsq_fl, onLsq_fz, onLsq_loc, kRep_eq, kRep2_eq, wRep, woNone, kOSome_eq, woSome, kCut3_eq, kCut2_eq, kCut_eq, wCut, cutF_t, cutF_l, cutF_p, kRev_eq, wRev, lenF_t, lenF_l, lenF_z, lenF_p, tupleF_t, tupleF_l, tupleF_p, listF_t, listF_l, listF_z, listF_p, kOpt_eq, ixF_t, ixF_l, ixF_z, ixF_p, atI_0, atI_1, atI_2, atI_3, mulF_w, divF_w, modF_w, powF_w, addF_ii, addF_tt, addF_ll, addF_pl, subF_ii, ltF_ii, leF_ii, gtF_ii, geF_ii, eqF_ii, neF_ii, eqF_ss, neF_ss, negF_i, absF_i, maxF_ii, minF_ii, toIntF_i, toIntF_b, isN_n, isN_i, isN_t, notN_n, notN_i, notN_t, isN_g, notN_g, sumF_l, isi_i, isi_b, isi_t, isi_n, isi_s, kML0_eq, kML_l, kML_p, wML, appF_p, popF_p, kN_eq, putF_p, getF_p, wNx, wBk, wCt, kS_nx, kS_bk, kS_ct, kS_rt, wSeqS, kRet_eq, wRet, kExp_eq, wExp, kIf_t, kIf_f, wIf, kTg_eq, kAsg_eq, wAsg, tgN_eq, shN_eq, sh2_eq, sh3_eq, sh12_eq, sh21_eq, kAug2_eq, kAug1_eq, kAug_eq, wAug, addI_ii, kPut4_eq, kPut3_eq, kPut2_eq, kPut1_eq, wPut, kAL5_eq, kAL4_eq, kAL3_eq, kAL2_eq, kAL1_eq, wAugL, kPar_eq, wPar, kPar3_eq, wPar3, kFor_eq, wFor, kLoop_nx, kLoop_ct, kLoop_bk, kLoop_rt, kTgt_eq, kWh_t, kWh_f, kLc_eq, wLc, kIs_eq, kIsV_eq, kFn_nx, kFn_rt, g_at0, g_at1, g_at2, g_at3, g_at4, g_set0, g_set1, g_set2, g_set3, g_set4, m_at, m_set, m_atL, List.getElem?_cons_zero, List.getElem?_cons_succ, List.set_cons_zero, List.set_cons_succ, List.length_cons, List.length_nil, slots_cons, slots_nil, List.cons_append, List.nil_append, List.replicate_succ, List.replicate_zero, Nat.reduceAdd, Nat.reduceSub, Nat.reduceEqDiff, if_true, if_false, Nat.reduceLeDiff, cond_true, cond_false, Bool.false_eq_true, wipeI, mem_len, mem_app, Bool.not_true, Bool.not_false, decide_true, decide_false, List.length_append, Nat.add_assoc, List.append_assoc]
    refine f_times ⟨by omega, by omega⟩ (by omega) ?_
    simp only [kLcC_eq, kLcE_eq, kLcT_t, kLcT_f, Int.zero_add, List.length_map, List.length_range, List.length_replicate, mulWF_w, divWF_w, shlF_w, shrF_w, bandF_ii, divmodF_w, dec_selfI, dec_selfS, wp_ok, wp_nox, kVar_eq, wVar, wC, kBin2_eq, kBin_eq, wBin, kUn_eq, wUn, kC2_eq, kC_eq, wCons, wNil, kArg_eq, wArg, kFArg_eq, wFArg, kFl_eq, wFlv, kAl_eq, wAl, wLst, kLst0, kLst1, kLst2, kLst3, kLst4, kLst5, kLst6, wTupv, kTup0, kTup1, kTup2, kTup3, kTup4, kTup5, kTup6, kTst_eq, wTst, kAnd_t, kAnd_f, wAnd, kOr_t, kOr_f, wOr, kNot_eq, wNot, wYes, kIfE_t, kIfE_f, wIfE, kAndV_t, kAndV_f, wAndV, kOrV_f, kOrV_t, wOrV, kNotV_eq, wNotV, kChn4_eq, kChn_t, kChn_f, kChn2_eq, kChn1_eq, wChn, kSeq_t, kSeq_l, kSeq_z, wSeqv, kEnum_t, kEnum_l, wEnumv, kZip_t, kZip_l, wZipv, kRng1_eq, wRng1v, kRng2_eq, wRng2v, kRgL1_eq, wRgL1, kRgL2_eq, kRgL2, wRgL2, onIO_l, onL_fl, onL_loc, onSeq_t, onSeq_fl, onSeq_fz, onSeq_loc, onLsq_fl, onLsq_fz, onLsq_loc, kRep_eq, kRep2_eq, wRep, woNone, kOSome_eq, woSome, kCut3_eq, kCut2_eq, kCut_eq, wCut, cutF_t, cutF_l, cutF_p, kRev_eq, wRev, lenF_t, lenF_l, lenF_z, lenF_p, tupleF_t, tupleF_l, tupleF_p, listF_t, listF_l, listF_z, listF_p, kOpt_eq, ixF_t, ixF_l, ixF_z, ixF_p, atI_0, atI_1, atI_2, atI_3, mulF_w, divF_w, modF_w, powF_w, addF_ii, addF_tt, addF_ll, addF_pl, subF_ii, ltF_ii, leF_ii, gtF_ii, geF_ii, eqF_ii, neF_ii, eqF_ss, neF_ss, negF_i, absF_i, maxF_ii, minF_ii, toIntF_i, toIntF_b, isN_n, isN_i, isN_t, notN_n, notN_i, notN_t, isN_g, notN_g, sumF_l, isi_i, isi_b, isi_t, isi_n, isi_s, kML0_eq, kML_l, kML_p, wML, appF_p, popF_p, kN_eq, putF_p, getF_p, wNx, wBk, wCt, kS_nx, kS_bk, kS_ct, kS_rt, wSeqS, kRet_eq, wRet, kExp_eq, wExp, kIf_t, kIf_f, wIf, kTg_eq, kAsg_eq, wAsg, tgN_eq, shN_eq, sh2_eq, sh3_eq, sh12_eq, sh21_eq, kAug2_eq, kAug1_eq, kAug_eq, wAug, addI_ii, kPut4_eq, kPut3_eq, kPut2_eq, kPut1_eq, wPut, kAL5_eq, kAL4_eq, kAL3_eq, kAL2_eq, kAL1_eq, wAugL, kPar_eq, wPar, kPar3_eq, wPar3, kFor_eq, wFor, kLoop_nx, kLoop_ct, kLoop_bk, kLoop_rt, kTgt_eq, kWh_t, kWh_f, kLc_eq, wLc, kIs_eq, kIsV_eq, kFn_nx, kFn_rt, g_at0, g_at1, g_at2, g_at3, g_at4, g_set0, g_set1, g_set2, g_set3, g_set4, m_at, m_set, m_atL, List.getElem?_cons_zero, List.getElem?_cons_succ, List.set_cons_zero, List.set_cons_succ, List.length_cons, List.length_nil, slots_cons, slots_nil, List.cons_append, List.nil_append, List.replicate_succ, List.replicate_zero, Nat.reduceAdd, Nat.reduceSub, Nat.reduceEqDiff, if_true, if_false, Nat.reduceLeDiff, cond_true, cond_false, Bool.false_eq_true, wipeI, mem_len, mem_app, Bool.not_true, Bool.not_false, decide_true, decide_false, List.length_append, Nat.add_assoc, List.append_assoc]
    refine f_lawRise (by omega) (Nat.le_refl _) ?_
    simp only [kLcC_eq, kLcE_eq, kLcT_t, kLcT_f, Int.zero_add, List.length_map, List.length_range, List.length_replicate, mulWF_w, divWF_w, shlF_w, shrF_w, bandF_ii, divmodF_w, dec_selfI, dec_selfS, wp_ok, wp_nox, kVar_eq, wVar, wC, kBin2_eq, kBin_eq, wBin, kUn_eq, wUn, kC2_eq, kC_eq, wCons, wNil, kArg_eq, wArg, kFArg_eq, wFArg, kFl_eq, wFlv, kAl_eq, wAl, wLst, kLst0, kLst1, kLst2, kLst3, kLst4, kLst5, kLst6, wTupv, kTup0, kTup1, kTup2, kTup3, kTup4, kTup5, kTup6, kTst_eq, wTst, kAnd_t, kAnd_f, wAnd, kOr_t, kOr_f, wOr, kNot_eq, wNot, wYes, kIfE_t, kIfE_f, wIfE, kAndV_t, kAndV_f, wAndV, kOrV_f, kOrV_t, wOrV, kNotV_eq, wNotV, kChn4_eq, kChn_t, kChn_f, kChn2_eq, kChn1_eq, wChn, kSeq_t, kSeq_l, kSeq_z, wSeqv, kEnum_t, kEnum_l, wEnumv, kZip_t, kZip_l, wZipv, kRng1_eq, wRng1v, kRng2_eq, wRng2v, kRgL1_eq, wRgL1, kRgL2_eq, kRgL2, wRgL2, onIO_l, onL_fl, onL_loc, onSeq_t, onSeq_fl, onSeq_fz, onSeq_loc, onLsq_fl, onLsq_fz, onLsq_loc, kRep_eq, kRep2_eq, wRep, woNone, kOSome_eq, woSome, kCut3_eq, kCut2_eq, kCut_eq, wCut, cutF_t, cutF_l, cutF_p, kRev_eq, wRev, lenF_t, lenF_l, lenF_z, lenF_p, tupleF_t, tupleF_l, tupleF_p, listF_t, listF_l, listF_z, listF_p, kOpt_eq, ixF_t, ixF_l, ixF_z, ixF_p, atI_0, atI_1, atI_2, atI_3, mulF_w, divF_w, modF_w, powF_w, addF_ii, addF_tt, addF_ll, addF_pl, subF_ii, ltF_ii, leF_ii, gtF_ii, geF_ii, eqF_ii, neF_ii, eqF_ss, neF_ss, negF_i, absF_i, maxF_ii, minF_ii, toIntF_i, toIntF_b, isN_n, isN_i, isN_t, notN_n, notN_i, notN_t, isN_g, notN_g, sumF_l, isi_i, isi_b, isi_t, isi_n, isi_s, kML0_eq, kML_l, kML_p, wML, appF_p, popF_p, kN_eq, putF_p, getF_p, wNx, wBk, wCt, kS_nx, kS_bk, kS_ct, kS_rt, wSeqS, kRet_eq, wRet, kExp_eq, wExp, kIf_t, kIf_f, wIf, kTg_eq, kAsg_eq, wAsg, tgN_eq, shN_eq, sh2_eq, sh3_eq, sh12_eq, sh21_eq, kAug2_eq, kAug1_eq, kAug_eq, wAug, addI_ii, kPut4_eq, kPut3_eq, kPut2_eq, kPut1_eq, wPut, kAL5_eq, kAL4_eq, kAL3_eq, kAL2_eq, kAL1_eq, wAugL, kPar_eq, wPar, kPar3_eq, wPar3, kFor_eq, wFor, kLoop_nx, kLoop_ct, kLoop_bk, kLoop_rt, kTgt_eq, kWh_t, kWh_f, kLc_eq, wLc, kIs_eq, kIsV_eq, kFn_nx, kFn_rt, g_at0, g_at1, g_at2, g_at3, g_at4, g_set0, g_set1, g_set2, g_set3, g_set4, m_at, m_set, m_atL, List.getElem?_cons_zero, List.getElem?_cons_succ, List.set_cons_zero, List.set_cons_succ, List.length_cons, List.length_nil, slots_cons, slots_nil, List.cons_append, List.nil_append, List.replicate_succ, List.replicate_zero, Nat.reduceAdd, Nat.reduceSub, Nat.reduceEqDiff, if_true, if_false, Nat.reduceLeDiff, cond_true, cond_false, Bool.false_eq_true, wipeI, mem_len, mem_app, Bool.not_true, Bool.not_false, decide_true, decide_false, List.length_append, Nat.add_assoc, List.append_assoc]
    refine ⟨⟨by omega, by omega⟩, ?_⟩
    rw [ec, rgI_c]
    refine lw_map (fun l => .int (ri c l)) (by simp; omega) (fun z hz => ?_) ?_
    · have := List.mem_range.mp hz
      simp only [kLcC_eq, kLcE_eq, kLcT_t, kLcT_f, Int.zero_add, List.length_map, List.length_range, List.length_replicate, mulWF_w, divWF_w, shlF_w, shrF_w, bandF_ii, divmodF_w, dec_selfI, dec_selfS, wp_ok, wp_nox, kVar_eq, wVar, wC, kBin2_eq, kBin_eq, wBin, kUn_eq, wUn, kC2_eq, kC_eq, wCons, wNil, kArg_eq, wArg, kFArg_eq, wFArg, kFl_eq, wFlv, kAl_eq, wAl, wLst, kLst0, kLst1, kLst2, kLst3, kLst4, kLst5, kLst6, wTupv, kTup0, kTup1, kTup2, kTup3, kTup4, kTup5, kTup6, kTst_eq, wTst, kAnd_t, kAnd_f, wAnd, kOr_t, kOr_f, wOr, kNot_eq, wNot, wYes, kIfE_t, kIfE_f, wIfE, kAndV_t, kAndV_f, wAndV, kOrV_f, kOrV_t, wOrV, kNotV_eq, wNotV, kChn4_eq, kChn_t, kChn_f, kChn2_eq, kChn1_eq, wChn, kSeq_t, kSeq_l, kSeq_z, wSeqv, kEnum_t, kEnum_l, wEnumv, kZip_t, kZip_l, wZipv, kRng1_eq, wRng1v, kRng2_eq, wRng2v, kRgL1_eq, wRgL1, kRgL2_eq, kRgL2, wRgL2, onIO_l, onL_fl, onL_loc, onSeq_t, onSeq_fl, onSeq_fz, onSeq_loc, onLsq_fl, onLsq_fz, onLsq_loc, kRep_eq, kRep2_eq, wRep, woNone, kOSome_eq, woSome, kCut3_eq, kCut2_eq, kCut_eq, wCut, cutF_t, cutF_l, cutF_p, kRev_eq, wRev, lenF_t, lenF_l, lenF_z, lenF_p, tupleF_t, tupleF_l, tupleF_p, listF_t, listF_l, listF_z, listF_p, kOpt_eq, ixF_t, ixF_l, ixF_z, ixF_p, atI_0, atI_1, atI_2, atI_3, mulF_w, divF_w, modF_w, powF_w, addF_ii, addF_tt, addF_ll, addF_pl, subF_ii, ltF_ii, leF_ii, gtF_ii, geF_ii, eqF_ii, neF_ii, eqF_ss, neF_ss, negF_i, absF_i, maxF_ii, minF_ii, toIntF_i, toIntF_b, isN_n, isN_i, isN_t, notN_n, notN_i, notN_t, isN_g, notN_g, sumF_l, isi_i, isi_b, isi_t, isi_n, isi_s, kML0_eq, kML_l, kML_p, wML, appF_p, popF_p, kN_eq, putF_p, getF_p, wNx, wBk, wCt, kS_nx, kS_bk, kS_ct, kS_rt, wSeqS, kRet_eq, wRet, kExp_eq, wExp, kIf_t, kIf_f, wIf, kTg_eq, kAsg_eq, wAsg, tgN_eq, shN_eq, sh2_eq, sh3_eq, sh12_eq, sh21_eq, kAug2_eq, kAug1_eq, kAug_eq, wAug, addI_ii, kPut4_eq, kPut3_eq, kPut2_eq, kPut1_eq, wPut, kAL5_eq, kAL4_eq, kAL3_eq, kAL2_eq, kAL1_eq, wAugL, kPar_eq, wPar, kPar3_eq, wPar3, kFor_eq, wFor, kLoop_nx, kLoop_ct, kLoop_bk, kLoop_rt, kTgt_eq, kWh_t, kWh_f, kLc_eq, wLc, kIs_eq, kIsV_eq, kFn_nx, kFn_rt, g_at0, g_at1, g_at2, g_at3, g_at4, g_set0, g_set1, g_set2, g_set3, g_set4, m_at, m_set, m_atL, List.getElem?_cons_zero, List.getElem?_cons_succ, List.set_cons_zero, List.set_cons_succ, List.length_cons, List.length_nil, slots_cons, slots_nil, List.cons_append, List.nil_append, List.replicate_succ, List.replicate_zero, Nat.reduceAdd, Nat.reduceSub, Nat.reduceEqDiff, if_true, if_false, Nat.reduceLeDiff, cond_true, cond_false, Bool.false_eq_true, wipeI, mem_len, mem_app, Bool.not_true, Bool.not_false, decide_true, decide_false, List.length_append, Nat.add_assoc, List.append_assoc]
      refine f_rise (by omega) (by omega) ?_
      simp only [kLcC_eq, kLcE_eq, kLcT_t, kLcT_f, Int.zero_add, List.length_map, List.length_range, List.length_replicate, mulWF_w, divWF_w, shlF_w, shrF_w, bandF_ii, divmodF_w, dec_selfI, dec_selfS, wp_ok, wp_nox, kVar_eq, wVar, wC, kBin2_eq, kBin_eq, wBin, kUn_eq, wUn, kC2_eq, kC_eq, wCons, wNil, kArg_eq, wArg, kFArg_eq, wFArg, kFl_eq, wFlv, kAl_eq, wAl, wLst, kLst0, kLst1, kLst2, kLst3, kLst4, kLst5, kLst6, wTupv, kTup0, kTup1, kTup2, kTup3, kTup4, kTup5, kTup6, kTst_eq, wTst, kAnd_t, kAnd_f, wAnd, kOr_t, kOr_f, wOr, kNot_eq, wNot, wYes, kIfE_t, kIfE_f, wIfE, kAndV_t, kAndV_f, wAndV, kOrV_f, kOrV_t, wOrV, kNotV_eq, wNotV, kChn4_eq, kChn_t, kChn_f, kChn2_eq, kChn1_eq, wChn, kSeq_t, kSeq_l, kSeq_z, wSeqv, kEnum_t, kEnum_l, wEnumv, kZip_t, kZip_l, wZipv, kRng1_eq, wRng1v, kRng2_eq, wRng2v, kRgL1_eq, wRgL1, kRgL2_eq, kRgL2, wRgL2, onIO_l, onL_fl, onL_loc, onSeq_t, onSeq_fl, onSeq_fz, onSeq_loc, onLsq_fl, onLsq_fz, onLsq_loc, kRep_eq, kRep2_eq, wRep, woNone, kOSome_eq, woSome, kCut3_eq, kCut2_eq, kCut_eq, wCut, cutF_t, cutF_l, cutF_p, kRev_eq, wRev, lenF_t, lenF_l, lenF_z, lenF_p, tupleF_t, tupleF_l, tupleF_p, listF_t, listF_l, listF_z, listF_p, kOpt_eq, ixF_t, ixF_l, ixF_z, ixF_p, atI_0, atI_1, atI_2, atI_3, mulF_w, divF_w, modF_w, powF_w, addF_ii, addF_tt, addF_ll, addF_pl, subF_ii, ltF_ii, leF_ii, gtF_ii, geF_ii, eqF_ii, neF_ii, eqF_ss, neF_ss, negF_i, absF_i, maxF_ii, minF_ii, toIntF_i, toIntF_b, isN_n, isN_i, isN_t, notN_n, notN_i, notN_t, isN_g, notN_g, sumF_l, isi_i, isi_b, isi_t, isi_n, isi_s, kML0_eq, kML_l, kML_p, wML, appF_p, popF_p, kN_eq, putF_p, getF_p, wNx, wBk, wCt, kS_nx, kS_bk, kS_ct, kS_rt, wSeqS, kRet_eq, wRet, kExp_eq, wExp, kIf_t, kIf_f, wIf, kTg_eq, kAsg_eq, wAsg, tgN_eq, shN_eq, sh2_eq, sh3_eq, sh12_eq, sh21_eq, kAug2_eq, kAug1_eq, kAug_eq, wAug, addI_ii, kPut4_eq, kPut3_eq, kPut2_eq, kPut1_eq, wPut, kAL5_eq, kAL4_eq, kAL3_eq, kAL2_eq, kAL1_eq, wAugL, kPar_eq, wPar, kPar3_eq, wPar3, kFor_eq, wFor, kLoop_nx, kLoop_ct, kLoop_bk, kLoop_rt, kTgt_eq, kWh_t, kWh_f, kLc_eq, wLc, kIs_eq, kIsV_eq, kFn_nx, kFn_rt, g_at0, g_at1, g_at2, g_at3, g_at4, g_set0, g_set1, g_set2, g_set3, g_set4, m_at, m_set, m_atL, List.getElem?_cons_zero, List.getElem?_cons_succ, List.set_cons_zero, List.set_cons_succ, List.length_cons, List.length_nil, slots_cons, slots_nil, List.cons_append, List.nil_append, List.replicate_succ, List.replicate_zero, Nat.reduceAdd, Nat.reduceSub, Nat.reduceEqDiff, if_true, if_false, Nat.reduceLeDiff, cond_true, cond_false, Bool.false_eq_true, wipeI, mem_len, mem_app, Bool.not_true, Bool.not_false, decide_true, decide_false, List.length_append, Nat.add_assoc, List.append_assoc]
      exact ⟨by trivial, by trivial⟩
    rw [et]
    simp only [kLcC_eq, kLcE_eq, kLcT_t, kLcT_f, Int.zero_add, List.length_map, List.length_range, List.length_replicate, mulWF_w, divWF_w, shlF_w, shrF_w, bandF_ii, divmodF_w, dec_selfI, dec_selfS, wp_ok, wp_nox, kVar_eq, wVar, wC, kBin2_eq, kBin_eq, wBin, kUn_eq, wUn, kC2_eq, kC_eq, wCons, wNil, kArg_eq, wArg, kFArg_eq, wFArg, kFl_eq, wFlv, kAl_eq, wAl, wLst, kLst0, kLst1, kLst2, kLst3, kLst4, kLst5, kLst6, wTupv, kTup0, kTup1, kTup2, kTup3, kTup4, kTup5, kTup6, kTst_eq, wTst, kAnd_t, kAnd_f, wAnd, kOr_t, kOr_f, wOr, kNot_eq, wNot, wYes, kIfE_t, kIfE_f, wIfE, kAndV_t, kAndV_f, wAndV, kOrV_f, kOrV_t, wOrV, kNotV_eq, wNotV, kChn4_eq, kChn_t, kChn_f, kChn2_eq, kChn1_eq, wChn, kSeq_t, kSeq_l, kSeq_z, wSeqv, kEnum_t, kEnum_l, wEnumv, kZip_t, kZip_l, wZipv, kRng1_eq, wRng1v, kRng2_eq, wRng2v, kRgL1_eq, wRgL1, kRgL2_eq, kRgL2, wRgL2, onIO_l, onL_fl, onL_loc, onSeq_t, onSeq_fl, onSeq_fz, onSeq_loc, onLsq_fl, onLsq_fz, onLsq_loc, kRep_eq, kRep2_eq, wRep, woNone, kOSome_eq, woSome, kCut3_eq, kCut2_eq, kCut_eq, wCut, cutF_t, cutF_l, cutF_p, kRev_eq, wRev, lenF_t, lenF_l, lenF_z, lenF_p, tupleF_t, tupleF_l, tupleF_p, listF_t, listF_l, listF_z, listF_p, kOpt_eq, ixF_t, ixF_l, ixF_z, ixF_p, atI_0, atI_1, atI_2, atI_3, mulF_w, divF_w, modF_w, powF_w, addF_ii, addF_tt, addF_ll, addF_pl, subF_ii, ltF_ii, leF_ii, gtF_ii, geF_ii, eqF_ii, neF_ii, eqF_ss, neF_ss, negF_i, absF_i, maxF_ii, minF_ii, toIntF_i, toIntF_b, isN_n, isN_i, isN_t, notN_n, notN_i, notN_t, isN_g, notN_g, sumF_l, isi_i, isi_b, isi_t, isi_n, isi_s, kML0_eq, kML_l, kML_p, wML, appF_p, popF_p, kN_eq, putF_p, getF_p, wNx, wBk, wCt, kS_nx, kS_bk, kS_ct, kS_rt, wSeqS, kRet_eq, wRet, kExp_eq, wExp, kIf_t, kIf_f, wIf, kTg_eq, kAsg_eq, wAsg, tgN_eq, shN_eq, sh2_eq, sh3_eq, sh12_eq, sh21_eq, kAug2_eq, kAug1_eq, kAug_eq, wAug, addI_ii, kPut4_eq, kPut3_eq, kPut2_eq, kPut1_eq, wPut, kAL5_eq, kAL4_eq, kAL3_eq, kAL2_eq, kAL1_eq, wAugL, kPar_eq, wPar, kPar3_eq, wPar3, kFor_eq, wFor, kLoop_nx, kLoop_ct, kLoop_bk, kLoop_rt, kTgt_eq, kWh_t, kWh_f, kLc_eq, wLc, kIs_eq, kIsV_eq, kFn_nx, kFn_rt, g_at0, g_at1, g_at2, g_at3, g_at4, g_set0, g_set1, g_set2, g_set3, g_set4, m_at, m_set, m_atL, List.getElem?_cons_zero, List.getElem?_cons_succ, List.set_cons_zero, List.set_cons_succ, List.length_cons, List.length_nil, slots_cons, slots_nil, List.cons_append, List.nil_append, List.replicate_succ, List.replicate_zero, Nat.reduceAdd, Nat.reduceSub, Nat.reduceEqDiff, if_true, if_false, Nat.reduceLeDiff, cond_true, cond_false, Bool.false_eq_true, wipeI, mem_len, mem_app, Bool.not_true, Bool.not_false, decide_true, decide_false, List.length_append, Nat.add_assoc, List.append_assoc]
    refine reprb_wp (szT _) (by decide) (by decide) ?_
    simp only [kLcC_eq, kLcE_eq, kLcT_t, kLcT_f, Int.zero_add, List.length_map, List.length_range, List.length_replicate, mulWF_w, divWF_w, shlF_w, shrF_w, bandF_ii, divmodF_w, dec_selfI, dec_selfS, wp_ok, wp_nox, kVar_eq, wVar, wC, kBin2_eq, kBin_eq, wBin, kUn_eq, wUn, kC2_eq, kC_eq, wCons, wNil, kArg_eq, wArg, kFArg_eq, wFArg, kFl_eq, wFlv, kAl_eq, wAl, wLst, kLst0, kLst1, kLst2, kLst3, kLst4, kLst5, kLst6, wTupv, kTup0, kTup1, kTup2, kTup3, kTup4, kTup5, kTup6, kTst_eq, wTst, kAnd_t, kAnd_f, wAnd, kOr_t, kOr_f, wOr, kNot_eq, wNot, wYes, kIfE_t, kIfE_f, wIfE, kAndV_t, kAndV_f, wAndV, kOrV_f, kOrV_t, wOrV, kNotV_eq, wNotV, kChn4_eq, kChn_t, kChn_f, kChn2_eq, kChn1_eq, wChn, kSeq_t, kSeq_l, kSeq_z, wSeqv, kEnum_t, kEnum_l, wEnumv, kZip_t, kZip_l, wZipv, kRng1_eq, wRng1v, kRng2_eq, wRng2v, kRgL1_eq, wRgL1, kRgL2_eq, kRgL2, wRgL2, onIO_l, onL_fl, onL_loc, onSeq_t, onSeq_fl, onSeq_fz, onSeq_loc, onLsq_fl, onLsq_fz, onLsq_loc, kRep_eq, kRep2_eq, wRep, woNone, kOSome_eq, woSome, kCut3_eq, kCut2_eq, kCut_eq, wCut, cutF_t, cutF_l, cutF_p, kRev_eq, wRev, lenF_t, lenF_l, lenF_z, lenF_p, tupleF_t, tupleF_l, tupleF_p, listF_t, listF_l, listF_z, listF_p, kOpt_eq, ixF_t, ixF_l, ixF_z, ixF_p, atI_0, atI_1, atI_2, atI_3, mulF_w, divF_w, modF_w, powF_w, addF_ii, addF_tt, addF_ll, addF_pl, subF_ii, ltF_ii, leF_ii, gtF_ii, geF_ii, eqF_ii, neF_ii, eqF_ss, neF_ss, negF_i, absF_i, maxF_ii, minF_ii, toIntF_i, toIntF_b, isN_n, isN_i, isN_t, notN_n, notN_i, notN_t, isN_g, notN_g, sumF_l, isi_i, isi_b, isi_t, isi_n, isi_s, kML0_eq, kML_l, kML_p, wML, appF_p, popF_p, kN_eq, putF_p, getF_p, wNx, wBk, wCt, kS_nx, kS_bk, kS_ct, kS_rt, wSeqS, kRet_eq, wRet, kExp_eq, wExp, kIf_t, kIf_f, wIf, kTg_eq, kAsg_eq, wAsg, tgN_eq, shN_eq, sh2_eq, sh3_eq, sh12_eq, sh21_eq, kAug2_eq, kAug1_eq, kAug_eq, wAug, addI_ii, kPut4_eq, kPut3_eq, kPut2_eq, kPut1_eq, wPut, kAL5_eq, kAL4_eq, kAL3_eq, kAL2_eq, kAL1_eq, wAugL, kPar_eq, wPar, kPar3_eq, wPar3, kFor_eq, wFor, kLoop_nx, kLoop_ct, kLoop_bk, kLoop_rt, kTgt_eq, kWh_t, kWh_f, kLc_eq, wLc, kIs_eq, kIsV_eq, kFn_nx, kFn_rt, g_at0, g_at1, g_at2, g_at3, g_at4, g_set0, g_set1, g_set2, g_set3, g_set4, m_at, m_set, m_atL, List.getElem?_cons_zero, List.getElem?_cons_succ, List.set_cons_zero, List.set_cons_succ, List.length_cons, List.length_nil, slots_cons, slots_nil, List.cons_append, List.nil_append, List.replicate_succ, List.replicate_zero, Nat.reduceAdd, Nat.reduceSub, Nat.reduceEqDiff, if_true, if_false, Nat.reduceLeDiff, cond_true, cond_false, Bool.false_eq_true, wipeI, mem_len, mem_app, Bool.not_true, Bool.not_false, decide_true, decide_false, List.length_append, Nat.add_assoc, List.append_assoc]
    refine ⟨⟨by omega, by omega⟩, ?_⟩
    rw [ec, rgI_c]
    refine lw_map (fun l => .int (ri c l)) (by simp; omega) (fun z hz => ?_) ?_
    · have := List.mem_range.mp hz
      simp only [kLcC_eq, kLcE_eq, kLcT_t, kLcT_f, Int.zero_add, List.length_map, List.length_range, List.length_replicate, mulWF_w, divWF_w, shlF_w, shrF_w, bandF_ii, divmodF_w, dec_selfI, dec_selfS, wp_ok, wp_nox, kVar_eq, wVar, wC, kBin2_eq, kBin_eq, wBin, kUn_eq, wUn, kC2_eq, kC_eq, wCons, wNil, kArg_eq, wArg, kFArg_eq, wFArg, kFl_eq, wFlv, kAl_eq, wAl, wLst, kLst0, kLst1, kLst2, kLst3, kLst4, kLst5, kLst6, wTupv, kTup0, kTup1, kTup2, kTup3, kTup4, kTup5, kTup6, kTst_eq, wTst, kAnd_t, kAnd_f, wAnd, kOr_t, kOr_f, wOr, kNot_eq, wNot, wYes, kIfE_t, kIfE_f, wIfE, kAndV_t, kAndV_f, wAndV, kOrV_f, kOrV_t, wOrV, kNotV_eq, wNotV, kChn4_eq, kChn_t, kChn_f, kChn2_eq, kChn1_eq, wChn, kSeq_t, kSeq_l, kSeq_z, wSeqv, kEnum_t, kEnum_l, wEnumv, kZip_t, kZip_l, wZipv, kRng1_eq, wRng1v, kRng2_eq, wRng2v, kRgL1_eq, wRgL1, kRgL2_eq, kRgL2, wRgL2, onIO_l, onL_fl, onL_loc, onSeq_t, onSeq_fl, onSeq_fz, onSeq_loc, onLsq_fl, onLsq_fz, onLsq_loc, kRep_eq, kRep2_eq, wRep, woNone, kOSome_eq, woSome, kCut3_eq, kCut2_eq, kCut_eq, wCut, cutF_t, cutF_l, cutF_p, kRev_eq, wRev, lenF_t, lenF_l, lenF_z, lenF_p, tupleF_t, tupleF_l, tupleF_p, listF_t, listF_l, listF_z, listF_p, kOpt_eq, ixF_t, ixF_l, ixF_z, ixF_p, atI_0, atI_1, atI_2, atI_3, mulF_w, divF_w, modF_w, powF_w, addF_ii, addF_tt, addF_ll, addF_pl, subF_ii, ltF_ii, leF_ii, gtF_ii, geF_ii, eqF_ii, neF_ii, eqF_ss, neF_ss, negF_i, absF_i, maxF_ii, minF_ii, toIntF_i, toIntF_b, isN_n, isN_i, isN_t, notN_n, notN_i, notN_t, isN_g, notN_g, sumF_l, isi_i, isi_b, isi_t, isi_n, isi_s, kML0_eq, kML_l, kML_p, wML, appF_p, popF_p, kN_eq, putF_p, getF_p, wNx, wBk, wCt, kS_nx, kS_bk, kS_ct, kS_rt, wSeqS, kRet_eq, wRet, kExp_eq, wExp, kIf_t, kIf_f, wIf, kTg_eq, kAsg_eq, wAsg, tgN_eq, shN_eq, sh2_eq, sh3_eq, sh12_eq, sh21_eq, kAug2_eq, kAug1_eq, kAug_eq, wAug, addI_ii, kPut4_eq, kPut3_eq, kPut2_eq, kPut1_eq, wPut, kAL5_eq, kAL4_eq, kAL3_eq, kAL2_eq, kAL1_eq, wAugL, kPar_eq, wPar, kPar3_eq, wPar3, kFor_eq, wFor, kLoop_nx, kLoop_ct, kLoop_bk, kLoop_rt, kTgt_eq, kWh_t, kWh_f, kLc_eq, wLc, kIs_eq, kIsV_eq, kFn_nx, kFn_rt, g_at0, g_at1, g_at2, g_at3, g_at4, g_set0, g_set1, g_set2, g_set3, g_set4, m_at, m_set, m_atL, List.getElem?_cons_zero, List.getElem?_cons_succ, List.set_cons_zero, List.set_cons_succ, List.length_cons, List.length_nil, slots_cons, slots_nil, List.cons_append, List.nil_append, List.replicate_succ, List.replicate_zero, Nat.reduceAdd, Nat.reduceSub, Nat.reduceEqDiff, if_true, if_false, Nat.reduceLeDiff, cond_true, cond_false, Bool.false_eq_true, wipeI, mem_len, mem_app, Bool.not_true, Bool.not_false, decide_true, decide_false, List.length_append, Nat.add_assoc, List.append_assoc]
      refine f_lawRise (by omega) (by omega) ?_
      simp only [kLcC_eq, kLcE_eq, kLcT_t, kLcT_f, Int.zero_add, List.length_map, List.length_range, List.length_replicate, mulWF_w, divWF_w, shlF_w, shrF_w, bandF_ii, divmodF_w, dec_selfI, dec_selfS, wp_ok, wp_nox, kVar_eq, wVar, wC, kBin2_eq, kBin_eq, wBin, kUn_eq, wUn, kC2_eq, kC_eq, wCons, wNil, kArg_eq, wArg, kFArg_eq, wFArg, kFl_eq, wFlv, kAl_eq, wAl, wLst, kLst0, kLst1, kLst2, kLst3, kLst4, kLst5, kLst6, wTupv, kTup0, kTup1, kTup2, kTup3, kTup4, kTup5, kTup6, kTst_eq, wTst, kAnd_t, kAnd_f, wAnd, kOr_t, kOr_f, wOr, kNot_eq, wNot, wYes, kIfE_t, kIfE_f, wIfE, kAndV_t, kAndV_f, wAndV, kOrV_f, kOrV_t, wOrV, kNotV_eq, wNotV, kChn4_eq, kChn_t, kChn_f, kChn2_eq, kChn1_eq, wChn, kSeq_t, kSeq_l, kSeq_z, wSeqv, kEnum_t, kEnum_l, wEnumv, kZip_t, kZip_l, wZipv, kRng1_eq, wRng1v, kRng2_eq, wRng2v, kRgL1_eq, wRgL1, kRgL2_eq, kRgL2, wRgL2, onIO_l, onL_fl, onL_loc, onSeq_t, onSeq_fl, onSeq_fz, onSeq_loc, onLsq_fl, onLsq_fz, onLsq_loc, kRep_eq, kRep2_eq, wRep, woNone, kOSome_eq, woSome, kCut3_eq, kCut2_eq, kCut_eq, wCut, cutF_t, cutF_l, cutF_p, kRev_eq, wRev, lenF_t, lenF_l, lenF_z, lenF_p, tupleF_t, tupleF_l, tupleF_p, listF_t, listF_l, listF_z, listF_p, kOpt_eq, ixF_t, ixF_l, ixF_z, ixF_p, atI_0, atI_1, atI_2, atI_3, mulF_w, divF_w, modF_w, powF_w, addF_ii, addF_tt, addF_ll, addF_pl, subF_ii, ltF_ii, leF_ii, gtF_ii, geF_ii, eqF_ii, neF_ii, eqF_ss, neF_ss, negF_i, absF_i, maxF_ii, minF_ii, toIntF_i, toIntF_b, isN_n, isN_i, isN_t, notN_n, notN_i, notN_t, isN_g, notN_g, sumF_l, isi_i, isi_b, isi_t, isi_n, isi_s, kML0_eq, kML_l, kML_p, wML, appF_p, popF_p, kN_eq, putF_p, getF_p, wNx, wBk, wCt, kS_nx, kS_bk, kS_ct, kS_rt, wSeqS, kRet_eq, wRet, kExp_eq, wExp, kIf_t, kIf_f, wIf, kTg_eq, kAsg_eq, wAsg, tgN_eq, shN_eq, sh2_eq, sh3_eq, sh12_eq, sh21_eq, kAug2_eq, kAug1_eq, kAug_eq, wAug, addI_ii, kPut4_eq, kPut3_eq, kPut2_eq, kPut1_eq, wPut, kAL5_eq, kAL4_eq, kAL3_eq, kAL2_eq, kAL1_eq, wAugL, kPar_eq, wPar, kPar3_eq, wPar3, kFor_eq, wFor, kLoop_nx, kLoop_ct, kLoop_bk, kLoop_rt, kTgt_eq, kWh_t, kWh_f, kLc_eq, wLc, kIs_eq, kIsV_eq, kFn_nx, kFn_rt, g_at0, g_at1, g_at2, g_at3, g_at4, g_set0, g_set1, g_set2, g_set3, g_set4, m_at, m_set, m_atL, List.getElem?_cons_zero, List.getElem?_cons_succ, List.set_cons_zero, List.set_cons_succ, List.length_cons, List.length_nil, slots_cons, slots_nil, List.cons_append, List.nil_append, List.replicate_succ, List.replicate_zero, Nat.reduceAdd, Nat.reduceSub, Nat.reduceEqDiff, if_true, if_false, Nat.reduceLeDiff, cond_true, cond_false, Bool.false_eq_true, wipeI, mem_len, mem_app, Bool.not_true, Bool.not_false, decide_true, decide_false, List.length_append, Nat.add_assoc, List.append_assoc]
      exact ⟨by trivial, by trivial⟩
    rw [et]
    simp only [kLcC_eq, kLcE_eq, kLcT_t, kLcT_f, Int.zero_add, List.length_map, List.length_range, List.length_replicate, mulWF_w, divWF_w, shlF_w, shrF_w, bandF_ii, divmodF_w, dec_selfI, dec_selfS, wp_ok, wp_nox, kVar_eq, wVar, wC, kBin2_eq, kBin_eq, wBin, kUn_eq, wUn, kC2_eq, kC_eq, wCons, wNil, kArg_eq, wArg, kFArg_eq, wFArg, kFl_eq, wFlv, kAl_eq, wAl, wLst, kLst0, kLst1, kLst2, kLst3, kLst4, kLst5, kLst6, wTupv, kTup0, kTup1, kTup2, kTup3, kTup4, kTup5, kTup6, kTst_eq, wTst, kAnd_t, kAnd_f, wAnd, kOr_t, kOr_f, wOr, kNot_eq, wNot, wYes, kIfE_t, kIfE_f, wIfE, kAndV_t, kAndV_f, wAndV, kOrV_f, kOrV_t, wOrV, kNotV_eq, wNotV, kChn4_eq, kChn_t, kChn_f, kChn2_eq, kChn1_eq, wChn, kSeq_t, kSeq_l, kSeq_z, wSeqv, kEnum_t, kEnum_l, wEnumv, kZip_t, kZip_l, wZipv, kRng1_eq, wRng1v, kRng2_eq, wRng2v, kRgL1_eq, wRgL1, kRgL2_eq, kRgL2, wRgL2, onIO_l, onL_fl, onL_loc, onSeq_t, onSeq_fl, onSeq_fz, onSeq_loc, onLsq_fl, onLsq_fz, onLsq_loc, kRep_eq, kRep2_eq, wRep, woNone, kOSome_eq, woSome, kCut3_eq, kCut2_eq, kCut_eq, wCut, cutF_t, cutF_l, cutF_p, kRev_eq, wRev, lenF_t, lenF_l, lenF_z, lenF_p, tupleF_t, tupleF_l, tupleF_p, listF_t, listF_l, listF_z, listF_p, kOpt_eq, ixF_t, ixF_l, ixF_z, ixF_p, atI_0, atI_1, atI_2, atI_3, mulF_w, divF_w, modF_w, powF_w, addF_ii, addF_tt, addF_ll, addF_pl, subF_ii, ltF_ii, leF_ii, gtF_ii, geF_ii, eqF_ii, neF_ii, eqF_ss, neF_ss, negF_i, absF_i, maxF_ii, minF_ii, toIntF_i, toIntF_b, isN_n, isN_i, isN_t, notN_n, notN_i, notN_t, isN_g, notN_g, sumF_l, isi_i, isi_b, isi_t, isi_n, isi_s, kML0_eq, kML_l, kML_p, wML, appF_p, popF_p, kN_eq, putF_p, getF_p, wNx, wBk, wCt, kS_nx, kS_bk, kS_ct, kS_rt, wSeqS, kRet_eq, wRet, kExp_eq, wExp, kIf_t, kIf_f, wIf, kTg_eq, kAsg_eq, wAsg, tgN_eq, shN_eq, sh2_eq, sh3_eq, sh12_eq, sh21_eq, kAug2_eq, kAug1_eq, kAug_eq, wAug, addI_ii, kPut4_eq, kPut3_eq, kPut2_eq, kPut1_eq, wPut, kAL5_eq, kAL4_eq, kAL3_eq, kAL2_eq, kAL1_eq, wAugL, kPar_eq, wPar, kPar3_eq, wPar3, kFor_eq, wFor, kLoop_nx, kLoop_ct, kLoop_bk, kLoop_rt, kTgt_eq, kWh_t, kWh_f, kLc_eq, wLc, kIs_eq, kIsV_eq, kFn_nx, kFn_rt, g_at0, g_at1, g_at2, g_at3, g_at4, g_set0, g_set1, g_set2, g_set3, g_set4, m_at, m_set, m_atL, List.getElem?_cons_zero, List.getElem?_cons_succ, List.set_cons_zero, List.set_cons_succ, List.length_cons, List.length_nil, slots_cons, slots_nil, List.cons_append, List.nil_append, List.replicate_succ, List.replicate_zero, Nat.reduceAdd, Nat.reduceSub, Nat.reduceEqDiff, if_true, if_false, Nat.reduceLeDiff, cond_true, cond_false, Bool.false_eq_true, wipeI, mem_len, mem_app, Bool.not_true, Bool.not_false, decide_true, decide_false, List.length_append, Nat.add_assoc, List.append_assoc]
    refine reprb_wp (szT _) (by decide) (by decide) ?_
    simp only [kLcC_eq, kLcE_eq, kLcT_t, kLcT_f, Int.zero_add, List.length_map, List.length_range, List.length_replicate, mulWF_w, divWF_w, shlF_w, shrF_w, bandF_ii, divmodF_w, dec_selfI, dec_selfS, wp_ok, wp_nox, kVar_eq, wVar, wC, kBin2_eq, kBin_eq, wBin, kUn_eq, wUn, kC2_eq, kC_eq, wCons, wNil, kArg_eq, wArg, kFArg_eq, wFArg, kFl_eq, wFlv, kAl_eq, wAl, wLst, kLst0, kLst1, kLst2, kLst3, kLst4, kLst5, kLst6, wTupv, kTup0, kTup1, kTup2, kTup3, kTup4, kTup5, kTup6, kTst_eq, wTst, kAnd_t, kAnd_f, wAnd, kOr_t, kOr_f, wOr, kNot_eq, wNot, wYes, kIfE_t, kIfE_f, wIfE, kAndV_t, kAndV_f, wAndV, kOrV_f, kOrV_t, wOrV, kNotV_eq, wNotV, kChn4_eq, kChn_t, kChn_f, kChn2_eq, kChn1_eq, wChn, kSeq_t, kSeq_l, kSeq_z, wSeqv, kEnum_t, kEnum_l, wEnumv, kZip_t, kZip_l, wZipv, kRng1_eq, wRng1v, kRng2_eq, wRng2v, kRgL1_eq, wRgL1, kRgL2_eq, kRgL2, wRgL2, onIO_l, onL_fl, onL_loc, onSeq_t, onSeq_fl, onSeq_fz, onSeq_loc, onLsq_fl, onLsq_fz, onLsq_loc, kRep_eq, kRep2_eq, wRep, woNone, kOSome_eq, woSome, kCut3_eq, kCut2_eq, kCut_eq, wCut, cutF_t, cutF_l, cutF_p, kRev_eq, wRev, lenF_t, lenF_l, lenF_z, lenF_p, tupleF_t, tupleF_l, tupleF_p, listF_t, listF_l, listF_z, listF_p, kOpt_eq, ixF_t, ixF_l, ixF_z, ixF_p, atI_0, atI_1, atI_2, atI_3, mulF_w, divF_w, modF_w, powF_w, addF_ii, addF_tt, addF_ll, addF_pl, subF_ii, ltF_ii, leF_ii, gtF_ii, geF_ii, eqF_ii, neF_ii, eqF_ss, neF_ss, negF_i, absF_i, maxF_ii, minF_ii, toIntF_i, toIntF_b, isN_n, isN_i, isN_t, notN_n, notN_i, notN_t, isN_g, notN_g, sumF_l, isi_i, isi_b, isi_t, isi_n, isi_s, kML0_eq, kML_l, kML_p, wML, appF_p, popF_p, kN_eq, putF_p, getF_p, wNx, wBk, wCt, kS_nx, kS_bk, kS_ct, kS_rt, wSeqS, kRet_eq, wRet, kExp_eq, wExp, kIf_t, kIf_f, wIf, kTg_eq, kAsg_eq, wAsg, tgN_eq, shN_eq, sh2_eq, sh3_eq, sh12_eq, sh21_eq, kAug2_eq, kAug1_eq, kAug_eq, wAug, addI_ii, kPut4_eq, kPut3_eq, kPut2_eq, kPut1_eq, wPut, kAL5_eq, kAL4_eq, kAL3_eq, kAL2_eq, kAL1_eq, wAugL, kPar_eq, wPar, kPar3_eq, wPar3, kFor_eq, wFor, kLoop_nx, kLoop_ct, kLoop_bk, kLoop_rt, kTgt_eq, kWh_t, kWh_f, kLc_eq, wLc, kIs_eq, kIsV_eq, kFn_nx, kFn_rt, g_at0, g_at1, g_at2, g_at3, g_at4, g_set0, g_set1, g_set2, g_set3, g_set4, m_at, m_set, m_atL, List.getElem?_cons_zero, List.getElem?_cons_succ, List.set_cons_zero, List.set_cons_succ, List.length_cons, List.length_nil, slots_cons, slots_nil, List.cons_append, List.nil_append, List.replicate_succ, List.replicate_zero, Nat.reduceAdd, Nat.reduceSub, Nat.reduceEqDiff, if_true, if_false, Nat.reduceLeDiff, cond_true, cond_false, Bool.false_eq_true, wipeI, mem_len, mem_app, Bool.not_true, Bool.not_false, decide_true, decide_false, List.length_append, Nat.add_assoc, List.append_assoc, e0, el]
    refine f_times ⟨by omega, by omega⟩ (by omega) ?_
    rw [← ec]
    simp only [kLcC_eq, kLcE_eq, kLcT_t, kLcT_f, Int.zero_add, List.length_map, List.length_range, List.length_replicate, mulWF_w, divWF_w, shlF_w, shrF_w, bandF_ii, divmodF_w, dec_selfI, dec_selfS, wp_ok, wp_nox, kVar_eq, wVar, wC, kBin2_eq, kBin_eq, wBin, kUn_eq, wUn, kC2_eq, kC_eq, wCons, wNil, kArg_eq, wArg, kFArg_eq, wFArg, kFl_eq, wFlv, kAl_eq, wAl, wLst, kLst0, kLst1, kLst2, kLst3, kLst4, kLst5, kLst6, wTupv, kTup0, kTup1, kTup2, kTup3, kTup4, kTup5, kTup6, kTst_eq, wTst, kAnd_t, kAnd_f, wAnd, kOr_t, kOr_f, wOr, kNot_eq, wNot, wYes, kIfE_t, kIfE_f, wIfE, kAndV_t, kAndV_f, wAndV, kOrV_f, kOrV_t, wOrV, kNotV_eq, wNotV, kChn4_eq, kChn_t, kChn_f, kChn2_eq, kChn1_eq, wChn, kSeq_t, kSeq_l, kSeq_z, wSeqv, kEnum_t, kEnum_l, wEnumv, kZip_t, kZip_l, wZipv, kRng1_eq, wRng1v, kRng2_eq, wRng2v, kRgL1_eq, wRgL1, kRgL2_eq, kRgL2, wRgL2, onIO_l, onL_fl, onL_loc, onSeq_t, onSeq_fl, onSeq_fz, onSeq_loc, onLsq_fl, onLsq_fz, onLsq_loc, kRep_eq, kRep2_eq, wRep, woNone, kOSome_eq, woSome, kCut3_eq, kCut2_eq, kCut_eq, wCut, cutF_t, cutF_l, cutF_p, kRev_eq, wRev, lenF_t, lenF_l, lenF_z, lenF_p, tupleF_t, tupleF_l, tupleF_p, listF_t, listF_l, listF_z, listF_p, kOpt_eq, ixF_t, ixF_l, ixF_z, ixF_p, atI_0, atI_1, atI_2, atI_3, mulF_w, divF_w, modF_w, powF_w, addF_ii, addF_tt, addF_ll, addF_pl, subF_ii, ltF_ii, leF_ii, gtF_ii, geF_ii, eqF_ii, neF_ii, eqF_ss, neF_ss, negF_i, absF_i, maxF_ii, minF_ii, toIntF_i, toIntF_b, isN_n, isN_i, isN_t, notN_n, notN_i, notN_t, isN_g, notN_g, sumF_l, isi_i, isi_b, isi_t, isi_n, isi_s, kML0_eq, kML_l, kML_p, wML, appF_p, popF_p, kN_eq, putF_p, getF_p, wNx, wBk, wCt, kS_nx, kS_bk, kS_ct, kS_rt, wSeqS, kRet_eq, wRet, kExp_eq, wExp, kIf_t, kIf_f, wIf, kTg_eq, kAsg_eq, wAsg, tgN_eq, shN_eq, sh2_eq, sh3_eq, sh12_eq, sh21_eq, kAug2_eq, kAug1_eq, kAug_eq, wAug, addI_ii, kPut4_eq, kPut3_eq, kPut2_eq, kPut1_eq, wPut, kAL5_eq, kAL4_eq, kAL3_eq, kAL2_eq, kAL1_eq, wAugL, kPar_eq, wPar, kPar3_eq, wPar3, kFor_eq, wFor, kLoop_nx, kLoop_ct, kLoop_bk, kLoop_rt, kTgt_eq, kWh_t, kWh_f, kLc_eq, wLc, kIs_eq, kIsV_eq, kFn_nx, kFn_rt, g_at0, g_at1, g_at2, g_at3, g_at4, g_set0, g_set1, g_set2, g_set3, g_set4, m_at, m_set, m_atL, List.getElem?_cons_zero, List.getElem?_cons_succ, List.set_cons_zero, List.set_cons_succ, List.length_cons, List.length_nil, slots_cons, slots_nil, List.cons_append, List.nil_append, List.replicate_succ, List.replicate_zero, Nat.reduceAdd, Nat.reduceSub, Nat.reduceEqDiff, if_true, if_false, Nat.reduceLeDiff, cond_true, cond_false, Bool.false_eq_true, wipeI, mem_len, mem_app, Bool.not_true, Bool.not_false, decide_true, decide_false, List.length_append, Nat.add_assoc, List.append_assoc, hd]
    refine ⟨⟨by omega, by omega⟩, ?_⟩
    rw [rgI_c]
    refine lw_pure (fun _ => false) (fun l => .int ((l : Nat) : Int)) (by simp; omega) (fun z hz => ?_) ?_
    · have hz' := List.mem_range.mp hz
      have a1 : atI ((told c).map IV.int) ((z : Nat) : Int) = some (.int (ri c z)) := atI_nat (by rw [List.getElem?_map, told_at (by omega)]; rfl)
      have a2 : atI ((told c).map IV.int) ((z : Int) + 1) = some (.int (ri c (z + 1))) := by
        rw [show (z : Int) + 1 = ((z + 1 : Nat) : Int) by omega]
        exact atI_nat (by rw [List.getElem?_map, told_at (by omega)]; rfl)
      have d1 : decide (ri c z < ri c (z + 1)) = true := decide_eq_true (ri_pos hz')
      have d2 : decide ((c : Int) * (ri c (z + 1) - ri c z) + ri c c - ri c z = ((c : Int) + 1) ^ c) = true := decide_eq_true (ri_whole hz')
      simp only [kLcC_eq, kLcE_eq, kLcT_t, kLcT_f, Int.zero_add, List.length_map, List.length_range, List.length_replicate, mulWF_w, divWF_w, shlF_w, shrF_w, bandF_ii, divmodF_w, dec_selfI, dec_selfS, wp_ok, wp_nox, kVar_eq, wVar, wC, kBin2_eq, kBin_eq, wBin, kUn_eq, wUn, kC2_eq, kC_eq, wCons, wNil, kArg_eq, wArg, kFArg_eq, wFArg, kFl_eq, wFlv, kAl_eq, wAl, wLst, kLst0, kLst1, kLst2, kLst3, kLst4, kLst5, kLst6, wTupv, kTup0, kTup1, kTup2, kTup3, kTup4, kTup5, kTup6, kTst_eq, wTst, kAnd_t, kAnd_f, wAnd, kOr_t, kOr_f, wOr, kNot_eq, wNot, wYes, kIfE_t, kIfE_f, wIfE, kAndV_t, kAndV_f, wAndV, kOrV_f, kOrV_t, wOrV, kNotV_eq, wNotV, kChn4_eq, kChn_t, kChn_f, kChn2_eq, kChn1_eq, wChn, kSeq_t, kSeq_l, kSeq_z, wSeqv, kEnum_t, kEnum_l, wEnumv, kZip_t, kZip_l, wZipv, kRng1_eq, wRng1v, kRng2_eq, wRng2v, kRgL1_eq, wRgL1, kRgL2_eq, kRgL2, wRgL2, onIO_l, onL_fl, onL_loc, onSeq_t, onSeq_fl, onSeq_fz, onSeq_loc, onLsq_fl, onLsq_fz, onLsq_loc, kRep_eq, kRep2_eq, wRep, woNone, kOSome_eq, woSome, kCut3_eq, kCut2_eq, kCut_eq, wCut, cutF_t, cutF_l, cutF_p, kRev_eq, wRev, lenF_t, lenF_l, lenF_z, lenF_p, tupleF_t, tupleF_l, tupleF_p, listF_t, listF_l, listF_z, listF_p, kOpt_eq, ixF_t, ixF_l, ixF_z, ixF_p, atI_0, atI_1, atI_2, atI_3, mulF_w, divF_w, modF_w, powF_w, addF_ii, addF_tt, addF_ll, addF_pl, subF_ii, ltF_ii, leF_ii, gtF_ii, geF_ii, eqF_ii, neF_ii, eqF_ss, neF_ss, negF_i, absF_i, maxF_ii, minF_ii, toIntF_i, toIntF_b, isN_n, isN_i, isN_t, notN_n, notN_i, notN_t, isN_g, notN_g, sumF_l, isi_i, isi_b, isi_t, isi_n, isi_s, kML0_eq, kML_l, kML_p, wML, appF_p, popF_p, kN_eq, putF_p, getF_p, wNx, wBk, wCt, kS_nx, kS_bk, kS_ct, kS_rt, wSeqS, kRet_eq, wRet, kExp_eq, wExp, kIf_t, kIf_f, wIf, kTg_eq, kAsg_eq, wAsg, tgN_eq, shN_eq, sh2_eq, sh3_eq, sh12_eq, sh21_eq, kAug2_eq, kAug1_eq, kAug_eq, wAug, addI_ii, kPut4_eq, kPut3_eq, kPut2_eq, kPut1_eq, wPut, kAL5_eq, kAL4_eq, kAL3_eq, kAL2_eq, kAL1_eq, wAugL, kPar_eq, wPar, kPar3_eq, wPar3, kFor_eq, wFor, kLoop_nx, kLoop_ct, kLoop_bk, kLoop_rt, kTgt_eq, kWh_t, kWh_f, kLc_eq, wLc, kIs_eq, kIsV_eq, kFn_nx, kFn_rt, g_at0, g_at1, g_at2, g_at3, g_at4, g_set0, g_set1, g_set2, g_set3, g_set4, m_at, m_set, m_atL, List.getElem?_cons_zero, List.getElem?_cons_succ, List.set_cons_zero, List.set_cons_succ, List.length_cons, List.length_nil, slots_cons, slots_nil, List.cons_append, List.nil_append, List.replicate_succ, List.replicate_zero, Nat.reduceAdd, Nat.reduceSub, Nat.reduceEqDiff, if_true, if_false, Nat.reduceLeDiff, cond_true, cond_false, Bool.false_eq_true, wipeI, mem_len, mem_app, Bool.not_true, Bool.not_false, decide_true, decide_false, List.length_append, Nat.add_assoc, List.append_assoc, a1, a2, d1, d2]
      refine ⟨⟨.inl ⟨by omega, by omega⟩, trivial, trivial⟩, fun h => by cases h⟩
    rw [filter_no, List.map_nil]
    simp only [kLcC_eq, kLcE_eq, kLcT_t, kLcT_f, Int.zero_add, List.length_map, List.length_range, List.length_replicate, mulWF_w, divWF_w, shlF_w, shrF_w, bandF_ii, divmodF_w, dec_selfI, dec_selfS, wp_ok, wp_nox, kVar_eq, wVar, wC, kBin2_eq, kBin_eq, wBin, kUn_eq, wUn, kC2_eq, kC_eq, wCons, wNil, kArg_eq, wArg, kFArg_eq, wFArg, kFl_eq, wFlv, kAl_eq, wAl, wLst, kLst0, kLst1, kLst2, kLst3, kLst4, kLst5, kLst6, wTupv, kTup0, kTup1, kTup2, kTup3, kTup4, kTup5, kTup6, kTst_eq, wTst, kAnd_t, kAnd_f, wAnd, kOr_t, kOr_f, wOr, kNot_eq, wNot, wYes, kIfE_t, kIfE_f, wIfE, kAndV_t, kAndV_f, wAndV, kOrV_f, kOrV_t, wOrV, kNotV_eq, wNotV, kChn4_eq, kChn_t, kChn_f, kChn2_eq, kChn1_eq, wChn, kSeq_t, kSeq_l, kSeq_z, wSeqv, kEnum_t, kEnum_l, wEnumv, kZip_t, kZip_l, wZipv, kRng1_eq, wRng1v, kRng2_eq, wRng2v, kRgL1_eq, wRgL1, kRgL2_eq, kRgL2, wRgL2, onIO_l, onL_fl, onL_loc, onSeq_t, onSeq_fl, onSeq_fz, onSeq_loc, onLsq_fl, onLsq_fz, onLsq_loc, kRep_eq, kRep2_eq, wRep, woNone, kOSome_eq, woSome, kCut3_eq, kCut2_eq, kCut_eq, wCut, cutF_t, cutF_l, cutF_p, kRev_eq, wRev, lenF_t, lenF_l, lenF_z, lenF_p, tupleF_t, tupleF_l, tupleF_p, listF_t, listF_l, listF_z, listF_p, kOpt_eq, ixF_t, ixF_l, ixF_z, ixF_p, atI_0, atI_1, atI_2, atI_3, mulF_w, divF_w, modF_w, powF_w, addF_ii, addF_tt, addF_ll, addF_pl, subF_ii, ltF_ii, leF_ii, gtF_ii, geF_ii, eqF_ii, neF_ii, eqF_ss, neF_ss, negF_i, absF_i, maxF_ii, minF_ii, toIntF_i, toIntF_b, isN_n, isN_i, isN_t, notN_n, notN_i, notN_t, isN_g, notN_g, sumF_l, isi_i, isi_b, isi_t, isi_n, isi_s, kML0_eq, kML_l, kML_p, wML, appF_p, popF_p, kN_eq, putF_p, getF_p, wNx, wBk, wCt, kS_nx, kS_bk, kS_ct, kS_rt, wSeqS, kRet_eq, wRet, kExp_eq, wExp, kIf_t, kIf_f, wIf, kTg_eq, kAsg_eq, wAsg, tgN_eq, shN_eq, sh2_eq, sh3_eq, sh12_eq, sh21_eq, kAug2_eq, kAug1_eq, kAug_eq, wAug, addI_ii, kPut4_eq, kPut3_eq, kPut2_eq, kPut1_eq, wPut, kAL5_eq, kAL4_eq, kAL3_eq, kAL2_eq, kAL1_eq, wAugL, kPar_eq, wPar, kPar3_eq, wPar3, kFor_eq, wFor, kLoop_nx, kLoop_ct, kLoop_bk, kLoop_rt, kTgt_eq, kWh_t, kWh_f, kLc_eq, wLc, kIs_eq, kIsV_eq, kFn_nx, kFn_rt, g_at0, g_at1, g_at2, g_at3, g_at4, g_set0, g_set1, g_set2, g_set3, g_set4, m_at, m_set, m_atL, List.getElem?_cons_zero, List.getElem?_cons_succ, List.set_cons_zero, List.set_cons_succ, List.length_cons, List.length_nil, slots_cons, slots_nil, List.cons_append, List.nil_append, List.replicate_succ, List.replicate_zero, Nat.reduceAdd, Nat.reduceSub, Nat.reduceEqDiff, if_true, if_false, Nat.reduceLeDiff, cond_true, cond_false, Bool.false_eq_true, wipeI, mem_len, mem_app, Bool.not_true, Bool.not_false, decide_true, decide_false, List.length_append, Nat.add_assoc, List.append_assoc, ne_nilnil]
    have hP : ((c + 1) ^ c - c ^ c : Nat) < 10 ^ 58 := by
      have := whole_bd (c := c) hc2
      rw [wh_nat, Int.natAbs_natCast] at this
      omega
    have hW : ((c + 1) ^ c : Nat) < 10 ^ 58 := by
      have := whole_bd (c := c) hc2
      rw [wh_nat, Int.natAbs_natCast] at this
      exact this
    have szS : ∀ h, Sb h (.tup [.int (((c + 1) ^ c - c ^ c : Nat) : Int), .int (((c + 1) ^ c : Nat) : Int)]) _ 2 _ := fun h => Sb.tup (SbL.cons (Sb.int (by rw [Int.natAbs_natCast]; exact hP)) (SbL.cons (Sb.int (by rw [Int.natAbs_natCast]; exact hW)) SbL.nil))
    refine f_share (by omega) ?_
    rw [ri_nat, wh_nat]
    simp only [kLcC_eq, kLcE_eq, kLcT_t, kLcT_f, Int.zero_add, List.length_map, List.length_range, List.length_replicate, mulWF_w, divWF_w, shlF_w, shrF_w, bandF_ii, divmodF_w, dec_selfI, dec_selfS, wp_ok, wp_nox, kVar_eq, wVar, wC, kBin2_eq, kBin_eq, wBin, kUn_eq, wUn, kC2_eq, kC_eq, wCons, wNil, kArg_eq, wArg, kFArg_eq, wFArg, kFl_eq, wFlv, kAl_eq, wAl, wLst, kLst0, kLst1, kLst2, kLst3, kLst4, kLst5, kLst6, wTupv, kTup0, kTup1, kTup2, kTup3, kTup4, kTup5, kTup6, kTst_eq, wTst, kAnd_t, kAnd_f, wAnd, kOr_t, kOr_f, wOr, kNot_eq, wNot, wYes, kIfE_t, kIfE_f, wIfE, kAndV_t, kAndV_f, wAndV, kOrV_f, kOrV_t, wOrV, kNotV_eq, wNotV, kChn4_eq, kChn_t, kChn_f, kChn2_eq, kChn1_eq, wChn, kSeq_t, kSeq_l, kSeq_z, wSeqv, kEnum_t, kEnum_l, wEnumv, kZip_t, kZip_l, wZipv, kRng1_eq, wRng1v, kRng2_eq, wRng2v, kRgL1_eq, wRgL1, kRgL2_eq, kRgL2, wRgL2, onIO_l, onL_fl, onL_loc, onSeq_t, onSeq_fl, onSeq_fz, onSeq_loc, onLsq_fl, onLsq_fz, onLsq_loc, kRep_eq, kRep2_eq, wRep, woNone, kOSome_eq, woSome, kCut3_eq, kCut2_eq, kCut_eq, wCut, cutF_t, cutF_l, cutF_p, kRev_eq, wRev, lenF_t, lenF_l, lenF_z, lenF_p, tupleF_t, tupleF_l, tupleF_p, listF_t, listF_l, listF_z, listF_p, kOpt_eq, ixF_t, ixF_l, ixF_z, ixF_p, atI_0, atI_1, atI_2, atI_3, mulF_w, divF_w, modF_w, powF_w, addF_ii, addF_tt, addF_ll, addF_pl, subF_ii, ltF_ii, leF_ii, gtF_ii, geF_ii, eqF_ii, neF_ii, eqF_ss, neF_ss, negF_i, absF_i, maxF_ii, minF_ii, toIntF_i, toIntF_b, isN_n, isN_i, isN_t, notN_n, notN_i, notN_t, isN_g, notN_g, sumF_l, isi_i, isi_b, isi_t, isi_n, isi_s, kML0_eq, kML_l, kML_p, wML, appF_p, popF_p, kN_eq, putF_p, getF_p, wNx, wBk, wCt, kS_nx, kS_bk, kS_ct, kS_rt, wSeqS, kRet_eq, wRet, kExp_eq, wExp, kIf_t, kIf_f, wIf, kTg_eq, kAsg_eq, wAsg, tgN_eq, shN_eq, sh2_eq, sh3_eq, sh12_eq, sh21_eq, kAug2_eq, kAug1_eq, kAug_eq, wAug, addI_ii, kPut4_eq, kPut3_eq, kPut2_eq, kPut1_eq, wPut, kAL5_eq, kAL4_eq, kAL3_eq, kAL2_eq, kAL1_eq, wAugL, kPar_eq, wPar, kPar3_eq, wPar3, kFor_eq, wFor, kLoop_nx, kLoop_ct, kLoop_bk, kLoop_rt, kTgt_eq, kWh_t, kWh_f, kLc_eq, wLc, kIs_eq, kIsV_eq, kFn_nx, kFn_rt, g_at0, g_at1, g_at2, g_at3, g_at4, g_set0, g_set1, g_set2, g_set3, g_set4, m_at, m_set, m_atL, List.getElem?_cons_zero, List.getElem?_cons_succ, List.set_cons_zero, List.set_cons_succ, List.length_cons, List.length_nil, slots_cons, slots_nil, List.cons_append, List.nil_append, List.replicate_succ, List.replicate_zero, Nat.reduceAdd, Nat.reduceSub, Nat.reduceEqDiff, if_true, if_false, Nat.reduceLeDiff, cond_true, cond_false, Bool.false_eq_true, wipeI, mem_len, mem_app, Bool.not_true, Bool.not_false, decide_true, decide_false, List.length_append, Nat.add_assoc, List.append_assoc]
    refine reprb_wp (szS _) (by decide) (by decide) ?_
    simp only [kLcC_eq, kLcE_eq, kLcT_t, kLcT_f, Int.zero_add, List.length_map, List.length_range, List.length_replicate, mulWF_w, divWF_w, shlF_w, shrF_w, bandF_ii, divmodF_w, dec_selfI, dec_selfS, wp_ok, wp_nox, kVar_eq, wVar, wC, kBin2_eq, kBin_eq, wBin, kUn_eq, wUn, kC2_eq, kC_eq, wCons, wNil, kArg_eq, wArg, kFArg_eq, wFArg, kFl_eq, wFlv, kAl_eq, wAl, wLst, kLst0, kLst1, kLst2, kLst3, kLst4, kLst5, kLst6, wTupv, kTup0, kTup1, kTup2, kTup3, kTup4, kTup5, kTup6, kTst_eq, wTst, kAnd_t, kAnd_f, wAnd, kOr_t, kOr_f, wOr, kNot_eq, wNot, wYes, kIfE_t, kIfE_f, wIfE, kAndV_t, kAndV_f, wAndV, kOrV_f, kOrV_t, wOrV, kNotV_eq, wNotV, kChn4_eq, kChn_t, kChn_f, kChn2_eq, kChn1_eq, wChn, kSeq_t, kSeq_l, kSeq_z, wSeqv, kEnum_t, kEnum_l, wEnumv, kZip_t, kZip_l, wZipv, kRng1_eq, wRng1v, kRng2_eq, wRng2v, kRgL1_eq, wRgL1, kRgL2_eq, kRgL2, wRgL2, onIO_l, onL_fl, onL_loc, onSeq_t, onSeq_fl, onSeq_fz, onSeq_loc, onLsq_fl, onLsq_fz, onLsq_loc, kRep_eq, kRep2_eq, wRep, woNone, kOSome_eq, woSome, kCut3_eq, kCut2_eq, kCut_eq, wCut, cutF_t, cutF_l, cutF_p, kRev_eq, wRev, lenF_t, lenF_l, lenF_z, lenF_p, tupleF_t, tupleF_l, tupleF_p, listF_t, listF_l, listF_z, listF_p, kOpt_eq, ixF_t, ixF_l, ixF_z, ixF_p, atI_0, atI_1, atI_2, atI_3, mulF_w, divF_w, modF_w, powF_w, addF_ii, addF_tt, addF_ll, addF_pl, subF_ii, ltF_ii, leF_ii, gtF_ii, geF_ii, eqF_ii, neF_ii, eqF_ss, neF_ss, negF_i, absF_i, maxF_ii, minF_ii, toIntF_i, toIntF_b, isN_n, isN_i, isN_t, notN_n, notN_i, notN_t, isN_g, notN_g, sumF_l, isi_i, isi_b, isi_t, isi_n, isi_s, kML0_eq, kML_l, kML_p, wML, appF_p, popF_p, kN_eq, putF_p, getF_p, wNx, wBk, wCt, kS_nx, kS_bk, kS_ct, kS_rt, wSeqS, kRet_eq, wRet, kExp_eq, wExp, kIf_t, kIf_f, wIf, kTg_eq, kAsg_eq, wAsg, tgN_eq, shN_eq, sh2_eq, sh3_eq, sh12_eq, sh21_eq, kAug2_eq, kAug1_eq, kAug_eq, wAug, addI_ii, kPut4_eq, kPut3_eq, kPut2_eq, kPut1_eq, wPut, kAL5_eq, kAL4_eq, kAL3_eq, kAL2_eq, kAL1_eq, wAugL, kPar_eq, wPar, kPar3_eq, wPar3, kFor_eq, wFor, kLoop_nx, kLoop_ct, kLoop_bk, kLoop_rt, kTgt_eq, kWh_t, kWh_f, kLc_eq, wLc, kIs_eq, kIsV_eq, kFn_nx, kFn_rt, g_at0, g_at1, g_at2, g_at3, g_at4, g_set0, g_set1, g_set2, g_set3, g_set4, m_at, m_set, m_atL, List.getElem?_cons_zero, List.getElem?_cons_succ, List.set_cons_zero, List.set_cons_succ, List.length_cons, List.length_nil, slots_cons, slots_nil, List.cons_append, List.nil_append, List.replicate_succ, List.replicate_zero, Nat.reduceAdd, Nat.reduceSub, Nat.reduceEqDiff, if_true, if_false, Nat.reduceLeDiff, cond_true, cond_false, Bool.false_eq_true, wipeI, mem_len, mem_app, Bool.not_true, Bool.not_false, decide_true, decide_false, List.length_append, Nat.add_assoc, List.append_assoc]
    refine f_lowest (gcd_one c (by omega)) (Nat.pow_pos (by omega)) (log_bd hP) (log_bd hW) ?_
    simp only [kLcC_eq, kLcE_eq, kLcT_t, kLcT_f, Int.zero_add, List.length_map, List.length_range, List.length_replicate, mulWF_w, divWF_w, shlF_w, shrF_w, bandF_ii, divmodF_w, dec_selfI, dec_selfS, wp_ok, wp_nox, kVar_eq, wVar, wC, kBin2_eq, kBin_eq, wBin, kUn_eq, wUn, kC2_eq, kC_eq, wCons, wNil, kArg_eq, wArg, kFArg_eq, wFArg, kFl_eq, wFlv, kAl_eq, wAl, wLst, kLst0, kLst1, kLst2, kLst3, kLst4, kLst5, kLst6, wTupv, kTup0, kTup1, kTup2, kTup3, kTup4, kTup5, kTup6, kTst_eq, wTst, kAnd_t, kAnd_f, wAnd, kOr_t, kOr_f, wOr, kNot_eq, wNot, wYes, kIfE_t, kIfE_f, wIfE, kAndV_t, kAndV_f, wAndV, kOrV_f, kOrV_t, wOrV, kNotV_eq, wNotV, kChn4_eq, kChn_t, kChn_f, kChn2_eq, kChn1_eq, wChn, kSeq_t, kSeq_l, kSeq_z, wSeqv, kEnum_t, kEnum_l, wEnumv, kZip_t, kZip_l, wZipv, kRng1_eq, wRng1v, kRng2_eq, wRng2v, kRgL1_eq, wRgL1, kRgL2_eq, kRgL2, wRgL2, onIO_l, onL_fl, onL_loc, onSeq_t, onSeq_fl, onSeq_fz, onSeq_loc, onLsq_fl, onLsq_fz, onLsq_loc, kRep_eq, kRep2_eq, wRep, woNone, kOSome_eq, woSome, kCut3_eq, kCut2_eq, kCut_eq, wCut, cutF_t, cutF_l, cutF_p, kRev_eq, wRev, lenF_t, lenF_l, lenF_z, lenF_p, tupleF_t, tupleF_l, tupleF_p, listF_t, listF_l, listF_z, listF_p, kOpt_eq, ixF_t, ixF_l, ixF_z, ixF_p, atI_0, atI_1, atI_2, atI_3, mulF_w, divF_w, modF_w, powF_w, addF_ii, addF_tt, addF_ll, addF_pl, subF_ii, ltF_ii, leF_ii, gtF_ii, geF_ii, eqF_ii, neF_ii, eqF_ss, neF_ss, negF_i, absF_i, maxF_ii, minF_ii, toIntF_i, toIntF_b, isN_n, isN_i, isN_t, notN_n, notN_i, notN_t, isN_g, notN_g, sumF_l, isi_i, isi_b, isi_t, isi_n, isi_s, kML0_eq, kML_l, kML_p, wML, appF_p, popF_p, kN_eq, putF_p, getF_p, wNx, wBk, wCt, kS_nx, kS_bk, kS_ct, kS_rt, wSeqS, kRet_eq, wRet, kExp_eq, wExp, kIf_t, kIf_f, wIf, kTg_eq, kAsg_eq, wAsg, tgN_eq, shN_eq, sh2_eq, sh3_eq, sh12_eq, sh21_eq, kAug2_eq, kAug1_eq, kAug_eq, wAug, addI_ii, kPut4_eq, kPut3_eq, kPut2_eq, kPut1_eq, wPut, kAL5_eq, kAL4_eq, kAL3_eq, kAL2_eq, kAL1_eq, wAugL, kPar_eq, wPar, kPar3_eq, wPar3, kFor_eq, wFor, kLoop_nx, kLoop_ct, kLoop_bk, kLoop_rt, kTgt_eq, kWh_t, kWh_f, kLc_eq, wLc, kIs_eq, kIsV_eq, kFn_nx, kFn_rt, g_at0, g_at1, g_at2, g_at3, g_at4, g_set0, g_set1, g_set2, g_set3, g_set4, m_at, m_set, m_atL, List.getElem?_cons_zero, List.getElem?_cons_succ, List.set_cons_zero, List.set_cons_succ, List.length_cons, List.length_nil, slots_cons, slots_nil, List.cons_append, List.nil_append, List.replicate_succ, List.replicate_zero, Nat.reduceAdd, Nat.reduceSub, Nat.reduceEqDiff, if_true, if_false, Nat.reduceLeDiff, cond_true, cond_false, Bool.false_eq_true, wipeI, mem_len, mem_app, Bool.not_true, Bool.not_false, decide_true, decide_false, List.length_append, Nat.add_assoc, List.append_assoc]
    refine reprb_wp (szS _) (by decide) (by decide) ?_
    simp only [kLcC_eq, kLcE_eq, kLcT_t, kLcT_f, Int.zero_add, List.length_map, List.length_range, List.length_replicate, mulWF_w, divWF_w, shlF_w, shrF_w, bandF_ii, divmodF_w, dec_selfI, dec_selfS, wp_ok, wp_nox, kVar_eq, wVar, wC, kBin2_eq, kBin_eq, wBin, kUn_eq, wUn, kC2_eq, kC_eq, wCons, wNil, kArg_eq, wArg, kFArg_eq, wFArg, kFl_eq, wFlv, kAl_eq, wAl, wLst, kLst0, kLst1, kLst2, kLst3, kLst4, kLst5, kLst6, wTupv, kTup0, kTup1, kTup2, kTup3, kTup4, kTup5, kTup6, kTst_eq, wTst, kAnd_t, kAnd_f, wAnd, kOr_t, kOr_f, wOr, kNot_eq, wNot, wYes, kIfE_t, kIfE_f, wIfE, kAndV_t, kAndV_f, wAndV, kOrV_f, kOrV_t, wOrV, kNotV_eq, wNotV, kChn4_eq, kChn_t, kChn_f, kChn2_eq, kChn1_eq, wChn, kSeq_t, kSeq_l, kSeq_z, wSeqv, kEnum_t, kEnum_l, wEnumv, kZip_t, kZip_l, wZipv, kRng1_eq, wRng1v, kRng2_eq, wRng2v, kRgL1_eq, wRgL1, kRgL2_eq, kRgL2, wRgL2, onIO_l, onL_fl, onL_loc, onSeq_t, onSeq_fl, onSeq_fz, onSeq_loc, onLsq_fl, onLsq_fz, onLsq_loc, kRep_eq, kRep2_eq, wRep, woNone, kOSome_eq, woSome, kCut3_eq, kCut2_eq, kCut_eq, wCut, cutF_t, cutF_l, cutF_p, kRev_eq, wRev, lenF_t, lenF_l, lenF_z, lenF_p, tupleF_t, tupleF_l, tupleF_p, listF_t, listF_l, listF_z, listF_p, kOpt_eq, ixF_t, ixF_l, ixF_z, ixF_p, atI_0, atI_1, atI_2, atI_3, mulF_w, divF_w, modF_w, powF_w, addF_ii, addF_tt, addF_ll, addF_pl, subF_ii, ltF_ii, leF_ii, gtF_ii, geF_ii, eqF_ii, neF_ii, eqF_ss, neF_ss, negF_i, absF_i, maxF_ii, minF_ii, toIntF_i, toIntF_b, isN_n, isN_i, isN_t, notN_n, notN_i, notN_t, isN_g, notN_g, sumF_l, isi_i, isi_b, isi_t, isi_n, isi_s, kML0_eq, kML_l, kML_p, wML, appF_p, popF_p, kN_eq, putF_p, getF_p, wNx, wBk, wCt, kS_nx, kS_bk, kS_ct, kS_rt, wSeqS, kRet_eq, wRet, kExp_eq, wExp, kIf_t, kIf_f, wIf, kTg_eq, kAsg_eq, wAsg, tgN_eq, shN_eq, sh2_eq, sh3_eq, sh12_eq, sh21_eq, kAug2_eq, kAug1_eq, kAug_eq, wAug, addI_ii, kPut4_eq, kPut3_eq, kPut2_eq, kPut1_eq, wPut, kAL5_eq, kAL4_eq, kAL3_eq, kAL2_eq, kAL1_eq, wAugL, kPar_eq, wPar, kPar3_eq, wPar3, kFor_eq, wFor, kLoop_nx, kLoop_ct, kLoop_bk, kLoop_rt, kTgt_eq, kWh_t, kWh_f, kLc_eq, wLc, kIs_eq, kIsV_eq, kFn_nx, kFn_rt, g_at0, g_at1, g_at2, g_at3, g_at4, g_set0, g_set1, g_set2, g_set3, g_set4, m_at, m_set, m_atL, List.getElem?_cons_zero, List.getElem?_cons_succ, List.set_cons_zero, List.set_cons_succ, List.length_cons, List.length_nil, slots_cons, slots_nil, List.cons_append, List.nil_append, List.replicate_succ, List.replicate_zero, Nat.reduceAdd, Nat.reduceSub, Nat.reduceEqDiff, if_true, if_false, Nat.reduceLeDiff, cond_true, cond_false, Bool.false_eq_true, wipeI, mem_len, mem_app, Bool.not_true, Bool.not_false, decide_true, decide_false, List.length_append, Nat.add_assoc, List.append_assoc]
    refine kIfE_join (fun v h => ∃ (hi : Nat), 1 ≤ hi ∧ hi ≤ 30 ∧ v = .int (hi : Nat) ∧ h = mem s1 R) ?_ (fun hb => ?_) (fun hb => ?_)
    rotate_left
    · simp only [kLcC_eq, kLcE_eq, kLcT_t, kLcT_f, Int.zero_add, List.length_map, List.length_range, List.length_replicate, mulWF_w, divWF_w, shlF_w, shrF_w, bandF_ii, divmodF_w, dec_selfI, dec_selfS, wp_ok, wp_nox, kVar_eq, wVar, wC, kBin2_eq, kBin_eq, wBin, kUn_eq, wUn, kC2_eq, kC_eq, wCons, wNil, kArg_eq, wArg, kFArg_eq, wFArg, kFl_eq, wFlv, kAl_eq, wAl, wLst, kLst0, kLst1, kLst2, kLst3, kLst4, kLst5, kLst6, wTupv, kTup0, kTup1, kTup2, kTup3, kTup4, kTup5, kTup6, kTst_eq, wTst, kAnd_t, kAnd_f, wAnd, kOr_t, kOr_f, wOr, kNot_eq, wNot, wYes, kIfE_t, kIfE_f, wIfE, kAndV_t, kAndV_f, wAndV, kOrV_f, kOrV_t, wOrV, kNotV_eq, wNotV, kChn4_eq, kChn_t, kChn_f, kChn2_eq, kChn1_eq, wChn, kSeq_t, kSeq_l, kSeq_z, wSeqv, kEnum_t, kEnum_l, wEnumv, kZip_t, kZip_l, wZipv, kRng1_eq, wRng1v, kRng2_eq, wRng2v, kRgL1_eq, wRgL1, kRgL2_eq, kRgL2, wRgL2, onIO_l, onL_fl, onL_loc, onSeq_t, onSeq_fl, onSeq_fz, onSeq_loc, onLsq_fl, onLsq_fz, onLsq_loc, kRep_eq, kRep2_eq, wRep, woNone, kOSome_eq, woSome, kCut3_eq, kCut2_eq, kCut_eq, wCut, cutF_t, cutF_l, cutF_p, kRev_eq, wRev, lenF_t, lenF_l, lenF_z, lenF_p, tupleF_t, tupleF_l, tupleF_p, listF_t, listF_l, listF_z, listF_p, kOpt_eq, ixF_t, ixF_l, ixF_z, ixF_p, atI_0, atI_1, atI_2, atI_3, mulF_w, divF_w, modF_w, powF_w, addF_ii, addF_tt, addF_ll, addF_pl, subF_ii, ltF_ii, leF_ii, gtF_ii, geF_ii, eqF_ii, neF_ii, eqF_ss, neF_ss, negF_i, absF_i, maxF_ii, minF_ii, toIntF_i, toIntF_b, isN_n, isN_i, isN_t, notN_n, notN_i, notN_t, isN_g, notN_g, sumF_l, isi_i, isi_b, isi_t, isi_n, isi_s, kML0_eq, kML_l, kML_p, wML, appF_p, popF_p, kN_eq, putF_p, getF_p, wNx, wBk, wCt, kS_nx, kS_bk, kS_ct, kS_rt, wSeqS, kRet_eq, wRet, kExp_eq, wExp, kIf_t, kIf_f, wIf, kTg_eq, kAsg_eq, wAsg, tgN_eq, shN_eq, sh2_eq, sh3_eq, sh12_eq, sh21_eq, kAug2_eq, kAug1_eq, kAug_eq, wAug, addI_ii, kPut4_eq, kPut3_eq, kPut2_eq, kPut1_eq, wPut, kAL5_eq, kAL4_eq, kAL3_eq, kAL2_eq, kAL1_eq, wAugL, kPar_eq, wPar, kPar3_eq, wPar3, kFor_eq, wFor, kLoop_nx, kLoop_ct, kLoop_bk, kLoop_rt, kTgt_eq, kWh_t, kWh_f, kLc_eq, wLc, kIs_eq, kIsV_eq, kFn_nx, kFn_rt, g_at0, g_at1, g_at2, g_at3, g_at4, g_set0, g_set1, g_set2, g_set3, g_set4, m_at, m_set, m_atL, List.getElem?_cons_zero, List.getElem?_cons_succ, List.set_cons_zero, List.set_cons_succ, List.length_cons, List.length_nil, slots_cons, slots_nil, List.cons_append, List.nil_append, List.replicate_succ, List.replicate_zero, Nat.reduceAdd, Nat.reduceSub, Nat.reduceEqDiff, if_true, if_false, Nat.reduceLeDiff, cond_true, cond_false, Bool.false_eq_true, wipeI, mem_len, mem_app, Bool.not_true, Bool.not_false, decide_true, decide_false, List.length_append, Nat.add_assoc, List.append_assoc]
      exact ⟨12, by decide, by decide, by trivial, by trivial⟩
    · simp only [kLcC_eq, kLcE_eq, kLcT_t, kLcT_f, Int.zero_add, List.length_map, List.length_range, List.length_replicate, mulWF_w, divWF_w, shlF_w, shrF_w, bandF_ii, divmodF_w, dec_selfI, dec_selfS, wp_ok, wp_nox, kVar_eq, wVar, wC, kBin2_eq, kBin_eq, wBin, kUn_eq, wUn, kC2_eq, kC_eq, wCons, wNil, kArg_eq, wArg, kFArg_eq, wFArg, kFl_eq, wFlv, kAl_eq, wAl, wLst, kLst0, kLst1, kLst2, kLst3, kLst4, kLst5, kLst6, wTupv, kTup0, kTup1, kTup2, kTup3, kTup4, kTup5, kTup6, kTst_eq, wTst, kAnd_t, kAnd_f, wAnd, kOr_t, kOr_f, wOr, kNot_eq, wNot, wYes, kIfE_t, kIfE_f, wIfE, kAndV_t, kAndV_f, wAndV, kOrV_f, kOrV_t, wOrV, kNotV_eq, wNotV, kChn4_eq, kChn_t, kChn_f, kChn2_eq, kChn1_eq, wChn, kSeq_t, kSeq_l, kSeq_z, wSeqv, kEnum_t, kEnum_l, wEnumv, kZip_t, kZip_l, wZipv, kRng1_eq, wRng1v, kRng2_eq, wRng2v, kRgL1_eq, wRgL1, kRgL2_eq, kRgL2, wRgL2, onIO_l, onL_fl, onL_loc, onSeq_t, onSeq_fl, onSeq_fz, onSeq_loc, onLsq_fl, onLsq_fz, onLsq_loc, kRep_eq, kRep2_eq, wRep, woNone, kOSome_eq, woSome, kCut3_eq, kCut2_eq, kCut_eq, wCut, cutF_t, cutF_l, cutF_p, kRev_eq, wRev, lenF_t, lenF_l, lenF_z, lenF_p, tupleF_t, tupleF_l, tupleF_p, listF_t, listF_l, listF_z, listF_p, kOpt_eq, ixF_t, ixF_l, ixF_z, ixF_p, atI_0, atI_1, atI_2, atI_3, mulF_w, divF_w, modF_w, powF_w, addF_ii, addF_tt, addF_ll, addF_pl, subF_ii, ltF_ii, leF_ii, gtF_ii, geF_ii, eqF_ii, neF_ii, eqF_ss, neF_ss, negF_i, absF_i, maxF_ii, minF_ii, toIntF_i, toIntF_b, isN_n, isN_i, isN_t, notN_n, notN_i, notN_t, isN_g, notN_g, sumF_l, isi_i, isi_b, isi_t, isi_n, isi_s, kML0_eq, kML_l, kML_p, wML, appF_p, popF_p, kN_eq, putF_p, getF_p, wNx, wBk, wCt, kS_nx, kS_bk, kS_ct, kS_rt, wSeqS, kRet_eq, wRet, kExp_eq, wExp, kIf_t, kIf_f, wIf, kTg_eq, kAsg_eq, wAsg, tgN_eq, shN_eq, sh2_eq, sh3_eq, sh12_eq, sh21_eq, kAug2_eq, kAug1_eq, kAug_eq, wAug, addI_ii, kPut4_eq, kPut3_eq, kPut2_eq, kPut1_eq, wPut, kAL5_eq, kAL4_eq, kAL3_eq, kAL2_eq, kAL1_eq, wAugL, kPar_eq, wPar, kPar3_eq, wPar3, kFor_eq, wFor, kLoop_nx, kLoop_ct, kLoop_bk, kLoop_rt, kTgt_eq, kWh_t, kWh_f, kLc_eq, wLc, kIs_eq, kIsV_eq, kFn_nx, kFn_rt, g_at0, g_at1, g_at2, g_at3, g_at4, g_set0, g_set1, g_set2, g_set3, g_set4, m_at, m_set, m_atL, List.getElem?_cons_zero, List.getElem?_cons_succ, List.set_cons_zero, List.set_cons_succ, List.length_cons, List.length_nil, slots_cons, slots_nil, List.cons_append, List.nil_append, List.replicate_succ, List.replicate_zero, Nat.reduceAdd, Nat.reduceSub, Nat.reduceEqDiff, if_true, if_false, Nat.reduceLeDiff, cond_true, cond_false, Bool.false_eq_true, wipeI, mem_len, mem_app, Bool.not_true, Bool.not_false, decide_true, decide_false, List.length_append, Nat.add_assoc, List.append_assoc]
      exact ⟨30, by decide, by decide, by trivial, by trivial⟩
    rintro v h ⟨hi, hi1, hi2, rfl, rfl⟩
    simp only [kLcC_eq, kLcE_eq, kLcT_t, kLcT_f, Int.zero_add, List.length_map, List.length_range, List.length_replicate, mulWF_w, divWF_w, shlF_w, shrF_w, bandF_ii, divmodF_w, dec_selfI, dec_selfS, wp_ok, wp_nox, kVar_eq, wVar, wC, kBin2_eq, kBin_eq, wBin, kUn_eq, wUn, kC2_eq, kC_eq, wCons, wNil, kArg_eq, wArg, kFArg_eq, wFArg, kFl_eq, wFlv, kAl_eq, wAl, wLst, kLst0, kLst1, kLst2, kLst3, kLst4, kLst5, kLst6, wTupv, kTup0, kTup1, kTup2, kTup3, kTup4, kTup5, kTup6, kTst_eq, wTst, kAnd_t, kAnd_f, wAnd, kOr_t, kOr_f, wOr, kNot_eq, wNot, wYes, kIfE_t, kIfE_f, wIfE, kAndV_t, kAndV_f, wAndV, kOrV_f, kOrV_t, wOrV, kNotV_eq, wNotV, kChn4_eq, kChn_t, kChn_f, kChn2_eq, kChn1_eq, wChn, kSeq_t, kSeq_l, kSeq_z, wSeqv, kEnum_t, kEnum_l, wEnumv, kZip_t, kZip_l, wZipv, kRng1_eq, wRng1v, kRng2_eq, wRng2v, kRgL1_eq, wRgL1, kRgL2_eq, kRgL2, wRgL2, onIO_l, onL_fl, onL_loc, onSeq_t, onSeq_fl, onSeq_fz, onSeq_loc, onLsq_fl, onLsq_fz, onLsq_loc, kRep_eq, kRep2_eq, wRep, woNone, kOSome_eq, woSome, kCut3_eq, kCut2_eq, kCut_eq, wCut, cutF_t, cutF_l, cutF_p, kRev_eq, wRev, lenF_t, lenF_l, lenF_z, lenF_p, tupleF_t, tupleF_l, tupleF_p, listF_t, listF_l, listF_z, listF_p, kOpt_eq, ixF_t, ixF_l, ixF_z, ixF_p, atI_0, atI_1, atI_2, atI_3, mulF_w, divF_w, modF_w, powF_w, addF_ii, addF_tt, addF_ll, addF_pl, subF_ii, ltF_ii, leF_ii, gtF_ii, geF_ii, eqF_ii, neF_ii, eqF_ss, neF_ss, negF_i, absF_i, maxF_ii, minF_ii, toIntF_i, toIntF_b, isN_n, isN_i, isN_t, notN_n, notN_i, notN_t, isN_g, notN_g, sumF_l, isi_i, isi_b, isi_t, isi_n, isi_s, kML0_eq, kML_l, kML_p, wML, appF_p, popF_p, kN_eq, putF_p, getF_p, wNx, wBk, wCt, kS_nx, kS_bk, kS_ct, kS_rt, wSeqS, kRet_eq, wRet, kExp_eq, wExp, kIf_t, kIf_f, wIf, kTg_eq, kAsg_eq, wAsg, tgN_eq, shN_eq, sh2_eq, sh3_eq, sh12_eq, sh21_eq, kAug2_eq, kAug1_eq, kAug_eq, wAug, addI_ii, kPut4_eq, kPut3_eq, kPut2_eq, kPut1_eq, wPut, kAL5_eq, kAL4_eq, kAL3_eq, kAL2_eq, kAL1_eq, wAugL, kPar_eq, wPar, kPar3_eq, wPar3, kFor_eq, wFor, kLoop_nx, kLoop_ct, kLoop_bk, kLoop_rt, kTgt_eq, kWh_t, kWh_f, kLc_eq, wLc, kIs_eq, kIsV_eq, kFn_nx, kFn_rt, g_at0, g_at1, g_at2, g_at3, g_at4, g_set0, g_set1, g_set2, g_set3, g_set4, m_at, m_set, m_atL, List.getElem?_cons_zero, List.getElem?_cons_succ, List.set_cons_zero, List.set_cons_succ, List.length_cons, List.length_nil, slots_cons, slots_nil, List.cons_append, List.nil_append, List.replicate_succ, List.replicate_zero, Nat.reduceAdd, Nat.reduceSub, Nat.reduceEqDiff, if_true, if_false, Nat.reduceLeDiff, cond_true, cond_false, Bool.false_eq_true, wipeI, mem_len, mem_app, Bool.not_true, Bool.not_false, decide_true, decide_false, List.length_append, Nat.add_assoc, List.append_assoc]
    refine f_yard (top := 6) g1 (by decide) ⟨hi1, by omega⟩ fun s2 R2 cy ws g2 hcy hwl hw => ?_
    simp only [kLcC_eq, kLcE_eq, kLcT_t, kLcT_f, Int.zero_add, List.length_map, List.length_range, List.length_replicate, mulWF_w, divWF_w, shlF_w, shrF_w, bandF_ii, divmodF_w, dec_selfI, dec_selfS, wp_ok, wp_nox, kVar_eq, wVar, wC, kBin2_eq, kBin_eq, wBin, kUn_eq, wUn, kC2_eq, kC_eq, wCons, wNil, kArg_eq, wArg, kFArg_eq, wFArg, kFl_eq, wFlv, kAl_eq, wAl, wLst, kLst0, kLst1, kLst2, kLst3, kLst4, kLst5, kLst6, wTupv, kTup0, kTup1, kTup2, kTup3, kTup4, kTup5, kTup6, kTst_eq, wTst, kAnd_t, kAnd_f, wAnd, kOr_t, kOr_f, wOr, kNot_eq, wNot, wYes, kIfE_t, kIfE_f, wIfE, kAndV_t, kAndV_f, wAndV, kOrV_f, kOrV_t, wOrV, kNotV_eq, wNotV, kChn4_eq, kChn_t, kChn_f, kChn2_eq, kChn1_eq, wChn, kSeq_t, kSeq_l, kSeq_z, wSeqv, kEnum_t, kEnum_l, wEnumv, kZip_t, kZip_l, wZipv, kRng1_eq, wRng1v, kRng2_eq, wRng2v, kRgL1_eq, wRgL1, kRgL2_eq, kRgL2, wRgL2, onIO_l, onL_fl, onL_loc, onSeq_t, onSeq_fl, onSeq_fz, onSeq_loc, onLsq_fl, onLsq_fz, onLsq_loc, kRep_eq, kRep2_eq, wRep, woNone, kOSome_eq, woSome, kCut3_eq, kCut2_eq, kCut_eq, wCut, cutF_t, cutF_l, cutF_p, kRev_eq, wRev, lenF_t, lenF_l, lenF_z, lenF_p, tupleF_t, tupleF_l, tupleF_p, listF_t, listF_l, listF_z, listF_p, kOpt_eq, ixF_t, ixF_l, ixF_z, ixF_p, atI_0, atI_1, atI_2, atI_3, mulF_w, divF_w, modF_w, powF_w, addF_ii, addF_tt, addF_ll, addF_pl, subF_ii, ltF_ii, leF_ii, gtF_ii, geF_ii, eqF_ii, neF_ii, eqF_ss, neF_ss, negF_i, absF_i, maxF_ii, minF_ii, toIntF_i, toIntF_b, isN_n, isN_i, isN_t, notN_n, notN_i, notN_t, isN_g, notN_g, sumF_l, isi_i, isi_b, isi_t, isi_n, isi_s, kML0_eq, kML_l, kML_p, wML, appF_p, popF_p, kN_eq, putF_p, getF_p, wNx, wBk, wCt, kS_nx, kS_bk, kS_ct, kS_rt, wSeqS, kRet_eq, wRet, kExp_eq, wExp, kIf_t, kIf_f, wIf, kTg_eq, kAsg_eq, wAsg, tgN_eq, shN_eq, sh2_eq, sh3_eq, sh12_eq, sh21_eq, kAug2_eq, kAug1_eq, kAug_eq, wAug, addI_ii, kPut4_eq, kPut3_eq, kPut2_eq, kPut1_eq, wPut, kAL5_eq, kAL4_eq, kAL3_eq, kAL2_eq, kAL1_eq, wAugL, kPar_eq, wPar, kPar3_eq, wPar3, kFor_eq, wFor, kLoop_nx, kLoop_ct, kLoop_bk, kLoop_rt, kTgt_eq, kWh_t, kWh_f, kLc_eq, wLc, kIs_eq, kIsV_eq, kFn_nx, kFn_rt, g_at0, g_at1, g_at2, g_at3, g_at4, g_set0, g_set1, g_set2, g_set3, g_set4, m_at, m_set, m_atL, List.getElem?_cons_zero, List.getElem?_cons_succ, List.set_cons_zero, List.set_cons_succ, List.length_cons, List.length_nil, slots_cons, slots_nil, List.cons_append, List.nil_append, List.replicate_succ, List.replicate_zero, Nat.reduceAdd, Nat.reduceSub, Nat.reduceEqDiff, if_true, if_false, Nat.reduceLeDiff, cond_true, cond_false, Bool.false_eq_true, wipeI, mem_len, mem_app, Bool.not_true, Bool.not_false, decide_true, decide_false, List.length_append, Nat.add_assoc, List.append_assoc]
    refine kIfE_join (fun v h => ∃ (cy : Nat), 1 ≤ cy ∧ cy ≤ 30 ∧ v = .tup [.int (cy : Nat), .tup (ws.map .int)] ∧ h = mem s2 R2) ?_ (fun hb => ?_) (fun hb => ?_)
    rotate_left
    · simp only [kLcC_eq, kLcE_eq, kLcT_t, kLcT_f, Int.zero_add, List.length_map, List.length_range, List.length_replicate, mulWF_w, divWF_w, shlF_w, shrF_w, bandF_ii, divmodF_w, dec_selfI, dec_selfS, wp_ok, wp_nox, kVar_eq, wVar, wC, kBin2_eq, kBin_eq, wBin, kUn_eq, wUn, kC2_eq, kC_eq, wCons, wNil, kArg_eq, wArg, kFArg_eq, wFArg, kFl_eq, wFlv, kAl_eq, wAl, wLst, kLst0, kLst1, kLst2, kLst3, kLst4, kLst5, kLst6, wTupv, kTup0, kTup1, kTup2, kTup3, kTup4, kTup5, kTup6, kTst_eq, wTst, kAnd_t, kAnd_f, wAnd, kOr_t, kOr_f, wOr, kNot_eq, wNot, wYes, kIfE_t, kIfE_f, wIfE, kAndV_t, kAndV_f, wAndV, kOrV_f, kOrV_t, wOrV, kNotV_eq, wNotV, kChn4_eq, kChn_t, kChn_f, kChn2_eq, kChn1_eq, wChn, kSeq_t, kSeq_l, kSeq_z, wSeqv, kEnum_t, kEnum_l, wEnumv, kZip_t, kZip_l, wZipv, kRng1_eq, wRng1v, kRng2_eq, wRng2v, kRgL1_eq, wRgL1, kRgL2_eq, kRgL2, wRgL2, onIO_l, onL_fl, onL_loc, onSeq_t, onSeq_fl, onSeq_fz, onSeq_loc, onLsq_fl, onLsq_fz, onLsq_loc, kRep_eq, kRep2_eq, wRep, woNone, kOSome_eq, woSome, kCut3_eq, kCut2_eq, kCut_eq, wCut, cutF_t, cutF_l, cutF_p, kRev_eq, wRev, lenF_t, lenF_l, lenF_z, lenF_p, tupleF_t, tupleF_l, tupleF_p, listF_t, listF_l, listF_z, listF_p, kOpt_eq, ixF_t, ixF_l, ixF_z, ixF_p, atI_0, atI_1, atI_2, atI_3, mulF_w, divF_w, modF_w, powF_w, addF_ii, addF_tt, addF_ll, addF_pl, subF_ii, ltF_ii, leF_ii, gtF_ii, geF_ii, eqF_ii, neF_ii, eqF_ss, neF_ss, negF_i, absF_i, maxF_ii, minF_ii, toIntF_i, toIntF_b, isN_n, isN_i, isN_t, notN_n, notN_i, notN_t, isN_g, notN_g, sumF_l, isi_i, isi_b, isi_t, isi_n, isi_s, kML0_eq, kML_l, kML_p, wML, appF_p, popF_p, kN_eq, putF_p, getF_p, wNx, wBk, wCt, kS_nx, kS_bk, kS_ct, kS_rt, wSeqS, kRet_eq, wRet, kExp_eq, wExp, kIf_t, kIf_f, wIf, kTg_eq, kAsg_eq, wAsg, tgN_eq, shN_eq, sh2_eq, sh3_eq, sh12_eq, sh21_eq, kAug2_eq, kAug1_eq, kAug_eq, wAug, addI_ii, kPut4_eq, kPut3_eq, kPut2_eq, kPut1_eq, wPut, kAL5_eq, kAL4_eq, kAL3_eq, kAL2_eq, kAL1_eq, wAugL, kPar_eq, wPar, kPar3_eq, wPar3, kFor_eq, wFor, kLoop_nx, kLoop_ct, kLoop_bk, kLoop_rt, kTgt_eq, kWh_t, kWh_f, kLc_eq, wLc, kIs_eq, kIsV_eq, kFn_nx, kFn_rt, g_at0, g_at1, g_at2, g_at3, g_at4, g_set0, g_set1, g_set2, g_set3, g_set4, m_at, m_set, m_atL, List.getElem?_cons_zero, List.getElem?_cons_succ, List.set_cons_zero, List.set_cons_succ, List.length_cons, List.length_nil, slots_cons, slots_nil, List.cons_append, List.nil_append, List.replicate_succ, List.replicate_zero, Nat.reduceAdd, Nat.reduceSub, Nat.reduceEqDiff, if_true, if_false, Nat.reduceLeDiff, cond_true, cond_false, Bool.false_eq_true, wipeI, mem_len, mem_app, Bool.not_true, Bool.not_false, decide_true, decide_false, List.length_append, Nat.add_assoc, List.append_assoc, atI_1]
      exact ⟨30, by decide, by decide, by trivial, by trivial⟩
    · simp only [kLcC_eq, kLcE_eq, kLcT_t, kLcT_f, Int.zero_add, List.length_map, List.length_range, List.length_replicate, mulWF_w, divWF_w, shlF_w, shrF_w, bandF_ii, divmodF_w, dec_selfI, dec_selfS, wp_ok, wp_nox, kVar_eq, wVar, wC, kBin2_eq, kBin_eq, wBin, kUn_eq, wUn, kC2_eq, kC_eq, wCons, wNil, kArg_eq, wArg, kFArg_eq, wFArg, kFl_eq, wFlv, kAl_eq, wAl, wLst, kLst0, kLst1, kLst2, kLst3, kLst4, kLst5, kLst6, wTupv, kTup0, kTup1, kTup2, kTup3, kTup4, kTup5, kTup6, kTst_eq, wTst, kAnd_t, kAnd_f, wAnd, kOr_t, kOr_f, wOr, kNot_eq, wNot, wYes, kIfE_t, kIfE_f, wIfE, kAndV_t, kAndV_f, wAndV, kOrV_f, kOrV_t, wOrV, kNotV_eq, wNotV, kChn4_eq, kChn_t, kChn_f, kChn2_eq, kChn1_eq, wChn, kSeq_t, kSeq_l, kSeq_z, wSeqv, kEnum_t, kEnum_l, wEnumv, kZip_t, kZip_l, wZipv, kRng1_eq, wRng1v, kRng2_eq, wRng2v, kRgL1_eq, wRgL1, kRgL2_eq, kRgL2, wRgL2, onIO_l, onL_fl, onL_loc, onSeq_t, onSeq_fl, onSeq_fz, onSeq_loc, onLsq_fl, onLsq_fz, onLsq_loc, kRep_eq, kRep2_eq, wRep, woNone, kOSome_eq, woSome, kCut3_eq, kCut2_eq, kCut_eq, wCut, cutF_t, cutF_l, cutF_p, kRev_eq, wRev, lenF_t, lenF_l, lenF_z, lenF_p, tupleF_t, tupleF_l, tupleF_p, listF_t, listF_l, listF_z, listF_p, kOpt_eq, ixF_t, ixF_l, ixF_z, ixF_p, atI_0, atI_1, atI_2, atI_3, mulF_w, divF_w, modF_w, powF_w, addF_ii, addF_tt, addF_ll, addF_pl, subF_ii, ltF_ii, leF_ii, gtF_ii, geF_ii, eqF_ii, neF_ii, eqF_ss, neF_ss, negF_i, absF_i, maxF_ii, minF_ii, toIntF_i, toIntF_b, isN_n, isN_i, isN_t, notN_n, notN_i, notN_t, isN_g, notN_g, sumF_l, isi_i, isi_b, isi_t, isi_n, isi_s, kML0_eq, kML_l, kML_p, wML, appF_p, popF_p, kN_eq, putF_p, getF_p, wNx, wBk, wCt, kS_nx, kS_bk, kS_ct, kS_rt, wSeqS, kRet_eq, wRet, kExp_eq, wExp, kIf_t, kIf_f, wIf, kTg_eq, kAsg_eq, wAsg, tgN_eq, shN_eq, sh2_eq, sh3_eq, sh12_eq, sh21_eq, kAug2_eq, kAug1_eq, kAug_eq, wAug, addI_ii, kPut4_eq, kPut3_eq, kPut2_eq, kPut1_eq, wPut, kAL5_eq, kAL4_eq, kAL3_eq, kAL2_eq, kAL1_eq, wAugL, kPar_eq, wPar, kPar3_eq, wPar3, kFor_eq, wFor, kLoop_nx, kLoop_ct, kLoop_bk, kLoop_rt, kTgt_eq, kWh_t, kWh_f, kLc_eq, wLc, kIs_eq, kIsV_eq, kFn_nx, kFn_rt, g_at0, g_at1, g_at2, g_at3, g_at4, g_set0, g_set1, g_set2, g_set3, g_set4, m_at, m_set, m_atL, List.getElem?_cons_zero, List.getElem?_cons_succ, List.set_cons_zero, List.set_cons_succ, List.length_cons, List.length_nil, slots_cons, slots_nil, List.cons_append, List.nil_append, List.replicate_succ, List.replicate_zero, Nat.reduceAdd, Nat.reduceSub, Nat.reduceEqDiff, if_true, if_false, Nat.reduceLeDiff, cond_true, cond_false, Bool.false_eq_true, wipeI, mem_len, mem_app, Bool.not_true, Bool.not_false, decide_true, decide_false, List.length_append, Nat.add_assoc, List.append_assoc]
      exact ⟨cy, hcy.1, by omega, by trivial, by trivial⟩
    rintro v h ⟨cy, cy1, cy2, rfl, rfl⟩
    simp only [kLcC_eq, kLcE_eq, kLcT_t, kLcT_f, Int.zero_add, List.length_map, List.length_range, List.length_replicate, mulWF_w, divWF_w, shlF_w, shrF_w, bandF_ii, divmodF_w, dec_selfI, dec_selfS, wp_ok, wp_nox, kVar_eq, wVar, wC, kBin2_eq, kBin_eq, wBin, kUn_eq, wUn, kC2_eq, kC_eq, wCons, wNil, kArg_eq, wArg, kFArg_eq, wFArg, kFl_eq, wFlv, kAl_eq, wAl, wLst, kLst0, kLst1, kLst2, kLst3, kLst4, kLst5, kLst6, wTupv, kTup0, kTup1, kTup2, kTup3, kTup4, kTup5, kTup6, kTst_eq, wTst, kAnd_t, kAnd_f, wAnd, kOr_t, kOr_f, wOr, kNot_eq, wNot, wYes, kIfE_t, kIfE_f, wIfE, kAndV_t, kAndV_f, wAndV, kOrV_f, kOrV_t, wOrV, kNotV_eq, wNotV, kChn4_eq, kChn_t, kChn_f, kChn2_eq, kChn1_eq, wChn, kSeq_t, kSeq_l, kSeq_z, wSeqv, kEnum_t, kEnum_l, wEnumv, kZip_t, kZip_l, wZipv, kRng1_eq, wRng1v, kRng2_eq, wRng2v, kRgL1_eq, wRgL1, kRgL2_eq, kRgL2, wRgL2, onIO_l, onL_fl, onL_loc, onSeq_t, onSeq_fl, onSeq_fz, onSeq_loc, onLsq_fl, onLsq_fz, onLsq_loc, kRep_eq, kRep2_eq, wRep, woNone, kOSome_eq, woSome, kCut3_eq, kCut2_eq, kCut_eq, wCut, cutF_t, cutF_l, cutF_p, kRev_eq, wRev, lenF_t, lenF_l, lenF_z, lenF_p, tupleF_t, tupleF_l, tupleF_p, listF_t, listF_l, listF_z, listF_p, kOpt_eq, ixF_t, ixF_l, ixF_z, ixF_p, atI_0, atI_1, atI_2, atI_3, mulF_w, divF_w, modF_w, powF_w, addF_ii, addF_tt, addF_ll, addF_pl, subF_ii, ltF_ii, leF_ii, gtF_ii, geF_ii, eqF_ii, neF_ii, eqF_ss, neF_ss, negF_i, absF_i, maxF_ii, minF_ii, toIntF_i, toIntF_b, isN_n, isN_i, isN_t, notN_n, notN_i, notN_t, isN_g, notN_g, sumF_l, isi_i, isi_b, isi_t, isi_n, isi_s, kML0_eq, kML_l, kML_p, wML, appF_p, popF_p, kN_eq, putF_p, getF_p, wNx, wBk, wCt, kS_nx, kS_bk, kS_ct, kS_rt, wSeqS, kRet_eq, wRet, kExp_eq, wExp, kIf_t, kIf_f, wIf, kTg_eq, kAsg_eq, wAsg, tgN_eq, shN_eq, sh2_eq, sh3_eq, sh12_eq, sh21_eq, kAug2_eq, kAug1_eq, kAug_eq, wAug, addI_ii, kPut4_eq, kPut3_eq, kPut2_eq, kPut1_eq, wPut, kAL5_eq, kAL4_eq, kAL3_eq, kAL2_eq, kAL1_eq, wAugL, kPar_eq, wPar, kPar3_eq, wPar3, kFor_eq, wFor, kLoop_nx, kLoop_ct, kLoop_bk, kLoop_rt, kTgt_eq, kWh_t, kWh_f, kLc_eq, wLc, kIs_eq, kIsV_eq, kFn_nx, kFn_rt, g_at0, g_at1, g_at2, g_at3, g_at4, g_set0, g_set1, g_set2, g_set3, g_set4, m_at, m_set, m_atL, List.getElem?_cons_zero, List.getElem?_cons_succ, List.set_cons_zero, List.set_cons_succ, List.length_cons, List.length_nil, slots_cons, slots_nil, List.cons_append, List.nil_append, List.replicate_succ, List.replicate_zero, Nat.reduceAdd, Nat.reduceSub, Nat.reduceEqDiff, if_true, if_false, Nat.reduceLeDiff, cond_true, cond_false, Bool.false_eq_true, wipeI, mem_len, mem_app, Bool.not_true, Bool.not_false, decide_true, decide_false, List.length_append, Nat.add_assoc, List.append_assoc, atI_0, atI_1]
    refine pick_wp g2 (by omega) fun s3 k3 g3 hk3 => ?_
    simp only [kLcC_eq, kLcE_eq, kLcT_t, kLcT_f, Int.zero_add, List.length_map, List.length_range, List.length_replicate, mulWF_w, divWF_w, shlF_w, shrF_w, bandF_ii, divmodF_w, dec_selfI, dec_selfS, wp_ok, wp_nox, kVar_eq, wVar, wC, kBin2_eq, kBin_eq, wBin, kUn_eq, wUn, kC2_eq, kC_eq, wCons, wNil, kArg_eq, wArg, kFArg_eq, wFArg, kFl_eq, wFlv, kAl_eq, wAl, wLst, kLst0, kLst1, kLst2, kLst3, kLst4, kLst5, kLst6, wTupv, kTup0, kTup1, kTup2, kTup3, kTup4, kTup5, kTup6, kTst_eq, wTst, kAnd_t, kAnd_f, wAnd, kOr_t, kOr_f, wOr, kNot_eq, wNot, wYes, kIfE_t, kIfE_f, wIfE, kAndV_t, kAndV_f, wAndV, kOrV_f, kOrV_t, wOrV, kNotV_eq, wNotV, kChn4_eq, kChn_t, kChn_f, kChn2_eq, kChn1_eq, wChn, kSeq_t, kSeq_l, kSeq_z, wSeqv, kEnum_t, kEnum_l, wEnumv, kZip_t, kZip_l, wZipv, kRng1_eq, wRng1v, kRng2_eq, wRng2v, kRgL1_eq, wRgL1, kRgL2_eq, kRgL2, wRgL2, onIO_l, onL_fl, onL_loc, onSeq_t, onSeq_fl, onSeq_fz, onSeq_loc, onLsq_fl, onLsq_fz, onLsq_loc, kRep_eq, kRep2_eq, wRep, woNone, kOSome_eq, woSome, kCut3_eq, kCut2_eq, kCut_eq, wCut, cutF_t, cutF_l, cutF_p, kRev_eq, wRev, lenF_t, lenF_l, lenF_z, lenF_p, tupleF_t, tupleF_l, tupleF_p, listF_t, listF_l, listF_z, listF_p, kOpt_eq, ixF_t, ixF_l, ixF_z, ixF_p, atI_0, atI_1, atI_2, atI_3, mulF_w, divF_w, modF_w, powF_w, addF_ii, addF_tt, addF_ll, addF_pl, subF_ii, ltF_ii, leF_ii, gtF_ii, geF_ii, eqF_ii, neF_ii, eqF_ss, neF_ss, negF_i, absF_i, maxF_ii, minF_ii, toIntF_i, toIntF_b, isN_n, isN_i, isN_t, notN_n, notN_i, notN_t, isN_g, notN_g, sumF_l, isi_i, isi_b, isi_t, isi_n, isi_s, kML0_eq, kML_l, kML_p, wML, appF_p, popF_p, kN_eq, putF_p, getF_p, wNx, wBk, wCt, kS_nx, kS_bk, kS_ct, kS_rt, wSeqS, kRet_eq, wRet, kExp_eq, wExp, kIf_t, kIf_f, wIf, kTg_eq, kAsg_eq, wAsg, tgN_eq, shN_eq, sh2_eq, sh3_eq, sh12_eq, sh21_eq, kAug2_eq, kAug1_eq, kAug_eq, wAug, addI_ii, kPut4_eq, kPut3_eq, kPut2_eq, kPut1_eq, wPut, kAL5_eq, kAL4_eq, kAL3_eq, kAL2_eq, kAL1_eq, wAugL, kPar_eq, wPar, kPar3_eq, wPar3, kFor_eq, wFor, kLoop_nx, kLoop_ct, kLoop_bk, kLoop_rt, kTgt_eq, kWh_t, kWh_f, kLc_eq, wLc, kIs_eq, kIsV_eq, kFn_nx, kFn_rt, g_at0, g_at1, g_at2, g_at3, g_at4, g_set0, g_set1, g_set2, g_set3, g_set4, m_at, m_set, m_atL, List.getElem?_cons_zero, List.getElem?_cons_succ, List.set_cons_zero, List.set_cons_succ, List.length_cons, List.length_nil, slots_cons, slots_nil, List.cons_append, List.nil_append, List.replicate_succ, List.replicate_zero, Nat.reduceAdd, Nat.reduceSub, Nat.reduceEqDiff, if_true, if_false, Nat.reduceLeDiff, cond_true, cond_false, Bool.false_eq_true, wipeI, mem_len, mem_app, Bool.not_true, Bool.not_false, decide_true, decide_false, List.length_append, Nat.add_assoc, List.append_assoc, atI_0, atI_1]
    refine pick_wp g3 (by omega) fun s4 k4 g4 hk4 => ?_
    have hk3' : k3 < ws.length := by omega
    have ew : ws[k3]? = some ws[k3] := List.getElem?_eq_getElem hk3'
    have hwk := hw ws[k3] (List.getElem_mem hk3')
    generalize ws[k3] = wk at ew hwk
    have aw : atI (ws.map IV.int) ((k3 : Nat) : Int) = some (.int wk) := atI_nat (by rw [List.getElem?_map, ew]; rfl)
    simp only [kLcC_eq, kLcE_eq, kLcT_t, kLcT_f, Int.zero_add, List.length_map, List.length_range, List.length_replicate, mulWF_w, divWF_w, shlF_w, shrF_w, bandF_ii, divmodF_w, dec_selfI, dec_selfS, wp_ok, wp_nox, kVar_eq, wVar, wC, kBin2_eq, kBin_eq, wBin, kUn_eq, wUn, kC2_eq, kC_eq, wCons, wNil, kArg_eq, wArg, kFArg_eq, wFArg, kFl_eq, wFlv, kAl_eq, wAl, wLst, kLst0, kLst1, kLst2, kLst3, kLst4, kLst5, kLst6, wTupv, kTup0, kTup1, kTup2, kTup3, kTup4, kTup5, kTup6, kTst_eq, wTst, kAnd_t, kAnd_f, wAnd, kOr_t, kOr_f, wOr, kNot_eq, wNot, wYes, kIfE_t, kIfE_f, wIfE, kAndV_t, kAndV_f, wAndV, kOrV_f, kOrV_t, wOrV, kNotV_eq, wNotV, kChn4_eq, kChn_t, kChn_f, kChn2_eq, kChn1_eq, wChn, kSeq_t, kSeq_l, kSeq_z, wSeqv, kEnum_t, kEnum_l, wEnumv, kZip_t, kZip_l, wZipv, kRng1_eq, wRng1v, kRng2_eq, wRng2v, kRgL1_eq, wRgL1, kRgL2_eq, kRgL2, wRgL2, onIO_l, onL_fl, onL_loc, onSeq_t, onSeq_fl, onSeq_fz, onSeq_loc, onLsq_fl, onLsq_fz, onLsq_loc, kRep_eq, kRep2_eq, wRep, woNone, kOSome_eq, woSome, kCut3_eq, kCut2_eq, kCut_eq, wCut, cutF_t, cutF_l, cutF_p, kRev_eq, wRev, lenF_t, lenF_l, lenF_z, lenF_p, tupleF_t, tupleF_l, tupleF_p, listF_t, listF_l, listF_z, listF_p, kOpt_eq, ixF_t, ixF_l, ixF_z, ixF_p, atI_0, atI_1, atI_2, atI_3, mulF_w, divF_w, modF_w, powF_w, addF_ii, addF_tt, addF_ll, addF_pl, subF_ii, ltF_ii, leF_ii, gtF_ii, geF_ii, eqF_ii, neF_ii, eqF_ss, neF_ss, negF_i, absF_i, maxF_ii, minF_ii, toIntF_i, toIntF_b, isN_n, isN_i, isN_t, notN_n, notN_i, notN_t, isN_g, notN_g, sumF_l, isi_i, isi_b, isi_t, isi_n, isi_s, kML0_eq, kML_l, kML_p, wML, appF_p, popF_p, kN_eq, putF_p, getF_p, wNx, wBk, wCt, kS_nx, kS_bk, kS_ct, kS_rt, wSeqS, kRet_eq, wRet, kExp_eq, wExp, kIf_t, kIf_f, wIf, kTg_eq, kAsg_eq, wAsg, tgN_eq, shN_eq, sh2_eq, sh3_eq, sh12_eq, sh21_eq, kAug2_eq, kAug1_eq, kAug_eq, wAug, addI_ii, kPut4_eq, kPut3_eq, kPut2_eq, kPut1_eq, wPut, kAL5_eq, kAL4_eq, kAL3_eq, kAL2_eq, kAL1_eq, wAugL, kPar_eq, wPar, kPar3_eq, wPar3, kFor_eq, wFor, kLoop_nx, kLoop_ct, kLoop_bk, kLoop_rt, kTgt_eq, kWh_t, kWh_f, kLc_eq, wLc, kIs_eq, kIsV_eq, kFn_nx, kFn_rt, g_at0, g_at1, g_at2, g_at3, g_at4, g_set0, g_set1, g_set2, g_set3, g_set4, m_at, m_set, m_atL, List.getElem?_cons_zero, List.getElem?_cons_succ, List.set_cons_zero, List.set_cons_succ, List.length_cons, List.length_nil, slots_cons, slots_nil, List.cons_append, List.nil_append, List.replicate_succ, List.replicate_zero, Nat.reduceAdd, Nat.reduceSub, Nat.reduceEqDiff, if_true, if_false, Nat.reduceLeDiff, cond_true, cond_false, Bool.false_eq_true, wipeI, mem_len, mem_app, Bool.not_true, Bool.not_false, decide_true, decide_false, List.length_append, Nat.add_assoc, List.append_assoc, atI_0, atI_1, aw]
    refine f_lawRise (by omega) (Nat.le_refl _) ?_
    simp only [kLcC_eq, kLcE_eq, kLcT_t, kLcT_f, Int.zero_add, List.length_map, List.length_range, List.length_replicate, mulWF_w, divWF_w, shlF_w, shrF_w, bandF_ii, divmodF_w, dec_selfI, dec_selfS, wp_ok, wp_nox, kVar_eq, wVar, wC, kBin2_eq, kBin_eq, wBin, kUn_eq, wUn, kC2_eq, kC_eq, wCons, wNil, kArg_eq, wArg, kFArg_eq, wFArg, kFl_eq, wFlv, kAl_eq, wAl, wLst, kLst0, kLst1, kLst2, kLst3, kLst4, kLst5, kLst6, wTupv, kTup0, kTup1, kTup2, kTup3, kTup4, kTup5, kTup6, kTst_eq, wTst, kAnd_t, kAnd_f, wAnd, kOr_t, kOr_f, wOr, kNot_eq, wNot, wYes, kIfE_t, kIfE_f, wIfE, kAndV_t, kAndV_f, wAndV, kOrV_f, kOrV_t, wOrV, kNotV_eq, wNotV, kChn4_eq, kChn_t, kChn_f, kChn2_eq, kChn1_eq, wChn, kSeq_t, kSeq_l, kSeq_z, wSeqv, kEnum_t, kEnum_l, wEnumv, kZip_t, kZip_l, wZipv, kRng1_eq, wRng1v, kRng2_eq, wRng2v, kRgL1_eq, wRgL1, kRgL2_eq, kRgL2, wRgL2, onIO_l, onL_fl, onL_loc, onSeq_t, onSeq_fl, onSeq_fz, onSeq_loc, onLsq_fl, onLsq_fz, onLsq_loc, kRep_eq, kRep2_eq, wRep, woNone, kOSome_eq, woSome, kCut3_eq, kCut2_eq, kCut_eq, wCut, cutF_t, cutF_l, cutF_p, kRev_eq, wRev, lenF_t, lenF_l, lenF_z, lenF_p, tupleF_t, tupleF_l, tupleF_p, listF_t, listF_l, listF_z, listF_p, kOpt_eq, ixF_t, ixF_l, ixF_z, ixF_p, atI_0, atI_1, atI_2, atI_3, mulF_w, divF_w, modF_w, powF_w, addF_ii, addF_tt, addF_ll, addF_pl, subF_ii, ltF_ii, leF_ii, gtF_ii, geF_ii, eqF_ii, neF_ii, eqF_ss, neF_ss, negF_i, absF_i, maxF_ii, minF_ii, toIntF_i, toIntF_b, isN_n, isN_i, isN_t, notN_n, notN_i, notN_t, isN_g, notN_g, sumF_l, isi_i, isi_b, isi_t, isi_n, isi_s, kML0_eq, kML_l, kML_p, wML, appF_p, popF_p, kN_eq, putF_p, getF_p, wNx, wBk, wCt, kS_nx, kS_bk, kS_ct, kS_rt, wSeqS, kRet_eq, wRet, kExp_eq, wExp, kIf_t, kIf_f, wIf, kTg_eq, kAsg_eq, wAsg, tgN_eq, shN_eq, sh2_eq, sh3_eq, sh12_eq, sh21_eq, kAug2_eq, kAug1_eq, kAug_eq, wAug, addI_ii, kPut4_eq, kPut3_eq, kPut2_eq, kPut1_eq, wPut, kAL5_eq, kAL4_eq, kAL3_eq, kAL2_eq, kAL1_eq, wAugL, kPar_eq, wPar, kPar3_eq, wPar3, kFor_eq, wFor, kLoop_nx, kLoop_ct, kLoop_bk, kLoop_rt, kTgt_eq, kWh_t, kWh_f, kLc_eq, wLc, kIs_eq, kIsV_eq, kFn_nx, kFn_rt, g_at0, g_at1, g_at2, g_at3, g_at4, g_set0, g_set1, g_set2, g_set3, g_set4, m_at, m_set, m_atL, List.getElem?_cons_zero, List.getElem?_cons_succ, List.set_cons_zero, List.set_cons_succ, List.length_cons, List.length_nil, slots_cons, slots_nil, List.cons_append, List.nil_append, List.replicate_succ, List.replicate_zero, Nat.reduceAdd, Nat.reduceSub, Nat.reduceEqDiff, if_true, if_false, Nat.reduceLeDiff, cond_true, cond_false, Bool.false_eq_true, wipeI, mem_len, mem_app, Bool.not_true, Bool.not_false, decide_true, decide_false, List.length_append, Nat.add_assoc, List.append_assoc, atI_0, atI_1]
    refine f_lawRise (by omega) (by omega) ?_
    simp only [kLcC_eq, kLcE_eq, kLcT_t, kLcT_f, Int.zero_add, List.length_map, List.length_range, List.length_replicate, mulWF_w, divWF_w, shlF_w, shrF_w, bandF_ii, divmodF_w, dec_selfI, dec_selfS, wp_ok, wp_nox, kVar_eq, wVar, wC, kBin2_eq, kBin_eq, wBin, kUn_eq, wUn, kC2_eq, kC_eq, wCons, wNil, kArg_eq, wArg, kFArg_eq, wFArg, kFl_eq, wFlv, kAl_eq, wAl, wLst, kLst0, kLst1, kLst2, kLst3, kLst4, kLst5, kLst6, wTupv, kTup0, kTup1, kTup2, kTup3, kTup4, kTup5, kTup6, kTst_eq, wTst, kAnd_t, kAnd_f, wAnd, kOr_t, kOr_f, wOr, kNot_eq, wNot, wYes, kIfE_t, kIfE_f, wIfE, kAndV_t, kAndV_f, wAndV, kOrV_f, kOrV_t, wOrV, kNotV_eq, wNotV, kChn4_eq, kChn_t, kChn_f, kChn2_eq, kChn1_eq, wChn, kSeq_t, kSeq_l, kSeq_z, wSeqv, kEnum_t, kEnum_l, wEnumv, kZip_t, kZip_l, wZipv, kRng1_eq, wRng1v, kRng2_eq, wRng2v, kRgL1_eq, wRgL1, kRgL2_eq, kRgL2, wRgL2, onIO_l, onL_fl, onL_loc, onSeq_t, onSeq_fl, onSeq_fz, onSeq_loc, onLsq_fl, onLsq_fz, onLsq_loc, kRep_eq, kRep2_eq, wRep, woNone, kOSome_eq, woSome, kCut3_eq, kCut2_eq, kCut_eq, wCut, cutF_t, cutF_l, cutF_p, kRev_eq, wRev, lenF_t, lenF_l, lenF_z, lenF_p, tupleF_t, tupleF_l, tupleF_p, listF_t, listF_l, listF_z, listF_p, kOpt_eq, ixF_t, ixF_l, ixF_z, ixF_p, atI_0, atI_1, atI_2, atI_3, mulF_w, divF_w, modF_w, powF_w, addF_ii, addF_tt, addF_ll, addF_pl, subF_ii, ltF_ii, leF_ii, gtF_ii, geF_ii, eqF_ii, neF_ii, eqF_ss, neF_ss, negF_i, absF_i, maxF_ii, minF_ii, toIntF_i, toIntF_b, isN_n, isN_i, isN_t, notN_n, notN_i, notN_t, isN_g, notN_g, sumF_l, isi_i, isi_b, isi_t, isi_n, isi_s, kML0_eq, kML_l, kML_p, wML, appF_p, popF_p, kN_eq, putF_p, getF_p, wNx, wBk, wCt, kS_nx, kS_bk, kS_ct, kS_rt, wSeqS, kRet_eq, wRet, kExp_eq, wExp, kIf_t, kIf_f, wIf, kTg_eq, kAsg_eq, wAsg, tgN_eq, shN_eq, sh2_eq, sh3_eq, sh12_eq, sh21_eq, kAug2_eq, kAug1_eq, kAug_eq, wAug, addI_ii, kPut4_eq, kPut3_eq, kPut2_eq, kPut1_eq, wPut, kAL5_eq, kAL4_eq, kAL3_eq, kAL2_eq, kAL1_eq, wAugL, kPar_eq, wPar, kPar3_eq, wPar3, kFor_eq, wFor, kLoop_nx, kLoop_ct, kLoop_bk, kLoop_rt, kTgt_eq, kWh_t, kWh_f, kLc_eq, wLc, kIs_eq, kIsV_eq, kFn_nx, kFn_rt, g_at0, g_at1, g_at2, g_at3, g_at4, g_set0, g_set1, g_set2, g_set3, g_set4, m_at, m_set, m_atL, List.getElem?_cons_zero, List.getElem?_cons_succ, List.set_cons_zero, List.set_cons_succ, List.length_cons, List.length_nil, slots_cons, slots_nil, List.cons_append, List.nil_append, List.replicate_succ, List.replicate_zero, Nat.reduceAdd, Nat.reduceSub, Nat.reduceEqDiff, if_true, if_false, Nat.reduceLeDiff, cond_true, cond_false, Bool.false_eq_true, wipeI, mem_len, mem_app, Bool.not_true, Bool.not_false, decide_true, decide_false, List.length_append, Nat.add_assoc, List.append_assoc]
    refine ⟨.inl ⟨by omega, by omega⟩, ?_⟩
    refine f_pull (by omega) (by omega) ew ⟨by omega, by omega⟩ ?_
    simp only [kLcC_eq, kLcE_eq, kLcT_t, kLcT_f, Int.zero_add, List.length_map, List.length_range, List.length_replicate, mulWF_w, divWF_w, shlF_w, shrF_w, bandF_ii, divmodF_w, dec_selfI, dec_selfS, wp_ok, wp_nox, kVar_eq, wVar, wC, kBin2_eq, kBin_eq, wBin, kUn_eq, wUn, kC2_eq, kC_eq, wCons, wNil, kArg_eq, wArg, kFArg_eq, wFArg, kFl_eq, wFlv, kAl_eq, wAl, wLst, kLst0, kLst1, kLst2, kLst3, kLst4, kLst5, kLst6, wTupv, kTup0, kTup1, kTup2, kTup3, kTup4, kTup5, kTup6, kTst_eq, wTst, kAnd_t, kAnd_f, wAnd, kOr_t, kOr_f, wOr, kNot_eq, wNot, wYes, kIfE_t, kIfE_f, wIfE, kAndV_t, kAndV_f, wAndV, kOrV_f, kOrV_t, wOrV, kNotV_eq, wNotV, kChn4_eq, kChn_t, kChn_f, kChn2_eq, kChn1_eq, wChn, kSeq_t, kSeq_l, kSeq_z, wSeqv, kEnum_t, kEnum_l, wEnumv, kZip_t, kZip_l, wZipv, kRng1_eq, wRng1v, kRng2_eq, wRng2v, kRgL1_eq, wRgL1, kRgL2_eq, kRgL2, wRgL2, onIO_l, onL_fl, onL_loc, onSeq_t, onSeq_fl, onSeq_fz, onSeq_loc, onLsq_fl, onLsq_fz, onLsq_loc, kRep_eq, kRep2_eq, wRep, woNone, kOSome_eq, woSome, kCut3_eq, kCut2_eq, kCut_eq, wCut, cutF_t, cutF_l, cutF_p, kRev_eq, wRev, lenF_t, lenF_l, lenF_z, lenF_p, tupleF_t, tupleF_l, tupleF_p, listF_t, listF_l, listF_z, listF_p, kOpt_eq, ixF_t, ixF_l, ixF_z, ixF_p, atI_0, atI_1, atI_2, atI_3, mulF_w, divF_w, modF_w, powF_w, addF_ii, addF_tt, addF_ll, addF_pl, subF_ii, ltF_ii, leF_ii, gtF_ii, geF_ii, eqF_ii, neF_ii, eqF_ss, neF_ss, negF_i, absF_i, maxF_ii, minF_ii, toIntF_i, toIntF_b, isN_n, isN_i, isN_t, notN_n, notN_i, notN_t, isN_g, notN_g, sumF_l, isi_i, isi_b, isi_t, isi_n, isi_s, kML0_eq, kML_l, kML_p, wML, appF_p, popF_p, kN_eq, putF_p, getF_p, wNx, wBk, wCt, kS_nx, kS_bk, kS_ct, kS_rt, wSeqS, kRet_eq, wRet, kExp_eq, wExp, kIf_t, kIf_f, wIf, kTg_eq, kAsg_eq, wAsg, tgN_eq, shN_eq, sh2_eq, sh3_eq, sh12_eq, sh21_eq, kAug2_eq, kAug1_eq, kAug_eq, wAug, addI_ii, kPut4_eq, kPut3_eq, kPut2_eq, kPut1_eq, wPut, kAL5_eq, kAL4_eq, kAL3_eq, kAL2_eq, kAL1_eq, wAugL, kPar_eq, wPar, kPar3_eq, wPar3, kFor_eq, wFor, kLoop_nx, kLoop_ct, kLoop_bk, kLoop_rt, kTgt_eq, kWh_t, kWh_f, kLc_eq, wLc, kIs_eq, kIsV_eq, kFn_nx, kFn_rt, g_at0, g_at1, g_at2, g_at3, g_at4, g_set0, g_set1, g_set2, g_set3, g_set4, m_at, m_set, m_atL, List.getElem?_cons_zero, List.getElem?_cons_succ, List.set_cons_zero, List.set_cons_succ, List.length_cons, List.length_nil, slots_cons, slots_nil, List.cons_append, List.nil_append, List.replicate_succ, List.replicate_zero, Nat.reduceAdd, Nat.reduceSub, Nat.reduceEqDiff, if_true, if_false, Nat.reduceLeDiff, cond_true, cond_false, Bool.false_eq_true, wipeI, mem_len, mem_app, Bool.not_true, Bool.not_false, decide_true, decide_false, List.length_append, Nat.add_assoc, List.append_assoc]
    have szD : ∀ h, Sb h (.int (wk * (ri cy cy - ri cy k4))) _ 1 200 := fun h => Sb.int (due_bd cy2 (by omega) hwk)
    refine reprb_wp (szD _) (by decide) (by decide) ?_
    simp only [kLcC_eq, kLcE_eq, kLcT_t, kLcT_f, Int.zero_add, List.length_map, List.length_range, List.length_replicate, mulWF_w, divWF_w, shlF_w, shrF_w, bandF_ii, divmodF_w, dec_selfI, dec_selfS, wp_ok, wp_nox, kVar_eq, wVar, wC, kBin2_eq, kBin_eq, wBin, kUn_eq, wUn, kC2_eq, kC_eq, wCons, wNil, kArg_eq, wArg, kFArg_eq, wFArg, kFl_eq, wFlv, kAl_eq, wAl, wLst, kLst0, kLst1, kLst2, kLst3, kLst4, kLst5, kLst6, wTupv, kTup0, kTup1, kTup2, kTup3, kTup4, kTup5, kTup6, kTst_eq, wTst, kAnd_t, kAnd_f, wAnd, kOr_t, kOr_f, wOr, kNot_eq, wNot, wYes, kIfE_t, kIfE_f, wIfE, kAndV_t, kAndV_f, wAndV, kOrV_f, kOrV_t, wOrV, kNotV_eq, wNotV, kChn4_eq, kChn_t, kChn_f, kChn2_eq, kChn1_eq, wChn, kSeq_t, kSeq_l, kSeq_z, wSeqv, kEnum_t, kEnum_l, wEnumv, kZip_t, kZip_l, wZipv, kRng1_eq, wRng1v, kRng2_eq, wRng2v, kRgL1_eq, wRgL1, kRgL2_eq, kRgL2, wRgL2, onIO_l, onL_fl, onL_loc, onSeq_t, onSeq_fl, onSeq_fz, onSeq_loc, onLsq_fl, onLsq_fz, onLsq_loc, kRep_eq, kRep2_eq, wRep, woNone, kOSome_eq, woSome, kCut3_eq, kCut2_eq, kCut_eq, wCut, cutF_t, cutF_l, cutF_p, kRev_eq, wRev, lenF_t, lenF_l, lenF_z, lenF_p, tupleF_t, tupleF_l, tupleF_p, listF_t, listF_l, listF_z, listF_p, kOpt_eq, ixF_t, ixF_l, ixF_z, ixF_p, atI_0, atI_1, atI_2, atI_3, mulF_w, divF_w, modF_w, powF_w, addF_ii, addF_tt, addF_ll, addF_pl, subF_ii, ltF_ii, leF_ii, gtF_ii, geF_ii, eqF_ii, neF_ii, eqF_ss, neF_ss, negF_i, absF_i, maxF_ii, minF_ii, toIntF_i, toIntF_b, isN_n, isN_i, isN_t, notN_n, notN_i, notN_t, isN_g, notN_g, sumF_l, isi_i, isi_b, isi_t, isi_n, isi_s, kML0_eq, kML_l, kML_p, wML, appF_p, popF_p, kN_eq, putF_p, getF_p, wNx, wBk, wCt, kS_nx, kS_bk, kS_ct, kS_rt, wSeqS, kRet_eq, wRet, kExp_eq, wExp, kIf_t, kIf_f, wIf, kTg_eq, kAsg_eq, wAsg, tgN_eq, shN_eq, sh2_eq, sh3_eq, sh12_eq, sh21_eq, kAug2_eq, kAug1_eq, kAug_eq, wAug, addI_ii, kPut4_eq, kPut3_eq, kPut2_eq, kPut1_eq, wPut, kAL5_eq, kAL4_eq, kAL3_eq, kAL2_eq, kAL1_eq, wAugL, kPar_eq, wPar, kPar3_eq, wPar3, kFor_eq, wFor, kLoop_nx, kLoop_ct, kLoop_bk, kLoop_rt, kTgt_eq, kWh_t, kWh_f, kLc_eq, wLc, kIs_eq, kIsV_eq, kFn_nx, kFn_rt, g_at0, g_at1, g_at2, g_at3, g_at4, g_set0, g_set1, g_set2, g_set3, g_set4, m_at, m_set, m_atL, List.getElem?_cons_zero, List.getElem?_cons_succ, List.set_cons_zero, List.set_cons_succ, List.length_cons, List.length_nil, slots_cons, slots_nil, List.cons_append, List.nil_append, List.replicate_succ, List.replicate_zero, Nat.reduceAdd, Nat.reduceSub, Nat.reduceEqDiff, if_true, if_false, Nat.reduceLeDiff, cond_true, cond_false, Bool.false_eq_true, wipeI, mem_len, mem_app, Bool.not_true, Bool.not_false, decide_true, decide_false, List.length_append, Nat.add_assoc, List.append_assoc]
    refine reprb_wp (szD _) (by decide) (by decide) ?_
    have hdd := due_iff (c := cy) (l := k4) (w := wk) (by omega) hwk.1
    simp only [kLcC_eq, kLcE_eq, kLcT_t, kLcT_f, Int.zero_add, List.length_map, List.length_range, List.length_replicate, mulWF_w, divWF_w, shlF_w, shrF_w, bandF_ii, divmodF_w, dec_selfI, dec_selfS, wp_ok, wp_nox, kVar_eq, wVar, wC, kBin2_eq, kBin_eq, wBin, kUn_eq, wUn, kC2_eq, kC_eq, wCons, wNil, kArg_eq, wArg, kFArg_eq, wFArg, kFl_eq, wFlv, kAl_eq, wAl, wLst, kLst0, kLst1, kLst2, kLst3, kLst4, kLst5, kLst6, wTupv, kTup0, kTup1, kTup2, kTup3, kTup4, kTup5, kTup6, kTst_eq, wTst, kAnd_t, kAnd_f, wAnd, kOr_t, kOr_f, wOr, kNot_eq, wNot, wYes, kIfE_t, kIfE_f, wIfE, kAndV_t, kAndV_f, wAndV, kOrV_f, kOrV_t, wOrV, kNotV_eq, wNotV, kChn4_eq, kChn_t, kChn_f, kChn2_eq, kChn1_eq, wChn, kSeq_t, kSeq_l, kSeq_z, wSeqv, kEnum_t, kEnum_l, wEnumv, kZip_t, kZip_l, wZipv, kRng1_eq, wRng1v, kRng2_eq, wRng2v, kRgL1_eq, wRgL1, kRgL2_eq, kRgL2, wRgL2, onIO_l, onL_fl, onL_loc, onSeq_t, onSeq_fl, onSeq_fz, onSeq_loc, onLsq_fl, onLsq_fz, onLsq_loc, kRep_eq, kRep2_eq, wRep, woNone, kOSome_eq, woSome, kCut3_eq, kCut2_eq, kCut_eq, wCut, cutF_t, cutF_l, cutF_p, kRev_eq, wRev, lenF_t, lenF_l, lenF_z, lenF_p, tupleF_t, tupleF_l, tupleF_p, listF_t, listF_l, listF_z, listF_p, kOpt_eq, ixF_t, ixF_l, ixF_z, ixF_p, atI_0, atI_1, atI_2, atI_3, mulF_w, divF_w, modF_w, powF_w, addF_ii, addF_tt, addF_ll, addF_pl, subF_ii, ltF_ii, leF_ii, gtF_ii, geF_ii, eqF_ii, neF_ii, eqF_ss, neF_ss, negF_i, absF_i, maxF_ii, minF_ii, toIntF_i, toIntF_b, isN_n, isN_i, isN_t, notN_n, notN_i, notN_t, isN_g, notN_g, sumF_l, isi_i, isi_b, isi_t, isi_n, isi_s, kML0_eq, kML_l, kML_p, wML, appF_p, popF_p, kN_eq, putF_p, getF_p, wNx, wBk, wCt, kS_nx, kS_bk, kS_ct, kS_rt, wSeqS, kRet_eq, wRet, kExp_eq, wExp, kIf_t, kIf_f, wIf, kTg_eq, kAsg_eq, wAsg, tgN_eq, shN_eq, sh2_eq, sh3_eq, sh12_eq, sh21_eq, kAug2_eq, kAug1_eq, kAug_eq, wAug, addI_ii, kPut4_eq, kPut3_eq, kPut2_eq, kPut1_eq, wPut, kAL5_eq, kAL4_eq, kAL3_eq, kAL2_eq, kAL1_eq, wAugL, kPar_eq, wPar, kPar3_eq, wPar3, kFor_eq, wFor, kLoop_nx, kLoop_ct, kLoop_bk, kLoop_rt, kTgt_eq, kWh_t, kWh_f, kLc_eq, wLc, kIs_eq, kIsV_eq, kFn_nx, kFn_rt, g_at0, g_at1, g_at2, g_at3, g_at4, g_set0, g_set1, g_set2, g_set3, g_set4, m_at, m_set, m_atL, List.getElem?_cons_zero, List.getElem?_cons_succ, List.set_cons_zero, List.set_cons_succ, List.length_cons, List.length_nil, slots_cons, slots_nil, List.cons_append, List.nil_append, List.replicate_succ, List.replicate_zero, Nat.reduceAdd, Nat.reduceSub, Nat.reduceEqDiff, if_true, if_false, Nat.reduceLeDiff, cond_true, cond_false, Bool.false_eq_true, wipeI, mem_len, mem_app, Bool.not_true, Bool.not_false, decide_true, decide_false, List.length_append, Nat.add_assoc, List.append_assoc, atI_0, hdd, ne_bb, beq_self_eq_true]
    exact ⟨_, _, _, _, _, _, _, _, _, _, _, g4, rfl, rfl⟩
  · rintro ρ h ⟨s, R, a, b, c, d, e, f, i, j, t, g, rfl, rfl⟩
    have HL := sizeLine_eq
    have q1 : ∀ h, fn_share [.int 1] h = .ok (.tup [.int 1, .int 2]) h := fun h => rfl
    have q2 : ∀ h, fn_share [.int 2] h = .ok (.tup [.int 5, .int 9]) h := fun h => rfl
    have q3 : ∀ h, fn_share [.int 3] h = .ok (.tup [.int 37, .int 64]) h := fun h => rfl
    have q4 : ∀ h, fn_share [.int 4] h = .ok (.tup [.int 369, .int 625]) h := fun h => rfl
    have ee : ∀ h, eqF (.fl [.tup [.int 1, .int 2], .tup [.int 5, .int 9], .tup [.int 37, .int 64], .tup [.int 369, .int 625]]) (.fl [.tup [.int 1, .int 2], .tup [.int 5, .int 9], .tup [.int 37, .int 64], .tup [.int 369, .int 625]]) h = .ok (.bl true) h := fun h => rfl
    generalize fn_share = FS at *
    simp only [kLcC_eq, kLcE_eq, kLcT_t, kLcT_f, Int.zero_add, List.length_map, List.length_range, List.length_replicate, mulWF_w, divWF_w, shlF_w, shrF_w, bandF_ii, divmodF_w, dec_selfI, dec_selfS, wp_ok, wp_nox, kVar_eq, wVar, wC, kBin2_eq, kBin_eq, wBin, kUn_eq, wUn, kC2_eq, kC_eq, wCons, wNil, kArg_eq, wArg, kFArg_eq, wFArg, kFl_eq, wFlv, kAl_eq, wAl, wLst, kLst0, kLst1, kLst2, kLst3, kLst4, kLst5, kLst6, wTupv, kTup0, kTup1, kTup2, kTup3, kTup4, kTup5, kTup6, kTst_eq, wTst, kAnd_t, kAnd_f, wAnd, kOr_t, kOr_f, wOr, kNot_eq, wNot, wYes, kIfE_t, kIfE_f, wIfE, kAndV_t, kAndV_f, wAndV, kOrV_f, kOrV_t, wOrV, kNotV_eq, wNotV, kChn4_eq, kChn_t, kChn_f, kChn2_eq, kChn1_eq, wChn, kSeq_t, kSeq_l, kSeq_z, wSeqv, kEnum_t, kEnum_l, wEnumv, kZip_t, kZip_l, wZipv, kRng1_eq, wRng1v, kRng2_eq, wRng2v, kRgL1_eq, wRgL1, kRgL2_eq, kRgL2, wRgL2, onIO_l, onL_fl, onL_loc, onSeq_t, onSeq_fl, onSeq_fz, onSeq_loc, onLsq_fl, onLsq_fz, onLsq_loc, kRep_eq, kRep2_eq, wRep, woNone, kOSome_eq, woSome, kCut3_eq, kCut2_eq, kCut_eq, wCut, cutF_t, cutF_l, cutF_p, kRev_eq, wRev, lenF_t, lenF_l, lenF_z, lenF_p, tupleF_t, tupleF_l, tupleF_p, listF_t, listF_l, listF_z, listF_p, kOpt_eq, ixF_t, ixF_l, ixF_z, ixF_p, atI_0, atI_1, atI_2, atI_3, mulF_w, divF_w, modF_w, powF_w, addF_ii, addF_tt, addF_ll, addF_pl, subF_ii, ltF_ii, leF_ii, gtF_ii, geF_ii, eqF_ii, neF_ii, eqF_ss, neF_ss, negF_i, absF_i, maxF_ii, minF_ii, toIntF_i, toIntF_b, isN_n, isN_i, isN_t, notN_n, notN_i, notN_t, isN_g, notN_g, sumF_l, isi_i, isi_b, isi_t, isi_n, isi_s, kML0_eq, kML_l, kML_p, wML, appF_p, popF_p, kN_eq, putF_p, getF_p, wNx, wBk, wCt, kS_nx, kS_bk, kS_ct, kS_rt, wSeqS, kRet_eq, wRet, kExp_eq, wExp, kIf_t, kIf_f, wIf, kTg_eq, kAsg_eq, wAsg, tgN_eq, shN_eq, sh2_eq, sh3_eq, sh12_eq, sh21_eq, kAug2_eq, kAug1_eq, kAug_eq, wAug, addI_ii, kPut4_eq, kPut3_eq, kPut2_eq, kPut1_eq, wPut, kAL5_eq, kAL4_eq, kAL3_eq, kAL2_eq, kAL1_eq, wAugL, kPar_eq, wPar, kPar3_eq, wPar3, kFor_eq, wFor, kLoop_nx, kLoop_ct, kLoop_bk, kLoop_rt, kTgt_eq, kWh_t, kWh_f, kLc_eq, wLc, kIs_eq, kIsV_eq, kFn_nx, kFn_rt, g_at0, g_at1, g_at2, g_at3, g_at4, g_set0, g_set1, g_set2, g_set3, g_set4, m_at, m_set, m_atL, List.getElem?_cons_zero, List.getElem?_cons_succ, List.set_cons_zero, List.set_cons_succ, List.length_cons, List.length_nil, slots_cons, slots_nil, List.cons_append, List.nil_append, List.replicate_succ, List.replicate_zero, Nat.reduceAdd, Nat.reduceSub, Nat.reduceEqDiff, if_true, if_false, Nat.reduceLeDiff, cond_true, cond_false, Bool.false_eq_true, wipeI, mem_len, mem_app, Bool.not_true, Bool.not_false, decide_true, decide_false, List.length_append, Nat.add_assoc, List.append_assoc, q1, q2, q3, q4, wLcC, wLcN, ee]
    exact ⟨by omega, by omega, by omega, by omega, trivial⟩
end Vi_k31
end

section
namespace Vi_k31
open PySem PySem.Spec PyProof.Rows L2 VI
def topS (i : Nat) : Stmt := PySem.Challenge.pw_shareforsure_k31_rises_shares_pulls.main.body.getD i (.Pass ⟨0, 0, 0, 0⟩)
abbrev s_power : Stmt := topS 1
abbrev N_power : List Str := ["base", "times", "product", "_"]
theorem sc_power : FnScope N_power ["base", "times"] (defScope s_power) := ⟨rfl, rfl, rfl, by decide +kernel, rfl, by decide +kernel, by decide +kernel⟩
abbrev s__law_source : Stmt := topS 6
abbrev N__law_source : List Str := ["script", "mixed", "cell"]
theorem sc__law_source : FnScope N__law_source ["script"] (defScope s__law_source) := ⟨rfl, rfl, rfl, by decide +kernel, rfl, by decide +kernel, by decide +kernel⟩
abbrev s__law_pick : Stmt := topS 7
abbrev N__law_pick : List Str := ["source", "many", "left", "mixed"]
theorem sc__law_pick : FnScope N__law_pick ["source", "many"] (defScope s__law_pick) := ⟨rfl, rfl, rfl, by decide +kernel, rfl, by decide +kernel, by decide +kernel⟩
abbrev s__law_times : Stmt := topS 10
abbrev N__law_times : List Str := ["base", "many", "found", "lap"]
theorem sc__law_times : FnScope N__law_times ["base", "many"] (defScope s__law_times) := ⟨rfl, rfl, rfl, by decide +kernel, rfl, by decide +kernel, by decide +kernel⟩
abbrev s__law_lowest : Stmt := topS 13
abbrev N__law_lowest : List Str := ["p", "q", "one", "other"]
theorem sc__law_lowest : FnScope N__law_lowest ["p", "q"] (defScope s__law_lowest) := ⟨rfl, rfl, rfl, by decide +kernel, rfl, by decide +kernel, by decide +kernel⟩
abbrev s_rise : Stmt := topS 2
abbrev N_rise : List Str := ["c", "load"]
theorem sc_rise : FnScope N_rise ["c", "load"] (defScope s_rise) := ⟨rfl, rfl, rfl, by decide +kernel, rfl, by decide +kernel, by decide +kernel⟩
abbrev s_share : Stmt := topS 3
abbrev N_share : List Str := ["c", "whole"]
theorem sc_share : FnScope N_share ["c"] (defScope s_share) := ⟨rfl, rfl, rfl, by decide +kernel, rfl, by decide +kernel, by decide +kernel⟩
abbrev s__law_of : Stmt := topS 8
abbrev N__law_of : List Str := ["source", "some"]
theorem sc__law_of : FnScope N__law_of ["source", "some"] (defScope s__law_of) := ⟨rfl, rfl, rfl, by decide +kernel, rfl, by decide +kernel, by decide +kernel⟩
abbrev s__law_mixed : Stmt := topS 9
abbrev N__law_mixed : List Str := ["source", "things", "rest", "lap"]
theorem sc__law_mixed : FnScope N__law_mixed ["source", "things"] (defScope s__law_mixed) := ⟨rfl, rfl, rfl, by decide +kernel, rfl, by decide +kernel, by decide +kernel⟩
abbrev s__law_rise : Stmt := topS 11
abbrev N__law_rise : List Str := ["c", "load"]
theorem sc__law_rise : FnScope N__law_rise ["c", "load"] (defScope s__law_rise) := ⟨rfl, rfl, rfl, by decide +kernel, rfl, by decide +kernel, by decide +kernel⟩
abbrev s__law_yard : Stmt := topS 12
abbrev N__law_yard : List Str := ["source", "top", "high", "many", "way", "worths", "house"]
theorem sc__law_yard : FnScope N__law_yard ["source", "top", "high"] (defScope s__law_yard) := ⟨rfl, rfl, rfl, by decide +kernel, rfl, by decide +kernel, by decide +kernel⟩
abbrev s_pull : Stmt := topS 4
abbrev N_pull : List Str := ["yard", "house", "load", "c", "worths"]
theorem sc_pull : FnScope N_pull ["yard", "house", "load"] (defScope s_pull) := ⟨rfl, rfl, rfl, by decide +kernel, rfl, by decide +kernel, by decide +kernel⟩
abbrev s_law : Stmt := topS 14
abbrev N_law : List Str := ["script", "source", "lap", "c", "whole", "full", "load", "told", "yard", "house", "due"]
theorem sc_law : FnScope N_law ["script"] (defScope s_law) := ⟨rfl, rfl, rfl, by decide +kernel, rfl, by decide +kernel, by decide +kernel⟩
structure Txt (K : PySem.W.Frag) (mg : Str → Option Value) where
  f_power : Addr
  fd_power : FuncData
  F_power : Fun K "power" "power" s_power f_power fd_power
  b_power : Binds K fd_power ["base", "times"] []
  g_power : mg "power" = some (.ref f_power)
  f__law_source : Addr
  fd__law_source : FuncData
  F__law_source : Fun K "_law_source" "_law_source" s__law_source f__law_source fd__law_source
  b__law_source : Binds K fd__law_source ["script"] []
  g__law_source : mg "_law_source" = some (.ref f__law_source)
  f__law_pick : Addr
  fd__law_pick : FuncData
  F__law_pick : Fun K "_law_pick" "_law_pick" s__law_pick f__law_pick fd__law_pick
  b__law_pick : Binds K fd__law_pick ["source", "many"] []
  g__law_pick : mg "_law_pick" = some (.ref f__law_pick)
  f__law_times : Addr
  fd__law_times : FuncData
  F__law_times : Fun K "_law_times" "_law_times" s__law_times f__law_times fd__law_times
  b__law_times : Binds K fd__law_times ["base", "many"] []
  g__law_times : mg "_law_times" = some (.ref f__law_times)
  f__law_lowest : Addr
  fd__law_lowest : FuncData
  F__law_lowest : Fun K "_law_lowest" "_law_lowest" s__law_lowest f__law_lowest fd__law_lowest
  b__law_lowest : Binds K fd__law_lowest ["p", "q"] []
  g__law_lowest : mg "_law_lowest" = some (.ref f__law_lowest)
  f_rise : Addr
  fd_rise : FuncData
  F_rise : Fun K "rise" "rise" s_rise f_rise fd_rise
  b_rise : Binds K fd_rise ["c", "load"] []
  g_rise : mg "rise" = some (.ref f_rise)
  f_share : Addr
  fd_share : FuncData
  F_share : Fun K "share" "share" s_share f_share fd_share
  b_share : Binds K fd_share ["c"] []
  g_share : mg "share" = some (.ref f_share)
  f__law_of : Addr
  fd__law_of : FuncData
  F__law_of : Fun K "_law_of" "_law_of" s__law_of f__law_of fd__law_of
  b__law_of : Binds K fd__law_of ["source", "some"] []
  g__law_of : mg "_law_of" = some (.ref f__law_of)
  f__law_mixed : Addr
  fd__law_mixed : FuncData
  F__law_mixed : Fun K "_law_mixed" "_law_mixed" s__law_mixed f__law_mixed fd__law_mixed
  b__law_mixed : Binds K fd__law_mixed ["source", "things"] []
  g__law_mixed : mg "_law_mixed" = some (.ref f__law_mixed)
  f__law_rise : Addr
  fd__law_rise : FuncData
  F__law_rise : Fun K "_law_rise" "_law_rise" s__law_rise f__law_rise fd__law_rise
  b__law_rise : Binds K fd__law_rise ["c", "load"] []
  g__law_rise : mg "_law_rise" = some (.ref f__law_rise)
  f__law_yard : Addr
  fd__law_yard : FuncData
  F__law_yard : Fun K "_law_yard" "_law_yard" s__law_yard f__law_yard fd__law_yard
  b__law_yard : Binds K fd__law_yard ["source", "top", "high"] []
  g__law_yard : mg "_law_yard" = some (.ref f__law_yard)
  f_pull : Addr
  fd_pull : FuncData
  F_pull : Fun K "pull" "pull" s_pull f_pull fd_pull
  b_pull : Binds K fd_pull ["yard", "house", "load"] []
  g_pull : mg "pull" = some (.ref f_pull)
  f_law : Addr
  fd_law : FuncData
  F_law : Fun K "law" "law" s_law f_law fd_law
  b_law : Binds K fd_law ["script"] []
  g_law : mg "law" = some (.ref f_law)
  m_abs : mg "abs" = none
  m_int : mg "int" = none
  m_len : mg "len" = none
  m_list : mg "list" = none
  m_max : mg "max" = none
  m_range : mg "range" = none
  m_repr : mg "repr" = none
  m_tuple : mg "tuple" = none
section
variable {P : Program} {w : World} {K : PySem.W.Frag} {mg : Str → Option Value} {base : Heap} (T : Txt K mg)
theorem ok_power : FnG P w K mg base CX0 (0 + 1) T.f_power T.fd_power ["base", "times"] (spI K fn_power) := by
  refine fn_okG (b := d_power) T.F_power sc_power rfl rfl fun cdv A outer s H E hr hg => ?_
  exact (r_seq (r_set (i := 2) sc_power.nd rfl (by first | exact .inl rfl | exact .inr rfl) r_int)
    (r_seq (r_for PassesOwn.never rfl (r_wRng1 (by rfl) T.m_range (r_cons (r_var 1) r_nil)) (r_sh (s := (.n 3)) (r_rawN (i := 3) sc_power.nd rfl (by first | exact .inl rfl | exact .inr rfl))) (r_one (r_set (i := 2) sc_power.nd rfl (by first | exact .inl rfl | exact .inr rfl) (r_mul (r_var 2) (r_var 0)))))
    (r_one (r_ret (r_var 2)))))
theorem ok__law_source : FnG P w K mg base CX0 (0 + 1) T.f__law_source T.fd__law_source ["script"] (spI K fn__law_source) := by
  refine fn_okG (b := d__law_source) T.F__law_source sc__law_source rfl rfl fun cdv A outer s H E hr hg => ?_
  exact (r_seq (r_set (i := 1) sc__law_source.nd rfl (by first | exact .inl rfl | exact .inr rfl) r_int)
    (r_seq (r_for PassesOwn.never rfl (r_wSeq (r_var 0)) (r_sh (s := (.n 2)) (r_rawN (i := 2) sc__law_source.nd rfl (by first | exact .inl rfl | exact .inr rfl))) (r_one (r_set (i := 1) sc__law_source.nd rfl (by first | exact .inl rfl | exact .inr rfl) (r_mod (r_ty call_int1 rc_toInt (by rfl) T.m_int bt_int (r_cons (r_add (r_add (r_mul (r_var 1) r_int) (r_mul (r_var 2) r_int)) r_int) r_nil)) r_int))))
    (r_one (r_ret (r_disp (r_pd (r_al (r_rev (r_fl (r_lc (own := [("cell", 2)]) (s := (.n 2)) rfl sc__law_source.nd (r_wSeq (r_var 0)) (blkOk_by (N := N__law_source) (sc := defScope s__law_source) (by decide +kernel)) (by rfl) (fun _ _ _ _ _ => (r_rawN (i := 2) sc__law_source.nd rfl (by first | exact .inl rfl | exact .inr rfl))) (fun _ _ _ _ _ => r_ifs0) (fun _ _ _ _ _ => (r_blt call_abs rc_abs (by rfl) T.m_abs bt_abs (r_cons (r_var 2) r_nil))))))) (r_pd r_int (r_pd (r_var 1) (r_pd r_int r_pd0)))) (by decide) (by rfl) (by rfl) (by simp) (by decide))))))
theorem ok__law_pick : FnG P w K mg base CX0 (0 + 1) T.f__law_pick T.fd__law_pick ["source", "many"] (spI K fn__law_pick) := by
  refine fn_okG (b := d__law_pick) T.F__law_pick sc__law_pick rfl rfl fun cdv A outer s H E hr hg => ?_
  exact (r_seq (r_while PassesOwn.never (PW.pt (r_and (r_cmpT op_gt rb_gt (r_var 1) r_int) (r_and (r_cmpT op_lt rb_lt (r_dget (hu_of hr) (r_var 0) r_str) r_int) (r_and1 (r_cmpT op_gt rb_gt (r_blt call_lenA rc_len (by rfl) T.m_len bt_len (r_cons (r_dget (hu_of hr) (r_var 0) r_str) r_nil)) r_int))))) (r_one (r_dput (hu_of hr) (r_var 0) r_str (PE_imp (pe_bm0 PySem.F.plainAttrs_list PySem.F.slot_list_pop PySem.F.type_list_pop mt_pop (r_dget (hu_of hr) (r_var 0) r_str)) (i_ml0 rm_pop)))))
    (r_seq (r_set (i := 2) sc__law_pick.nd rfl (by first | exact .inl rfl | exact .inr rfl) (r_dget (hu_of hr) (r_var 0) r_str))
    (r_seq (r_if (PW.pt (r_or (r_cmpT op_lt rb_lt (r_var 1) r_int) (r_or1 (r_cmpT op_gt rb_gt (r_var 2) r_int)))) (r_seq (r_dput (hu_of hr) (r_var 0) r_str (r_div (r_var 2) (r_blt (call_max2 rfl) rc_max (by rfl) T.m_max bt_max (r_cons r_int (r_cons (r_var 1) r_nil)))))
    (r_one (r_ret (r_mod (r_ty call_int1 rc_toInt (by rfl) T.m_int bt_int (r_cons (r_var 2) r_nil)) (r_blt (call_max2 rfl) rc_max (by rfl) T.m_max bt_max (r_cons r_int (r_cons (r_var 1) r_nil))))))) r_snil)
    (r_seq (r_dput (hu_of hr) (r_var 0) r_str (r_add (r_dget (hu_of hr) (r_var 0) r_str) r_int))
    (r_seq (r_set (i := 3) sc__law_pick.nd rfl (by first | exact .inl rfl | exact .inr rfl) (r_mod (r_ty call_int1 rc_toInt (by rfl) T.m_int bt_int (r_cons (r_add (r_dget (hu_of hr) (r_var 0) r_str) (r_mul (r_dget (hu_of hr) (r_var 0) r_str) r_int)) r_nil)) r_int))
    (r_seq (r_set (i := 3) sc__law_pick.nd rfl (by first | exact .inl rfl | exact .inr rfl) (r_mod (r_ty call_int1 rc_toInt (by rfl) T.m_int bt_int (r_cons (r_add (r_mul (r_var 3) (r_var 3)) (r_mul (r_dget (hu_of hr) (r_var 0) r_str) r_int)) r_nil)) r_int))
    (r_seq (r_dput (hu_of hr) (r_var 0) r_str (r_var 3))
    (r_one (r_ret (r_mod (r_ty call_int1 rc_toInt (by rfl) T.m_int bt_int (r_cons (r_div (r_var 3) r_int) r_nil)) (r_var 1)))))))))))
theorem ok__law_times : FnG P w K mg base CX0 (0 + 1) T.f__law_times T.fd__law_times ["base", "many"] (spI K fn__law_times) := by
  refine fn_okG (b := d__law_times) T.F__law_times sc__law_times rfl rfl fun cdv A outer s H E hr hg => ?_
  exact (r_seq (r_set (i := 2) sc__law_times.nd rfl (by first | exact .inl rfl | exact .inr rfl) r_int)
    (r_seq (r_for PassesOwn.never rfl (r_wRng1 (by rfl) T.m_range (r_cons (r_var 1) r_nil)) (r_sh (s := (.n 3)) (r_rawN (i := 3) sc__law_times.nd rfl (by first | exact .inl rfl | exact .inr rfl))) (r_one (r_set (i := 2) sc__law_times.nd rfl (by first | exact .inl rfl | exact .inr rfl) (r_mul (r_var 2) (r_var 0)))))
    (r_one (r_ret (r_var 2)))))
theorem ok__law_lowest : FnG P w K mg base CX0 (0 + 1) T.f__law_lowest T.fd__law_lowest ["p", "q"] (spI K fn__law_lowest) := by
  refine fn_okG (b := d__law_lowest) T.F__law_lowest sc__law_lowest rfl rfl fun cdv A outer s H E hr hg => ?_
  exact (r_seq (r_par (i := 2) (j := 3) rfl sc__law_lowest.nd rfl rfl (by decide) rfl rfl (r_cons (r_var 0) (r_cons (r_var 1) r_nil)) rfl)
    (r_seq (r_while PassesOwn.never (r_cmpT (op_neA hr.units) rb_ne (r_var 3) r_int) (r_one (r_par (i := 2) (j := 3) rfl sc__law_lowest.nd rfl rfl (by decide) rfl rfl (r_cons (r_var 3) (r_cons (r_mod (r_ty call_int1 rc_toInt (by rfl) T.m_int bt_int (r_cons (r_var 2) r_nil)) (r_var 3)) r_nil)) rfl)))
    (r_one (r_ret (r_tup (r_cons (r_div (r_var 0) (r_var 2)) (r_cons (r_div (r_var 1) (r_var 2)) r_nil)))))))
theorem ok_rise : FnG P w K mg base CX0 (1 + 1) T.f_rise T.fd_rise ["c", "load"] (spI K fn_rise) := by
  refine fn_okG (b := d_rise) T.F_rise sc_rise rfl rfl fun cdv A outer s H E hr hg => ?_
  exact (r_one (r_ret (r_sub (r_mulW (r_callG (ok_power T) hr (by decide) hg (by rfl) T.g_power T.F_power.kp T.b_power (r_cons (r_add (r_var 0) r_int) (r_cons (r_var 1) r_nil))) (r_callG (ok_power T) hr (by decide) hg (by rfl) T.g_power T.F_power.kp T.b_power (r_cons (r_var 0) (r_cons (r_sub (r_var 0) (r_var 1)) r_nil)))) (r_callG (ok_power T) hr (by decide) hg (by rfl) T.g_power T.F_power.kp T.b_power (r_cons (r_var 0) (r_cons (r_var 0) r_nil))))))
theorem ok_share : FnG P w K mg base CX0 (1 + 1) T.f_share T.fd_share ["c"] (spI K fn_share) := by
  refine fn_okG (b := d_share) T.F_share sc_share rfl rfl fun cdv A outer s H E hr hg => ?_
  exact (r_seq (r_set (i := 1) sc_share.nd rfl (by first | exact .inl rfl | exact .inr rfl) (r_callG (ok_power T) hr (by decide) hg (by rfl) T.g_power T.F_power.kp T.b_power (r_cons (r_add (r_var 0) r_int) (r_cons (r_var 0) r_nil))))
    (r_one (r_ret (r_tup (r_cons (r_sub (r_var 1) (r_callG (ok_power T) hr (by decide) hg (by rfl) T.g_power T.F_power.kp T.b_power (r_cons (r_var 0) (r_cons (r_var 0) r_nil)))) (r_cons (r_var 1) r_nil))))))
theorem ok__law_of : FnG P w K mg base CX0 (1 + 1) T.f__law_of T.fd__law_of ["source", "some"] (spI K fn__law_of) := by
  refine fn_okG (b := d__law_of) T.F__law_of sc__law_of rfl rfl fun cdv A outer s H E hr hg => ?_
  exact (r_one (r_ret (r_ix (r_var 1) (r_callG (ok__law_pick T) hr (by decide) hg (by rfl) T.g__law_pick T.F__law_pick.kp T.b__law_pick (r_cons (r_var 0) (r_cons (r_blt call_lenA rc_len (by rfl) T.m_len bt_len (r_cons (r_var 1) r_nil)) r_nil))))))
theorem ok__law_mixed : FnG P w K mg base CX0 (1 + 1) T.f__law_mixed T.fd__law_mixed ["source", "things"] (spI K fn__law_mixed) := by
  refine fn_okG (b := d__law_mixed) T.F__law_mixed sc__law_mixed rfl rfl fun cdv A outer s H E hr hg => ?_
  exact (r_seq (r_set (i := 2) sc__law_mixed.nd rfl (by first | exact .inl rfl | exact .inr rfl) (r_al (r_tyF call_list_of rc_list (by rfl) T.m_list bt_list (r_cons (r_var 1) r_nil))))
    (r_one (r_ret (r_fl (r_lc (own := [("lap", 3)]) (s := (.n 3)) rfl sc__law_mixed.nd (r_wRng1 (by rfl) T.m_range (r_cons (r_blt call_lenA rc_len (by rfl) T.m_len bt_len (r_cons (r_var 2) r_nil)) r_nil)) (blkOk_by (N := N__law_mixed) (sc := defScope s__law_mixed) (by decide +kernel)) (by rfl) (fun _ _ _ _ _ => (r_rawN (i := 3) sc__law_mixed.nd rfl (by first | exact .inl rfl | exact .inr rfl))) (fun _ _ _ _ _ => r_ifs0) (fun _ _ _ _ _ => (PE_imp (pe_bm PySem.F.plainAttrs_list PySem.F.slot_list_pop PySem.F.type_list_pop mt_popAt (r_var 2) (r_cons (r_callG (ok__law_pick T) hr (by decide) hg (by rfl) T.g__law_pick T.F__law_pick.kp T.b__law_pick (r_cons (r_var 0) (r_cons (r_blt call_lenA rc_len (by rfl) T.m_len bt_len (r_cons (r_var 2) r_nil)) r_nil))) r_nil)) (i_ml rm_popAt))))))))
theorem ok__law_rise : FnG P w K mg base CX0 (1 + 1) T.f__law_rise T.fd__law_rise ["c", "load"] (spI K fn__law_rise) := by
  refine fn_okG (b := d__law_rise) T.F__law_rise sc__law_rise rfl rfl fun cdv A outer s H E hr hg => ?_
  exact (r_one (r_ret (r_sub (r_mulW (r_callG (ok__law_times T) hr (by decide) hg (by rfl) T.g__law_times T.F__law_times.kp T.b__law_times (r_cons (r_add (r_var 0) r_int) (r_cons (r_var 1) r_nil))) (r_callG (ok__law_times T) hr (by decide) hg (by rfl) T.g__law_times T.F__law_times.kp T.b__law_times (r_cons (r_var 0) (r_cons (r_sub (r_var 0) (r_var 1)) r_nil)))) (r_callG (ok__law_times T) hr (by decide) hg (by rfl) T.g__law_times T.F__law_times.kp T.b__law_times (r_cons (r_var 0) (r_cons (r_var 0) r_nil))))))
theorem ok__law_yard : FnG P w K mg base CX0 (1 + 1) T.f__law_yard T.fd__law_yard ["source", "top", "high"] (spI K fn__law_yard) := by
  refine fn_okG (b := d__law_yard) T.F__law_yard sc__law_yard rfl rfl fun cdv A outer s H E hr hg => ?_
  exact (r_seq (r_asg (r_tup (r_cons (r_add r_int (r_callG (ok__law_pick T) hr (by decide) hg (by rfl) T.g__law_pick T.F__law_pick.kp T.b__law_pick (r_cons (r_var 0) (r_cons (r_var 1) r_nil)))) (r_cons (r_callG (ok__law_pick T) hr (by decide) hg (by rfl) T.g__law_pick T.F__law_pick.kp T.b__law_pick (r_cons (r_var 0) (r_cons r_int r_nil))) r_nil))) (r_sh (s := (.t (.cons (.n 3) (.cons (.n 4) .nil)))) (r_rawT rfl (r_rawsC (r_rawN (i := 3) sc__law_yard.nd rfl (by first | exact .inl rfl | exact .inr rfl)) (r_rawsC (r_rawN (i := 4) sc__law_yard.nd rfl (by first | exact .inl rfl | exact .inr rfl)) r_rawsN)))))
    (r_seq (r_setLcF (i := 5) (own := [("house", 6)]) (s := (.n 6)) rfl sc__law_yard.nd rfl rfl (sw_true rfl rfl rfl (by decide +kernel)) (r_wRng1 (by rfl) T.m_range (r_cons (r_var 3) r_nil)) (blkOk_by (N := N__law_yard) (sc := defScope s__law_yard) (by decide +kernel)) (by rfl) (fun _ _ _ _ _ => (r_rawN (i := 6) sc__law_yard.nd rfl (by first | exact .inl rfl | exact .inr rfl))) (fun _ _ _ _ _ => r_ifs0) (fun _ _ _ _ _ => (r_add r_int (r_callG (ok__law_pick T) hr (by decide) hg (by rfl) T.g__law_pick T.F__law_pick.kp T.b__law_pick (r_cons (r_var 0) (r_cons (r_ix (r_fl (r_lst (r_cons r_int (r_cons r_int (r_cons r_int r_nil))))) (r_var 4)) r_nil))))))
    (r_one (r_ret (r_tup (r_cons (r_add r_int (r_callG (ok__law_pick T) hr (by decide) hg (by rfl) T.g__law_pick T.F__law_pick.kp T.b__law_pick (r_cons (r_var 0) (r_cons (r_var 2) r_nil)))) (r_cons (r_ty call_tuple_of rc_tuple (by rfl) T.m_tuple bt_tuple (r_cons (r_var 5) r_nil)) r_nil)))))))
theorem ok_pull : FnG P w K mg base CX0 (2 + 1) T.f_pull T.fd_pull ["yard", "house", "load"] (spI K fn_pull) := by
  refine fn_okG (b := d_pull) T.F_pull sc_pull rfl rfl fun cdv A outer s H E hr hg => ?_
  exact (r_seq (r_asg (r_var 0) (r_sh (s := (.t (.cons (.n 3) (.cons (.n 4) .nil)))) (r_rawT rfl (r_rawsC (r_rawN (i := 3) sc_pull.nd rfl (by first | exact .inl rfl | exact .inr rfl)) (r_rawsC (r_rawN (i := 4) sc_pull.nd rfl (by first | exact .inl rfl | exact .inr rfl)) r_rawsN)))))
    (r_one (r_ret (r_mul (r_ix (r_var 4) (r_var 1)) (r_sub (r_callG (ok_rise T) hr (by decide) hg (by rfl) T.g_rise T.F_rise.kp T.b_rise (r_cons (r_var 3) (r_cons (r_var 3) r_nil))) (r_callG (ok_rise T) hr (by decide) hg (by rfl) T.g_rise T.F_rise.kp T.b_rise (r_cons (r_var 3) (r_cons (r_var 2) r_nil))))))))
theorem ok_law : FnG P w K mg base CX0 (3 + 1) T.f_law T.fd_law ["script"] (spI K fn_law) := by
  refine fn_okG (b := d_law) T.F_law sc_law rfl rfl fun cdv A outer s H E hr hg => ?_
  exact (r_seq (r_set (i := 1) sc_law.nd rfl (by first | exact .inl rfl | exact .inr rfl) (r_callG (ok__law_source T) hr (by decide) hg (by rfl) T.g__law_source T.F__law_source.kp T.b__law_source (r_cons (r_var 0) r_nil)))
    (r_seq (r_for PassesOwn.never rfl (r_wRng1 (by rfl) T.m_range (r_cons r_int r_nil)) (r_sh (s := (.n 2)) (r_rawN (i := 2) sc_law.nd rfl (by first | exact .inl rfl | exact .inr rfl))) (r_seq (r_set (i := 3) sc_law.nd rfl (by first | exact .inl rfl | exact .inr rfl) (r_ifE (r_cmpT op_lt rb_lt (r_var 2) r_int) (r_add r_int (r_callG (ok__law_pick T) hr (by decide) hg (by rfl) T.g__law_pick T.F__law_pick.kp T.b__law_pick (r_cons (r_var 1) (r_cons r_int r_nil)))) (r_sub r_int (r_mul (r_callG (ok__law_pick T) hr (by decide) hg (by rfl) T.g__law_pick T.F__law_pick.kp T.b__law_pick (r_cons (r_var 1) (r_cons r_int r_nil))) (r_ty call_int1 rc_toInt (by rfl) T.m_int bt_int (r_cons (r_cmp (op_eqA hr.units) rb_eq (r_var 2) r_int) r_nil))))))
    (r_seq (r_asg (r_tup (r_cons (r_callG (ok__law_times T) hr (by decide) hg (by rfl) T.g__law_times T.F__law_times.kp T.b__law_times (r_cons (r_add (r_var 3) r_int) (r_cons (r_var 3) r_nil))) (r_cons (r_callG (ok__law_rise T) hr (by decide) hg (by rfl) T.g__law_rise T.F__law_rise.kp T.b__law_rise (r_cons (r_var 3) (r_cons (r_var 3) r_nil))) r_nil))) (r_sh (s := (.t (.cons (.n 4) (.cons (.n 5) .nil)))) (r_rawT rfl (r_rawsC (r_rawN (i := 4) sc_law.nd rfl (by first | exact .inl rfl | exact .inr rfl)) (r_rawsC (r_rawN (i := 5) sc_law.nd rfl (by first | exact .inl rfl | exact .inr rfl)) r_rawsN)))))
    (r_seq (r_set (i := 7) sc_law.nd rfl (by first | exact .inl rfl | exact .inr rfl) (r_fl (r_lc (own := [("load", 6)]) (s := (.n 6)) rfl sc_law.nd (r_wRng1 (by rfl) T.m_range (r_cons (r_add (r_var 3) r_int) r_nil)) (blkOk_by (N := N_law) (sc := defScope s_law) (by decide +kernel)) (by rfl) (fun _ _ _ _ _ => (r_rawN (i := 6) sc_law.nd rfl (by first | exact .inl rfl | exact .inr rfl))) (fun _ _ _ _ _ => r_ifs0) (fun _ _ _ _ _ => (r_callG (ok_rise T) hr (by decide) hg (by rfl) T.g_rise T.F_rise.kp T.b_rise (r_cons (r_var 3) (r_cons (r_var 6) r_nil)))))))
    (r_seq (r_if (PW.pt (r_or (r_cmpT (op_neA hr.units) rb_ne (r_blt (call_repr hg hr.units) rc_repr (by rfl) T.m_repr bt_repr (r_cons (r_var 7) r_nil)) (r_blt (call_repr hg hr.units) rc_repr (by rfl) T.m_repr bt_repr (r_cons (r_fl (r_lc (own := [("load", 6)]) (s := (.n 6)) rfl sc_law.nd (r_wRng1 (by rfl) T.m_range (r_cons (r_add (r_var 3) r_int) r_nil)) (blkOk_by (N := N_law) (sc := defScope s_law) (by decide +kernel)) (by rfl) (fun _ _ _ _ _ => (r_rawN (i := 6) sc_law.nd rfl (by first | exact .inl rfl | exact .inr rfl))) (fun _ _ _ _ _ => r_ifs0) (fun _ _ _ _ _ => (r_callG (ok__law_rise T) hr (by decide) hg (by rfl) T.g__law_rise T.F__law_rise.kp T.b__law_rise (r_cons (r_var 3) (r_cons (r_var 6) r_nil)))))) r_nil))) (r_or (r_cmpT (op_neA hr.units) rb_ne (r_ix (r_var 7) r_int) r_int) (r_or1 (r_cmpT (op_neA hr.units) rb_ne (r_ix (r_var 7) (r_neg r_int)) (r_sub (r_var 4) (r_callG (ok__law_times T) hr (by decide) hg (by rfl) T.g__law_times T.F__law_times.kp T.b__law_times (r_cons (r_var 3) (r_cons (r_var 3) r_nil))))))))) (r_one (r_ret r_bl)) r_snil)
    (r_seq (r_if (r_cmpT (op_neA hr.units) rb_ne (r_fl (r_lc (own := [("load", 6)]) (s := (.n 6)) rfl sc_law.nd (r_wRng1 (by rfl) T.m_range (r_cons (r_var 3) r_nil)) (blkOk_by (N := N_law) (sc := defScope s_law) (by decide +kernel)) (by rfl) (fun _ _ _ _ _ => (r_rawN (i := 6) sc_law.nd rfl (by first | exact .inl rfl | exact .inr rfl))) (fun _ _ _ _ _ => (r_ifs1 (PW.pt (r_or (r_not (r_cmpT op_lt rb_lt (r_ix (r_var 7) (r_var 6)) (r_ix (r_var 7) (r_add (r_var 6) r_int)))) (r_or1 (r_cmpT (op_neA hr.units) rb_ne (r_sub (r_add (r_mul (r_var 3) (r_sub (r_ix (r_var 7) (r_add (r_var 6) r_int)) (r_ix (r_var 7) (r_var 6)))) (r_var 5)) (r_ix (r_var 7) (r_var 6))) (r_var 4))))))) (fun _ _ _ _ _ => (r_var 6)))) (r_fl (r_lst r_nil))) (r_one (r_ret r_bl)) r_snil)
    (r_seq (r_if (r_cmpT (op_neA hr.units) rb_ne (r_blt (call_repr hg hr.units) rc_repr (by rfl) T.m_repr bt_repr (r_cons (r_callG (ok_share T) hr (by decide) hg (by rfl) T.g_share T.F_share.kp T.b_share (r_cons (r_var 3) r_nil)) r_nil)) (r_blt (call_repr hg hr.units) rc_repr (by rfl) T.m_repr bt_repr (r_cons (r_callG (ok__law_lowest T) hr (by decide) hg (by rfl) T.g__law_lowest T.F__law_lowest.kp T.b__law_lowest (r_cons (r_var 5) (r_cons (r_var 4) r_nil))) r_nil))) (r_one (r_ret r_bl)) r_snil)
    (r_seq (r_set (i := 8) sc_law.nd rfl (by first | exact .inl rfl | exact .inr rfl) (r_callG (ok__law_yard T) hr (by decide) hg (by rfl) T.g__law_yard T.F__law_yard.kp T.b__law_yard (r_cons (r_var 1) (r_cons r_int (r_cons (r_ifE (r_cmpT op_lt rb_lt (r_var 2) r_int) r_int r_int) r_nil)))))
    (r_seq (r_set (i := 8) sc_law.nd rfl (by first | exact .inl rfl | exact .inr rfl) (r_ifE (r_cmpT (op_eqA hr.units) rb_eq (r_var 2) r_int) (r_tup (r_cons r_int (r_cons (r_ix (r_var 8) r_int) r_nil))) (r_var 8)))
    (r_seq (r_par (i := 9) (j := 6) rfl sc_law.nd rfl rfl (by decide) rfl rfl (r_cons (r_callG (ok__law_pick T) hr (by decide) hg (by rfl) T.g__law_pick T.F__law_pick.kp T.b__law_pick (r_cons (r_var 1) (r_cons (r_blt call_lenA rc_len (by rfl) T.m_len bt_len (r_cons (r_ix (r_var 8) r_int) r_nil)) r_nil))) (r_cons (r_callG (ok__law_pick T) hr (by decide) hg (by rfl) T.g__law_pick T.F__law_pick.kp T.b__law_pick (r_cons (r_var 1) (r_cons (r_add (r_ix (r_var 8) r_int) r_int) r_nil))) r_nil)) rfl)
    (r_seq (r_set (i := 10) sc_law.nd rfl (by first | exact .inl rfl | exact .inr rfl) (r_mul (r_ix (r_ix (r_var 8) r_int) (r_var 9)) (r_sub (r_callG (ok__law_rise T) hr (by decide) hg (by rfl) T.g__law_rise T.F__law_rise.kp T.b__law_rise (r_cons (r_ix (r_var 8) r_int) (r_cons (r_ix (r_var 8) r_int) r_nil))) (r_callG (ok__law_rise T) hr (by decide) hg (by rfl) T.g__law_rise T.F__law_rise.kp T.b__law_rise (r_cons (r_ix (r_var 8) r_int) (r_cons (r_var 6) r_nil))))))
    (r_one (r_if (PW.pt (r_or (r_cmpT (op_neA hr.units) rb_ne (r_blt (call_repr hg hr.units) rc_repr (by rfl) T.m_repr bt_repr (r_cons (r_callG (ok_pull T) hr (by decide) hg (by rfl) T.g_pull T.F_pull.kp T.b_pull (r_cons (r_var 8) (r_cons (r_var 9) (r_cons (r_var 6) r_nil)))) r_nil)) (r_blt (call_repr hg hr.units) rc_repr (by rfl) T.m_repr bt_repr (r_cons (r_var 10) r_nil))) (r_or1 (r_cmpT (op_neA hr.units) rb_ne (r_cmp (op_eqA hr.units) rb_eq (r_var 10) r_int) (r_cmp (op_eqA hr.units) rb_eq (r_var 6) (r_ix (r_var 8) r_int)))))) (r_one (r_ret r_bl)) r_snil)))))))))))))
    (r_one (r_ret (r_cmp (op_eqA hr.units) rb_eq (r_fl (r_lc (own := [("c", 3)]) (s := (.n 3)) rfl sc_law.nd (r_wSeq (r_tup (r_cons r_int (r_cons r_int (r_cons r_int (r_cons r_int r_nil)))))) (blkOk_by (N := N_law) (sc := defScope s_law) (by decide +kernel)) (by rfl) (fun _ _ _ _ _ => (r_rawN (i := 3) sc_law.nd rfl (by first | exact .inl rfl | exact .inr rfl))) (fun _ _ _ _ _ => r_ifs0) (fun _ _ _ _ _ => (r_callG (ok_share T) hr (by decide) hg (by rfl) T.g_share T.F_share.kp T.b_share (r_cons (r_var 3) r_nil))))) (r_fl (r_lst (r_cons (r_tup (r_cons r_int (r_cons r_int r_nil))) (r_cons (r_tup (r_cons r_int (r_cons r_int r_nil))) (r_cons (r_tup (r_cons r_int (r_cons r_int r_nil))) (r_cons (r_tup (r_cons r_int (r_cons r_int r_nil))) r_nil)))))))))))
end
theorem all_mk {l : PySem.W.OpenLaw} {w : World} {K : PySem.W.Frag} {h : Heap} {mg : Str → Option Value} {fa : Addr} (X : K.In h) (G : h.Ns mainGlobals mg) (hfa : mg "law" = some (.ref fa))
    {f0 : Addr} {od0 an0 : Option Addr} {sl0 : Array (Option Value)} {oc0 kV0 dc0 pm0 cd0 ct0 : Value}
    (a0 : PySem.W.nsIn K mainGlobals "power" = some (some (.ref f0))) (l0 : K.lookup f0 = some ⟨oc0, od0, .func (PySem.W.fnOf "power" "power" (defArgs s_power) (defBody s_power) (defScope s_power) .none kV0 dc0 pm0 an0 cd0 ct0), sl0⟩) (c0 : PySem.W.codeIn K cd0 "power" = true) (k0 : PySem.W.keepIn K (.ref f0) = true)
    {f1 : Addr} {od1 an1 : Option Addr} {sl1 : Array (Option Value)} {oc1 kV1 dc1 pm1 cd1 ct1 : Value}
    (a1 : PySem.W.nsIn K mainGlobals "_law_source" = some (some (.ref f1))) (l1 : K.lookup f1 = some ⟨oc1, od1, .func (PySem.W.fnOf "_law_source" "_law_source" (defArgs s__law_source) (defBody s__law_source) (defScope s__law_source) .none kV1 dc1 pm1 an1 cd1 ct1), sl1⟩) (c1 : PySem.W.codeIn K cd1 "_law_source" = true) (k1 : PySem.W.keepIn K (.ref f1) = true)
    {f2 : Addr} {od2 an2 : Option Addr} {sl2 : Array (Option Value)} {oc2 kV2 dc2 pm2 cd2 ct2 : Value}
    (a2 : PySem.W.nsIn K mainGlobals "_law_pick" = some (some (.ref f2))) (l2 : K.lookup f2 = some ⟨oc2, od2, .func (PySem.W.fnOf "_law_pick" "_law_pick" (defArgs s__law_pick) (defBody s__law_pick) (defScope s__law_pick) .none kV2 dc2 pm2 an2 cd2 ct2), sl2⟩) (c2 : PySem.W.codeIn K cd2 "_law_pick" = true) (k2 : PySem.W.keepIn K (.ref f2) = true)
    {f3 : Addr} {od3 an3 : Option Addr} {sl3 : Array (Option Value)} {oc3 kV3 dc3 pm3 cd3 ct3 : Value}
    (a3 : PySem.W.nsIn K mainGlobals "_law_times" = some (some (.ref f3))) (l3 : K.lookup f3 = some ⟨oc3, od3, .func (PySem.W.fnOf "_law_times" "_law_times" (defArgs s__law_times) (defBody s__law_times) (defScope s__law_times) .none kV3 dc3 pm3 an3 cd3 ct3), sl3⟩) (c3 : PySem.W.codeIn K cd3 "_law_times" = true) (k3 : PySem.W.keepIn K (.ref f3) = true)
    {f4 : Addr} {od4 an4 : Option Addr} {sl4 : Array (Option Value)} {oc4 kV4 dc4 pm4 cd4 ct4 : Value}
    (a4 : PySem.W.nsIn K mainGlobals "_law_lowest" = some (some (.ref f4))) (l4 : K.lookup f4 = some ⟨oc4, od4, .func (PySem.W.fnOf "_law_lowest" "_law_lowest" (defArgs s__law_lowest) (defBody s__law_lowest) (defScope s__law_lowest) .none kV4 dc4 pm4 an4 cd4 ct4), sl4⟩) (c4 : PySem.W.codeIn K cd4 "_law_lowest" = true) (k4 : PySem.W.keepIn K (.ref f4) = true)
    {f5 : Addr} {od5 an5 : Option Addr} {sl5 : Array (Option Value)} {oc5 kV5 dc5 pm5 cd5 ct5 : Value}
    (a5 : PySem.W.nsIn K mainGlobals "rise" = some (some (.ref f5))) (l5 : K.lookup f5 = some ⟨oc5, od5, .func (PySem.W.fnOf "rise" "rise" (defArgs s_rise) (defBody s_rise) (defScope s_rise) .none kV5 dc5 pm5 an5 cd5 ct5), sl5⟩) (c5 : PySem.W.codeIn K cd5 "rise" = true) (k5 : PySem.W.keepIn K (.ref f5) = true)
    {f6 : Addr} {od6 an6 : Option Addr} {sl6 : Array (Option Value)} {oc6 kV6 dc6 pm6 cd6 ct6 : Value}
    (a6 : PySem.W.nsIn K mainGlobals "share" = some (some (.ref f6))) (l6 : K.lookup f6 = some ⟨oc6, od6, .func (PySem.W.fnOf "share" "share" (defArgs s_share) (defBody s_share) (defScope s_share) .none kV6 dc6 pm6 an6 cd6 ct6), sl6⟩) (c6 : PySem.W.codeIn K cd6 "share" = true) (k6 : PySem.W.keepIn K (.ref f6) = true)
    {f7 : Addr} {od7 an7 : Option Addr} {sl7 : Array (Option Value)} {oc7 kV7 dc7 pm7 cd7 ct7 : Value}
    (a7 : PySem.W.nsIn K mainGlobals "_law_of" = some (some (.ref f7))) (l7 : K.lookup f7 = some ⟨oc7, od7, .func (PySem.W.fnOf "_law_of" "_law_of" (defArgs s__law_of) (defBody s__law_of) (defScope s__law_of) .none kV7 dc7 pm7 an7 cd7 ct7), sl7⟩) (c7 : PySem.W.codeIn K cd7 "_law_of" = true) (k7 : PySem.W.keepIn K (.ref f7) = true)
    {f8 : Addr} {od8 an8 : Option Addr} {sl8 : Array (Option Value)} {oc8 kV8 dc8 pm8 cd8 ct8 : Value}
    (a8 : PySem.W.nsIn K mainGlobals "_law_mixed" = some (some (.ref f8))) (l8 : K.lookup f8 = some ⟨oc8, od8, .func (PySem.W.fnOf "_law_mixed" "_law_mixed" (defArgs s__law_mixed) (defBody s__law_mixed) (defScope s__law_mixed) .none kV8 dc8 pm8 an8 cd8 ct8), sl8⟩) (c8 : PySem.W.codeIn K cd8 "_law_mixed" = true) (k8 : PySem.W.keepIn K (.ref f8) = true)
    {f9 : Addr} {od9 an9 : Option Addr} {sl9 : Array (Option Value)} {oc9 kV9 dc9 pm9 cd9 ct9 : Value}
    (a9 : PySem.W.nsIn K mainGlobals "_law_rise" = some (some (.ref f9))) (l9 : K.lookup f9 = some ⟨oc9, od9, .func (PySem.W.fnOf "_law_rise" "_law_rise" (defArgs s__law_rise) (defBody s__law_rise) (defScope s__law_rise) .none kV9 dc9 pm9 an9 cd9 ct9), sl9⟩) (c9 : PySem.W.codeIn K cd9 "_law_rise" = true) (k9 : PySem.W.keepIn K (.ref f9) = true)
    {f10 : Addr} {od10 an10 : Option Addr} {sl10 : Array (Option Value)} {oc10 kV10 dc10 pm10 cd10 ct10 : Value}
    (a10 : PySem.W.nsIn K mainGlobals "_law_yard" = some (some (.ref f10))) (l10 : K.lookup f10 = some ⟨oc10, od10, .func (PySem.W.fnOf "_law_yard" "_law_yard" (defArgs s__law_yard) (defBody s__law_yard) (defScope s__law_yard) .none kV10 dc10 pm10 an10 cd10 ct10), sl10⟩) (c10 : PySem.W.codeIn K cd10 "_law_yard" = true) (k10 : PySem.W.keepIn K (.ref f10) = true)
    {f11 : Addr} {od11 an11 : Option Addr} {sl11 : Array (Option Value)} {oc11 kV11 dc11 pm11 cd11 ct11 : Value}
    (a11 : PySem.W.nsIn K mainGlobals "pull" = some (some (.ref f11))) (l11 : K.lookup f11 = some ⟨oc11, od11, .func (PySem.W.fnOf "pull" "pull" (defArgs s_pull) (defBody s_pull) (defScope s_pull) .none kV11 dc11 pm11 an11 cd11 ct11), sl11⟩) (c11 : PySem.W.codeIn K cd11 "pull" = true) (k11 : PySem.W.keepIn K (.ref f11) = true)
    {f12 : Addr} {od12 an12 : Option Addr} {sl12 : Array (Option Value)} {oc12 kV12 dc12 pm12 cd12 ct12 : Value}
    (a12 : PySem.W.nsIn K mainGlobals "law" = some (some (.ref f12))) (l12 : K.lookup f12 = some ⟨oc12, od12, .func (PySem.W.fnOf "law" "law" (defArgs s_law) (defBody s_law) (defScope s_law) .none kV12 dc12 pm12 an12 cd12 ct12), sl12⟩) (c12 : PySem.W.codeIn K cd12 "law" = true) (k12 : PySem.W.keepIn K (.ref f12) = true)
    (z_abs : PySem.W.nsIn K mainGlobals "abs" = some none)
    (z_int : PySem.W.nsIn K mainGlobals "int" = some none)
    (z_len : PySem.W.nsIn K mainGlobals "len" = some none)
    (z_list : PySem.W.nsIn K mainGlobals "list" = some none)
    (z_max : PySem.W.nsIn K mainGlobals "max" = some none)
    (z_range : PySem.W.nsIn K mainGlobals "range" = some none)
    (z_repr : PySem.W.nsIn K mainGlobals "repr" = some none)
    (z_tuple : PySem.W.nsIn K mainGlobals "tuple" = some none) :
    ∃ fd : FuncData, (∀ (s : Shared) (v : Value), BindsTo s fd ⟨[v], []⟩ [("script", v)]) ∧ ∀ base : Heap, K.In base → base.Ns mainGlobals mg → FnG l.prog w K mg base CX0 (3 + 1) fa fd ["script"] (spI K fn_law) := by
  have e := hfa.symm.trans (PySem.W.mg_of X G a12)
  cases e
  let T : Txt K mg := { f_power := _, fd_power := _, F_power := fun_mk (st := s_power) l0 c0 k0, b_power := (fun_mk (st := s_power) l0 c0 k0).binds (ps := ["base", "times"]) (fun _ _ _ _ _ _ us hl => match us, hl with | [_, _], _ => rfl), g_power := PySem.W.mg_of X G a0, f__law_source := _, fd__law_source := _, F__law_source := fun_mk (st := s__law_source) l1 c1 k1, b__law_source := (fun_mk (st := s__law_source) l1 c1 k1).binds (ps := ["script"]) (fun _ _ _ _ _ _ us hl => match us, hl with | [_], _ => rfl), g__law_source := PySem.W.mg_of X G a1, f__law_pick := _, fd__law_pick := _, F__law_pick := fun_mk (st := s__law_pick) l2 c2 k2, b__law_pick := (fun_mk (st := s__law_pick) l2 c2 k2).binds (ps := ["source", "many"]) (fun _ _ _ _ _ _ us hl => match us, hl with | [_, _], _ => rfl), g__law_pick := PySem.W.mg_of X G a2, f__law_times := _, fd__law_times := _, F__law_times := fun_mk (st := s__law_times) l3 c3 k3, b__law_times := (fun_mk (st := s__law_times) l3 c3 k3).binds (ps := ["base", "many"]) (fun _ _ _ _ _ _ us hl => match us, hl with | [_, _], _ => rfl), g__law_times := PySem.W.mg_of X G a3, f__law_lowest := _, fd__law_lowest := _, F__law_lowest := fun_mk (st := s__law_lowest) l4 c4 k4, b__law_lowest := (fun_mk (st := s__law_lowest) l4 c4 k4).binds (ps := ["p", "q"]) (fun _ _ _ _ _ _ us hl => match us, hl with | [_, _], _ => rfl), g__law_lowest := PySem.W.mg_of X G a4, f_rise := _, fd_rise := _, F_rise := fun_mk (st := s_rise) l5 c5 k5, b_rise := (fun_mk (st := s_rise) l5 c5 k5).binds (ps := ["c", "load"]) (fun _ _ _ _ _ _ us hl => match us, hl with | [_, _], _ => rfl), g_rise := PySem.W.mg_of X G a5, f_share := _, fd_share := _, F_share := fun_mk (st := s_share) l6 c6 k6, b_share := (fun_mk (st := s_share) l6 c6 k6).binds (ps := ["c"]) (fun _ _ _ _ _ _ us hl => match us, hl with | [_], _ => rfl), g_share := PySem.W.mg_of X G a6, f__law_of := _, fd__law_of := _, F__law_of := fun_mk (st := s__law_of) l7 c7 k7, b__law_of := (fun_mk (st := s__law_of) l7 c7 k7).binds (ps := ["source", "some"]) (fun _ _ _ _ _ _ us hl => match us, hl with | [_, _], _ => rfl), g__law_of := PySem.W.mg_of X G a7, f__law_mixed := _, fd__law_mixed := _, F__law_mixed := fun_mk (st := s__law_mixed) l8 c8 k8, b__law_mixed := (fun_mk (st := s__law_mixed) l8 c8 k8).binds (ps := ["source", "things"]) (fun _ _ _ _ _ _ us hl => match us, hl with | [_, _], _ => rfl), g__law_mixed := PySem.W.mg_of X G a8, f__law_rise := _, fd__law_rise := _, F__law_rise := fun_mk (st := s__law_rise) l9 c9 k9, b__law_rise := (fun_mk (st := s__law_rise) l9 c9 k9).binds (ps := ["c", "load"]) (fun _ _ _ _ _ _ us hl => match us, hl with | [_, _], _ => rfl), g__law_rise := PySem.W.mg_of X G a9, f__law_yard := _, fd__law_yard := _, F__law_yard := fun_mk (st := s__law_yard) l10 c10 k10, b__law_yard := (fun_mk (st := s__law_yard) l10 c10 k10).binds (ps := ["source", "top", "high"]) (fun _ _ _ _ _ _ us hl => match us, hl with | [_, _, _], _ => rfl), g__law_yard := PySem.W.mg_of X G a10, f_pull := _, fd_pull := _, F_pull := fun_mk (st := s_pull) l11 c11 k11, b_pull := (fun_mk (st := s_pull) l11 c11 k11).binds (ps := ["yard", "house", "load"]) (fun _ _ _ _ _ _ us hl => match us, hl with | [_, _, _], _ => rfl), g_pull := PySem.W.mg_of X G a11, f_law := _, fd_law := _, F_law := fun_mk (st := s_law) l12 c12 k12, b_law := (fun_mk (st := s_law) l12 c12 k12).binds (ps := ["script"]) (fun _ _ _ _ _ _ us hl => match us, hl with | [_], _ => rfl), g_law := PySem.W.mg_of X G a12, m_abs := PySem.W.mg_none_of X G z_abs, m_int := PySem.W.mg_none_of X G z_int, m_len := PySem.W.mg_none_of X G z_len, m_list := PySem.W.mg_none_of X G z_list, m_max := PySem.W.mg_none_of X G z_max, m_range := PySem.W.mg_none_of X G z_range, m_repr := PySem.W.mg_none_of X G z_repr, m_tuple := PySem.W.mg_none_of X G z_tuple }
  exact ⟨T.fd_law, fun s v => .of_eq rfl, fun base _ _ => ok_law T⟩
end Vi_k31
end

section
open PySem PySem.W PyProof.Rows
set_option maxHeartbeats 0 in
theorem PySem.Challenge.cw_shareforsure_k31_rises_shares_pulls_holds : PySem.Challenge.rw_shareforsure_k31_rises_shares_pulls.Holds := by
  w_on; o_law; k_head; (case hw => w_witness2)
  k_fill
  refine VI.walkG (l := PySem.Challenge.rw_shareforsure_k31_rises_shares_pulls) (n := 63) (k := 4) (x := "script") (g := Vi_k31.fn_law) rfl (by decide) rfl ⟨rfl, by decide, by decide⟩ (fun w h Y => PySem.W.kIn_of Y) ?F Vi_k31.law_true
  case F =>
    intro w mg fa h KX G hmg
    refine' Vi_k31.all_mk KX G hmg ?a0 ?l0 ?c0 ?k0 ?a1 ?l1 ?c1 ?k1 ?a2 ?l2 ?c2 ?k2 ?a3 ?l3 ?c3 ?k3 ?a4 ?l4 ?c4 ?k4 ?a5 ?l5 ?c5 ?k5 ?a6 ?l6 ?c6 ?k6 ?a7 ?l7 ?c7 ?k7 ?a8 ?l8 ?c8 ?k8 ?a9 ?l9 ?c9 ?k9 ?a10 ?l10 ?c10 ?k10 ?a11 ?l11 ?c11 ?k11 ?a12 ?l12 ?c12 ?k12 ?z_abs ?z_int ?z_len ?z_list ?z_max ?z_range ?z_repr ?z_tuple
    (case a0 => k_is); (case l0 => k_is); (case c0 => k_is); (case k0 => k_is); (case a1 => k_is); (case l1 => k_is); (case c1 => k_is); (case k1 => k_is); (case a2 => k_is); (case l2 => k_is); (case c2 => k_is); (case k2 => k_is); (case a3 => k_is); (case l3 => k_is); (case c3 => k_is); (case k3 => k_is); (case a4 => k_is); (case l4 => k_is); (case c4 => k_is); (case k4 => k_is); (case a5 => k_is); (case l5 => k_is); (case c5 => k_is); (case k5 => k_is); (case a6 => k_is); (case l6 => k_is); (case c6 => k_is); (case k6 => k_is); (case a7 => k_is); (case l7 => k_is); (case c7 => k_is); (case k7 => k_is); (case a8 => k_is); (case l8 => k_is); (case c8 => k_is); (case k8 => k_is); (case a9 => k_is); (case l9 => k_is); (case c9 => k_is); (case k9 => k_is); (case a10 => k_is); (case l10 => k_is); (case c10 => k_is); (case k10 => k_is); (case a11 => k_is); (case l11 => k_is); (case c11 => k_is); (case k11 => k_is); (case a12 => k_is); (case l12 => k_is); (case c12 => k_is); (case k12 => k_is); (case z_abs => k_is); (case z_int => k_is); (case z_len => k_is); (case z_list => k_is); (case z_max => k_is); (case z_range => k_is); (case z_repr => k_is); (case z_tuple => k_is)
end
