import PyProof.Rows.All
import HandS.ForMost
import HandS.Style
import HandS.TupAny
import HandS.TupMul
import HandS.Conv
import HandS.Walk
import HandS.Zip
import HandS.SortInts
import KE.KeyNested
import HandS.Deep
import KE.GoesMore
import PyProof.CallFns
import HandS.IsInst
import HandS.SetFor
import PySem.Challenge.RW_shareforsure_k11_gifts_judged
set_option Elab.async false
set_option linter.all false
set_option maxRecDepth 100000
section
/-! Values with tuples and frozen lists as plain data, changing lists and dicts at places; what holds between them and the layer's heap. -/
namespace VI
open PySem PySem.Spec PyProof.Rows L2

inductive IV where
  | non | bl (b : Bool) | int (i : Int) | str (x : Str) | tup (xs : List IV) | fl (xs : List IV) | fz (xs : List IV) | loc (l : Nat)
/-- other things that stand at a place: a dict whose keys are nested tuples, an object of an own class -/
inductive IX where
  | dN (kvs : List (NestedKey × IV)) | ob (c : Str) (fs : List (Str × IV))
/-- what stands at a place -/
inductive IO where
  | lst (xs : List IV) | dK (kvs : List (Key × IV)) | oth (t : IX)
abbrev Mem := List IO
abbrev Sl := List (Option IV)
/-- an exception: its class, its fields -/
structure Ex where
  cls : Str
  fs : List (Str × IV)
inductive Ret (α : Type) where
  | ok (a : α) (h : Mem) | ex (e : Ex) (h : Mem) | bad
def Ret.bind {α β : Type} (r : Ret α) (f : α → Mem → Ret β) : Ret β := match r with
  | .ok a h => f a h
  | .ex e h => .ex e h
  | .bad => .bad
@[simp] theorem Ret.bind_ok {α β : Type} (a : α) (h : Mem) (f : α → Mem → Ret β) : (Ret.ok a h).bind f = f a h := rfl
@[simp] theorem Ret.bind_bad {α β : Type} (f : α → Mem → Ret β) : (Ret.bad : Ret α).bind f = .bad := rfl
@[simp] theorem Ret.bind_ex {α β : Type} (e : Ex) (h : Mem) (f : α → Mem → Ret β) : (Ret.ex e h : Ret α).bind f = .ex e h := rfl

/-- a list of the written part -/
def KL (K : PySem.W.Frag) (a : Addr) (xs : List V) : Prop := ∃ (o : Obj) (its : Array Value) (n : Nat), K.lookup a = some o ∧ o.cls = .type "list" ∧ o.dict = none ∧ o.data = .seq its n ∧ its.size ≤ sizeLine ∧ Vals xs its.toList
section
variable (K : PySem.W.Frag)
mutual
inductive VR : List Addr → List Addr → Hp → IV → V → Prop
  | non {μ z H} : VR μ z H .non .non
  | bl {μ z H} (b : Bool) : VR μ z H (.bl b) (.bl b)
  | int {μ z H} (i : Int) : VR μ z H (.int i) (.int i)
  | str {μ z H} (x : Str) : VR μ z H (.str x) (.str x)
  | tup {μ z H} {a : Addr} {xs : List IV} {vs : List V} : SqT K H a vs → VRs μ z H xs vs → VR μ z H (.tup xs) (.ref a)
  | fl {μ z H} {a : Addr} {xs : List IV} {vs : List V} : H a = some (.lst vs) → a ∉ μ → a ∉ z → VRs μ z H xs vs → VR μ z H (.fl xs) (.ref a)
  | fz {μ z H} {a : Addr} {xs : List IV} {vs : List V} : ((∃ o, H a = some (.frz o (.lst vs))) ∨ KL K a vs) → VRs μ z H xs vs → VR μ z H (.fz xs) (.ref a)
  | loc {μ z H} {a : Addr} {l : Nat} : μ[l]? = some a → VR μ z H (.loc l) (.ref a)
inductive VRs : List Addr → List Addr → Hp → List IV → List V → Prop
  | nil {μ z H} : VRs μ z H [] []
  | cons {μ z H} {x : IV} {v : V} {xs : List IV} {vs : List V} : VR μ z H x v → VRs μ z H xs vs → VRs μ z H (x :: xs) (v :: vs)
end
end

/-- what may not change: tuples, locked things -/
def Imm : HO → Prop
  | .tup _ => True
  | .frz _ _ => True
  | _ => False
/-- from one heap to a later one: places are added, all but the places' objects stay -/
structure Step (μ : List Addr) (H : Hp) (μ' : List Addr) (H' : Hp) : Prop where
  ext : ∃ ns, μ' = μ ++ ns ∧ ∀ a ∈ ns, H a = none
  keep : ∀ a o, H a = some o → a ∉ μ → H' a = some o
  imm : ∀ a o, H a = some o → Imm o → H' a = some o
  there : ∀ a o, H a = some o → ∃ o', H' a = some o'

section
variable {K : PySem.W.Frag} {μ μ1 μ2 μ' z : List Addr} {H H1 H2 H' : Hp}
theorem Step.refl : Step μ H μ H := ⟨⟨[], by simp, by simp⟩, fun _ _ h _ => h, fun _ _ h _ => h, fun _ o h => ⟨o, h⟩⟩
theorem Step.trans (s : Step μ H μ1 H1) (t : Step μ1 H1 μ2 H2) : Step μ H μ2 H2 := by
  obtain ⟨n1, e1, f1⟩ := s.ext
  obtain ⟨n2, e2, f2⟩ := t.ext
  refine ⟨⟨n1 ++ n2, by rw [e2, e1, List.append_assoc], fun a ha => ?_⟩, fun a o h n => ?_, fun a o h i => t.imm a o (s.imm a o h i) i, fun a o h => ?_⟩
  · rcases List.mem_append.mp ha with q | q
    · exact f1 a q
    · cases e : H a with
      | none => rfl
      | some o =>
        obtain ⟨o', e'⟩ := s.there a o e
        rw [f2 a q] at e'
        cases e'
  · refine t.keep a o (s.keep a o h n) fun m => ?_
    rw [e1] at m
    rcases List.mem_append.mp m with q | q
    · exact n q
    · rw [f1 a q] at h
      cases h
  · obtain ⟨o1, h1⟩ := s.there a o h
    exact t.there a o1 h1
theorem Step.get (s : Step μ H μ' H') {l : Nat} {a : Addr} (h : μ[l]? = some a) : μ'[l]? = some a := by
  obtain ⟨ns, e, _⟩ := s.ext
  rw [e, List.getElem?_append_left (List.getElem?_eq_some_iff.mp h).1]
  exact h
theorem Step.out (s : Step μ H μ' H') {a : Addr} {o : HO} (h : H a = some o) (n : a ∉ μ) : a ∉ μ' := by
  obtain ⟨ns, e, f⟩ := s.ext
  rw [e]
  intro m
  rcases List.mem_append.mp m with q | q
  · exact n q
  · rw [f a q] at h
    cases h
theorem Rd.there {a : Addr} {u : HO} (h : Rd H a u) : ∃ o, H a = some o := by
  rcases h with h | ⟨o, h⟩
  · exact ⟨_, h⟩
  · exact ⟨_, h⟩
mutual
theorem VR.step (s : Step μ H μ' H') : ∀ {x : IV} {v : V}, VR K μ z H x v → VR K μ' z H' x v
  | _, _, .non => .non
  | _, _, .bl b => .bl b
  | _, _, .int i => .int i
  | _, _, .str x => .str x
  | _, _, .tup h r => by
    refine .tup ?_ (VRs.step s r)
    rcases h with (h | ⟨o, h⟩) | h
    · exact .inl (.inl (s.imm _ _ h trivial))
    · exact .inl (.inr ⟨o, s.imm _ _ h trivial⟩)
    · exact .inr h
  | _, _, .fl h n m r => .fl (s.keep _ _ h n) (s.out h n) m (VRs.step s r)
  | _, _, .fz h r => .fz (h.imp (fun ⟨o, e⟩ => ⟨o, s.imm _ _ e trivial⟩) id) (VRs.step s r)
  | _, _, .loc h => .loc (s.get h)
theorem VRs.step (s : Step μ H μ' H') : ∀ {xs : List IV} {vs : List V}, VRs K μ z H xs vs → VRs K μ' z H' xs vs
  | _, _, .nil => .nil
  | _, _, .cons r t => .cons (VR.step s r) (VRs.step s t)
end
theorem VRs.length : ∀ {xs : List IV} {vs : List V}, VRs K μ z H xs vs → xs.length = vs.length
  | _, _, .nil => rfl
  | _, _, .cons _ t => by rw [List.length_cons, List.length_cons, VRs.length t]
theorem VRs.get : ∀ {xs : List IV} {vs : List V} {i : Nat} {x : IV}, VRs K μ z H xs vs → xs[i]? = some x → ∃ v, vs[i]? = some v ∧ VR K μ z H x v
  | _, _, _, _, .nil, e => by simp at e
  | _, _, 0, _, .cons r _, e => by
    simp at e
    subst e
    exact ⟨_, rfl, r⟩
  | _, _, i + 1, x, .cons _ t, e => by
    obtain ⟨u, h1, h2⟩ := VRs.get (i := i) (x := x) t (by simpa using e)
    exact ⟨u, by simpa using h1, h2⟩
theorem VRs.get' : ∀ {xs : List IV} {vs : List V} {i : Nat} {v : V}, VRs K μ z H xs vs → vs[i]? = some v → ∃ x, xs[i]? = some x ∧ VR K μ z H x v
  | _, _, _, _, .nil, e => by simp at e
  | _, _, 0, _, .cons r _, e => by
    simp at e
    subst e
    exact ⟨_, rfl, r⟩
  | _, _, i + 1, x, .cons _ t, e => by
    obtain ⟨u, h1, h2⟩ := VRs.get' (i := i) (v := x) t (by simpa using e)
    exact ⟨u, by simpa using h1, h2⟩
theorem VRs.append : ∀ {xs ys : List IV} {vs ws : List V}, VRs K μ z H xs vs → VRs K μ z H ys ws → VRs K μ z H (xs ++ ys) (vs ++ ws)
  | _, _, _, _, .nil, s => s
  | _, _, _, _, .cons r t, s => .cons r (VRs.append t s)
theorem VRs.set {x : IV} {v : V} (r : VR K μ z H x v) : ∀ {xs : List IV} {vs : List V} (i : Nat), VRs K μ z H xs vs → VRs K μ z H (xs.set i x) (vs.set i v)
  | _, _, _, .nil => .nil
  | _, _, 0, .cons _ t => .cons r t
  | _, _, i + 1, .cons q t => .cons q (VRs.set r i t)
theorem VRs.take : ∀ {xs : List IV} {vs : List V} (n : Nat), VRs K μ z H xs vs → VRs K μ z H (xs.take n) (vs.take n)
  | _, _, 0, _ => .nil
  | _, _, _ + 1, .nil => .nil
  | _, _, n + 1, .cons r t => .cons r (VRs.take n t)
theorem VRs.drop : ∀ {xs : List IV} {vs : List V} (n : Nat), VRs K μ z H xs vs → VRs K μ z H (xs.drop n) (vs.drop n)
  | _, _, 0, r => r
  | _, _, _ + 1, .nil => .nil
  | _, _, n + 1, .cons _ t => VRs.drop n t
theorem VRs.rep {xs : List IV} {vs : List V} (r : VRs K μ z H xs vs) : ∀ n : Nat, VRs K μ z H (List.replicate n xs).flatten (List.replicate n vs).flatten
  | 0 => .nil
  | n + 1 => by
    rw [List.replicate_succ, List.replicate_succ, List.flatten_cons, List.flatten_cons]
    exact r.append (VRs.rep r n)
theorem VRs.rev : ∀ {xs : List IV} {vs : List V}, VRs K μ z H xs vs → VRs K μ z H xs.reverse vs.reverse
  | _, _, .nil => .nil
  | _, _, .cons r t => by
    rw [List.reverse_cons, List.reverse_cons]
    exact (VRs.rev t).append (.cons r .nil)
theorem VRs.erase : ∀ {xs : List IV} {vs : List V} (n : Nat), VRs K μ z H xs vs → VRs K μ z H (xs.eraseIdx n) (vs.eraseIdx n)
  | _, _, _, .nil => .nil
  | _, _, 0, .cons _ t => t
  | _, _, n + 1, .cons r t => .cons r (VRs.erase n t)
theorem VRs.last : ∀ {xs : List IV} {vs : List V}, VRs K μ z H xs vs → VRs K μ z H xs.dropLast vs.dropLast := fun {xs vs} r => by
  rw [List.dropLast_eq_take, List.dropLast_eq_take, r.length]
  exact r.take _
theorem VRs.ints : ∀ {ns : List Int} {vs : List V}, VRs K μ z H (ns.map IV.int) vs → vs = ns.map V.int
  | [], _, .nil => rfl
  | n :: ns, _, .cons r t => by
    cases r
    rw [VRs.ints t]
    rfl
theorem VRs.ofInts : ∀ ns : List Int, VRs K μ z H (ns.map IV.int) (ns.map V.int)
  | [] => .nil
  | n :: ns => .cons (.int n) (VRs.ofInts ns)
theorem VRs.bls : ∀ {ns : List Bool} {vs : List V}, VRs K μ z H (ns.map IV.bl) vs → vs = ns.map V.bl
  | [], _, .nil => rfl
  | n :: ns, _, .cons r t => by
    cases r
    rw [VRs.bls t]
    rfl
end

/-! ### the heap -/
inductive KRs (K : PySem.W.Frag) (μ z : List Addr) (H : Hp) : List (Key × IV) → List (Key × V) → Prop
  | nil : KRs K μ z H [] []
  | cons {k : Key} {x : IV} {v : V} {xs : List (Key × IV)} {vs : List (Key × V)} : VR K μ z H x v → KRs K μ z H xs vs → KRs K μ z H ((k, x) :: xs) ((k, v) :: vs)
/-- an object's fields -/
inductive FRs (K : PySem.W.Frag) (μ z : List Addr) (H : Hp) : List (Str × IV) → List (Str × V) → Prop
  | nil : FRs K μ z H [] []
  | cons {k : Str} {x : IV} {v : V} {xs : List (Str × IV)} {vs : List (Str × V)} : VR K μ z H x v → FRs K μ z H xs vs → FRs K μ z H ((k, x) :: xs) ((k, v) :: vs)
mutual
/-- a key as a value -/
def ivN : NestedKey → IV
  | .none => .non
  | .num i => .int i
  | .text x => .str x
  | .tup ks => .tup (ivNs ks)
def ivNs : List NestedKey → List IV
  | [] => []
  | k :: ks => ivN k :: ivNs ks
end
mutual
/-- a key's hash, no text being in it -/
def hashN : NestedKey → Int
  | .none => reduceHash 0xFCA86420
  | .num i => hashInt i
  | .text _ => 0
  | .tup ks => reduceHash (Builtin.Tuple.tupleHashOf (hashNs ks))
def hashNs : List NestedKey → List Int
  | [] => []
  | k :: ks => hashN k :: hashNs ks
end
/-- the entries of a dict with nested keys: the key, where its tuple stands, the value -/
inductive NRs (K : PySem.W.Frag) (μ z : List Addr) (H : Hp) : List (NestedKey × IV) → List (NestedKey × Addr × V) → Prop
  | nil : NRs K μ z H [] []
  | cons {k : NestedKey} {x : IV} {b : Addr} {v : V} {xs : List (NestedKey × IV)} {vs : List (NestedKey × Addr × V)} : VR K μ z H (ivN k) (.ref b) → VR K μ z H x v → NRs K μ z H xs vs → NRs K μ z H ((k, x) :: xs) ((k, b, v) :: vs)
/-- at a stands a dict of these entries -/
def isN (a : Addr) (es : List (NestedKey × Addr × V)) (h : Heap) : Prop := ∃ (o : Obj) (arr : Array DictEntry) (ep : Nat) (us : List Value), h.get? a = some o ∧ o.ExactDict ∧ o.data = .dict arr ep ∧ Vals (es.map (·.2.2)) us ∧ arr.toList = (es.zip us).map (fun p => ⟨hashN p.1.1, .ref p.1.2.1, p.2⟩)
inductive XR (K : PySem.W.Frag) (μ z : List Addr) (H : Hp) (a : Addr) : IX → HO → Prop
  | ob {c : Str} {C dx : Addr} {fs vs} : PySem.W.nsIn K mainGlobals c = some (some (.ref C)) → FRs K μ z H fs vs → XR K μ z H a (.ob c fs) (.ins C dx vs)
  | dN {xs es} : NRs K μ z H xs es → XR K μ z H a (.dN xs) (.ext (isN a es))
inductive OR (K : PySem.W.Frag) (μ z : List Addr) (H : Hp) (a : Addr) : IO → HO → Prop
  | lst {xs vs} : VRs K μ z H xs vs → OR K μ z H a (.lst xs) (.lst vs)
  | dK {xs vs} : KRs K μ z H xs vs → OR K μ z H a (.dK xs) (.dK vs)
  | oth {t u} : XR K μ z H a t u → OR K μ z H a (.oth t) u
structure HR (K : PySem.W.Frag) (μ z : List Addr) (h : Mem) (H : Hp) : Prop where
  len : h.length = μ.length
  nd : μ.Nodup
  ob : ∀ (l : Nat) (a : Addr) (o : IO), μ[l]? = some a → h[l]? = some o → ∃ u, H a = some u ∧ OR K μ z H a o u
  zz : ∀ a ∈ z, a ∉ μ ∧ ∃ o, H a = some o
section
variable {K : PySem.W.Frag} {μ μ1 μ2 μ' z : List Addr} {H H1 H2 H' : Hp} {h h' : Mem}
theorem KRs.step (s : Step μ H μ' H') : ∀ {xs : List (Key × IV)} {vs : List (Key × V)}, KRs K μ z H xs vs → KRs K μ' z H' xs vs
  | _, _, .nil => .nil
  | _, _, .cons r t => .cons (r.step s) (KRs.step s t)
theorem KRs.length : ∀ {xs : List (Key × IV)} {vs : List (Key × V)}, KRs K μ z H xs vs → xs.length = vs.length
  | _, _, .nil => rfl
  | _, _, .cons _ t => by rw [List.length_cons, List.length_cons, KRs.length t]
theorem FRs.step (s : Step μ H μ' H') : ∀ {xs : List (Str × IV)} {vs : List (Str × V)}, FRs K μ z H xs vs → FRs K μ' z H' xs vs
  | _, _, .nil => .nil
  | _, _, .cons r t => .cons (r.step s) (FRs.step s t)
theorem NRs.step (s : Step μ H μ' H') : ∀ {xs : List (NestedKey × IV)} {vs : List (NestedKey × Addr × V)}, NRs K μ z H xs vs → NRs K μ' z H' xs vs
  | _, _, .nil => .nil
  | _, _, .cons q r t => .cons (q.step s) (r.step s) (NRs.step s t)
theorem XR.step (s : Step μ H μ' H') {a : Addr} {o : IX} {u : HO} (r : XR K μ z H a o u) : XR K μ' z H' a o u := by
  cases r with
  | ob h r => exact .ob h (r.step s)
  | dN r => exact .dN (r.step s)
theorem OR.step (s : Step μ H μ' H') {a : Addr} {o : IO} {u : HO} (r : OR K μ z H a o u) : OR K μ' z H' a o u := by
  cases r with
  | lst r => exact .lst (r.step s)
  | dK r => exact .dK (r.step s)
  | oth r => exact .oth (r.step s)
theorem HR.mem (r : HR K μ z h H) {a : Addr} (m : a ∈ μ) : ∃ u, H a = some u := by
  obtain ⟨l, hl⟩ := List.mem_iff_getElem?.mp m
  have h2 : l < h.length := by
    rw [r.len]
    exact (List.getElem?_eq_some_iff.mp hl).1
  obtain ⟨u, e, _⟩ := r.ob l a h[l] hl (List.getElem?_eq_getElem h2)
  exact ⟨u, e⟩
theorem HR.fresh (r : HR K μ z h H) {a : Addr} (n : H a = none) : a ∉ μ ∧ a ∉ z := by
  refine ⟨fun m => ?_, fun m => ?_⟩
  · obtain ⟨u, e⟩ := r.mem m
    rw [n] at e
    cases e
  · obtain ⟨_, u, e⟩ := r.zz a m
    rw [n] at e
    cases e
/-- the place's object -/
theorem HR.at (r : HR K μ z h H) {l : Nat} {o : IO} (e : h[l]? = some o) : ∃ a u, μ[l]? = some a ∧ H a = some u ∧ OR K μ z H a o u := by
  have h2 : l < μ.length := by
    rw [← r.len]
    exact (List.getElem?_eq_some_iff.mp e).1
  obtain ⟨u, e1, e2⟩ := r.ob l μ[l] o (List.getElem?_eq_getElem h2) e
  exact ⟨_, u, List.getElem?_eq_getElem h2, e1, e2⟩
/-- something new that is no place -/
theorem Step.new {p : Addr} {o : HO} (n : H p = none) : Step μ H μ (upd H p o) :=
  ⟨⟨[], by simp, by simp⟩, fun a u e _ => by rw [upd_ne (ne_of_none e n)]; exact e, fun a u e _ => by rw [upd_ne (ne_of_none e n)]; exact e, fun a u e => ⟨u, by rw [upd_ne (ne_of_none e n)]; exact e⟩⟩
theorem HR.step (r : HR K μ z h H) (s : Step μ H μ H') (k : ∀ a ∈ μ, H' a = H a) : HR K μ z h H' :=
  ⟨r.len, r.nd, fun l a o e1 e2 => by
    obtain ⟨u, e3, q⟩ := r.ob l a o e1 e2
    exact ⟨u, by rw [k a (List.mem_of_getElem? e1)]; exact e3, q.step s⟩, fun a m => ⟨(r.zz a m).1, by
    obtain ⟨o, e⟩ := (r.zz a m).2
    exact s.there a o e⟩⟩
theorem HR.new (r : HR K μ z h H) {p : Addr} {o : HO} (n : H p = none) : HR K μ z h (upd H p o) :=
  r.step (Step.new n) fun a m => upd_ne fun e => (r.fresh n).1 (e ▸ m)
/-- a place's object changes -/
theorem Step.put (r : HR K μ z h H) {l : Nat} {a : Addr} {o : HO} (e : μ[l]? = some a) {u : HO} (ea : H a = some u) (ni : ¬ Imm u) : Step μ H μ (upd H a o) := by
  have m := List.mem_of_getElem? e
  refine ⟨⟨[], by simp, by simp⟩, fun b w q n => ?_, fun b w q i => ?_, fun b w q => ?_⟩
  · have nb0 : b ≠ a := fun zz => n (by rw [zz]; exact m)
    rw [upd_ne nb0]
    exact q
  · have nb : b ≠ a := fun z => by
      subst z
      rw [ea] at q
      cases q
      exact ni i
    rw [upd_ne nb]
    exact q
  · by_cases hb : b = a
    · subst hb
      exact ⟨o, upd_same⟩
    · exact ⟨w, by rw [upd_ne hb]; exact q⟩
theorem HR.put (r : HR K μ z h H) {l : Nat} {a : Addr} {o : HO} {i : IO} (e : μ[l]? = some a) (s : Step μ H μ (upd H a o)) (q : OR K μ z (upd H a o) a i o) : HR K μ z (h.set l i) (upd H a o) := by
  refine ⟨by rw [List.length_set]; exact r.len, r.nd, fun k b w e1 e2 => ?_, fun b m => ⟨(r.zz b m).1, ?_⟩⟩
  · by_cases hk : k = l
    · subst hk
      rw [e] at e1
      cases e1
      have hl : k < h.length := by
        rw [r.len]
        exact (List.getElem?_eq_some_iff.mp e).1
      rw [List.getElem?_set_self hl] at e2
      cases e2
      exact ⟨o, upd_same, q⟩
    · rw [List.getElem?_set_ne (Ne.symm hk)] at e2
      obtain ⟨u, e3, q3⟩ := r.ob k b w e1 e2
      refine ⟨u, ?_, q3.step s⟩
      have nb : b ≠ a := fun z => by
        subst z
        obtain ⟨h1, g1⟩ := List.getElem?_eq_some_iff.mp e
        obtain ⟨h2, g2⟩ := List.getElem?_eq_some_iff.mp e1
        exact hk ((List.getElem_inj r.nd).mp (g2.trans g1.symm))
      rw [upd_ne nb]
      exact e3
  · obtain ⟨o', e'⟩ := (r.zz b m).2
    exact s.there b o' e'
/-- a frozen new thing becomes a place -/
theorem Step.alloc {p : Addr} (s : Step μ H μ' H') (n : H p = none) (n' : p ∉ μ') : Step μ H (μ' ++ [p]) H' := by
  obtain ⟨ns, e, f⟩ := s.ext
  refine ⟨⟨ns ++ [p], by rw [e, List.append_assoc], fun a m => ?_⟩, s.keep, s.imm, s.there⟩
  rcases List.mem_append.mp m with q | q
  · exact f a q
  · rw [List.mem_singleton.mp q]
    exact n
mutual
theorem VR.unhide {p : Addr} : ∀ {x : IV} {v : V}, VR K μ (p :: z) H x v → VR K (μ ++ [p]) z H x v
  | _, _, .non => .non
  | _, _, .bl b => .bl b
  | _, _, .int i => .int i
  | _, _, .str x => .str x
  | _, _, .tup h r => .tup h (VRs.unhide r)
  | _, _, .fl h n m r => .fl h (fun q => by
      rcases List.mem_append.mp q with q | q
      · exact n q
      · exact m (by rw [List.mem_singleton.mp q]; exact List.mem_cons_self)) (fun q => m (List.mem_cons_of_mem _ q)) (VRs.unhide r)
  | _, _, .fz h r => .fz h (VRs.unhide r)
  | _, _, .loc h => .loc (by rw [List.getElem?_append_left (List.getElem?_eq_some_iff.mp h).1]; exact h)
theorem VRs.unhide {p : Addr} : ∀ {xs : List IV} {vs : List V}, VRs K μ (p :: z) H xs vs → VRs K (μ ++ [p]) z H xs vs
  | _, _, .nil => .nil
  | _, _, .cons r t => .cons (VR.unhide r) (VRs.unhide t)
end
mutual
theorem VR.show {p : Addr} : ∀ {x : IV} {v : V}, VR K μ (p :: z) H x v → VR K μ z H x v
  | _, _, .non => .non
  | _, _, .bl b => .bl b
  | _, _, .int i => .int i
  | _, _, .str x => .str x
  | _, _, .tup h r => .tup h (VRs.show r)
  | _, _, .fl h n m r => .fl h n (fun q => m (List.mem_cons_of_mem _ q)) (VRs.show r)
  | _, _, .fz h r => .fz h (VRs.show r)
  | _, _, .loc h => .loc h
theorem VRs.show {p : Addr} : ∀ {xs : List IV} {vs : List V}, VRs K μ (p :: z) H xs vs → VRs K μ z H xs vs
  | _, _, .nil => .nil
  | _, _, .cons r t => .cons (VR.show r) (VRs.show t)
end
mutual
theorem VR.hide {p : Addr} (n : H p = none ∨ p ∈ μ) : ∀ {x : IV} {v : V}, VR K μ z H x v → VR K μ (p :: z) H x v
  | _, _, .non => .non
  | _, _, .bl b => .bl b
  | _, _, .int i => .int i
  | _, _, .str x => .str x
  | _, _, .tup h r => .tup h (VRs.hide n r)
  | _, _, .fl h n1 m r => .fl h n1 (fun q => by
      rcases List.mem_cons.mp q with q | q
      · subst q
        rcases n with n | n
        · rw [n] at h
          cases h
        · exact n1 n
      · exact m q) (VRs.hide n r)
  | _, _, .fz h r => .fz h (VRs.hide n r)
  | _, _, .loc h => .loc h
theorem VRs.hide {p : Addr} (n : H p = none ∨ p ∈ μ) : ∀ {xs : List IV} {vs : List V}, VRs K μ z H xs vs → VRs K μ (p :: z) H xs vs
  | _, _, .nil => .nil
  | _, _, .cons r t => .cons (VR.hide n r) (VRs.hide n t)
end
theorem KRs.unhide {p : Addr} : ∀ {xs : List (Key × IV)} {vs : List (Key × V)}, KRs K μ (p :: z) H xs vs → KRs K (μ ++ [p]) z H xs vs
  | _, _, .nil => .nil
  | _, _, .cons r t => .cons r.unhide (KRs.unhide t)
theorem KRs.show {p : Addr} : ∀ {xs : List (Key × IV)} {vs : List (Key × V)}, KRs K μ (p :: z) H xs vs → KRs K μ z H xs vs
  | _, _, .nil => .nil
  | _, _, .cons r t => .cons r.show (KRs.show t)
theorem KRs.hide {p : Addr} (n : H p = none ∨ p ∈ μ) : ∀ {xs : List (Key × IV)} {vs : List (Key × V)}, KRs K μ z H xs vs → KRs K μ (p :: z) H xs vs
  | _, _, .nil => .nil
  | _, _, .cons r t => .cons (r.hide n) (KRs.hide n t)
theorem FRs.unhide {p : Addr} : ∀ {xs : List (Str × IV)} {vs : List (Str × V)}, FRs K μ (p :: z) H xs vs → FRs K (μ ++ [p]) z H xs vs
  | _, _, .nil => .nil
  | _, _, .cons r t => .cons r.unhide (FRs.unhide t)
theorem FRs.show {p : Addr} : ∀ {xs : List (Str × IV)} {vs : List (Str × V)}, FRs K μ (p :: z) H xs vs → FRs K μ z H xs vs
  | _, _, .nil => .nil
  | _, _, .cons r t => .cons r.show (FRs.show t)
theorem FRs.hide {p : Addr} (n : H p = none ∨ p ∈ μ) : ∀ {xs : List (Str × IV)} {vs : List (Str × V)}, FRs K μ z H xs vs → FRs K μ (p :: z) H xs vs
  | _, _, .nil => .nil
  | _, _, .cons r t => .cons (r.hide n) (FRs.hide n t)
theorem NRs.unhide {p : Addr} : ∀ {xs : List (NestedKey × IV)} {vs : List (NestedKey × Addr × V)}, NRs K μ (p :: z) H xs vs → NRs K (μ ++ [p]) z H xs vs
  | _, _, .nil => .nil
  | _, _, .cons q r t => .cons q.unhide r.unhide (NRs.unhide t)
theorem NRs.show {p : Addr} : ∀ {xs : List (NestedKey × IV)} {vs : List (NestedKey × Addr × V)}, NRs K μ (p :: z) H xs vs → NRs K μ z H xs vs
  | _, _, .nil => .nil
  | _, _, .cons q r t => .cons q.show r.show (NRs.show t)
theorem NRs.hide {p : Addr} (n : H p = none ∨ p ∈ μ) : ∀ {xs : List (NestedKey × IV)} {vs : List (NestedKey × Addr × V)}, NRs K μ z H xs vs → NRs K μ (p :: z) H xs vs
  | _, _, .nil => .nil
  | _, _, .cons q r t => .cons (q.hide n) (r.hide n) (NRs.hide n t)
theorem OR.unhide {p a : Addr} {o : IO} {u : HO} (r : OR K μ (p :: z) H a o u) : OR K (μ ++ [p]) z H a o u := by
  cases r with
  | lst r => exact .lst r.unhide
  | dK r => exact .dK r.unhide
  | oth r =>
    cases r with
    | ob h r => exact .oth (.ob h r.unhide)
    | dN r => exact .oth (.dN r.unhide)
theorem OR.show {p a : Addr} {o : IO} {u : HO} (r : OR K μ (p :: z) H a o u) : OR K μ z H a o u := by
  cases r with
  | lst r => exact .lst r.show
  | dK r => exact .dK r.show
  | oth r =>
    cases r with
    | ob h r => exact .oth (.ob h r.show)
    | dN r => exact .oth (.dN r.show)
theorem OR.hide {p a : Addr} (n : H p = none ∨ p ∈ μ) {o : IO} {u : HO} (r : OR K μ z H a o u) : OR K μ (p :: z) H a o u := by
  cases r with
  | lst r => exact .lst (r.hide n)
  | dK r => exact .dK (r.hide n)
  | oth r =>
    cases r with
    | ob h r => exact .oth (.ob h (r.hide n))
    | dN r => exact .oth (.dN (r.hide n))
theorem HR.show {p : Addr} (r : HR K μ (p :: z) h H) : HR K μ z h H :=
  ⟨r.len, r.nd, fun l a o e1 e2 => by
    obtain ⟨u, e3, q⟩ := r.ob l a o e1 e2
    exact ⟨u, e3, q.show⟩, fun a m => r.zz a (List.mem_cons_of_mem _ m)⟩
theorem HR.unhide {p : Addr} (r : HR K μ (p :: z) h H) (hz : p ∉ z) {o : IO} {u : HO} (e : H p = some u) (q : OR K μ (p :: z) H p o u) : HR K (μ ++ [p]) z (h ++ [o]) H := by
  have np : p ∉ μ := (r.zz p List.mem_cons_self).1
  refine ⟨by rw [List.length_append, List.length_append, r.len]; rfl, ?_, fun l a w e1 e2 => ?_, fun a m => ⟨fun m2 => ?_, (r.zz a (List.mem_cons_of_mem _ m)).2⟩⟩
  · exact List.nodup_append.mpr ⟨r.nd, by simp, fun a ha b hb => by
      rw [List.mem_singleton.mp hb]
      intro z2
      exact np (z2 ▸ ha)⟩
  · by_cases hl : l < μ.length
    · rw [List.getElem?_append_left hl] at e1
      rw [List.getElem?_append_left (by rw [r.len]; exact hl)] at e2
      obtain ⟨u2, e3, q2⟩ := r.ob l a w e1 e2
      exact ⟨u2, e3, q2.unhide⟩
    · rw [List.getElem?_append_right (by omega)] at e1
      rw [List.getElem?_append_right (by rw [r.len]; omega), r.len] at e2
      have hz2 : l - μ.length = 0 := by
        cases hh : l - μ.length with
        | zero => rfl
        | succ n =>
          rw [hh] at e1
          simp at e1
      rw [hz2] at e1 e2
      simp at e1 e2
      subst e1
      subst e2
      exact ⟨u, e, q.unhide⟩
  · rcases List.mem_append.mp m2 with m2 | m2
    · exact (r.zz a (List.mem_cons_of_mem _ m)).1 m2
    · rw [List.mem_singleton.mp m2] at m
      exact hz m
/-- a new thing is hidden -/
theorem HR.hideNew (r : HR K μ z h H) {p : Addr} {o : HO} (n : H p = none) : HR K μ (p :: z) h (upd H p o) := by
  have r2 := r.new (o := o) n
  refine ⟨r.len, r.nd, fun l a w e1 e2 => ?_, fun a m => ?_⟩
  · obtain ⟨u, e3, q⟩ := r.ob l a w e1 e2
    have na : a ≠ p := fun zz => (r.fresh n).1 (by rw [← zz]; exact List.mem_of_getElem? e1)
    exact ⟨u, by rw [upd_ne na]; exact e3, (q.hide (.inl n)).step (Step.new n)⟩
  · rcases List.mem_cons.mp m with e | m
    · subst e
      exact ⟨(r.fresh n).1, o, upd_same⟩
    · exact r2.zz a m
end

/-! ### slots -/
structure ER (K : PySem.W.Frag) (μ z : List Addr) (H : Hp) (ρ : Sl) (σ : L2.St) : Prop where
  len : ρ.length = σ.length
  at' : ∀ (i : Nat) (x : IV), ρ[i]? = some (some x) → ∃ v, σ[i]? = some (some v) ∧ VR K μ z H x v
section
variable {K : PySem.W.Frag} {μ μ1 μ2 μ' z : List Addr} {H H1 H2 H' : Hp} {ρ : Sl} {σ : L2.St}
theorem ER.step (r : ER K μ z H ρ σ) (s : Step μ H μ' H') : ER K μ' z H' ρ σ := ⟨r.len, fun i x e => by
  obtain ⟨v, h1, h2⟩ := r.at' i x e
  exact ⟨v, h1, h2.step s⟩⟩
theorem ER.set (r : ER K μ z H ρ σ) {x : IV} {v : V} (q : VR K μ z H x v) (i : Nat) : ER K μ z H (ρ.set i (some x)) (σ.set i (some v)) := ⟨by rw [List.length_set, List.length_set]; exact r.len, fun j y e => by
  by_cases hj : j = i
  · subst hj
    by_cases hl : j < ρ.length
    · rw [List.getElem?_set_self hl] at e
      cases e
      exact ⟨v, by rw [List.getElem?_set_self (by rw [← r.len]; exact hl)], q⟩
    · rw [List.getElem?_eq_none (by rw [List.length_set]; omega)] at e
      cases e
  · rw [List.getElem?_set_ne (Ne.symm hj)] at e
    obtain ⟨w, h1, h2⟩ := r.at' j y e
    exact ⟨w, by rw [List.getElem?_set_ne (Ne.symm hj)]; exact h1, h2⟩⟩
theorem ER.hide {p : Addr} (n : H p = none ∨ p ∈ μ) (r : ER K μ z H ρ σ) : ER K μ (p :: z) H ρ σ := ⟨r.len, fun i x e => by
  obtain ⟨v, h1, h2⟩ := r.at' i x e
  exact ⟨v, h1, h2.hide n⟩⟩
end
end VI
end

section
/-! The judgements over plain values: what an expression, a test, a statement, a loop, a comprehension, a def comes to. -/
namespace VI
open PySem PySem.Spec PyProof.Rows L2

/-- what is wanted of an exception -/
abbrev XI := Ex → List Addr → Hp → Prop
def noX : XI := fun _ _ _ => False
def post {α : Type} (K : PySem.W.Frag) (E : XI) (μ z : List Addr) (H : Hp) (r : Ret α) (k : List Addr → Mem → Hp → α → Prop) : Prop := match r with
  | .ok v h' => ∀ μ' H', Step μ H μ' H' → HR K μ' z h' H' → k μ' h' H' v
  | .ex e h' => ∀ μ' H', Step μ H μ' H' → HR K μ' z h' H' → E e μ' H'
  | .bad => False
section
variable {α β : Type} {K : PySem.W.Frag} {E : XI} {μ μ1 z : List Addr} {H H1 : Hp}
theorem post.mono {r : Ret α} {k k' : List Addr → Mem → Hp → α → Prop} (p : post K E μ z H r k) (h : ∀ μ' h' H' v, Step μ H μ' H' → HR K μ' z h' H' → k μ' h' H' v → k' μ' h' H' v) : post K E μ z H r k' := by
  cases r with
  | ok v h' => exact fun μ' H' s r => h μ' h' H' v s r (p μ' H' s r)
  | ex e h' => exact p
  | bad => exact p
theorem post.later {r : Ret α} {k : List Addr → Mem → Hp → α → Prop} (p : post K E μ z H r k) (s : Step μ H μ1 H1) : post K E μ1 z H1 r k := by
  cases r with
  | ok v h' => exact fun μ' H' t r => p μ' H' (s.trans t) r
  | ex e h' => exact fun μ' H' t r => p μ' H' (s.trans t) r
  | bad => exact p
theorem post.bind {r : Ret α} {f : α → Mem → Ret β} {k : List Addr → Mem → Hp → β → Prop} (p : post K E μ z H (r.bind f) k) : post K E μ z H r fun μ1 h1 H1 v => post K E μ1 z H1 (f v h1) k := by
  cases r with
  | ok v h' => exact fun μ' H' s r => post.later p s
  | ex e h' => exact p
  | bad => exact p
theorem post.now {v : α} {h : Mem} {k : List Addr → Mem → Hp → α → Prop} (p : post K E μ z H (.ok v h) k) (r : HR K μ z h H) : k μ h H v := p μ H Step.refl r
end
def postF (K : PySem.W.Frag) (E : XI) (μ z : List Addr) (H : Hp) (r : Ret (List IV)) (Q : VK) : Prop := match r with
  | .ok xs h' => ∀ μ' p ws H', Step μ H μ' H' → H p = none → H' p = some (.lst ws) → HR K μ' (p :: z) h' H' → VRs K μ' (p :: z) H' xs ws → Q (.ref p) H'
  | .ex e h' => ∀ μ' H', Step μ H μ' H' → HR K μ' z h' H' → E e μ' H'
  | .bad => False
theorem postF.later {K : PySem.W.Frag} {E : XI} {μ μ1 z : List Addr} {H H1 : Hp} {r : Ret (List IV)} {Q : VK} (p : postF K E μ z H r Q) (s : Step μ H μ1 H1) : postF K E μ1 z H1 r Q := by
  cases r with
  | ok v h' =>
    intro μ' q ws H' t n e hr vr
    refine p μ' q ws H' (s.trans t) ?_ e hr vr
    cases hq : H q with
    | none => rfl
    | some o =>
      obtain ⟨o', e'⟩ := s.there q o hq
      rw [n] at e'
      cases e'
  | ex e h' => exact fun μ' H' t r => p μ' H' (s.trans t) r
  | bad => exact p
theorem postF.bind {α : Type} {K : PySem.W.Frag} {E : XI} {μ z : List Addr} {H : Hp} {r : Ret α} {f : α → Mem → Ret (List IV)} {Q : VK} (p : postF K E μ z H (r.bind f) Q) : post K E μ z H r fun μ1 h1 H1 v => postF K E μ1 z H1 (f v h1) Q := by
  cases r with
  | ok v h' => exact fun μ' H' s r => postF.later p s
  | ex e h' => exact p
  | bad => exact p

/-! ### denotations -/
abbrev Den := Sl → Mem → Ret IV
abbrev DenA := Sl → Mem → Ret (List IV)
abbrev DenT := Sl → Mem → Ret Bool
/-- one value more, whatever is behind it -/
abbrev VQ (K : PySem.W.Frag) (z : List Addr) (Q : VK) : List Addr → Mem → Hp → IV → Prop := fun μ' _ H' v => ∀ w, VR K μ' z H' v w → Q w H'
def tD (K : PySem.W.Frag) (E : XI) (d : Den) : TE := fun σ H Q => ∃ μ z h ρ, HR K μ z h H ∧ ER K μ z H ρ σ ∧ post K E μ z H (d ρ h) (VQ K z Q)
/-- a new list that nobody else holds -/
def tF (K : PySem.W.Frag) (E : XI) (d : DenA) : TE := fun σ H Q => ∃ μ z h ρ, HR K μ z h H ∧ ER K μ z H ρ σ ∧ postF K E μ z H (d ρ h) Q
def tAr (K : PySem.W.Frag) (E : XI) (d : DenA) : TA := fun σ H Q => ∃ μ z h ρ, HR K μ z h H ∧ ER K μ z H ρ σ ∧ post K E μ z H (d ρ h) fun μ' _ H' vs => ∀ ws, VRs K μ' z H' vs ws → Q ws H'
def tT (K : PySem.W.Frag) (E : XI) (d : DenT) : TT := fun σ H Q => ∃ μ z h ρ, HR K μ z h H ∧ ER K μ z H ρ σ ∧ post K E μ z H (d ρ h) fun _ _ H' b => Q b H'
section
variable {X : Cx} {E : XI} {e : Expr} {es : List Expr} {pos : Pos}
theorem PE_imp {t t' : TE} (h : PE X e t) (i : ∀ σ H Q, t' σ H Q → t σ H Q) : PE X e t' := ⟨fun pins s σ H Q I q => h.run pins s σ H Q I (i σ H Q q)⟩
theorem PT_imp {t t' : TT} (h : PT X e t) (i : ∀ σ H Q, t' σ H Q → t σ H Q) : PT X e t' := ⟨fun pins s σ H Q I q => h.run pins s σ H Q I (i σ H Q q)⟩
theorem PA_imp {t t' : TA} (h : PA X es t) (i : ∀ σ H Q, t' σ H Q → t σ H Q) : PA X es t' := ⟨fun pos pins s σ H Q I q => h.run pos pins s σ H Q I (i σ H Q q)⟩
theorem PS_imp {st : Stmt} {t t' : TS} (h : PS X st t) (i : ∀ D σ H, t' D σ H → t D σ H) : PS X st t' := ⟨fun pins s σ H D I q => h.run pins s σ H D I (i D σ H q)⟩
theorem PSs_imp {st : List Stmt} {t t' : TS} (h : PSs X st t) (i : ∀ D σ H, t' D σ H → t D σ H) : PSs X st t' := ⟨fun pins s σ H D I q => h.run pins s σ H D I (i D σ H q)⟩
/-- one part first -/
theorem tD_of {K : PySem.W.Frag} {μ z : List Addr} {h : Mem} {ρ : Sl} {σ : L2.St} {H : Hp} {d : Den} {Q : VK} {k : List Addr → Mem → Hp → IV → Prop} (hr : HR K μ z h H) (er : ER K μ z H ρ σ) (p : post K E μ z H (d ρ h) k)
    (q : ∀ μ' h' H' v w, Step μ H μ' H' → HR K μ' z h' H' → k μ' h' H' v → VR K μ' z H' v w → Q w H') : tD K E d σ H Q := ⟨μ, z, h, ρ, hr, er, p.mono fun μ' h' H' v s r kk w vr => q μ' h' H' v w s r kk vr⟩

/-! ### names, constants -/
def dVar (i : Nat) : Den := fun ρ h => match ρ[i]? with
  | some (some v) => .ok v h
  | _ => .bad
theorem i_var {K : PySem.W.Frag} {i : Nat} : ∀ (σ : L2.St) (H : Hp) (Q : VK), tD K E (dVar i) σ H Q → tVar i σ H Q := by
  rintro σ H Q ⟨μ, z, h, ρ, hr, er, p⟩
  unfold dVar at p
  cases e : ρ[i]? with
  | none => rw [e] at p; exact p.elim
  | some o =>
    cases o with
    | none => rw [e] at p; exact p.elim
    | some v =>
      rw [e] at p
      obtain ⟨w, h1, h2⟩ := er.at' i v e
      exact ⟨w, h1, p μ H Step.refl hr w h2⟩
theorem r_var (i : Nat) {x : Str} (hN : X.N[i]? = some x := by rfl) (hv : Vis X.env.scope x := by first | exact Or.inl rfl | exact Or.inr (Or.inl rfl) | exact Or.inr (Or.inr rfl)) (hd : (x == ("__debug__" : Str)) = false := by decide)
    (hcd : (x == ("__classdict__" : Str)) = false := by decide) : PE X (.Name x pos) (tD X.K E (dVar i)) := PE_imp (pe_var hN hv hd hcd) i_var
def dC (v : IV) : Den := fun _ h => .ok v h
theorem i_c {K : PySem.W.Frag} {v : IV} {w : V} (hv : ∀ μ z H, VR K μ z H v w) : ∀ (σ : L2.St) (H : Hp) (Q : VK), tD K E (dC v) σ H Q → tC w σ H Q := by
  rintro σ H Q ⟨μ, z, h, ρ, hr, er, p⟩
  exact p μ H Step.refl hr w (hv μ z H)
theorem r_int {i : Int} {j : Nat} : PE X (.Constant (.int i) j pos) (tD X.K E (dC (.int i))) := PE_imp pe_int (i_c fun _ _ _ => .int i)
theorem r_bl {b : Bool} {j : Nat} : PE X (.Constant (.bool b) j pos) (tD X.K E (dC (.bl b))) := PE_imp pe_bl (i_c fun _ _ _ => .bl b)
theorem r_non {j : Nat} : PE X (.Constant .none j pos) (tD X.K E (dC .non)) := PE_imp pe_non (i_c fun _ _ _ => .non)
theorem r_str {x : Str} {j : Nat} : PE X (.Constant (.str x) j pos) (tD X.K E (dC (.str x))) := PE_imp pe_str (i_c fun _ _ _ => .str x)

/-! ### operations by values -/
/-- f does what r asks -/
def RB (K : PySem.W.Frag) (r : R2) (f : IV → IV → Mem → Ret IV) : Prop := ∀ (E : XI) (μ z : List Addr) (h : Mem) (H : Hp) (v u : IV) (x y : V) (Q : VK), HR K μ z h H → VR K μ z H v x → VR K μ z H u y → post K E μ z H (f v u h) (VQ K z Q) → r x y H Q
def dBin (f : IV → IV → Mem → Ret IV) (a b : Den) : Den := fun ρ h => (a ρ h).bind fun v h1 => (b ρ h1).bind fun u h2 => f v u h2
theorem i_bin {K : PySem.W.Frag} {r : R2} {f : IV → IV → Mem → Ret IV} {a b : Den} (rb : RB K r f) : ∀ (σ : L2.St) (H : Hp) (Q : VK), tD K E (dBin f a b) σ H Q → tOp r (tD K E a) (tD K E b) σ H Q := by
  rintro σ H Q ⟨μ, z, h, ρ, hr, er, p⟩
  refine tD_of hr er p.bind fun μ1 h1 H1 v w s1 hr1 p1 vr1 => ?_
  refine tD_of hr1 (er.step s1) p1.bind fun μ2 h2 H2 u y s2 hr2 p2 vr2 => ?_
  exact rb E μ2 z h2 H2 v u w y Q hr2 (vr1.step s2) vr2 p2
def RU1 (K : PySem.W.Frag) (r : V → Hp → VK → Prop) (f : IV → Mem → Ret IV) : Prop := ∀ (E : XI) (μ z : List Addr) (h : Mem) (H : Hp) (v : IV) (x : V) (Q : VK), HR K μ z h H → VR K μ z H v x → post K E μ z H (f v h) (VQ K z Q) → r x H Q
def dUn (f : IV → Mem → Ret IV) (a : Den) : Den := fun ρ h => (a ρ h).bind fun v h1 => f v h1
theorem i_un {K : PySem.W.Frag} {r : V → Hp → VK → Prop} {f : IV → Mem → Ret IV} {a : Den} (rb : RU1 K r f) : ∀ (σ : L2.St) (H : Hp) (Q : VK), tD K E (dUn f a) σ H Q → tUn r (tD K E a) σ H Q := by
  rintro σ H Q ⟨μ, z, h, ρ, hr, er, p⟩
  refine tD_of hr er p.bind fun μ1 h1 H1 v w s1 hr1 p1 vr1 => ?_
  exact rb E μ1 z h1 H1 v w Q hr1 vr1 p1

/-! ### arguments -/
def aNil : DenA := fun _ h => .ok [] h
def aCons (d : Den) (r : DenA) : DenA := fun ρ h => (d ρ h).bind fun v h1 => (r ρ h1).bind fun vs h2 => .ok (v :: vs) h2
theorem r_nil : PA X [] (tAr X.K E aNil) := PA_imp pa_nil fun σ H Q ⟨μ, z, h, ρ, hr, er, p⟩ => p μ H Step.refl hr [] .nil
theorem r_cons {d : Den} {r : DenA} (h1 : PE X e (tD X.K E d)) (h2 : PA X es (tAr X.K E r)) (hs : starEach (e :: es) X.env = (false, eval e X.env) :: starEach es X.env := by rfl) : PA X (e :: es) (tAr X.K E (aCons d r)) := by
  refine PA_imp (pa_cons h1 h2 hs) ?_
  rintro σ H Q ⟨μ, z, h, ρ, hr, er, p⟩
  refine tD_of hr er p.bind fun μ1 h1 H1 v w s1 hr1 p1 vr1 => ?_
  refine ⟨μ1, z, h1, ρ, hr1, er.step s1, p1.bind.mono fun μ2 h2 H2 vs s2 hr2 p2 ws vr2 => ?_⟩
  exact p2 μ2 H2 Step.refl hr2 (w :: ws) (.cons (vr1.step s2) vr2)
/-- a call by values -/
def RC (K : PySem.W.Frag) (r : List V → Hp → VK → Prop) (f : List IV → Mem → Ret IV) : Prop := ∀ (E : XI) (μ z : List Addr) (h : Mem) (H : Hp) (vs : List IV) (xs : List V) (Q : VK), HR K μ z h H → VRs K μ z H vs xs → post K E μ z H (f vs h) (VQ K z Q) → r xs H Q
def dArg (f : List IV → Mem → Ret IV) (a : DenA) : Den := fun ρ h => (a ρ h).bind fun vs h1 => f vs h1
theorem i_arg {K : PySem.W.Frag} {r : List V → Hp → VK → Prop} {f : List IV → Mem → Ret IV} {a : DenA} (rb : RC K r f) : ∀ (σ : L2.St) (H : Hp) (Q : VK), tD K E (dArg f a) σ H Q → tCB r (tAr K E a) σ H Q := by
  rintro σ H Q ⟨μ, z, h, ρ, hr, er, p⟩
  refine ⟨μ, z, h, ρ, hr, er, p.bind.mono fun μ1 h1 H1 vs s1 hr1 p1 ws vr => ?_⟩
  exact rb E μ1 z h1 H1 vs ws Q hr1 vr p1
/-- .. where a new list comes of it -/
def RCF (K : PySem.W.Frag) (r : List V → Hp → VK → Prop) (f : List IV → Mem → Ret (List IV)) : Prop := ∀ (E : XI) (μ z : List Addr) (h : Mem) (H : Hp) (vs : List IV) (xs : List V) (Q : VK), HR K μ z h H → VRs K μ z H vs xs → postF K E μ z H (f vs h) Q → r xs H Q
def fArg (f : List IV → Mem → Ret (List IV)) (a : DenA) : DenA := fun ρ h => (a ρ h).bind fun vs h1 => f vs h1
theorem i_argF {K : PySem.W.Frag} {r : List V → Hp → VK → Prop} {f : List IV → Mem → Ret (List IV)} {a : DenA} (rb : RCF K r f) : ∀ (σ : L2.St) (H : Hp) (Q : VK), tF K E (fArg f a) σ H Q → tCB r (tAr K E a) σ H Q := by
  rintro σ H Q ⟨μ, z, h, ρ, hr, er, p⟩
  refine ⟨μ, z, h, ρ, hr, er, p.bind.mono fun μ1 h1 H1 vs s1 hr1 p1 ws vr => ?_⟩
  exact rb E μ1 z h1 H1 vs ws Q hr1 vr p1

/-! ### new lists -/
/-- .. left as they are -/
def dFl (d : DenA) : Den := fun ρ h => (d ρ h).bind fun xs h1 => .ok (.fl xs) h1
theorem i_fl {K : PySem.W.Frag} {d : DenA} : ∀ (σ : L2.St) (H : Hp) (Q : VK), tD K E (dFl d) σ H Q → tF K E d σ H Q := by
  rintro σ H Q ⟨μ, z, h, ρ, hr, er, p⟩
  refine ⟨μ, z, h, ρ, hr, er, ?_⟩
  unfold dFl at p
  cases e : d ρ h with
  | ok xs h1 =>
    rw [e] at p
    intro μ' q ws H' s n ea hr' vr
    have nz : q ∉ z := (hr.fresh n).2
    exact p μ' H' s hr'.show _ (.fl ea (hr'.zz q List.mem_cons_self).1 nz vr.show)
  | ex e1 h1 => rw [e] at p; exact p
  | bad => rw [e] at p; exact p
theorem r_fl {d : DenA} (h : PE X e (tF X.K E d)) : PE X e (tD X.K E (dFl d)) := PE_imp h i_fl
/-- .. at a place of their own -/
def dAl (d : DenA) : Den := fun ρ h => (d ρ h).bind fun xs h1 => .ok (.loc h1.length) (h1 ++ [.lst xs])
theorem i_al {K : PySem.W.Frag} {d : DenA} : ∀ (σ : L2.St) (H : Hp) (Q : VK), tD K E (dAl d) σ H Q → tF K E d σ H Q := by
  rintro σ H Q ⟨μ, z, h, ρ, hr, er, p⟩
  refine ⟨μ, z, h, ρ, hr, er, ?_⟩
  unfold dAl at p
  cases e : d ρ h with
  | ok xs h1 =>
    rw [e] at p
    intro μ' q ws H' s n ea hr' vr
    have nz : q ∉ z := (hr.fresh n).2
    have nm : q ∉ μ' := (hr'.zz q List.mem_cons_self).1
    refine p (μ' ++ [q]) H' (s.alloc n nm) (hr'.unhide nz ea (.lst vr)) _ (.loc ?_)
    rw [hr'.len, List.getElem?_append_right (Nat.le_refl _), Nat.sub_self]
    rfl
  | ex e1 h1 => rw [e] at p; exact p
  | bad => rw [e] at p; exact p
theorem r_al {d : DenA} (h : PE X e (tF X.K E d)) : PE X e (tD X.K E (dAl d)) := PE_imp h i_al
/-- a new thing at p: nothing else has changed -/
theorem postF.fresh {K : PySem.W.Frag} {μ z : List Addr} {h : Mem} {H : Hp} {xs : List IV} {ws : List V} {Q : VK} (p : postF K E μ z H (.ok xs h) Q) (hr : HR K μ z h H) (vr : VRs K μ z H xs ws) : ∀ q, H q = none → Q (.ref q) (upd H q (.lst ws)) := fun q n =>
  p μ q ws _ (Step.new n) n upd_same (hr.hideNew n) ((vr.hide (.inl n)).step (Step.new n))
/-- [a, b, ..] -/
def fLst (a : DenA) : DenA := fun ρ h => (a ρ h).bind fun vs h1 => if vs.length ≤ sizeLine then .ok vs h1 else .bad
theorem r_lst {a : DenA} (ha : PA X es (tAr X.K E a)) : PE X (.List es pos) (tF X.K E (fLst a)) := by
  refine PE_imp (pe_lst ha) ?_
  rintro σ H Q ⟨μ, z, h, ρ, hr, er, p⟩
  refine ⟨μ, z, h, ρ, hr, er, p.bind.mono fun μ1 h1 H1 vs s1 hr1 p1 ws vr => ?_⟩
  by_cases hl : vs.length ≤ sizeLine
  · rw [if_pos hl] at p1
    exact ⟨by rw [← vr.length]; exact hl, p1.fresh hr1 vr⟩
  · rw [if_neg hl] at p1
    exact p1.elim
/-- (a, b, ..) -/
def dTup (a : DenA) : Den := fun ρ h => (a ρ h).bind fun vs h1 => if vs.length ≤ sizeLine then .ok (.tup vs) h1 else .bad
theorem tupQ {K : PySem.W.Frag} {μ z : List Addr} {h : Mem} {H : Hp} {xs : List IV} {ws : List V} {Q : VK} (p : post K E μ z H (.ok (.tup xs) h) (VQ K z Q)) (hr : HR K μ z h H) (vr : VRs K μ z H xs ws) : ∀ q, H q = none → Q (.ref q) (upd H q (.tup ws)) := fun q n =>
  p μ _ (Step.new n) (hr.new n) _ (.tup (.inl (.inl upd_same)) (vr.step (Step.new n)))
theorem r_tup {a : DenA} {k : Nat} (ha : PA X es (tAr X.K E a)) : PE X (.Tuple es k pos) (tD X.K E (dTup a)) := by
  refine PE_imp (pe_tup ha) ?_
  rintro σ H Q ⟨μ, z, h, ρ, hr, er, p⟩
  refine ⟨μ, z, h, ρ, hr, er, p.bind.mono fun μ1 h1 H1 vs s1 hr1 p1 ws vr => ?_⟩
  by_cases hl : vs.length ≤ sizeLine
  · rw [if_pos hl] at p1
    exact ⟨by rw [← vr.length]; exact hl, tupQ p1 hr1 vr⟩
  · rw [if_neg hl] at p1
    exact p1.elim

/-! ### tests -/
def dTst (d : Den) : DenT := fun ρ h => (d ρ h).bind fun v h1 => match v with
  | .bl b => .ok b h1
  | _ => .bad
theorem i_tst {K : PySem.W.Frag} {d : Den} : ∀ (σ : L2.St) (H : Hp) (Q : Bool → Hp → Prop), tT K E (dTst d) σ H Q → tD K E d σ H fun x H1 => ∃ c, x = .bl c ∧ Q c H1 := by
  rintro σ H Q ⟨μ, z, h, ρ, hr, er, p⟩
  refine tD_of hr er p.bind fun μ1 h1 H1 v w s1 hr1 p1 vr1 => ?_
  cases v with
  | bl b =>
    cases vr1
    exact ⟨b, rfl, p1 μ1 H1 Step.refl hr1⟩
  | _ => exact p1.elim
theorem r_tst {d : Den} (h : PE X e (tD X.K E d)) (he : ∀ whole, isTrue e X.env whole = (do let v ← whole; standAt e.pos; holding [v] (truthy v)) := by intro _; rfl) : PT X e (tT X.K E (dTst d)) := PT_imp (pt_val h he) i_tst
/-- a comparison -/
theorem r_cmp {op : CmpOp} {r : R2} {f : IV → IV → Mem → Ret IV} {a b : Expr} {da db : Den} (ho : OpR X (compareOp op) r) (rb : RB X.K r f) (ha : PE X a (tD X.K E da)) (hb : PE X b (tD X.K E db)) (hm : behindInMarks op b = false := by first | exact nomark _ | rfl) :
    PE X (.Compare a [op] [b] pos) (tD X.K E (dBin f da db)) := PE_imp (pe_cmpR ho ha hb hm) (i_bin rb)
theorem r_cmpT {op : CmpOp} {r : R2} {f : IV → IV → Mem → Ret IV} {a b : Expr} {da db : Den} (ho : OpR X (compareOp op) r) (rb : RB X.K r f) (ha : PE X a (tD X.K E da)) (hb : PE X b (tD X.K E db)) (hm : behindInMarks op b = false := by first | exact nomark _ | rfl) :
    PT X (.Compare a [op] [b] pos) (tT X.K E (dTst (dBin f da db))) := PT_imp (pt_cmpR ho ha hb hm) fun σ H Q q => i_bin rb σ H _ (i_tst σ H Q q)
theorem r_op {op : Operator} {r : R2} {f : IV → IV → Mem → Ret IV} {a b : Expr} {da db : Den} (ho : OpR X (binaryOp op) r) (rb : RB X.K r f) (ha : PE X a (tD X.K E da)) (hb : PE X b (tD X.K E db)) : PE X (.BinOp a op b pos) (tD X.K E (dBin f da db)) :=
  PE_imp (pe_op ho ha hb) (i_bin rb)
theorem r_un {op : UnaryOp} {r : V → Hp → VK → Prop} {f : IV → Mem → Ret IV} {a : Expr} {da : Den} (ho : UnR X (unaryOp op) r) (rb : RU1 X.K r f) (ha : PE X a (tD X.K E da)) : PE X (.UnaryOp op a pos) (tD X.K E (dUn f da)) :=
  PE_imp (pe_un ho ha) (i_un rb)
def dAndT (a b : DenT) : DenT := fun ρ h => (a ρ h).bind fun c h1 => if c then b ρ h1 else .ok false h1
def dOrT (a b : DenT) : DenT := fun ρ h => (a ρ h).bind fun c h1 => if c then .ok true h1 else b ρ h1
def dNotT (a : DenT) : DenT := fun ρ h => (a ρ h).bind fun c h1 => .ok (!c) h1
theorem PW_imp {t t' : TT} (h : PW X e t) (i : ∀ σ H Q, t' σ H Q → t σ H Q) : PW X e t' := ⟨fun wh pins s σ H Q I q => h.run wh pins s σ H Q I (i σ H Q q)⟩
theorem i_andT {K : PySem.W.Frag} {a b : DenT} : ∀ (σ : L2.St) (H : Hp) (Q : Bool → Hp → Prop), tT K E (dAndT a b) σ H Q → tAnd (tT K E a) (tT K E b) σ H Q := by
  rintro σ H Q ⟨μ, z, h, ρ, hr, er, p⟩
  refine ⟨μ, z, h, ρ, hr, er, p.bind.mono fun μ1 h1 H1 c s1 hr1 p1 => ?_⟩
  cases c with
  | true =>
    rw [if_pos rfl]
    exact ⟨μ1, z, h1, ρ, hr1, er.step s1, p1⟩
  | false =>
    rw [if_neg Bool.false_ne_true]
    exact p1 μ1 H1 Step.refl hr1
theorem i_orT {K : PySem.W.Frag} {a b : DenT} : ∀ (σ : L2.St) (H : Hp) (Q : Bool → Hp → Prop), tT K E (dOrT a b) σ H Q → tOr (tT K E a) (tT K E b) σ H Q := by
  rintro σ H Q ⟨μ, z, h, ρ, hr, er, p⟩
  refine ⟨μ, z, h, ρ, hr, er, p.bind.mono fun μ1 h1 H1 c s1 hr1 p1 => ?_⟩
  cases c with
  | false =>
    rw [if_neg Bool.false_ne_true]
    exact ⟨μ1, z, h1, ρ, hr1, er.step s1, p1⟩
  | true =>
    rw [if_pos rfl]
    exact p1 μ1 H1 Step.refl hr1
theorem r_and1 {a : Expr} {ta : DenT} (h : PT X a (tT X.K E ta)) : PW X (.BoolOp .And [a] pos) (tT X.K E ta) := pw_and1 h
theorem r_or1 {a : Expr} {ta : DenT} (h : PT X a (tT X.K E ta)) : PW X (.BoolOp .Or [a] pos) (tT X.K E ta) := pw_or1 h
theorem r_and {a b : Expr} {rest : List Expr} {ta tb : DenT} (h1 : PT X a (tT X.K E ta)) (h2 : PW X (.BoolOp .And (b :: rest) pos) (tT X.K E tb)) : PW X (.BoolOp .And (a :: b :: rest) pos) (tT X.K E (dAndT ta tb)) := PW_imp (pw_and h1 h2) i_andT
theorem r_or {a b : Expr} {rest : List Expr} {ta tb : DenT} (h1 : PT X a (tT X.K E ta)) (h2 : PW X (.BoolOp .Or (b :: rest) pos) (tT X.K E tb)) : PW X (.BoolOp .Or (a :: b :: rest) pos) (tT X.K E (dOrT ta tb)) := PW_imp (pw_or h1 h2) i_orT
theorem r_not {a : Expr} {ta : DenT} (h1 : PT X a (tT X.K E ta)) : PT X (.UnaryOp .Not a pos) (tT X.K E (dNotT ta)) := PT_imp (pt_not h1) (by
  rintro σ H Q ⟨μ, z, h, ρ, hr, er, p⟩
  exact ⟨μ, z, h, ρ, hr, er, p.bind.mono fun μ1 h1 H1 c s1 hr1 p1 => p1 μ1 H1 Step.refl hr1⟩)
/-- and, or, not of bools as values -/
def dAnd (a b : Den) : Den := fun ρ h => (a ρ h).bind fun c h1 => match c with
  | .bl true => b ρ h1
  | .bl false => .ok (.bl false) h1
  | _ => .bad
def dOr (a b : Den) : Den := fun ρ h => (a ρ h).bind fun c h1 => match c with
  | .bl false => b ρ h1
  | .bl true => .ok (.bl true) h1
  | _ => .bad
def dNot (a : Den) : Den := fun ρ h => (a ρ h).bind fun c h1 => match c with
  | .bl c => .ok (.bl (!c)) h1
  | _ => .bad
theorem r_oneV {op : BoolOp} {a : Expr} {da : Den} (h : PE X a (tD X.K E da)) : PE X (.BoolOp op [a] pos) (tD X.K E da) := pe_one h
theorem r_andV {a b : Expr} {rest : List Expr} {da db : Den} (h1 : PE X a (tD X.K E da)) (h2 : PE X (.BoolOp .And (b :: rest) pos) (tD X.K E db)) : PE X (.BoolOp .And (a :: b :: rest) pos) (tD X.K E (dAnd da db)) := PE_imp (pe_and h1 h2) (by
  rintro σ H Q ⟨μ, z, h, ρ, hr, er, p⟩
  refine tD_of hr er p.bind fun μ1 h1 H1 v w s1 hr1 p1 vr1 => ?_
  cases v with
  | bl c =>
    cases vr1
    refine ⟨c, rfl, ?_⟩
    cases c with
    | true =>
      rw [if_pos rfl]
      exact ⟨μ1, z, h1, ρ, hr1, er.step s1, p1⟩
    | false =>
      rw [if_neg Bool.false_ne_true]
      exact p1 μ1 H1 Step.refl hr1 _ (.bl false)
  | _ => exact p1.elim)
theorem r_orV {a b : Expr} {rest : List Expr} {da db : Den} (h1 : PE X a (tD X.K E da)) (h2 : PE X (.BoolOp .Or (b :: rest) pos) (tD X.K E db)) : PE X (.BoolOp .Or (a :: b :: rest) pos) (tD X.K E (dOr da db)) := PE_imp (pe_or h1 h2) (by
  rintro σ H Q ⟨μ, z, h, ρ, hr, er, p⟩
  refine tD_of hr er p.bind fun μ1 h1 H1 v w s1 hr1 p1 vr1 => ?_
  cases v with
  | bl c =>
    cases vr1
    refine ⟨c, rfl, ?_⟩
    cases c with
    | false =>
      rw [if_neg Bool.false_ne_true]
      exact ⟨μ1, z, h1, ρ, hr1, er.step s1, p1⟩
    | true =>
      rw [if_pos rfl]
      exact p1 μ1 H1 Step.refl hr1 _ (.bl true)
  | _ => exact p1.elim)
theorem r_notV {a : Expr} {da : Den} (h1 : PE X a (tD X.K E da)) : PE X (.UnaryOp .Not a pos) (tD X.K E (dNot da)) := PE_imp (pe_not h1) (by
  rintro σ H Q ⟨μ, z, h, ρ, hr, er, p⟩
  refine tD_of hr er p.bind fun μ1 h1 H1 v w s1 hr1 p1 vr1 => ?_
  cases v with
  | bl c =>
    cases vr1
    exact ⟨c, rfl, p1 μ1 H1 Step.refl hr1 _ (.bl _)⟩
  | _ => exact p1.elim)
def dIf (c : DenT) (a b : Den) : Den := fun ρ h => (c ρ h).bind fun c h1 => if c then a ρ h1 else b ρ h1
theorem r_ifE {c a b : Expr} {tc : DenT} {da db : Den} (hc : PT X c (tT X.K E tc)) (h1 : PE X a (tD X.K E da)) (h2 : PE X b (tD X.K E db)) : PE X (.IfExp c a b pos) (tD X.K E (dIf tc da db)) := PE_imp (pe_ifExp hc h1 h2) (by
  rintro σ H Q ⟨μ, z, h, ρ, hr, er, p⟩
  refine ⟨μ, z, h, ρ, hr, er, p.bind.mono fun μ1 h1 H1 c s1 hr1 p1 => ?_⟩
  cases c with
  | true =>
    rw [if_pos rfl]
    exact ⟨μ1, z, h1, ρ, hr1, er.step s1, p1⟩
  | false =>
    rw [if_neg Bool.false_ne_true]
    exact ⟨μ1, z, h1, ρ, hr1, er.step s1, p1⟩)
end
end VI
end

section
/-! Statements, targets, loops, comprehensions, defs, calls. -/
namespace VI
open PySem PySem.Spec PyProof.Rows L2

inductive Fl where
  | nx | bk | ct | rt (v : IV)
abbrev DenS := Sl → Mem → Ret (Fl × Sl)
def endQ (K : PySem.W.Frag) (z : List Addr) (D : Ends) : List Addr → Mem → Hp → Fl × Sl → Prop := fun μ' _ H' r => match r.1 with
  | .nx => ∀ σ', ER K μ' z H' r.2 σ' → D.nx σ' H'
  | .bk => ∀ σ', ER K μ' z H' r.2 σ' → D.bk σ' H'
  | .ct => ∀ σ', ER K μ' z H' r.2 σ' → D.ct σ' H'
  | .rt v => ∀ w, VR K μ' z H' v w → D.rt w H'
/-- .. with what is still to be done kept by its place -/
def endQ2 (K : PySem.W.Frag) (z : List Addr) (N : List Addr → Mem → Hp → Sl → Prop) (B C : List Addr → Mem → Hp → Sl → Prop) (R : List Addr → Mem → Hp → IV → Prop) : List Addr → Mem → Hp → Fl × Sl → Prop := fun μ' h' H' r => match r.1 with
  | .nx => N μ' h' H' r.2
  | .bk => B μ' h' H' r.2
  | .ct => C μ' h' H' r.2
  | .rt v => R μ' h' H' v
def tS (K : PySem.W.Frag) (E : XI) (d : DenS) : TS := fun D σ H => ∃ μ z h ρ, HR K μ z h H ∧ ER K μ z H ρ σ ∧ post K E μ z H (d ρ h) (endQ2 K z (fun μ' h' H' ρ' => ∀ σ', ER K μ' z H' ρ' σ' → HR K μ' z h' H' → D.nx σ' H') (fun μ' h' H' ρ' => ∀ σ', ER K μ' z H' ρ' σ' → D.bk σ' H') (fun μ' h' H' ρ' => ∀ σ', ER K μ' z H' ρ' σ' → D.ct σ' H') (fun μ' _ H' v => ∀ w, VR K μ' z H' v w → D.rt w H'))
section
variable {X : Cx} {E : XI} {e : Expr} {st : Stmt} {sts : List Stmt} {pos : Pos} {K : PySem.W.Frag}
/-! ### small statements -/
def sNx : DenS := fun ρ h => .ok (.nx, ρ) h
def sSeq (a b : DenS) : DenS := fun ρ h => (a ρ h).bind fun r h1 => match r.1 with
  | .nx => b r.2 h1
  | _ => .ok r h1
theorem r_pass : PS X (.Pass pos) (tS X.K E sNx) := PS_imp ps_pass fun D σ H ⟨μ, z, h, ρ, hr, er, p⟩ => p μ H Step.refl hr σ er hr
theorem r_snil : PSs X [] (tS X.K E sNx) := PSs_imp pss_nil fun D σ H ⟨μ, z, h, ρ, hr, er, p⟩ => p μ H Step.refl hr σ er hr
theorem r_one {a : DenS} (h1 : PS X st (tS X.K E a)) : PSs X [st] (tS X.K E a) := pss_one h1
theorem r_seq {a b : DenS} (h1 : PS X st (tS X.K E a)) (h2 : PSs X sts (tS X.K E b)) : PSs X (st :: sts) (tS X.K E (sSeq a b)) := by
  refine PSs_imp (pss_cons h1 h2) ?_
  rintro D σ H ⟨μ, z, h, ρ, hr, er, p⟩
  refine ⟨μ, z, h, ρ, hr, er, p.bind.mono fun μ1 h1 H1 r s1 hr1 p1 => ?_⟩
  obtain ⟨f, ρ1⟩ := r
  cases f with
  | nx =>
    intro σ' er' hr'
    exact ⟨μ1, z, h1, ρ1, hr1, er', p1⟩
  | bk => exact p1 μ1 H1 Step.refl hr1
  | ct => exact p1 μ1 H1 Step.refl hr1
  | rt v => exact p1 μ1 H1 Step.refl hr1
def sBk : DenS := fun ρ h => .ok (.bk, ρ) h
def sCt : DenS := fun ρ h => .ok (.ct, ρ) h
theorem r_break : PS X (.Break pos) (tS X.K E sBk) := PS_imp ps_break fun D σ H ⟨μ, z, h, ρ, hr, er, p⟩ => p μ H Step.refl hr σ er
theorem r_cont : PS X (.Continue pos) (tS X.K E sCt) := PS_imp ps_continue fun D σ H ⟨μ, z, h, ρ, hr, er, p⟩ => p μ H Step.refl hr σ er
def sRet (d : Den) : DenS := fun ρ h => (d ρ h).bind fun v h1 => .ok (.rt v, ρ) h1
theorem r_ret {d : Den} (he : PE X e (tD X.K E d)) : PS X (.Return (some e) pos) (tS X.K E (sRet d)) := PS_imp (ps_ret he) (by
  rintro D σ H ⟨μ, z, h, ρ, hr, er, p⟩
  refine tD_of hr er p.bind fun μ1 h1 H1 v w s1 hr1 p1 vr1 => ?_
  exact p1 μ1 H1 Step.refl hr1 w vr1)
def sExp (d : Den) : DenS := fun ρ h => (d ρ h).bind fun _ h1 => .ok (.nx, ρ) h1
theorem r_exp {d : Den} (he : PE X e (tD X.K E d)) (hs : swapsWith e none pos.line X.env = pure false := by rfl) : PS X (.Expr e pos) (tS X.K E (sExp d)) := PS_imp (ps_expr he hs) (by
  rintro D σ H ⟨μ, z, h, ρ, hr, er, p⟩
  refine tD_of hr er p.bind fun μ1 h1 H1 v w s1 hr1 p1 vr1 => ?_
  exact p1 μ1 H1 Step.refl hr1 σ (er.step s1) hr1)
def sIf (c : DenT) (a b : DenS) : DenS := fun ρ h => (c ρ h).bind fun c h1 => if c then a ρ h1 else b ρ h1
theorem r_if {c : Expr} {a b : List Stmt} {tc : DenT} {da db : DenS} (hc : PT X c (tT X.K E tc)) (h1 : PSs X a (tS X.K E da)) (h2 : PSs X b (tS X.K E db)) : PS X (.If c a b pos) (tS X.K E (sIf tc da db)) := PS_imp (ps_if hc h1 h2) (by
  rintro D σ H ⟨μ, z, h, ρ, hr, er, p⟩
  refine ⟨μ, z, h, ρ, hr, er, p.bind.mono fun μ1 h1 H1 c s1 hr1 p1 => ?_⟩
  cases c with
  | true =>
    rw [if_pos rfl]
    exact ⟨μ1, z, h1, ρ, hr1, er.step s1, p1⟩
  | false =>
    rw [if_neg Bool.false_ne_true]
    exact ⟨μ1, z, h1, ρ, hr1, er.step s1, p1⟩)

/-! ### targets -/
abbrev Tg := IV → Sl → Option Sl
def gI (K : PySem.W.Frag) (t : Tg) : TG := fun v σ H Q => ∃ μ z ρ iv ρ', ER K μ z H ρ σ ∧ VR K μ z H iv v ∧ t iv ρ = some ρ' ∧ ∀ σ', ER K μ z H ρ' σ' → Q σ' H
def gIs (K : PySem.W.Frag) (t : List IV → Sl → Option Sl) : TGs := fun vs σ H Q => ∃ μ z ρ ivs ρ', ER K μ z H ρ σ ∧ VRs K μ z H ivs vs ∧ t ivs ρ = some ρ' ∧ ∀ σ', ER K μ z H ρ' σ' → Q σ' H
theorem PG_imp {tg : Expr} {t t' : TG} (h : PG X tg t) (i : ∀ v σ H Q, t' v σ H Q → t v σ H Q) : PG X tg t' := ⟨fun pins s σ H v u Q I r q => h.run pins s σ H v u Q I r (i v σ H Q q)⟩
theorem PGs_imp {ts : List Expr} {t t' : TGs} (h : PGs X ts t) (i : ∀ v σ H Q, t' v σ H Q → t v σ H Q) : PGs X ts t' := ⟨fun pins s σ H v u Q I r q => h.run pins s σ H v u Q I r (i v σ H Q q)⟩
def tgN (i : Nat) : Tg := fun v ρ => some (ρ.set i (some v))
theorem r_name {i : Nat} {x : Str} (hN : X.N.Nodup) (hi : X.N[i]? = some x) (hx : Loc X.env.scope x) (hf : X.fn x = true ∨ X.env.scope.names.lookup x = some .local := by first | exact .inl rfl | exact .inr rfl | assumption) : PG X (.Name x pos) (gI X.K (tgN i)) :=
  PG_imp (pg_name hN hi hx hf) (by
    rintro v σ H Q ⟨μ, z, ρ, iv, ρ', er, vr, e, q⟩
    cases e
    exact q _ (er.set vr i))
def tgsNil : List IV → Sl → Option Sl := fun vs ρ => match vs with
  | [] => some ρ
  | _ => none
def tgsCons (t : Tg) (u : List IV → Sl → Option Sl) : List IV → Sl → Option Sl := fun vs ρ => match vs with
  | v :: r => (t v ρ).bind fun ρ1 => u r ρ1
  | [] => none
theorem r_gnil : PGs X [] (gIs X.K tgsNil) := PGs_imp pgs_nil (by
  rintro vs σ H Q ⟨μ, z, ρ, ivs, ρ', er, vr, e, q⟩
  cases vr with
  | nil =>
    cases e
    exact ⟨rfl, q σ er⟩
  | cons _ _ => cases e)
theorem r_gcons {a : Expr} {as : List Expr} {t : Tg} {u : List IV → Sl → Option Sl} (h1 : PG X a (gI X.K t)) (h2 : PGs X as (gIs X.K u))
    (hs : (assignEach (a :: as) X.env).map (·.2) = assign a X.env :: (assignEach as X.env).map (·.2) := by rfl) : PGs X (a :: as) (gIs X.K (tgsCons t u)) := PGs_imp (pgs_cons h1 h2 hs) (by
  rintro vs σ H Q ⟨μ, z, ρ, ivs, ρ', er, vr, e, q⟩
  cases vr with
  | nil => cases e
  | @cons v w rs ws hv hvs =>
    have e' : (t v ρ).bind (fun ρ1 => u rs ρ1) = some ρ' := e
    obtain ⟨ρ1, e1, e2⟩ := Option.bind_eq_some_iff.mp e'
    exact ⟨w, ws, rfl, μ, z, ρ, v, ρ1, er, hv, e1, fun σ1 er1 => ⟨μ, z, ρ1, rs, ρ', er1, hvs, e2, q⟩⟩)
def tgT (n : Nat) (u : List IV → Sl → Option Sl) : Tg := fun v ρ => match v with
  | .tup xs => if xs.length = n then u xs ρ else none
  | _ => none
theorem r_gtup {as : List Expr} {k n : Nat} {u : List IV → Sl → Option Sl} (hc : X.calm = true) (h : PGs X as (gIs X.K u)) (hn : (assignEach as X.env).length = n := by rfl) (hst : (assignEach as X.env).findIdx? (·.1) = none := by rfl) :
    PG X (.Tuple as k pos) (gI X.K (tgT n u)) := PG_imp (pg_tup hc h hn hst) (by
  rintro v σ H Q ⟨μ, z, ρ, iv, ρ', er, vr, e, q⟩
  cases vr with
  | @tup a xs vs hq hvs =>
    have e' : (if xs.length = n then u xs ρ else none) = some ρ' := e
    by_cases hl : xs.length = n
    · rw [if_pos hl] at e'
      exact ⟨a, vs, rfl, hq, by rw [← hvs.length]; exact hl, μ, z, ρ, xs, ρ', er, hvs, e', q⟩
    · rw [if_neg hl] at e'
      cases e'
  | _ => cases e)
/-- target = value -/
def sAsg (t : Tg) (d : Den) : DenS := fun ρ h => (d ρ h).bind fun v h1 => match t v ρ with
  | some ρ' => .ok (.nx, ρ') h1
  | none => .bad
theorem r_set {i : Nat} {x : Str} {d : Den} {pos' : Pos} (hN : X.N.Nodup) (hi : X.N[i]? = some x) (hx : Loc X.env.scope x) (he : PE X e (tD X.K E d)) (hs : swapsWith e (some (.Name x pos')) pos.line X.env = pure false := by rfl) (hf : X.fn x = true ∨ X.env.scope.names.lookup x = some .local := by first | exact .inl rfl | exact .inr rfl | assumption) :
    PS X (.Assign [.Name x pos'] e pos) (tS X.K E (sAsg (tgN i) d)) := PS_imp (ps_set hN hi hx he hs hf) (by
  rintro D σ H ⟨μ, z, h, ρ, hr, er, p⟩
  refine tD_of hr er p.bind fun μ1 h1 H1 v w s1 hr1 p1 vr1 => ?_
  exact p1 μ1 H1 Step.refl hr1 _ ((er.step s1).set vr1 i) hr1)
theorem r_asg {tg : Expr} {t : Tg} {d : Den} (he : PE X e (tD X.K E d)) (hg : PG X tg (gI X.K t)) (hs : swapsWithSole [tg] e pos.line X.env = pure false := by rfl) (hw : swappedStores [tg] e X.env = pure none := by rfl)
    (h1 : (assignEach [tg] X.env).map (·.2) = [assign tg X.env] := by rfl) : PS X (.Assign [tg] e pos) (tS X.K E (sAsg t d)) := PS_imp (ps_asg he hg hs hw h1) (by
  rintro D σ H ⟨μ, z, h, ρ, hr, er, p⟩
  refine tD_of hr er p.bind fun μ1 h1 H1 v w s1 hr1 p1 vr1 => ?_
  cases e1 : t v ρ with
  | none => rw [e1] at p1; exact p1.elim
  | some ρ' =>
    rw [e1] at p1
    exact ⟨μ1, z, ρ, v, ρ', er.step s1, vr1, e1, fun σ' er' => p1 μ1 H1 Step.refl hr1 σ' er' hr1⟩)
/-- name op= value -/
def sAug (i : Nat) (f : IV → IV → Mem → Ret IV) (d : Den) : DenS := fun ρ h => match ρ[i]? with
  | some (some x) => (d ρ h).bind fun v h1 => (f x v h1).bind fun w h2 => .ok (.nx, ρ.set i (some w)) h2
  | _ => .bad
def RIp (K : PySem.W.Frag) (r : TIp) (f : IV → IV → Mem → Ret IV) : Prop := ∀ (E : XI) (μ z : List Addr) (h : Mem) (H : Hp) (v u : IV) (x y : V) (Q : VK), HR K μ z h H → VR K μ z H v x → VR K μ z H u y → post K E μ z H (f v u h) (VQ K z Q) → r x y H Q
theorem r_aug {i : Nat} {x : Str} {op : Operator} {r : TIp} {f : IV → IV → Mem → Ret IV} {d : Den} {pos' : Pos} (hN : X.N.Nodup) (hi : X.N[i]? = some x) (hx : Loc X.env.scope x) (ho : PIp X op r) (rb : RIp X.K r f) (he : PE X e (tD X.K E d)) (hf : X.fn x = true ∨ X.env.scope.names.lookup x = some .local := by first | exact .inl rfl | exact .inr rfl | assumption) :
    PS X (.AugAssign (.Name x pos') op e pos) (tS X.K E (sAug i f d)) := PS_imp (ps_aug hN hi hx he ho hf) (by
  rintro D σ H ⟨μ, z, h, ρ, hr, er, p⟩
  unfold sAug at p
  cases e1 : ρ[i]? with
  | none => rw [e1] at p; exact p.elim
  | some o =>
    cases o with
    | none => rw [e1] at p; exact p.elim
    | some y =>
      rw [e1] at p
      obtain ⟨w, e2, vr⟩ := er.at' i y e1
      refine ⟨w, e2, tD_of hr er p.bind fun μ1 h1 H1 v u s1 hr1 p1 vr1 => ?_⟩
      refine rb E μ1 z h1 H1 y v w u _ hr1 (vr.step s1) vr1 (p1.bind.mono fun μ2 h2 H2 t s2 hr2 p2 u2 vr2 => ?_)
      exact p2 μ2 H2 Step.refl hr2 _ (((er.step s1).step s2).set vr2 i) hr2)

/-! ### loops -/
/-- what is walked, as plain values -/
def tIV (K : PySem.W.Frag) (E : XI) (d : DenA) : TI := fun σ H R => ∃ μ z h ρ, HR K μ z h H ∧ ER K μ z H ρ σ ∧ post K E μ z H (d ρ h) fun μ' _ H' items =>
  ∀ (J : It) (G : Hp → Prop) (Y : Nat → Hp → V → Hp → Prop), Walk J items.length G Y →
    (∀ μ1 z1 h1 H1, Step μ' H' μ1 H1 → (∀ q ∈ z1, q ∈ z ∨ H' q = none) → HR K μ1 z1 h1 H1 → G H1 ∧ ∀ i x H2, i < items.length → Y i H1 x H2 → ∃ v, items[i]? = some v ∧ Step μ1 H1 μ1 H2 ∧ HR K μ1 z1 h1 H2 ∧ VR K μ1 z1 H2 v x) → R J H'
def forV (t : Tg) (b : DenS) : List IV → DenS
  | [], ρ, h => .ok (.nx, ρ) h
  | v :: vs, ρ, h => match t v ρ with
    | none => .bad
    | some ρ1 => (b ρ1 h).bind fun r h1 => match r.1 with
      | .nx => forV t b vs r.2 h1
      | .ct => forV t b vs r.2 h1
      | .bk => .ok (.nx, r.2) h1
      | .rt w => .ok (.rt w, r.2) h1
def sFor (d : DenA) (t : Tg) (b : DenS) : DenS := fun ρ h => (d ρ h).bind fun vs h1 => forV t b vs ρ h1
theorem r_for {tg iter : Expr} {body : List Stmt} {d : DenA} {t : Tg} {b : DenS} (hp : PassesOwn (model X.prog X.w) X.A X.env X.xe) (hc : X.calm = true) (hi : PI X tg iter (tIV X.K E d)) (hg : PG X tg (gI X.K t)) (hb : PSs X body (tS X.K E b))
    (hs : ∀ x, foldedSetIterable iter X.env x = pure x := by intro _; rfl) : PS X (.For tg iter body [] pos) (tS X.K E (sFor d t b)) := PS_imp (ps_for hp hc hi hg hb hs) (by
  rintro D σ H ⟨μ, z, h, ρ, hr, er, p⟩
  refine ⟨μ, z, h, ρ, hr, er, p.bind.mono fun μ1 h1 H1 items s1 hr1 p1 J G Y wk yy => ?_⟩
  generalize hk : (endQ2 X.K z (fun μ' h' H' ρ' => ∀ σ', ER X.K μ' z H' ρ' σ' → HR X.K μ' z h' H' → D.nx σ' H') (fun μ' h' H' ρ' => ∀ σ', ER X.K μ' z H' ρ' σ' → D.bk σ' H') (fun μ' h' H' ρ' => ∀ σ', ER X.K μ' z H' ρ' σ' → D.ct σ' H') (fun μ' _ H' v => ∀ w, VR X.K μ' z H' v w → D.rt w H')) = k at p1
  refine for_it wk (fun i σ' H' => ∃ μ' h' ρ', Step μ1 H1 μ' H' ∧ HR X.K μ' z h' H' ∧ ER X.K μ' z H' ρ' σ' ∧ post X.K E μ' z H' (forV t b (items.drop i) ρ' h') k) ⟨μ1, h1, ρ, Step.refl, hr1, er.step s1, p1⟩ ?_ ?_ ?_
  · rintro i σ' H' hi' ⟨μ', h', ρ', s', hr', er', p'⟩
    exact (yy μ' z h' H' s' (fun q m => .inl m) hr').1
  · rintro i x σ' H' H2 hi' ⟨μ', h', ρ', s', hr', er', p'⟩ y
    obtain ⟨v, ev, s2, hr2, vr⟩ := (yy μ' z h' H' s' (fun q m => .inl m) hr').2 i x H2 hi' y
    have ed : items.drop i = v :: items.drop (i + 1) := by
      rw [List.drop_eq_getElem_cons hi']
      congr 1
      rw [List.getElem?_eq_getElem hi'] at ev
      exact Option.some.inj ev
    rw [ed] at p'
    unfold forV at p'
    cases et : t v ρ' with
    | none => rw [et] at p'; exact p'.elim
    | some ρ1 =>
      rw [et] at p'
      refine ⟨μ', z, ρ', v, ρ1, er'.step s2, vr, et, fun σ3 er3 => ?_⟩
      refine ⟨μ', z, h', ρ1, hr2, er3, ((post.later p' s2).bind).mono fun μ4 h4 H4 r s4 hr4 p4 => ?_⟩
      obtain ⟨f, ρ4⟩ := r
      cases f with
      | nx => exact fun σ5 er5 _ => ⟨μ4, h4, ρ4, (s'.trans s2).trans s4, hr4, er5, p4⟩
      | ct => exact fun σ5 er5 => ⟨μ4, h4, ρ4, (s'.trans s2).trans s4, hr4, er5, p4⟩
      | bk =>
        have p5 := p4 μ4 H4 Step.refl hr4
        rw [← hk] at p5
        exact fun σ5 er5 => p5 σ5 er5 hr4
      | rt w =>
        have p5 := p4 μ4 H4 Step.refl hr4
        rw [← hk] at p5
        exact p5
  · rintro σ' H' ⟨μ', h', ρ', s', hr', er', p'⟩
    rw [List.drop_length] at p'
    have p5 := p' μ' H' Step.refl hr'
    rw [← hk] at p5
    exact p5 σ' er' hr')
def whN (c : DenT) (b : DenS) : Nat → DenS
  | 0, _, _ => .bad
  | n + 1, ρ, h => (c ρ h).bind fun k h1 => if k then (b ρ h1).bind fun r h2 => match r.1 with
      | .nx => whN c b n r.2 h2
      | .ct => whN c b n r.2 h2
      | .bk => .ok (.nx, r.2) h2
      | .rt w => .ok (.rt w, r.2) h2
    else .ok (.nx, ρ) h1
/-- so many turns are enough -/
def fuel : Nat := 1152921504606846976
def sWh (c : DenT) (b : DenS) : DenS := whN c b fuel
theorem r_while {c : Expr} {body : List Stmt} {tc : DenT} {b : DenS} (hp : PassesOwn (model X.prog X.w) X.A X.env X.xe) (hc : PT X c (tT X.K E tc)) (hb : PSs X body (tS X.K E b)) : PS X (.While c body [] pos) (tS X.K E (sWh tc b)) := PS_imp (ps_while hp hc hb) (by
  rintro D σ H ⟨μ, z, h, ρ, hr, er, p⟩
  generalize hk : (endQ2 X.K z (fun μ' h' H' ρ' => ∀ σ', ER X.K μ' z H' ρ' σ' → HR X.K μ' z h' H' → D.nx σ' H') (fun μ' h' H' ρ' => ∀ σ', ER X.K μ' z H' ρ' σ' → D.bk σ' H') (fun μ' h' H' ρ' => ∀ σ', ER X.K μ' z H' ρ' σ' → D.ct σ' H') (fun μ' _ H' v => ∀ w, VR X.K μ' z H' v w → D.rt w H')) = k at p
  refine ⟨fun m σ' H' => ∃ μ' h' ρ', HR X.K μ' z h' H' ∧ ER X.K μ' z H' ρ' σ' ∧ post X.K E μ' z H' (whN tc b m ρ' h') k, ⟨fuel, μ, h, ρ, hr, er, p⟩, ?_⟩
  rintro m σ' H' ⟨μ', h', ρ', hr', er', p'⟩
  cases m with
  | zero => exact p'.elim
  | succ m =>
    unfold whN at p'
    refine ⟨μ', z, h', ρ', hr', er', p'.bind.mono fun μ1 h1 H1 c s1 hr1 p1 => ?_⟩
    cases c with
    | false =>
      rw [if_neg Bool.false_ne_true] at p1 ⊢
      have p5 := p1 μ1 H1 Step.refl hr1
      rw [← hk] at p5
      exact p5 _ (er'.step s1) hr1
    | true =>
      rw [if_pos rfl] at p1 ⊢
      refine ⟨fun σ2 H2 => ∃ μ2 h2 ρ2, HR X.K μ2 z h2 H2 ∧ ER X.K μ2 z H2 ρ2 σ2 ∧ post X.K E μ2 z H2 (whN tc b m ρ2 h2) k, fun σ2 H2 w => ⟨m, Nat.lt_succ_self m, w⟩, ?_⟩
      refine ⟨μ1, z, h1, ρ', hr1, er'.step s1, p1.bind.mono fun μ4 h4 H4 r s4 hr4 p4 => ?_⟩
      obtain ⟨f, ρ4⟩ := r
      cases f with
      | nx => exact fun σ5 er5 _ => ⟨μ4, h4, ρ4, hr4, er5, p4⟩
      | ct => exact fun σ5 er5 => ⟨μ4, h4, ρ4, hr4, er5, p4⟩
      | bk =>
        have p5 := p4 μ4 H4 Step.refl hr4
        rw [← hk] at p5
        exact fun σ5 er5 => p5 σ5 er5 hr4
      | rt w =>
        have p5 := p4 μ4 H4 Step.refl hr4
        rw [← hk] at p5
        exact p5)

/-! ### what is walked -/
mutual
theorem VR.rehide {μ z z1 : List Addr} {H : Hp} (n : ∀ q ∈ z1, q ∈ z ∨ H q = none) : ∀ {x : IV} {v : V}, VR K μ z H x v → VR K μ z1 H x v
  | _, _, .non => .non
  | _, _, .bl b => .bl b
  | _, _, .int i => .int i
  | _, _, .str x => .str x
  | _, _, .tup h r => .tup h (VRs.rehide n r)
  | _, _, .fl h n1 m r => .fl h n1 (fun q => by
      rcases n _ q with q | q
      · exact m q
      · rw [q] at h
        cases h) (VRs.rehide n r)
  | _, _, .fz h r => .fz h (VRs.rehide n r)
  | _, _, .loc h => .loc h
theorem VRs.rehide {μ z z1 : List Addr} {H : Hp} (n : ∀ q ∈ z1, q ∈ z ∨ H q = none) : ∀ {xs : List IV} {vs : List V}, VRs K μ z H xs vs → VRs K μ z1 H xs vs
  | _, _, .nil => .nil
  | _, _, .cons r t => .cons (VR.rehide n r) (VRs.rehide n t)
end
theorem SqT.step {μ μ' : List Addr} {H H' : Hp} {a : Addr} {vs : List V} (s : Step μ H μ' H') (h : SqT K H a vs) : SqT K H' a vs := by
  rcases h with (h | ⟨o, h⟩) | h
  · exact .inl (.inl (s.imm _ _ h trivial))
  · exact .inl (.inr ⟨o, s.imm _ _ h trivial⟩)
  · exact .inr h
theorem Rd.step {μ μ' : List Addr} {H H' : Hp} {a : Addr} {u : HO} (s : Step μ H μ' H') (h : Rd H a u) (n : a ∉ μ) : Rd H' a u := by
  rcases h with h | ⟨o, h⟩
  · exact .inl (s.keep _ _ h n)
  · exact .inr ⟨o, s.keep _ _ h n⟩
theorem PI_imp {tg iter : Expr} {t t' : TI} (h : PI X tg iter t) (i : ∀ σ H Q, t' σ H Q → t σ H Q) : PI X tg iter t' := ⟨fun pins s σ H R I q => h.run pins s σ H R I (i σ H R q)⟩
/-- a tuple, walked -/
def wTup (d : Den) : DenA := fun ρ h => (d ρ h).bind fun v h1 => match v with
  | .tup xs => .ok xs h1
  | _ => .bad
theorem r_wTup {tg : Expr} {d : Den} (he : PE X e (tD X.K E d)) : PI X tg e (tIV X.K E (wTup d)) := PI_imp (pi_tup he) (by
  rintro σ H R ⟨μ, z, h, ρ, hr, er, p⟩
  refine tD_of hr er p.bind fun μ1 h1 H1 v w s1 hr1 p1 vr1 => ?_
  cases vr1 with
  | @tup a xs vs hq hvs =>
    refine ⟨a, rfl, ⟨vs, hq⟩, ?_⟩
    have el : xs.length = vs.length := hvs.length
    refine p1 μ1 H1 Step.refl hr1 _ (fun H => SqT X.K H a vs) (YAt vs) (by rw [el]; exact walk_tup) fun μ2 z2 h2 H2 s2 n2 hr2 => ⟨SqT.step s2 hq, fun i x H3 hi y => ?_⟩
    obtain ⟨rfl, y⟩ := y
    obtain ⟨u, e1, e2⟩ := hvs.get' y
    exact ⟨u, e1, Step.refl, hr2, (e2.rehide n2).step s2⟩
  | _ => exact p1.elim)
/-- a list that stays, walked -/
def wFl (d : Den) : DenA := fun ρ h => (d ρ h).bind fun v h1 => match v with
  | .fl xs => .ok xs h1
  | .fz xs => .ok xs h1
  | _ => .bad
theorem r_wFl {tg : Expr} {d : Den} (he : PE X e (tD X.K E d)) : PI X tg e (tIV X.K E (wFl d)) := PI_imp (pi_list he) (by
  rintro σ H R ⟨μ, z, h, ρ, hr, er, p⟩
  refine tD_of hr er p.bind fun μ1 h1 H1 v w s1 hr1 p1 vr1 => ?_
  cases vr1 with
  | @fl a xs vs hq n m hvs =>
    refine ⟨a, rfl, ⟨vs, .inl (.inl hq)⟩, ?_⟩
    have el : xs.length = vs.length := hvs.length
    refine p1 μ1 H1 Step.refl hr1 _ (fun H => SqL X.K H a vs) (YAt vs) (by rw [el]; exact walk_list) fun μ2 z2 h2 H2 s2 n2 hr2 => ⟨.inl (.inl (s2.keep _ _ hq n)), fun i x H3 hi y => ?_⟩
    obtain ⟨rfl, y⟩ := y
    obtain ⟨u, e1, e2⟩ := hvs.get' y
    exact ⟨u, e1, Step.refl, hr2, (e2.rehide n2).step s2⟩
  | @fz a xs vs hq hvs =>
    have hs : ∀ {μ2 H2}, Step μ1 H1 μ2 H2 → SqL X.K H2 a vs := fun s2 => by
      rcases hq with ⟨o, hq⟩ | hq
      · exact .inl (.inr ⟨o, s2.imm _ _ hq trivial⟩)
      · exact .inr hq
    refine ⟨a, rfl, ⟨vs, hs Step.refl⟩, ?_⟩
    have el : xs.length = vs.length := hvs.length
    refine p1 μ1 H1 Step.refl hr1 _ (fun H => SqL X.K H a vs) (YAt vs) (by rw [el]; exact walk_list) fun μ2 z2 h2 H2 s2 n2 hr2 => ⟨hs s2, fun i x H3 hi y => ?_⟩
    obtain ⟨rfl, y⟩ := y
    obtain ⟨u, e1, e2⟩ := hvs.get' y
    exact ⟨u, e1, Step.refl, hr2, (e2.rehide n2).step s2⟩
  | _ => exact p1.elim)
/-- range(a), range(a, b) -/
def rgI (lo hi : Int) : List IV := (List.range (hi - lo).toNat).map fun i => IV.int (lo + (i : Nat))
def okR (i : Int) : Bool := decide (-(2 ^ 62) ≤ i) && decide (i < 2 ^ 62)
def wRng1 (a : DenA) : DenA := fun ρ h => (a ρ h).bind fun vs h1 => match vs with
  | [.int j] => bif okR j then .ok (rgI 0 j) h1 else .bad
  | _ => .bad
def wRng2 (a : DenA) : DenA := fun ρ h => (a ρ h).bind fun vs h1 => match vs with
  | [.int i, .int j] => bif okR i && okR j then .ok (rgI i j) h1 else .bad
  | _ => .bad
theorem rgI_len (lo hi : Int) : (rgI lo hi).length = (hi - lo).toNat := by
  unfold rgI
  rw [List.length_map, List.length_range]
theorem rgI_walk {lo hi : Int} {μ1 : List Addr} {H1 : Hp} {z : List Addr} {R : It → Hp → Prop} (p : ∀ (J : It) (G : Hp → Prop) (Y : Nat → Hp → V → Hp → Prop), Walk J (rgI lo hi).length G Y →
    (∀ μ2 z2 h2 H2, Step μ1 H1 μ2 H2 → (∀ q ∈ z2, q ∈ z ∨ H1 q = none) → HR K μ2 z2 h2 H2 → G H2 ∧ ∀ i x H3, i < (rgI lo hi).length → Y i H2 x H3 → ∃ v, (rgI lo hi)[i]? = some v ∧ Step μ2 H2 μ2 H3 ∧ HR K μ2 z2 h2 H3 ∧ VR K μ2 z2 H3 v x) → R J H1) : R (Itr lo (hi - lo).toNat) H1 := by
  refine p _ (fun _ => True) (YFn fun i => .int (lo + i)) (by rw [rgI_len]; exact walk_range) fun μ2 z2 h2 H2 s2 n2 hr2 => ⟨trivial, fun i x H3 hi y => ?_⟩
  obtain ⟨rfl, rfl⟩ := y
  rw [rgI_len] at hi
  refine ⟨.int (lo + (i : Nat)), ?_, Step.refl, hr2, .int _⟩
  unfold rgI
  rw [List.getElem?_map, List.getElem?_range hi]
  rfl
theorem okR_of {i : Int} (h : okR i = true) : -(2 ^ 62) ≤ i ∧ i < 2 ^ 62 := by
  unfold okR at h
  rw [Bool.and_eq_true, decide_eq_true_eq, decide_eq_true_eq] at h
  exact h
theorem r_wRng1 {tg a : Expr} {da : DenA} {p : Pos} (hg : Gl X "range") (hm : X.mg "range" = none) (ha : PA X [a] (tAr X.K E da)) (hs : starEach [a] X.env = [(false, eval a X.env)] := by rfl) : PI X tg (.Call (.Name "range" p) [a] [] pos) (tIV X.K E (wRng1 da)) := PI_imp (pi_range1 hg hm ha hs) (by
  rintro σ H R ⟨μ, z, h, ρ, hr, er, p⟩
  refine ⟨μ, z, h, ρ, hr, er, p.bind.mono fun μ1 h1 H1 vs s1 hr1 p1 ws vr => ?_⟩
  cases vr with
  | nil => exact p1.elim
  | cons v r =>
    cases r with
    | nil =>
      cases v with
      | int j =>
        cases hj : okR j with
        | true =>
          simp only [hj, cond_true] at p1
          refine ⟨j, rfl, (okR_of hj).1, (okR_of hj).2, ?_⟩
          have q := rgI_walk (p1 μ1 H1 Step.refl hr1)
          rw [Int.sub_zero] at q
          exact q
        | false =>
          simp only [hj, cond_false] at p1
          exact p1.elim
      | _ => exact p1.elim
    | cons v2 r2 => cases v <;> exact p1.elim)
theorem r_wRng2 {tg a b : Expr} {da : DenA} {p : Pos} (hg : Gl X "range") (hm : X.mg "range" = none) (ha : PA X [a, b] (tAr X.K E da)) (hs : starEach [a, b] X.env = [(false, eval a X.env), (false, eval b X.env)] := by rfl) (hs2 : starEach [b] X.env = [(false, eval b X.env)] := by rfl) : PI X tg (.Call (.Name "range" p) [a, b] [] pos) (tIV X.K E (wRng2 da)) := PI_imp (pi_range2 hg hm ha hs hs2) (by
  rintro σ H R ⟨μ, z, h, ρ, hr, er, p⟩
  refine ⟨μ, z, h, ρ, hr, er, p.bind.mono fun μ1 h1 H1 vs s1 hr1 p1 ws vr => ?_⟩
  cases vr with
  | nil => exact p1.elim
  | cons v r =>
    cases r with
    | nil => cases v <;> exact p1.elim
    | cons v2 r2 =>
      cases r2 with
      | nil =>
        cases v with
        | int i =>
          cases v2 with
          | int j =>
            cases hj : okR i && okR j with
            | true =>
              simp only [hj, cond_true] at p1
              rw [Bool.and_eq_true] at hj
              refine ⟨i, j, rfl, ⟨(okR_of hj.1).1, (okR_of hj.1).2, (okR_of hj.2).1, (okR_of hj.2).2⟩, ?_⟩
              exact rgI_walk (p1 μ1 H1 Step.refl hr1)
            | false =>
              simp only [hj, cond_false] at p1
              exact p1.elim
          | _ => exact p1.elim
        | _ => exact p1.elim
      | cons _ _ => cases v <;> cases v2 <;> exact p1.elim)
end
end VI
end

section
/-! Comprehensions, defs, calls. -/
namespace VI
open PySem PySem.Spec PyProof.Rows L2
section
variable {X : Cx} {E : XI} {e : Expr} {pos : Pos} {K : PySem.W.Frag} {μ μ1 μ' z : List Addr} {H H1 H' : Hp} {h : Mem}

/-! ### the hidden list of a comprehension -/
mutual
theorem VR.mutZ {p : Addr} {o : HO} {ys : List V} (hp : H p = some (.lst ys)) (m : p ∈ z) : ∀ {x : IV} {v : V}, VR K μ z H x v → VR K μ z (upd H p o) x v
  | _, _, .non => .non
  | _, _, .bl b => .bl b
  | _, _, .int i => .int i
  | _, _, .str x => .str x
  | _, _, .tup h r => by
    refine .tup ?_ (VRs.mutZ hp m r)
    rcases h with (h | ⟨o2, h⟩) | h
    · refine .inl (.inl ?_)
      rw [upd_ne]
      · exact h
      · intro e
        rw [e, hp] at h
        cases h
    · refine .inl (.inr ⟨o2, ?_⟩)
      rw [upd_ne]
      · exact h
      · intro e
        rw [e, hp] at h
        cases h
    · exact .inr h
  | _, _, .fl (a := a) h n1 m1 r => by
    have ne : a ≠ p := fun e => m1 (by rw [e]; exact m)
    exact .fl (by rw [upd_ne ne]; exact h) n1 m1 (VRs.mutZ hp m r)
  | _, _, .fz (a := a) h r => by
    refine .fz (h.imp (fun ⟨o2, h2⟩ => ⟨o2, ?_⟩) id) (VRs.mutZ hp m r)
    have ne : a ≠ p := fun e => by
      rw [e, hp] at h2
      cases h2
    rw [upd_ne ne]
    exact h2
  | _, _, .loc h => .loc h
theorem VRs.mutZ {p : Addr} {o : HO} {ys : List V} (hp : H p = some (.lst ys)) (m : p ∈ z) : ∀ {xs : List IV} {vs : List V}, VRs K μ z H xs vs → VRs K μ z (upd H p o) xs vs
  | _, _, .nil => .nil
  | _, _, .cons r t => .cons (VR.mutZ hp m r) (VRs.mutZ hp m t)
end
theorem KRs.mutZ {p : Addr} {o : HO} {ys : List V} (hp : H p = some (.lst ys)) (m : p ∈ z) : ∀ {xs : List (Key × IV)} {vs : List (Key × V)}, KRs K μ z H xs vs → KRs K μ z (upd H p o) xs vs
  | _, _, .nil => .nil
  | _, _, .cons r t => .cons (r.mutZ hp m) (KRs.mutZ hp m t)
theorem FRs.mutZ {p : Addr} {o : HO} {ys : List V} (hp : H p = some (.lst ys)) (m : p ∈ z) : ∀ {xs : List (Str × IV)} {vs : List (Str × V)}, FRs K μ z H xs vs → FRs K μ z (upd H p o) xs vs
  | _, _, .nil => .nil
  | _, _, .cons r t => .cons (r.mutZ hp m) (FRs.mutZ hp m t)
theorem NRs.mutZ {p : Addr} {o : HO} {ys : List V} (hp : H p = some (.lst ys)) (m : p ∈ z) : ∀ {xs : List (NestedKey × IV)} {vs : List (NestedKey × Addr × V)}, NRs K μ z H xs vs → NRs K μ z (upd H p o) xs vs
  | _, _, .nil => .nil
  | _, _, .cons q r t => .cons (q.mutZ hp m) (r.mutZ hp m) (NRs.mutZ hp m t)
theorem OR.mutZ {p a : Addr} {o : HO} {ys : List V} (hp : H p = some (.lst ys)) (m : p ∈ z) {i : IO} {u : HO} (r : OR K μ z H a i u) : OR K μ z (upd H p o) a i u := by
  cases r with
  | lst r => exact .lst (r.mutZ hp m)
  | dK r => exact .dK (r.mutZ hp m)
  | oth r =>
    cases r with
    | ob h r => exact .oth (.ob h (r.mutZ hp m))
    | dN r => exact .oth (.dN (r.mutZ hp m))
theorem HR.mutZ {p : Addr} {o : HO} {ys : List V} (hp : H p = some (.lst ys)) (m : p ∈ z) (r : HR K μ z h H) : HR K μ z h (upd H p o) :=
  ⟨r.len, r.nd, fun l a i e1 e2 => by
    obtain ⟨u, e3, q⟩ := r.ob l a i e1 e2
    have ne : a ≠ p := fun e => (r.zz p m).1 (by rw [← e]; exact List.mem_of_getElem? e1)
    exact ⟨u, by rw [upd_ne ne]; exact e3, q.mutZ hp m⟩, fun a ma => ⟨(r.zz a ma).1, by
    by_cases e : a = p
    · subst e
      exact ⟨o, upd_same⟩
    · rw [upd_ne e]
      exact (r.zz a ma).2⟩⟩
theorem Step.mutNew {p : Addr} {o : HO} (s : Step μ H μ' H') (n : H p = none) : Step μ H μ' (upd H' p o) := by
  have ne : ∀ a u, H a = some u → a ≠ p := fun a u e => ne_of_none e n
  exact ⟨s.ext, fun a u e m => by rw [upd_ne (ne a u e)]; exact s.keep a u e m, fun a u e i => by rw [upd_ne (ne a u e)]; exact s.imm a u e i, fun a u e => by rw [upd_ne (ne a u e)]; exact s.there a u e⟩
def wipeI (ρ : Sl) : List Nat → Sl
  | [] => ρ
  | v :: vs => (wipeI ρ vs).set v none
theorem ER.wipe {ρ : Sl} {σ : L2.St} (r : ER K μ z H ρ σ) : ∀ vs : List Nat, ER K μ z H (wipeI ρ vs) (L2.wipe σ vs)
  | [] => r
  | v :: vs => by
    have ih := ER.wipe r vs
    refine ⟨by unfold wipeI L2.wipe; rw [List.length_set, List.length_set]; exact ih.len, fun i x e1 => ?_⟩
    unfold wipeI at e1
    unfold L2.wipe
    by_cases hi : v = i
    · subst hi
      by_cases hl : v < (wipeI ρ vs).length
      · rw [List.getElem?_set_self hl] at e1; cases e1
      · rw [List.getElem?_eq_none (by rw [List.length_set]; omega)] at e1; cases e1
    · rw [List.getElem?_set_ne hi] at e1 ⊢
      exact ih.at' i x e1

/-! ### [e for t in .. if ..] -/
def nox {α : Type} (r : Ret α) : Ret α := match r with
  | .ex _ _ => .bad
  | r => r
def lcV (t : Tg) (tt : DenT) (el : Den) (ρ : Sl) : List IV → Nat → Mem → Ret (List IV)
  | [], _, h => .ok [] h
  | v :: vs, n, h => match t v ρ with
    | none => .bad
    | some ρ1 => (nox (tt ρ1 h)).bind fun b h1 => if b then (nox (el ρ1 h1)).bind fun y h2 => if n < sizeLine then (lcV t tt el ρ vs (n + 1) h2).bind fun ys h3 => .ok (y :: ys) h3 else .bad
      else lcV t tt el ρ vs n h1
def fLc (d : DenA) (t : Tg) (tt : DenT) (el : Den) (own : List Nat) : DenA := fun ρ h => (d ρ h).bind fun vs h1 => lcV t tt el (wipeI ρ own) vs 0 h1
theorem lcV_noex (t : Tg) (tt : DenT) (el : Den) (ρ : Sl) : ∀ (vs : List IV) (n : Nat) (h : Mem) (e : Ex) (h' : Mem), lcV t tt el ρ vs n h ≠ .ex e h'
  | [], _, _, _, _, q => by cases q
  | v :: vs, n, h, e, h', q => by
    unfold lcV at q
    cases h1 : t v ρ with
    | none => rw [h1] at q; cases q
    | some ρ1 =>
      rw [h1] at q
      simp only at q
      cases h2 : tt ρ1 h with
      | ex _ _ => rw [h2] at q; cases q
      | bad => rw [h2] at q; cases q
      | ok b m =>
        rw [h2] at q
        simp only [nox, Ret.bind_ok] at q
        cases b with
        | false =>
          simp only [Bool.false_eq_true, if_false] at q
          exact lcV_noex t tt el ρ vs n m e h' q
        | true =>
          simp only [if_true] at q
          cases h3 : el ρ1 m with
          | ex _ _ => rw [h3] at q; cases q
          | bad => rw [h3] at q; cases q
          | ok y m2 =>
            rw [h3] at q
            simp only [nox, Ret.bind_ok] at q
            by_cases hn : n < sizeLine
            · rw [if_pos hn] at q
              cases h4 : lcV t tt el ρ vs (n + 1) m2 with
              | ok _ _ => rw [h4] at q; cases q
              | bad => rw [h4] at q; cases q
              | ex e4 h5 => exact lcV_noex t tt el ρ vs (n + 1) m2 e4 h5 h4
            · rw [if_neg hn] at q
              cases q
theorem i_lc {d : DenA} {t : Tg} {tt : DenT} {el : Den} {own : List Nat} : ∀ (σ : L2.St) (H : Hp) (Q : VK), (∀ (σ2 : L2.St) (ρ ρ2 : Sl) (v : IV), t v (wipeI ρ own) = some ρ2 → ∀ μ z H, ER K μ z H ρ2 σ2 → L2.wipe σ2 own = L2.wipe σ own ∨ True) → tF K E (fLc d t tt el own) σ H Q →
    tIV K E d σ H (fun J H1 => ∀ D, H1 D = none → ∃ W : Nat → Nat → Hp → Prop, (∃ m, W 0 m (upd H1 D (.lst []))) ∧ ∀ i m H, W i m H →
      (J.stop i H ∧ Q (.ref D) H) ∨ (J.go i H ∧ ∃ Nx : Hp → Prop, (∀ H', Nx H' → ∃ m', m' < m ∧ W (i + 1) m' H') ∧ ∀ x H', J.yld i H x H' → gI K t x (L2.wipe σ own) H' fun σ2 H2 => tT K noX tt σ2 H2 fun b H3 =>
        if b = true then tD K noX el σ2 H3 fun y H4 => ∃ acc, H4 D = some (.lst acc) ∧ acc.length < sizeLine ∧ Nx (upd H4 D (.lst (acc ++ [y]))) else Nx H3)) := by
  rintro σ H Q - ⟨μ, z, h, ρ, hr, er, p⟩
  refine ⟨μ, z, h, ρ, hr, er, p.bind.mono fun μ1 h1 H1 items s1 hr1 p1 J G Y wk yy D nD => ?_⟩
  -- the invariant
  let Pv : Nat → Hp → Prop := fun i H' => ∃ μ' h' accs ws, Step μ1 H1 μ' H' ∧ HR K μ' (D :: z) h' H' ∧ H' D = some (.lst ws) ∧ VRs K μ' (D :: z) H' accs ws ∧
    postF K E μ1 z H1 ((lcV t tt el (wipeI ρ own) (items.drop i) accs.length h').bind fun ys h3 => .ok (accs ++ ys) h3) Q
  have zz : ∀ q ∈ D :: z, q ∈ z ∨ H1 q = none := fun q m => by
    rcases List.mem_cons.mp m with e | m
    · rw [e]
      exact .inr nD
    · exact .inl m
  have base : ∀ {μ' H'}, Step μ1 H1 μ' H' → ER K μ' (D :: z) H' (wipeI ρ own) (L2.wipe σ own) := fun s => (((er.step s1).hide (.inl nD)).step s).wipe own
  have start : Pv 0 (upd H1 D (.lst [])) := by
    refine ⟨μ1, h1, [], [], Step.new nD, hr1.hideNew nD, upd_same, .nil, ?_⟩
    have e : ((lcV t tt el (wipeI ρ own) (items.drop 0) 0 h1).bind fun ys h3 => Ret.ok ([] ++ ys) h3) = lcV t tt el (wipeI ρ own) items 0 h1 := by
      rw [List.drop_zero]
      cases lcV t tt el (wipeI ρ own) items 0 h1 <;> rfl
    rw [List.length_nil, e]
    exact p1
  refine ⟨fun i m H => m = items.length - i ∧ i ≤ items.length ∧ Pv i H, ⟨items.length, by simp, Nat.zero_le _, start⟩, ?_⟩
  rintro i m H' ⟨rfl, hi, μ', h', accs, ws, s', hr', eD, va, p'⟩
  obtain ⟨gg, step⟩ := yy μ' (D :: z) h' H' s' zz hr'
  by_cases hlt : i < items.length
  · refine .inr ⟨wk.goes i H' hlt gg, Pv (i + 1), fun H2 p2 => ⟨items.length - (i + 1), by omega, rfl, hlt, p2⟩, fun x H2 y => ?_⟩
    obtain ⟨v, ev, s2, hr2, vr⟩ := step i x H2 hlt (wk.yields i H' x H2 hlt gg y)
    have ed : items.drop i = v :: items.drop (i + 1) := by
      rw [List.drop_eq_getElem_cons hlt]
      congr 1
      rw [List.getElem?_eq_getElem hlt] at ev
      exact Option.some.inj ev
    rw [ed] at p'
    unfold lcV at p'
    have nDμ : D ∉ μ' := (hr'.zz D List.mem_cons_self).1
    have eD2 : H2 D = some (.lst ws) := s2.keep D _ eD nDμ
    cases et : t v (wipeI ρ own) with
    | none => rw [et] at p'; exact p'.elim
    | some ρ1 =>
      rw [et] at p'
      refine ⟨μ', D :: z, wipeI ρ own, v, ρ1, base (s'.trans s2), vr, et, fun σ3 er3 => ?_⟩
      refine ⟨μ', D :: z, h', ρ1, hr2, er3, ?_⟩
      simp only at p'
      cases e1 : tt ρ1 h' with
      | ex _ _ => rw [e1] at p'; exact p'.elim
      | bad => rw [e1] at p'; exact p'.elim
      | ok b h2 =>
        rw [e1] at p'
        simp only [nox, Ret.bind_ok] at p'
        intro μ3 H3 s3 hr3
        have eD3 : H3 D = some (.lst ws) := s3.keep D _ eD2 nDμ
        have nDμ3 : D ∉ μ3 := (hr3.zz D List.mem_cons_self).1
        cases b with
        | false =>
          simp only [Bool.false_eq_true, if_false] at p' ⊢
          exact ⟨μ3, h2, accs, ws, (s'.trans s2).trans s3, hr3, eD3, (va.step s2).step s3, p'⟩
        | true =>
          simp only [if_true] at p' ⊢
          refine ⟨μ3, D :: z, h2, ρ1, hr3, er3.step s3, ?_⟩
          cases e2 : el ρ1 h2 with
          | ex _ _ => rw [e2] at p'; exact p'.elim
          | bad => rw [e2] at p'; exact p'.elim
          | ok y2 h3 =>
            rw [e2] at p'
            simp only [nox, Ret.bind_ok] at p'
            by_cases hn : accs.length < sizeLine
            · rw [if_pos hn] at p'
              intro μ4 H4 s4 hr4 w vw
              have eD4 : H4 D = some (.lst ws) := s4.keep D _ eD3 nDμ3
              have va4 := ((va.step s2).step s3).step s4
              refine ⟨ws, eD4, by rw [← va4.length]; exact hn, μ4, h3, accs ++ [y2], ws ++ [w], ?_, ?_, upd_same, ?_, ?_⟩
              · exact (((s'.trans s2).trans s3).trans s4).mutNew nD
              · exact hr4.mutZ eD4 List.mem_cons_self
              · exact (va4.mutZ eD4 List.mem_cons_self).append (.cons (vw.mutZ eD4 List.mem_cons_self) .nil)
              · have e5 : (((lcV t tt el (wipeI ρ own) (items.drop (i + 1)) (accs.length + 1) h3).bind fun ys h4 => Ret.ok (y2 :: ys) h4).bind fun ys h4 => Ret.ok (accs ++ ys) h4) = ((lcV t tt el (wipeI ρ own) (items.drop (i + 1)) (accs ++ [y2]).length h3).bind fun ys h4 => Ret.ok ((accs ++ [y2]) ++ ys) h4) := by
                  rw [List.length_append]
                  show _ = (lcV t tt el (wipeI ρ own) (items.drop (i + 1)) (accs.length + 1) h3).bind _
                  cases lcV t tt el (wipeI ρ own) (items.drop (i + 1)) (accs.length + 1) h3 with
                  | ok ys h4 => show Ret.ok (accs ++ (y2 :: ys)) h4 = Ret.ok ((accs ++ [y2]) ++ ys) h4; rw [List.append_assoc]; rfl
                  | ex _ _ => rfl
                  | bad => rfl
                rw [← e5]
                exact p'
            · rw [if_neg hn] at p'
              exact p'.elim
  · have e : i = items.length := by omega
    subst e
    refine .inl ⟨wk.stops H' gg, ?_⟩
    rw [List.drop_length] at p'
    have p2 : postF K E μ1 z H1 (.ok (accs ++ []) h') Q := p'
    rw [List.append_nil] at p2
    exact p2 μ' D ws H' s' nD eD hr' va
/-! target shapes -/
mutual
inductive Sh where
  | n (i : Nat) | t (ts : Shs)
inductive Shs where
  | nil | cons (s : Sh) (r : Shs)
end
mutual
def Sh.raw (K : PySem.W.Frag) : Sh → TG
  | .n i => gName i
  | .t ts => gTup K ts.len (Shs.raws K ts)
def Shs.raws (K : PySem.W.Frag) : Shs → TGs
  | .nil => gNil
  | .cons s r => gCons (Sh.raw K s) (Shs.raws K r)
def Shs.len : Shs → Nat
  | .nil => 0
  | .cons _ r => Shs.len r + 1
end
mutual
def Sh.tg : Sh → Tg
  | .n i => tgN i
  | .t ts => tgT ts.len (Shs.tgs ts)
def Shs.tgs : Shs → List IV → Sl → Option Sl
  | .nil => tgsNil
  | .cons s r => tgsCons (Sh.tg s) (Shs.tgs r)
end
mutual
def Sh.ns : Sh → List Nat
  | .n i => [i]
  | .t ts => Shs.nss ts
def Shs.nss : Shs → List Nat
  | .nil => []
  | .cons s r => Sh.ns s ++ Shs.nss r
end
def Out (ns : List Nat) (σ σ' : L2.St) : Prop := σ'.length = σ.length ∧ ∀ j, j ∉ ns → σ'[j]? = σ[j]?
theorem Out.trans {ms ns : List Nat} {σ σ1 σ2 : L2.St} (a : Out ms σ σ1) (b : Out ns σ1 σ2) : Out (ms ++ ns) σ σ2 :=
  ⟨b.1.trans a.1, fun j n => (b.2 j fun m => n (List.mem_append_right _ m)).trans (a.2 j fun m => n (List.mem_append_left _ m))⟩
mutual
theorem Sh.imp : ∀ (s : Sh) {v : IV} {w : V} {ρ ρ' : Sl} {σ : L2.St} {Q : L2.St → Hp → Prop}, ER K μ z H ρ σ → VR K μ z H v w → s.tg v ρ = some ρ' → (∀ σ', ER K μ z H ρ' σ' → Out s.ns σ σ' → Q σ' H) → s.raw K w σ H Q
  | .n i, v, w, ρ, ρ', σ, Q, er, vr, e, q => by
    have e' : ρ.set i (some v) = ρ' := Option.some.inj e
    subst e'
    unfold Sh.raw
    refine q _ (er.set vr i) ⟨List.length_set, fun j n => ?_⟩
    have nj : i ≠ j := fun z => n (by unfold Sh.ns; rw [z]; exact List.mem_cons_self)
    exact List.getElem?_set_ne nj
  | .t ts, v, w, ρ, ρ', σ, Q, er, vr, e, q => by
    unfold Sh.tg at e
    unfold Sh.raw
    cases vr with
    | @tup a xs vs hq hvs =>
      have e' : (if xs.length = ts.len then Shs.tgs ts xs ρ else none) = some ρ' := e
      by_cases hl : xs.length = ts.len
      · rw [if_pos hl] at e'
        exact ⟨a, vs, rfl, hq, by rw [← hvs.length]; exact hl, Shs.imp ts er hvs e' q⟩
      · rw [if_neg hl] at e'
        cases e'
    | _ => cases e
theorem Shs.imp : ∀ (s : Shs) {vs : List IV} {ws : List V} {ρ ρ' : Sl} {σ : L2.St} {Q : L2.St → Hp → Prop}, ER K μ z H ρ σ → VRs K μ z H vs ws → s.tgs vs ρ = some ρ' → (∀ σ', ER K μ z H ρ' σ' → Out s.nss σ σ' → Q σ' H) → s.raws K ws σ H Q
  | .nil, vs, ws, ρ, ρ', σ, Q, er, vr, e, q => by
    unfold Shs.tgs at e
    unfold Shs.raws
    cases vr with
    | nil =>
      cases e
      exact ⟨rfl, q σ er ⟨rfl, fun _ _ => rfl⟩⟩
    | cons _ _ => cases e
  | .cons s r, vs, ws, ρ, ρ', σ, Q, er, vr, e, q => by
    unfold Shs.tgs at e
    unfold Shs.raws
    cases vr with
    | nil => cases e
    | @cons v w rs ws hv hvs =>
      have e' : (s.tg v ρ).bind (fun ρ1 => r.tgs rs ρ1) = some ρ' := e
      obtain ⟨ρ1, e1, e2⟩ := Option.bind_eq_some_iff.mp e'
      exact ⟨w, ws, rfl, Sh.imp s er hv e1 fun σ1 er1 o1 => Shs.imp r er1 hvs e2 fun σ2 er2 o2 => q σ2 er2 (by unfold Shs.nss; exact o1.trans o2)⟩
end
theorem wipe_get (σ : L2.St) : ∀ (vs : List Nat) (j : Nat), (L2.wipe σ vs)[j]? = if j ∈ vs then (σ[j]?.map fun _ => none) else σ[j]?
  | [], j => by rw [if_neg (by simp)]; rfl
  | v :: vs, j => by
    unfold L2.wipe
    have ih := wipe_get σ vs j
    by_cases hv : v = j
    · subst hv
      rw [if_pos List.mem_cons_self]
      by_cases hl : v < (L2.wipe σ vs).length
      · rw [List.getElem?_set_self hl]
        rw [L2.wipe_length] at hl
        rw [List.getElem?_eq_getElem hl]
        rfl
      · rw [List.getElem?_eq_none (by rw [List.length_set]; omega)]
        rw [L2.wipe_length] at hl
        rw [List.getElem?_eq_none (by omega)]
        rfl
    · rw [List.getElem?_set_ne hv, ih]
      have : (j ∈ v :: vs) ↔ j ∈ vs := by
        rw [List.mem_cons]
        exact ⟨fun q => q.resolve_left fun e => hv e.symm, .inr⟩
      by_cases hm : j ∈ vs
      · rw [if_pos hm, if_pos (this.mpr hm)]
      · rw [if_neg hm, if_neg fun q => hm (this.mp q)]
theorem Out.wipe {ns own : List Nat} {σ σ' : L2.St} (o : Out ns σ σ') (s : ∀ i ∈ ns, i ∈ own) : L2.wipe σ' own = L2.wipe σ own := by
  apply List.ext_getElem?
  intro j
  rw [wipe_get, wipe_get]
  by_cases hj : j ∈ own
  · rw [if_pos hj, if_pos hj]
    by_cases hl : j < σ.length
    · rw [List.getElem?_eq_getElem hl, List.getElem?_eq_getElem (by rw [o.1]; exact hl)]
      rfl
    · have hl' : ¬ j < σ'.length := by rw [o.1]; exact hl
      rw [List.getElem?_eq_none (Nat.le_of_not_lt hl), List.getElem?_eq_none (Nat.le_of_not_lt hl')]
  · rw [if_neg hj, if_neg hj]
    exact o.2 j fun m => hj (s j m)
theorem wipe_wipe (σ : L2.St) (own : List Nat) : L2.wipe (L2.wipe σ own) own = L2.wipe σ own := by
  apply List.ext_getElem?
  intro j
  rw [wipe_get, wipe_get]
  by_cases hj : j ∈ own
  · rw [if_pos hj, if_pos hj]
    cases σ[j]? <;> rfl
  · rw [if_neg hj, if_neg hj]
def ownOk (s : Sh) (own : List Nat) : Bool := s.ns.all fun i => own.contains i
theorem ownOk_of {s : Sh} {own : List Nat} (h : ownOk s own = true) : ∀ i ∈ s.ns, i ∈ own := fun i m => by
  have := List.all_eq_true.mp h i m
  simpa using this
theorem lc_imp {d : DenA} {s : Sh} {tt : DenT} {el : Den} {own : List Nat} (ho : ownOk s own = true) {σ : L2.St} {H : Hp} {Q : VK} (q : tF K E (fLc d s.tg tt el own) σ H Q) : tLc (tIV K E d) (s.raw K) (tT K noX tt) (tD K noX el) own σ H Q := by
  have q2 := i_lc (K := K) (E := E) σ H Q (fun _ _ _ _ _ _ _ _ _ => .inr trivial) q
  obtain ⟨μ, z, h, ρ, hr, er, p⟩ := q2
  refine ⟨μ, z, h, ρ, hr, er, p.mono fun μ1 h1 H1 items s1 hr1 p1 J G Y wk yy D nD => ?_⟩
  obtain ⟨W, w0, turn⟩ := p1 J G Y wk yy D nD
  refine ⟨W, w0, fun i m H' w => ?_⟩
  rcases turn i m H' w with q | ⟨go, Nx, hN, step⟩
  · exact .inl q
  · refine .inr ⟨go, Nx, hN, fun x H2 y => ?_⟩
    obtain ⟨μ3, z3, ρ3, iv, ρ4, er3, vr3, e3, k3⟩ := step x H2 y
    exact s.imp er3 vr3 e3 fun σ' er' o => ⟨(o.wipe (ownOk_of ho)).trans (wipe_wipe σ own), k3 σ' er'⟩
theorem PTs_imp {ifs : List Expr} {t t' : TT} (h : PTs X ifs t) (i : ∀ σ H Q, t' σ H Q → t σ H Q) : PTs X ifs t' := ⟨fun pins s σ H Q I q => h.run pins s σ H Q I (i σ H Q q)⟩
def dYes : DenT := fun _ h => .ok true h
theorem r_ifs0 : PTs X [] (tT X.K E dYes) := PTs_imp pts_nil fun σ H Q ⟨μ, z, h, ρ, hr, er, p⟩ => p μ H Step.refl hr
theorem r_ifs1 {c : Expr} {t : DenT} (h : PT X c (tT X.K E t)) : PTs X [c] (tT X.K E t) := pts_one h
theorem r_rawN {i : Nat} {x : Str} (hN : X.N.Nodup) (hi : X.N[i]? = some x) (hx : Loc X.env.scope x) (hf : X.fn x = true ∨ X.env.scope.names.lookup x = some .local := by first | exact .inl rfl | exact .inr rfl | assumption) : PG X (.Name x pos) ((Sh.n i).raw X.K) := pg_name hN hi hx hf
theorem r_rawT {as : List Expr} {k : Nat} {ts : Shs} (hc : X.calm = true) (h : PGs X as (ts.raws X.K)) (hn : (assignEach as X.env).length = ts.len := by rfl) (hst : (assignEach as X.env).findIdx? (·.1) = none := by rfl) : PG X (.Tuple as k pos) ((Sh.t ts).raw X.K) := pg_tup hc h hn hst
theorem r_rawsN : PGs X [] (Shs.nil.raws X.K) := pgs_nil
theorem r_rawsC {a : Expr} {as : List Expr} {s : Sh} {r : Shs} (h1 : PG X a (s.raw X.K)) (h2 : PGs X as (r.raws X.K)) (hs : (assignEach (a :: as) X.env).map (·.2) = assign a X.env :: (assignEach as X.env).map (·.2) := by rfl) : PGs X (a :: as) ((Shs.cons s r).raws X.K) := pgs_cons h1 h2 hs
/-- a target of a statement, by its shape -/
theorem r_sh {tg : Expr} {s : Sh} (h : PG X tg (s.raw X.K)) : PG X tg (gI X.K s.tg) := PG_imp h (by
  rintro v σ H Q ⟨μ, z, ρ, iv, ρ', er, vr, e, q⟩
  exact s.imp er vr e fun σ' er' _ => q σ' er')
theorem r_lc {elt tg iter : Expr} {ifs : List Expr} {scope : Scope} {own : List (Str × Nat)} {d : DenA} {s : Sh} {tt : DenT} {el : Den} (hc : X.calm = true) (hN : X.N.Nodup) (hi : PI X tg iter (tIV X.K E d)) (ok : BlkOk X.N X.env.scope scope own) (ho : ownOk s (own.map (·.2)) = true)
    (hg : ∀ (s1 : Shared) (H : Hp) (C : Addr) (cl : List (Str × Addr)) (fp : List Addr), PG (X.blk s1 H scope (compEnvC scope cl C X.env) fp) tg (s.raw X.K))
    (ht : ∀ (s : Shared) (H : Hp) (C : Addr) (cl : List (Str × Addr)) (fp : List Addr), PTs (X.blk s H scope (compEnvC scope cl C X.env) fp) ifs (tT X.K noX tt))
    (he : ∀ (s : Shared) (H : Hp) (C : Addr) (cl : List (Str × Addr)) (fp : List Addr), PE (X.blk s H scope (compEnvC scope cl C X.env) fp) elt (tD X.K noX el)) (hs : ∀ x, foldedSetIterable iter X.env x = pure x := by intro _; rfl) :
    PE X (.ListComp elt [⟨tg, iter, ifs, 0⟩] scope pos) (tF X.K E (fLc d s.tg tt el (own.map (·.2)))) :=
  PE_imp (pe_lc hc hN hi ok hg ht he hs) fun σ H Q q => lc_imp ho q
theorem set_imp {d : Den} {i : Nat} {D : Ends} {σ : L2.St} {H : Hp} (q : tS K E (sAsg (tgN i) d) D σ H) : tD K E d σ H fun x H1 => gName i x σ H1 D.nx := by
  obtain ⟨μ, z, h, ρ, hr, er, p⟩ := q
  refine tD_of hr er p.bind fun μ1 h1 H1 v w s1 hr1 p1 vr1 => ?_
  exact p1 μ1 H1 Step.refl hr1 _ ((er.step s1).set vr1 i) hr1
section
variable {i : Nat} {y : Str} {py : Pos} {elt tg iter : Expr} {ifs : List Expr} {scope : Scope} {own : List (Str × Nat)} {d : DenA} {s : Sh} {tt : DenT} {el : Den} {spos : Pos}
theorem r_setLcF (hc : X.calm = true) (hN : X.N.Nodup) (hy : X.N[i]? = some y) (hyl : X.env.scope.names.lookup y = some .local)
    (hsw : swapsWith (.ListComp elt [⟨tg, iter, ifs, 0⟩] scope pos) (some (.Name y py)) spos.line X.env = pure true) (hi : PI X tg iter (tIV X.K E d)) (ok : BlkOk X.N X.env.scope scope own) (ho : ownOk s (own.map (·.2)) = true)
    (hg : ∀ (s1 : Shared) (H : Hp) (C : Addr) (cl : List (Str × Addr)) (fp : List Addr), PG (X.blk s1 H scope (compEnvC scope cl C X.env) fp) tg (s.raw X.K))
    (ht : ∀ (s : Shared) (H : Hp) (C : Addr) (cl : List (Str × Addr)) (fp : List Addr), PTs (X.blk s H scope (compEnvC scope cl C X.env) fp) ifs (tT X.K noX tt))
    (he : ∀ (s : Shared) (H : Hp) (C : Addr) (cl : List (Str × Addr)) (fp : List Addr), PE (X.blk s H scope (compEnvC scope cl C X.env) fp) elt (tD X.K noX el)) (hs : ∀ x, foldedSetIterable iter X.env x = pure x := by intro _; rfl) :
    PS X (.Assign [.Name y py] (.ListComp elt [⟨tg, iter, ifs, 0⟩] scope pos) spos) (tS X.K E (sAsg (tgN i) (dFl (fLc d s.tg tt el (own.map (·.2)))))) :=
  PS_imp (ps_setLc hc hN hy hyl hsw hi ok hg ht he hs) fun D σ H q => lc_imp ho (i_fl σ H _ (set_imp q))
theorem r_setLcA (hc : X.calm = true) (hN : X.N.Nodup) (hy : X.N[i]? = some y) (hyl : X.env.scope.names.lookup y = some .local)
    (hsw : swapsWith (.ListComp elt [⟨tg, iter, ifs, 0⟩] scope pos) (some (.Name y py)) spos.line X.env = pure true) (hi : PI X tg iter (tIV X.K E d)) (ok : BlkOk X.N X.env.scope scope own) (ho : ownOk s (own.map (·.2)) = true)
    (hg : ∀ (s1 : Shared) (H : Hp) (C : Addr) (cl : List (Str × Addr)) (fp : List Addr), PG (X.blk s1 H scope (compEnvC scope cl C X.env) fp) tg (s.raw X.K))
    (ht : ∀ (s : Shared) (H : Hp) (C : Addr) (cl : List (Str × Addr)) (fp : List Addr), PTs (X.blk s H scope (compEnvC scope cl C X.env) fp) ifs (tT X.K noX tt))
    (he : ∀ (s : Shared) (H : Hp) (C : Addr) (cl : List (Str × Addr)) (fp : List Addr), PE (X.blk s H scope (compEnvC scope cl C X.env) fp) elt (tD X.K noX el)) (hs : ∀ x, foldedSetIterable iter X.env x = pure x := by intro _; rfl) :
    PS X (.Assign [.Name y py] (.ListComp elt [⟨tg, iter, ifs, 0⟩] scope pos) spos) (tS X.K E (sAsg (tgN i) (dAl (fLc d s.tg tt el (own.map (·.2)))))) :=
  PS_imp (ps_setLc hc hN hy hyl hsw hi ok hg ht he hs) fun D σ H q => lc_imp ho (i_al σ H _ (set_imp q))
end

/-! ### defs and calls -/
abbrev FnI := List IV → Mem → Ret IV
def spI (K : PySem.W.Frag) (f : FnI) : Sp := fun vs H Q _ => ∃ μ z h as, HR K μ z h H ∧ VRs K μ z H as vs ∧ post K noX μ z H (f as h) (VQ K z Q)
/-- n slots, of which the first m are parameters -/
def funI (n m : Nat) (b : DenS) : FnI := fun as h => if as.length = m then (b (as.map some ++ List.replicate (n - as.length) none) h).bind fun r h1 => match r.1 with
    | .nx => .ok .non h1
    | .rt v => .ok v h1
    | _ => .bad
  else .bad
theorem er_start {N : List Str} {as : List IV} {vs : List V} (vr : VRs K μ z H as vs) : ER K μ z H (as.map some ++ List.replicate (N.length - as.length) none) (L2.start N vs) := by
  unfold L2.start
  rw [vr.length]
  refine ⟨by rw [List.length_append, List.length_append, List.length_map, List.length_map, vr.length, List.length_replicate, List.length_replicate], fun i x e => ?_⟩
  by_cases hi : i < as.length
  · rw [List.getElem?_append_left (by rw [List.length_map]; exact hi), List.getElem?_map] at e
    rw [List.getElem?_eq_getElem hi] at e
    have e2 : as[i] = x := Option.some.inj (Option.some.inj e)
    obtain ⟨v, h1, h2⟩ := vr.get (i := i) (x := as[i]) (List.getElem?_eq_getElem hi)
    refine ⟨v, ?_, by rw [← e2]; exact h2⟩
    rw [List.getElem?_append_left (by rw [List.length_map, ← vr.length]; exact hi), List.getElem?_map, h1]
    rfl
  · rw [List.getElem?_append_right (by rw [List.length_map]; omega), List.getElem?_replicate] at e
    split at e <;> cases e
section
variable {P : Program} {w : World} {mg : Str → Option Value} {base : Heap}
theorem fn_ok {x qual : Str} {st : Stmt} {f : Addr} {fd : FuncData} {N ps : List Str} {k : Nat} {b : DenS} {m n : Nat} (F : Fun K x qual st f fd) (S : FnScope N ps (defScope st)) (hm : ps.length = m) (hn : N.length = n)
    (hb : ∀ (cdv : Value) (A : Around) (outer : List Env) (s : Shared) (H : Hp) (E : XK), Room k (A.deeper (envOfC qual (defScope st) s.heap.objs.size f cdv)) → PSs (cxOf CX0 P w K mg base N qual (defScope st) f cdv A outer s H E).nox (defBody st) (tS K noX b)) :
    FnOk P w K mg base CX0 (k + 1) f fd ps (spI K (funI n m b)) := by
  subst hm hn
  refine F.ok S (fun vs H Q E h => ?_) (fun cdv A outer s H vs Q E hr h => ⟨tS K noX b, hb cdv A outer s H E hr, ?_⟩)
  · obtain ⟨μ, z, h, as, hr, vr, p⟩ := h
    unfold funI at p
    by_cases hl : as.length = ps.length
    · rw [← vr.length]; exact hl
    · rw [if_neg hl] at p; exact p.elim
  · obtain ⟨μ, z, h, as, hr, vr, p⟩ := h
    unfold funI at p
    by_cases hl : as.length = ps.length
    · rw [if_pos hl] at p
      refine ⟨μ, z, h, _, hr, er_start vr, p.bind.mono fun μ1 h1 H1 r s1 hr1 p1 => ?_⟩
      obtain ⟨fl, ρ1⟩ := r
      cases fl with
      | nx => exact fun σ' er' hr' => p1 μ1 H1 Step.refl hr1 .non .non
      | bk => exact p1.elim
      | ct => exact p1.elim
      | rt v => exact p1 μ1 H1 Step.refl hr1
    · rw [if_neg hl] at p; exact p.elim
end
theorem i_call {f : FnI} {a : DenA} (σ : L2.St) (H : Hp) (Q : VK) (q : tD K noX (dArg f a) σ H Q) : tCall (spI K f) [] E0 (tAr K noX a) σ H Q := by
  obtain ⟨μ, z, h, ρ, hr, er, p⟩ := q
  refine ⟨μ, z, h, ρ, hr, er, p.bind.mono fun μ1 h1 H1 vs s1 hr1 p1 ws vr => ?_⟩
  exact ⟨μ1, z, h1, vs, hr1, by rw [List.append_nil]; exact vr, p1⟩
theorem r_call {k j : Nat} {f : Addr} {fd : FuncData} {ps : List Str} {x : Str} {p : Pos} {es : List Expr} {g : FnI} {a : DenA} (F : FnOk X.prog X.w X.K X.mg X.base CX0 k f fd ps (spI X.K g)) (hr : Room j X.A) (hj : k ≤ j) (hg : Gl X x) (hm : X.mg x = some (.ref f)) (hk : PySem.W.keepIn X.K (.ref f) = true) (hb : Binds X.K fd ps [])
    (ha : PA X (e :: es) (tAr X.K noX a)) (hdb : (x == ("__debug__" : Str)) = false := by decide) (he : starEach (e :: es) X.env = (false, eval e X.env) :: starEach es X.env := by rfl) (hpl : (backTo pos (starEach es X.env)).any (·.1) = false := by rfl) :
    PE X (.Call (.Name x p) (e :: es) [] pos) (tD X.K noX (dArg g a)) := PE_imp (pe_call F (hr.mono hj) hg hm hk hb .nil pass0 ha hdb he hpl) i_call
end
end VI
end

section
/-! Defs and calls while no text of anything is under way (which repr asks). -/
namespace VI
open PySem PySem.Spec PyProof.Rows L2
structure FnG (P : Program) (w : World) (K : PySem.W.Frag) (mg : Str → Option Value) (base : Heap) (CX : CXT) (k : Nat) (f : Addr) (fd : FuncData) (ps : List Str) (sp : Sp) : Prop where
  len : ∀ vs H Q E, sp vs H Q E → vs.length = ps.length
  run : ∀ (A : Around) (outer : List Env) (s : Shared) (H : Hp) (args : Args) (us : List Value) (vs : List V) (Q : VK) (E : XK), Room k A → A.guards = some [] → Env0 P w K mg base A outer s H → BindsTo s fd args (ps.zip us) → Vals vs us →
    sp vs H Q E → codeAny (model P w) A (.call (.ref f) args) (CR CX outer P w H s Q E) s
section
variable {P : Program} {w : World} {K : PySem.W.Frag} {mg : Str → Option Value} {base : Heap} {CX : CXT} {f : Addr} {fd : FuncData} {N ps : List Str} {sp : Sp} {k j : Nat} {x qual : Str} {st : Stmt}
theorem FnG.mono (F : FnG P w K mg base CX j f fd ps sp) (h : j ≤ k) : FnG P w K mg base CX k f fd ps sp :=
  ⟨F.len, fun A outer s H args us vs Q E room => F.run A outer s H args us vs Q E (room.mono h)⟩
/-- a def's promise by its body -/
theorem fnG_of (F : Fun K x qual st f fd) (S : FnScope N ps (defScope st)) (len : ∀ vs H Q E, sp vs H Q E → vs.length = ps.length)
    (body : ∀ (cdv : Value) (A : Around) (outer : List Env) (s : Shared) (H : Hp) (vs : List V) (Q : VK) (E : XK), Room k (A.deeper (envOfC qual (defScope st) s.heap.objs.size f cdv)) → A.guards = some [] → sp vs H Q E →
      ∃ t, PSs (cxOf CX P w K mg base N qual (defScope st) f cdv A outer s H E) (defBody st) t ∧ t { nx := fun _ H' => Q .non H', rt := Q } (L2.start N vs) H) : FnG P w K mg base CX (k + 1) f fd ps sp := by
  obtain ⟨oc, od, kV, doc, pm, an, cdv, ct, osl, rfl, lk, cr⟩ := F.ex
  constructor
  · exact len
  · intro A outer s H args us vs Q E room gds env bnd rel prom
    have arity := len vs H Q E prom
    have kin := env.mod.kin.keeps fun b o he => (env.bs b o he).1
    have lim := env.mod.nolimit.keeps fun b o he => (env.bs b o he).1
    refine codeAny_call_function room.depth (kin _ _ lk) rfl S.co S.gen rfl (PySem.W.codeRec_of kin cr) (bnd _ _ _ _ ?_)
    have slots : ∀ y ∈ ps.zip us, (defScope st).names.lookup y.1 = some .local ∨ ((defScope st).names.lookup y.1 = some .cell ∧ ((cellsFrom (s.heap.objs.size + 1) (defScope st).names []).lookup y.1).isSome = true) := by
      intro y hy
      have hm := S.par y.1 (List.of_mem_zip (a := y.1) (b := y.2) hy).1
      exact hm.imp id fun q => ⟨q, PySem.W.cellsFrom_some _ _ _ (.inl q)⟩
    refine wpAny_newFunctionEnv_cells S.kind slots fun env' he s1 at1 => ?_
    subst he
    refine ⟨lim.keeps at1.toInCall.keep, codeAny_func ?_⟩
    obtain ⟨t, ht, hq⟩ := body cdv A outer s H vs Q E (room.deeper _) gds prom
    have inv := inv_start (CX := CX) (E := E) S room.hd env arity rel at1
    refine wpAny_mono (ht.run [] s1 _ H _ inv hq) ?_ fun _ _ q => q
    intro fl s' q
    cases fl with
    | brk => exact (q.elim fun _ q => q.elim fun _ q => q.2).elim
    | cont => exact (q.elim fun _ q => q.elim fun _ q => q.2).elim
    | next =>
      obtain ⟨σ', H', J, q⟩ := q
      exact ⟨V.non, H', J.os, J.bare, J.base, J.hok, (rfl : Value.none = Value.none), q⟩
    | ret u =>
      obtain ⟨v, σ', H', J, rv, q⟩ := q
      exact ⟨v, H', J.os, J.bare, J.base, J.hok, rv, q⟩
/-- a def that returns what f tells -/
theorem fn_okG {b : DenS} {m n : Nat} (F : Fun K x qual st f fd) (S : FnScope N ps (defScope st)) (hm : ps.length = m) (hn : N.length = n)
    (hb : ∀ (cdv : Value) (A : Around) (outer : List Env) (s : Shared) (H : Hp) (E : XK), Room k (A.deeper (envOfC qual (defScope st) s.heap.objs.size f cdv)) → A.guards = some [] → PSs (cxOf CX0 P w K mg base N qual (defScope st) f cdv A outer s H E).nox (defBody st) (tS K noX b)) :
    FnG P w K mg base CX0 (k + 1) f fd ps (spI K (funI n m b)) := by
  subst hm hn
  refine fnG_of F S (fun vs H Q E h => ?_) (fun cdv A outer s H vs Q E hr hg h => ⟨tS K noX b, (hb cdv A outer s H E hr hg).nox, ?_⟩)
  · obtain ⟨μ, z, h, as, hr, vr, p⟩ := h
    unfold funI at p
    by_cases hl : as.length = ps.length
    · rw [← vr.length]; exact hl
    · rw [if_neg hl] at p; exact p.elim
  · obtain ⟨μ, z, h, as, hr, vr, p⟩ := h
    unfold funI at p
    by_cases hl : as.length = ps.length
    · rw [if_pos hl] at p
      refine ⟨μ, z, h, _, hr, er_start vr, p.bind.mono fun μ1 h1 H1 r s1 hr1 p1 => ?_⟩
      obtain ⟨fl, ρ1⟩ := r
      cases fl with
      | nx => exact fun σ' er' hr' => p1 μ1 H1 Step.refl hr1 .non .non
      | bk => exact p1.elim
      | ct => exact p1.elim
      | rt v => exact p1 μ1 H1 Step.refl hr1
    · rw [if_neg hl] at p; exact p.elim
end
section
variable {X : Cx} {CX : CXT} {k j : Nat} {f : Addr} {fd : FuncData} {ps : List Str} {sp : Sp} {E : XK} {x : Str} {p pos : Pos} {e : Expr} {es : List Expr} {t : TA}
/-- a call of such a def -/
theorem callG {pins : List (Addr × Obj)} {σ : L2.St} {H : Hp} {s : Shared} {Q : VK} {us : List Value} {vs : List V} (F : FnG X.prog X.w X.K X.mg X.base CX k f fd ps sp) (room : Room k X.A) (gds : X.A.guards = some []) (hb : Binds X.K fd ps []) (hx : Passes CX X E)
    (inv : Inv X pins σ H s) (rel : Vals vs us) (prom : sp vs H Q E) : wpAny (model X.prog X.w) X.A (PySem.call (.ref f) us) (EP X pins σ Q) X.xe s := by
  have arity : us.length = ps.length := rel.length.symm.trans (F.len vs H Q E prom)
  have bnd : BindsTo s fd ⟨us, []⟩ (ps.zip us) := by
    have q := hb s us inv.kIn (by rw [List.append_nil]; exact arity)
    rw [List.append_nil] at q
    exact q
  refine wpAny_call (codeAny_mono (F.run X.A X.stack s H ⟨us, []⟩ us vs Q E room gds inv.env0 bnd rel prom) ?_)
  intro r s' q
  match r, q with
  | .error e, q => exact hx pins σ H s e s' inv q
  | .ok (.ret u), q => exact inv.after q
  | .ok .next, q => exact q.elim
  | .ok .brk, q => exact q.elim
  | .ok .cont, q => exact q.elim
theorem pe_callG (F : FnG X.prog X.w X.K X.mg X.base CX k f fd ps sp) (room : Room j X.A) (hj : k ≤ j) (gds : X.A.guards = some []) (hg : Gl X x) (hm : X.mg x = some (.ref f)) (hk : PySem.W.keepIn X.K (.ref f) = true) (hb : Binds X.K fd ps []) (hx : Passes CX X E)
    (ha : PA X (e :: es) t) (hdb : (x == ("__debug__" : Str)) = false := by decide) (he : starEach (e :: es) X.env = (false, eval e X.env) :: starEach es X.env := by rfl) (hpl : (backTo pos (starEach es X.env)).any (·.1) = false := by rfl) :
    PE X (.Call (.Name x p) (e :: es) [] pos) (tCall sp [] E t) := by
  constructor
  intro pins s σ H Q inv q
  refine wpAny_Call_Name_kw (ld_glob inv hg hm (PySem.W.callWith_K (h₀ := X.base) inv.ok.mod.kin hk (thn (ha.run pos pins s σ H _ inv q) ?_) he hpl) hdb)
  rintro us s1 ⟨vs, H1, inv1, rel, prom⟩
  rw [List.append_nil] at prom
  exact ⟨inv1.kIn, callG F (room.mono hj) gds hb hx inv1 rel prom⟩
theorem r_callG {g : FnI} {a : DenA} (F : FnG X.prog X.w X.K X.mg X.base CX0 k f fd ps (spI X.K g)) (room : Room j X.A) (hj : k ≤ j) (gds : X.A.guards = some []) (hg : Gl X x) (hm : X.mg x = some (.ref f)) (hk : PySem.W.keepIn X.K (.ref f) = true) (hb : Binds X.K fd ps [])
    (ha : PA X (e :: es) (tAr X.K noX a)) (hdb : (x == ("__debug__" : Str)) = false := by decide) (he : starEach (e :: es) X.env = (false, eval e X.env) :: starEach es X.env := by rfl) (hpl : (backTo pos (starEach es X.env)).any (·.1) = false := by rfl) :
    PE X (.Call (.Name x p) (e :: es) [] pos) (tD X.K noX (dArg g a)) := PE_imp (pe_callG F room hj gds hg hm hk hb pass0 ha hdb he hpl) i_call
end
/-! ### the law's end -/
section
variable {P : Program} {w : World} {K : PySem.W.Frag} {mg mb : Str → Option Value} {CX : CXT} {k : Nat} {fa a : Addr} {fd : FuncData} {x : Str} {g : FnI}
/-- from a heap in which nothing but the script may be tracked -/
theorem lawG0 {t : Shared} {vs : List Value} {ns : List Int} {H : Hp} (kin : K.In t.heap) (hns : t.heap.Ns mainGlobals mg) (hb : t.heap.Ns builtinsNs mb) (hbb : ∀ x : Str, x ≠ "__name__" → mb x = bootBuiltins x) (hlim : t.heap.NoLimit) (hg : t.gens = #[])
    (ha : t.heap.get? a = some { cls := .type "list", data := .seq vs.toArray }) (room : Room k callerA) (hok : HOk P w H t.heap) (one : ∀ b u, H b = some u → b = a ∧ K.lookup a = none ∧ ∃ o v, u = .frz o v) (rel : VR K [] [] H (.fz (ns.map IV.int)) (.ref a))
    (F : ∀ base : Heap, K.In base → base.Ns mainGlobals mg → FnG P w K mg base CX0 k fa fd [x] (spI K g)) (hbind : ∀ (s : Shared) (u : Value), BindsTo s fd ⟨[u], []⟩ [(x, u)])
    (hsp : ∃ h, g [.fz (ns.map IV.int)] [] = .ok (.bl true) h) :
    codeAny (model P w) callerA (.call (.ref fa) ⟨[.ref a], []⟩) (fun r t' => r = .ok (.ret (.bool true)) ∧ OldK t.heap t'.heap ∧ t'.os = t.os ∧ AllBare t'.gens) t := by
  have dicts : ∀ {b : Addr} {o : Obj} {es : Array DictEntry} {ep : Nat}, t.heap.get? b = some o → o.data = .dict es ep → H b = none := by
    intro b o es ep e d
    cases q : H b with
    | none => rfl
    | some u =>
      have z := (one b u q).1
      subst z
      rw [ha] at e
      rw [← Option.some.inj e] at d
      cases d
  have names : ∀ {b : Addr} {m : Str → Option Value}, t.heap.Ns b m → (hidT t.heap H).Ns b m := fun ⟨o, es, ep, e, d, r⟩ => ⟨o, es, ep, hidT_get e (dicts e d), d, r⟩
  have kinB : K.In (hidT t.heap H) := by
    intro b o e
    refine hidT_get (kin b o e) ?_
    cases q : H b with
    | none => rfl
    | some u =>
      obtain ⟨z, n, _⟩ := one b u q
      rw [z, n] at e
      cases e
  obtain ⟨mc, l1, l2⟩ := hlim
  have md : Mod K mg (hidT t.heap H) := ⟨kinB, names hns, ⟨mb, names hb, hbb⟩, mc, names l1, l2⟩
  have env : Env0 P w K mg (hidT t.heap H) callerA [] t H :=
    { frames := rfl, mod := md, bs := fun b o e => of_hidT e, bsz := Nat.le_of_eq (hidT_size _ _), funs := trivial, frf := fun b m => absurd (show b ∈ ([] : List Addr) from m) List.not_mem_nil, hok := hok, bare := .of_eq hg }
  obtain ⟨h, eg⟩ := hsp
  have prom : spI K g [.ref a] H (fun v _ => v = .bl true) E0 := by
    refine ⟨[], [], [], [.fz (ns.map IV.int)], ⟨rfl, List.nodup_nil, fun l b o e => by simp at e, fun b m => absurd m List.not_mem_nil⟩, .cons rel .nil, ?_⟩
    rw [eg]
    intro μ' H' _ _ w vr
    cases vr
    rfl
  refine codeAny_mono ((F _ kinB (names hns)).run callerA [] t H ⟨[.ref a], []⟩ [.ref a] [.ref a] _ E0 room rfl env (hbind t (.ref a)) (.cons rfl .nil) prom) ?_
  intro r t' q
  match r, q with
  | .error e, q => exact q.elim
  | .ok .next, q => exact q.elim
  | .ok .brk, q => exact q.elim
  | .ok .cont, q => exact q.elim
  | .ok (.ret u), q =>
    obtain ⟨v, H', os, bare, un, hok', rv, ev⟩ := q
    have ev' : v = .bl true := ev
    rw [ev'] at rv
    have eu : u = Value.bool true := rv
    rw [eu]
    refine ⟨rfl, OldK.of_keep fun b o e => ?_, os, bare⟩
    cases z : H b with
    | none => exact un.keep b o e z (fun m => absurd (show b ∈ ([] : List Addr) from m) List.not_mem_nil) List.not_mem_nil
    | some u =>
      obtain ⟨_, _, o2, v2, e2⟩ := one b u z
      subst e2
      have e3 := (hok b _ z).1
      have e4 := (hok' b _ (un.frzs b o2 v2 z)).1
      rw [e] at e3
      rw [Option.some.inj e3]
      exact e4
theorem lawG {t : Shared} {vs : List Value} {ns : List Int} (kin : K.In t.heap) (hns : t.heap.Ns mainGlobals mg) (hb : t.heap.Ns builtinsNs mb) (hbb : ∀ x : Str, x ≠ "__name__" → mb x = bootBuiltins x) (hlim : t.heap.NoLimit) (hg : t.gens = #[])
    (ha : t.heap.get? a = some { cls := .type "list", data := .seq vs.toArray }) (hi : IntsAre vs ns) (hl : ns.length ≤ sizeLine) (room : Room k callerA)
    (F : ∀ base : Heap, K.In base → base.Ns mainGlobals mg → FnG P w K mg base CX0 k fa fd [x] (spI K g)) (hbind : ∀ (s : Shared) (u : Value), BindsTo s fd ⟨[u], []⟩ [(x, u)])
    (hsp : ∃ h, g [.fz (ns.map IV.int)] [] = .ok (.bl true) h) :
    codeAny (model P w) callerA (.call (.ref fa) ⟨[.ref a], []⟩) (fun r t' => r = .ok (.ret (.bool true)) ∧ OldK t.heap t'.heap ∧ t'.os = t.os ∧ AllBare t'.gens) t := by
  have rv := vals_ints hi
  cases hka : K.lookup a with
  | some o =>
    have e := kin a o hka
    rw [ha] at e
    have e2 := Option.some.inj e
    subst e2
    refine lawG0 (H := fun _ => none) kin hns hb hbb hlim hg ha room (fun b u q => by cases q) (fun b u q => by cases q) ?_ F hbind hsp
    exact .fz (.inr ⟨_, vs.toArray, _, hka, rfl, rfl, rfl, by rw [List.size_toArray, hi.length]; exact hl, by simpa using rv⟩) (VRs.ofInts ns)
  | none =>
    let H : Hp := fun b => if b = a then some (.frz { cls := .type "list", data := .seq vs.toArray } (.lst (ns.map V.int))) else none
    have hH : H a = some (.frz { cls := .type "list", data := .seq vs.toArray } (.lst (ns.map V.int))) := if_pos rfl
    have tr : ∀ b u, H b = some u → b = a ∧ u = .frz { cls := .type "list", data := .seq vs.toArray } (.lst (ns.map V.int)) := by
      intro b u q
      by_cases e : b = a
      · subst e
        rw [hH] at q
        exact ⟨rfl, (Option.some.inj q).symm⟩
      · have q2 : (if b = a then some (HO.frz { cls := .type "list", data := .seq vs.toArray } (.lst (ns.map V.int))) else none) = some u := q
        rw [if_neg e] at q2
        cases q2
    refine lawG0 (H := H) kin hns hb hbb hlim hg ha room ?_ ?_ (.fz (.inl ⟨_, hH⟩) (VRs.ofInts ns)) F hbind hsp
    · intro b u q
      obtain ⟨e1, e2⟩ := tr b u q
      subst e1 e2
      exact ⟨ha, by rw [List.length_map]; exact hl, vs, _, rv, ha⟩
    · intro b u q
      obtain ⟨e1, e2⟩ := tr b u q
      exact ⟨e1, hka, _, _, e2⟩
end
/-- the goal behind the head, from what the law's def comes to for every script -/
theorem walkG {l : PySem.W.OpenLaw} {n k : Nat} {q : Program} {loose : List Str} {XP : (Str → Option Value) → Heap → Prop} {YP : World → Heap → Prop} {d : DefRec} {K : Params → PySem.W.Frag} {x : Str} {g : FnI}
    (hn : l.most = some n) (hn2 : n ≤ sizeLine) (hdf : d.params.defaults = []) (hr : Room k callerA) (hY : ∀ (w : World) (h : Heap), YP w h → (K w.params).In h)
    (F : ∀ (w : World) (mg : Str → Option Value) (fa : Addr) (h : Heap), (K w.params).In h → h.Ns mainGlobals mg → mg d.name = some (.ref fa) →
      ∃ fd : FuncData, (∀ (s : Shared) (u : Value), BindsTo s fd ⟨[u], []⟩ [(x, u)]) ∧ ∀ base : Heap, (K w.params).In base → base.Ns mainGlobals mg → FnG l.prog w (K w.params) mg base CX0 k fa fd [x] (spI (K w.params) g))
    (hsp : ∀ ns : List Int, ns.length ≤ n → ∃ h, g [.fz (ns.map IV.int)] [] = .ok (.bl true) h) :
    PySem.W.WalkO q loose XP YP l.row.toRowW d [] (fun f vs => PySem.call f vs) := by
  refine Att.attach_call hn hdf fun w t0 t mg mb fa o pm cd doc a vs ns G Y _ _ _ hmg hobj hints hlen hgens => ?_
  have kin := hY w t.heap Y
  obtain ⟨fd, bnd, fs⟩ := F w mg fa t.heap kin G.T.g hmg
  exact lawG kin G.T.g G.T.b G.T.builtins G.T.nolimit hgens hobj hints (Nat.le_trans hlen hn2) hr fs bnd (hsp ns hlen)
end VI
end

section
/-! Operators, subscripts, calls of built-ins, over plain values. -/
namespace VI
open PySem PySem.Spec PyProof.Rows L2
def lstOf (h : Mem) (v : IV) : Option (List IV) := match v with
  | .fl xs => some xs
  | .loc l => match h[l]? with
    | some (.lst xs) => some xs
    | _ => none
  | _ => none
def seqOf (h : Mem) (v : IV) : Option (List IV) := match v with
  | .tup xs => some xs
  | .fz xs => some xs
  | v => lstOf h v
section
variable {K : PySem.W.Frag} {μ z : List Addr} {H : Hp} {h : Mem} {v : IV} {x : V} {xs : List IV}
theorem lstOf_H (hr : HR K μ z h H) (vr : VR K μ z H v x) (e : lstOf h v = some xs) : ∃ a vs, x = .ref a ∧ H a = some (.lst vs) ∧ VRs K μ z H xs vs := by
  cases vr with
  | fl hq n m r =>
    have e' := Option.some.inj e
    subst e'
    exact ⟨_, _, rfl, hq, r⟩
  | loc hl =>
    unfold lstOf at e
    simp only at e
    split at e
    · rename_i o eo
      have e' := Option.some.inj e
      subst e'
      obtain ⟨u, e1, r⟩ := hr.ob _ _ _ hl eo
      cases r with
      | lst r => exact ⟨_, _, rfl, e1, r⟩
    · cases e
  | _ => cases e
theorem SqL_KL {a : Addr} {vs : List V} (h : (∃ o, H a = some (.frz o (.lst vs))) ∨ KL K a vs) : SqL K H a vs := by
  rcases h with ⟨o, h⟩ | h
  · exact .inl (.inr ⟨o, h⟩)
  · exact .inr h
theorem seqOf_H (hr : HR K μ z h H) (vr : VR K μ z H v x) (e : seqOf h v = some xs) : ∃ a vs, x = .ref a ∧ (SqL K H a vs ∨ SqT K H a vs) ∧ VRs K μ z H xs vs := by
  cases vr with
  | tup hq r =>
    have e' := Option.some.inj e
    subst e'
    exact ⟨_, _, rfl, .inr hq, r⟩
  | fz hq r =>
    have e' := Option.some.inj e
    subst e'
    exact ⟨_, _, rfl, .inl (SqL_KL hq), r⟩
  | fl hq n m r =>
    obtain ⟨a, vs, e1, e2, e3⟩ := lstOf_H (v := .fl _) hr (.fl hq n m r) e
    exact ⟨a, vs, e1, .inl (SqL.of e2), e3⟩
  | loc hl =>
    obtain ⟨a, vs, e1, e2, e3⟩ := lstOf_H (v := .loc _) hr (.loc hl) e
    exact ⟨a, vs, e1, .inl (SqL.of e2), e3⟩
  | _ => cases e
theorem flQ {E : XI} {ws : List V} {Q : VK} (p : post K E μ z H (.ok (.fl xs) h) (VQ K z Q)) (hr : HR K μ z h H) (vr : VRs K μ z H xs ws) : ∀ q, H q = none → Q (.ref q) (upd H q (.lst ws)) := fun q n =>
  p μ _ (Step.new n) (hr.new n) _ (.fl upd_same (hr.fresh n).1 (hr.fresh n).2 (vr.step (Step.new n)))
end

/-! ### ints -/
def intF (c : Int → Int → Bool) (g : Int → Int → IV) : IV → IV → Mem → Ret IV := fun v u h => match v, u with
  | .int i, .int j => bif c i j then .ok (g i j) h else .bad
  | _, _ => .bad
theorem rb_int {K : PySem.W.Frag} {C : Int → Int → Prop} {G : Int → Int → V} {c : Int → Int → Bool} {g : Int → Int → IV} (hc : ∀ i j, c i j = true → C i j) (hg : ∀ i j μ z H, VR K μ z H (g i j) (G i j)) : RB K (rI C G) (intF c g) := by
  intro E μ z h H v u x y Q hr v1 v2 p
  cases v1 with
  | int i =>
    cases v2 with
    | int j =>
      unfold intF at p
      cases e : c i j with
      | true =>
        simp only [e, cond_true] at p
        exact ⟨i, j, rfl, rfl, hc i j e, p μ H Step.refl hr _ (hg i j μ z H)⟩
      | false =>
        simp only [e, cond_false] at p
        exact p.elim
    | _ => exact p.elim
  | _ => exact p.elim
theorem rb_int0 {K : PySem.W.Frag} {G : Int → Int → V} {g : Int → Int → IV} (hg : ∀ i j μ z H, VR K μ z H (g i j) (G i j)) : RB K (rI0 G) (intF (fun _ _ => true) g) := by
  intro E μ z h H v u x y Q hr v1 v2 p
  cases v1 with
  | int i =>
    cases v2 with
    | int j => exact ⟨i, j, rfl, rfl, p μ H Step.refl hr _ (hg i j μ z H)⟩
    | _ => exact p.elim
  | _ => exact p.elim
def subF := intF (fun _ _ => true) fun i j => .int (i - j)
def cMul (i j : Int) : Bool := (decide (-18446744073709551616 < i) && decide (i < 18446744073709551616)) || (decide (-18446744073709551616 < j) && decide (j < 18446744073709551616))
def mulF := intF cMul fun i j => .int (i * j)
def cDiv (i j : Int) : Bool := decide (j ≠ 0) && decide (j.natAbs < 1073741824)
def divF := intF cDiv fun i j => .int (i.fdiv j)
def modF := intF (fun _ j => decide (j ≠ 0)) fun i j => .int (i.fmod j)
def cPow (i j : Int) : Bool := decide (0 ≤ j) && decide (j ≤ 1000000) && decide (i.natAbs < 18446744073709551616)
def powF := intF cPow fun i j => .int (i ^ j.toNat)
def cmpF (p : Int → Int → Bool) := intF (fun _ _ => true) fun i j => .bl (p i j)
section
variable {X : Cx} {E : XI} {e a b : Expr} {pos : Pos} {da db : Den}
theorem r_sub (ha : PE X a (tD X.K E da)) (hb : PE X b (tD X.K E db)) : PE X (.BinOp a .Sub b pos) (tD X.K E (dBin subF da db)) := r_op op_sub (rb_int0 fun _ _ _ _ _ => .int _) ha hb
theorem r_mul (ha : PE X a (tD X.K E da)) (hb : PE X b (tD X.K E db)) : PE X (.BinOp a .Mult b pos) (tD X.K E (dBin mulF da db)) := r_op op_mul (rb_int (fun i j h => by
  unfold cMul at h
  rw [Bool.or_eq_true, Bool.and_eq_true, Bool.and_eq_true, decide_eq_true_eq, decide_eq_true_eq, decide_eq_true_eq, decide_eq_true_eq] at h
  unfold CMul
  have e : (18446744073709551616 : Int) = 2 ^ 64 := by decide
  rw [e] at h
  exact h) fun _ _ _ _ _ => .int _) ha hb
theorem r_div (ha : PE X a (tD X.K E da)) (hb : PE X b (tD X.K E db)) : PE X (.BinOp a .FloorDiv b pos) (tD X.K E (dBin divF da db)) := r_op op_fdivN (rb_int (fun i j h => by
  unfold cDiv at h
  rw [Bool.and_eq_true, decide_eq_true_eq, decide_eq_true_eq] at h
  exact h) fun _ _ _ _ _ => .int _) ha hb
theorem r_mod (ha : PE X a (tD X.K E da)) (hb : PE X b (tD X.K E db)) : PE X (.BinOp a .Mod b pos) (tD X.K E (dBin modF da db)) := r_op op_modN (rb_int (fun i j h => of_decide_eq_true h) fun _ _ _ _ _ => .int _) ha hb
theorem r_pow (ha : PE X a (tD X.K E da)) (hb : PE X b (tD X.K E db)) : PE X (.BinOp a .Pow b pos) (tD X.K E (dBin powF da db)) := r_op op_pow (rb_int (fun i j h => by
  unfold cPow at h
  rw [Bool.and_eq_true, Bool.and_eq_true, decide_eq_true_eq, decide_eq_true_eq, decide_eq_true_eq] at h
  have e : (18446744073709551616 : Nat) = 2 ^ 64 := by decide
  rw [e] at h
  exact ⟨h.1.1, h.1.2, h.2⟩) fun _ _ _ _ _ => .int _) ha hb
def ltF := cmpF fun i j => decide (i < j)
def leF := cmpF fun i j => decide (i ≤ j)
def gtF := cmpF fun i j => decide (j < i)
def geF := cmpF fun i j => decide (j ≤ i)
theorem rb_lt {K : PySem.W.Frag} : RB K (rI0 fun i j => .bl (decide (i < j))) ltF := rb_int0 fun _ _ _ _ _ => .bl _
theorem rb_le {K : PySem.W.Frag} : RB K (rI0 fun i j => .bl (decide (i ≤ j))) leF := rb_int0 fun _ _ _ _ _ => .bl _
theorem rb_gt {K : PySem.W.Frag} : RB K (rI0 fun i j => .bl (decide (j < i))) gtF := rb_int0 fun _ _ _ _ _ => .bl _
theorem rb_ge {K : PySem.W.Frag} : RB K (rI0 fun i j => .bl (decide (j ≤ i))) geF := rb_int0 fun _ _ _ _ _ => .bl _
def negF : IV → Mem → Ret IV := fun v h => match v with
  | .int i => .ok (.int (-i)) h
  | _ => .bad
theorem r_neg (ha : PE X a (tD X.K E da)) : PE X (.UnaryOp .USub a pos) (tD X.K E (dUn negF da)) := r_un un_neg (by
  intro E μ z h H v x Q hr vr p
  cases vr with
  | int i => exact ⟨i, rfl, p μ H Step.refl hr _ (.int _)⟩
  | _ => exact p.elim) ha

/-! ### + -/
def addF : IV → IV → Mem → Ret IV := fun v u h => match v with
  | .int i => match u with
    | .int j => .ok (.int (i + j)) h
    | _ => .bad
  | .str s => match u with
    | .str t => bif decide (s.length + t.length ≤ sizeLine) then .ok (.str (s ++ t)) h else .bad
    | _ => .bad
  | .tup xs => match u with
    | .tup ys => bif decide (xs.length + ys.length ≤ sizeLine) then .ok (.tup (xs ++ ys)) h else .bad
    | _ => .bad
  | v => match lstOf h v, lstOf h u with
    | some xs, some ys => bif decide (xs.length + ys.length ≤ sizeLine) then .ok (.fl (xs ++ ys)) h else .bad
    | _, _ => .bad
def rAddA (K : PySem.W.Frag) : R2 := fun x y H Q => rI0 (fun i j => .int (i + j)) x y H Q ∨ ((∃ i j, x = .str i ∧ y = .str j ∧ i.length + j.length ≤ sizeLine ∧ Q (.str (i ++ j)) H) ∨ (rCatA K x y H Q ∨ rCat x y H Q))
theorem op_addA : OpR X (binaryOp .Add) (rAddA X.K) := op_add.or (op_add_str.or (op_catA.or op_cat))
theorem cond_dec {c : Prop} [Decidable c] {α : Type} {a b : α} {P : α → Prop} (p : P (bif decide c then a else b)) : (c ∧ P a) ∨ (¬ c ∧ P b) := by
  by_cases h : c
  · rw [decide_eq_true h] at p
    exact .inl ⟨h, p⟩
  · rw [decide_eq_false h] at p
    exact .inr ⟨h, p⟩
theorem add_lists {K : PySem.W.Frag} {μ z : List Addr} {h : Mem} {H : Hp} {v u : IV} {x y : V} {Q : VK} (hr : HR K μ z h H) (v1 : VR K μ z H v x) (v2 : VR K μ z H u y)
    (p : post K E μ z H (match lstOf h v, lstOf h u with
    | some xs, some ys => bif decide (xs.length + ys.length ≤ sizeLine) then .ok (.fl (xs ++ ys)) h else .bad
    | _, _ => .bad) (VQ K z Q)) : rCat x y H Q := by
  cases e1 : lstOf h v with
  | none => rw [e1] at p; exact p.elim
  | some xs =>
    cases e2 : lstOf h u with
    | none => rw [e1, e2] at p; exact p.elim
    | some ys =>
      rw [e1, e2] at p
      simp only at p
      rcases cond_dec (P := fun r => post K E μ z H r (VQ K z Q)) p with ⟨hl, p⟩ | ⟨hl, p⟩
      · obtain ⟨a, vs, ex, ha, ra⟩ := lstOf_H hr v1 e1
        obtain ⟨b, ws, ey, hb, rb⟩ := lstOf_H hr v2 e2
        exact ⟨a, b, vs, ws, ex, ey, ha, hb, by rw [← ra.length, ← rb.length]; exact hl, flQ p hr (ra.append rb)⟩
      · exact p.elim
theorem rb_add {K : PySem.W.Frag} : RB K (rAddA K) addF := by
  intro E μ z h H v u x y Q hr v1 v2 p
  unfold addF at p
  cases v1 with
  | int i =>
    cases v2 with
    | int j => exact .inl ⟨i, j, rfl, rfl, p μ H Step.refl hr _ (.int _)⟩
    | _ => exact p.elim
  | str s =>
    cases v2 with
    | str t =>
      rcases cond_dec (P := fun r => post K E μ z H r (VQ K z Q)) p with ⟨hl, p⟩ | ⟨hl, p⟩
      · exact .inr (.inl ⟨s, t, rfl, rfl, hl, p μ H Step.refl hr _ (.str _)⟩)
      · exact p.elim
    | _ => exact p.elim
  | @tup a xs vs hq r =>
    cases v2 with
    | @tup b ys ws hq2 r2 =>
      rcases cond_dec (P := fun r => post K E μ z H r (VQ K z Q)) p with ⟨hl, p⟩ | ⟨hl, p⟩
      · refine .inr (.inr (.inl ⟨a, b, vs, ws, rfl, rfl, hq, hq2, by rw [← r.length, ← r2.length]; exact hl, fun e => ?_, fun _ e => ?_, fun _ _ => tupQ p hr (r.append r2)⟩))
        · subst e
          cases r
          exact p μ H Step.refl hr _ (.tup hq2 r2)
        · subst e
          cases r2
          rw [List.append_nil] at p
          exact p μ H Step.refl hr _ (.tup hq r)
      · exact p.elim
    | _ => exact p.elim
  | fl hq n m r => exact .inr (.inr (.inr (add_lists (v := .fl _) hr (.fl hq n m r) v2 p)))
  | loc hl => exact .inr (.inr (.inr (add_lists (v := .loc _) hr (.loc hl) v2 p)))
  | fz hq r => exact .inr (.inr (.inr (add_lists (v := .fz _) hr (.fz hq r) v2 p)))
  | non => exact .inr (.inr (.inr (add_lists (v := .non) hr .non v2 p)))
  | bl b => exact .inr (.inr (.inr (add_lists (v := .bl b) hr (.bl b) v2 p)))
theorem r_add (ha : PE X a (tD X.K E da)) (hb : PE X b (tD X.K E db)) : PE X (.BinOp a .Add b pos) (tD X.K E (dBin addF da db)) := r_op op_addA rb_add ha hb

/-! ### None -/
def isNF : IV → IV → Mem → Ret IV := fun v u h => match u with
  | .non => .ok (.bl (match v with
    | .non => true
    | _ => false)) h
  | _ => .bad
def notNF : IV → IV → Mem → Ret IV := fun v u h => match u with
  | .non => .ok (.bl (match v with
    | .non => false
    | _ => true)) h
  | _ => .bad
theorem rb_isN {K : PySem.W.Frag} : RB K (fun x y H Q => y = .non ∧ Q (.bl (decide (x = .non))) H) isNF := by
  intro E μ z h H v u x y Q hr v1 v2 p
  cases v2 with
  | non => cases v1 <;> exact ⟨rfl, p μ H Step.refl hr _ (.bl _)⟩
  | _ => exact p.elim
theorem rb_notN {K : PySem.W.Frag} : RB K (fun x y H Q => y = .non ∧ Q (.bl (!decide (x = .non))) H) notNF := by
  intro E μ z h H v u x y Q hr v1 v2 p
  cases v2 with
  | non => cases v1 <;> exact ⟨rfl, p μ H Step.refl hr _ (.bl _)⟩
  | _ => exact p.elim

/-! ### data -/
def allS {α : Type} : List (Option α) → Option (List α)
  | [] => some []
  | none :: _ => none
  | some x :: r => match allS r with
    | some xs => some (x :: xs)
    | none => none
def toD (h : Mem) : Nat → IV → Option PyData
  | 0, _ => none
  | n + 1, v => match v with
    | .non => some .none
    | .bl b => some (.bool b)
    | .int i => some (.int i)
    | .str s => some (.str s)
    | .tup xs => (allS (xs.map (toD h n))).map .tuple
    | .fl xs => (allS (xs.map (toD h n))).map .list
    | .fz xs => (allS (xs.map (toD h n))).map .list
    | .loc l => match h[l]? with
      | some (.lst xs) => (allS (xs.map (toD h n))).map .list
      | _ => none
theorem dp_all {K : PySem.W.Frag} {μ z : List Addr} {H : Hp} {f : IV → Option PyData} (hf : ∀ v x d, VR K μ z H v x → f v = some d → Dp K H x d) : ∀ {xs : List IV} {vs : List V} {ds : List PyData}, VRs K μ z H xs vs → allS (xs.map f) = some ds → DpAll K H vs ds
  | [], _, ds, .nil, e => by
    have e' := Option.some.inj e
    subst e'
    exact .nil
  | v :: xs, _, ds, .cons r t, e => by
    rw [List.map_cons] at e
    cases e1 : f v with
    | none => rw [e1] at e; cases e
    | some d =>
      rw [e1] at e
      unfold allS at e
      cases e2 : allS (xs.map f) with
      | none => rw [e2] at e; cases e
      | some ds2 =>
        rw [e2] at e
        have e' := Option.some.inj e
        subst e'
        exact .cons (hf _ _ _ r e1) (dp_all hf t e2)
theorem dp_of {K : PySem.W.Frag} {μ z : List Addr} {h : Mem} {H : Hp} (hr : HR K μ z h H) : ∀ (n : Nat) (v : IV) (x : V) (d : PyData), VR K μ z H v x → toD h n v = some d → Dp K H x d
  | 0, _, _, _, _, e => by cases e
  | n + 1, v, x, d, vr, e => by
    unfold toD at e
    have ih := fun v x d r e => dp_of hr n v x d r e
    cases vr with
    | non => have e' := Option.some.inj e; subst e'; exact .non
    | bl b => have e' := Option.some.inj e; subst e'; exact .bl b
    | int i => have e' := Option.some.inj e; subst e'; exact .int i
    | str s => have e' := Option.some.inj e; subst e'; exact .str s
    | tup hq r =>
      obtain ⟨ds, e1, e2⟩ := Option.map_eq_some_iff.mp e
      subst e2
      exact .tup hq (dp_all ih r e1)
    | fl hq n m r =>
      obtain ⟨ds, e1, e2⟩ := Option.map_eq_some_iff.mp e
      subst e2
      exact .lst (SqL.of hq) (dp_all ih r e1)
    | fz hq r =>
      obtain ⟨ds, e1, e2⟩ := Option.map_eq_some_iff.mp e
      subst e2
      exact .lst (SqL_KL hq) (dp_all ih r e1)
    | loc hl =>
      simp only at e
      split at e
      · rename_i xs eo
        obtain ⟨ds, e1, e2⟩ := Option.map_eq_some_iff.mp e
        subst e2
        obtain ⟨u, e3, r⟩ := hr.ob _ _ _ hl eo
        cases r with
        | lst r => exact .lst (SqL.of e3) (dp_all ih r e1)
      · cases e
/-- the depth that a comparison allows -/
def deep : Nat := 66
def dataF (g : PyData → PyData → Bool) : IV → IV → Mem → Ret IV := fun v u h => match toD h deep v, toD h deep u with
  | some d, some e => bif SeqAt.shaped d && SeqAt.shaped e then .ok (.bl (g d e)) h else .bad
  | _, _ => .bad
def eqF : IV → IV → Mem → Ret IV := fun v u h => match v, u with
  | .int i, .int j => .ok (.bl (decide (i = j))) h
  | .str i, .str j => .ok (.bl (decide (i = j))) h
  | v, u => dataF (fun d e => PyData.eqv d e) v u h
def neF : IV → IV → Mem → Ret IV := fun v u h => match v, u with
  | .int i, .int j => .ok (.bl (!decide (i = j))) h
  | .str i, .str j => .ok (.bl (!decide (i = j))) h
  | v, u => dataF (fun d e => !PyData.eqv d e) v u h
theorem rb_eqG {K : PySem.W.Frag} {g : PyData → PyData → Bool} : RB K (fun x y H Q => ∃ d e, Dp K H x d ∧ Dp K H y e ∧ SeqAt.shaped d = true ∧ SeqAt.shaped e = true ∧ Q (.bl (g d e)) H) (dataF g) := by
  intro E μ z h H v u x y Q hr v1 v2 p
  unfold dataF at p
  cases e1 : toD h deep v with
  | none => rw [e1] at p; exact p.elim
  | some d =>
    cases e2 : toD h deep u with
    | none => rw [e1, e2] at p; exact p.elim
    | some e =>
      rw [e1, e2] at p
      simp only at p
      cases e3 : SeqAt.shaped d && SeqAt.shaped e with
      | false => simp only [e3, cond_false] at p; exact p.elim
      | true =>
        simp only [e3, cond_true] at p
        rw [Bool.and_eq_true] at e3
        exact ⟨d, e, dp_of hr _ _ _ _ v1 e1, dp_of hr _ _ _ _ v2 e2, e3.1, e3.2, p μ H Step.refl hr _ (.bl _)⟩
def rEqA (K : PySem.W.Frag) : R2 := fun x y H Q => rEq x y H Q ∨ rEqD K x y H Q
def rNeA (K : PySem.W.Frag) : R2 := fun x y H Q => rNe x y H Q ∨ rNeD K x y H Q
theorem op_eqA (hu : X.A.units + 64 < cLine) : OpR X (compareOp .Eq) (rEqA X.K) := op_eq.or (op_eqD hu)
theorem op_neA (hu : X.A.units + 64 < cLine) : OpR X (compareOp .NotEq) (rNeA X.K) := op_ne.or (op_neD hu)
theorem dec_i {i j : Int} : decide (V.int i = V.int j) = decide (i = j) := by
  by_cases e : i = j
  · subst e
    simp
  · have n : V.int i ≠ V.int j := fun z => e (V.int.inj z)
    rw [decide_eq_false e, decide_eq_false n]
theorem dec_s {i j : Str} : decide (V.str i = V.str j) = decide (i = j) := by
  by_cases e : i = j
  · subst e
    simp
  · have n : V.str i ≠ V.str j := fun z => e (V.str.inj z)
    rw [decide_eq_false e, decide_eq_false n]
theorem rb_eq {K : PySem.W.Frag} : RB K (rEqA K) eqF := by
  intro E μ z h H v u x y Q hr v1 v2 p
  have gen : post K E μ z H (dataF (fun d e => PyData.eqv d e) v u h) (VQ K z Q) → rEqA K x y H Q := fun p => .inr (rb_eqG (g := fun d e => PyData.eqv d e) E μ z h H v u x y Q hr v1 v2 p)
  unfold eqF at p
  split at p
  · cases v1
    cases v2
    refine .inl ⟨rfl, ?_⟩
    rw [dec_i]
    exact p μ H Step.refl hr _ (.bl _)
  · cases v1
    cases v2
    refine .inl ⟨rfl, ?_⟩
    rw [dec_s]
    exact p μ H Step.refl hr _ (.bl _)
  · exact gen p
theorem rb_ne {K : PySem.W.Frag} : RB K (rNeA K) neF := by
  intro E μ z h H v u x y Q hr v1 v2 p
  have gen : post K E μ z H (dataF (fun d e => !PyData.eqv d e) v u h) (VQ K z Q) → rNeA K x y H Q := fun p => .inr (rb_eqG (g := fun d e => !PyData.eqv d e) E μ z h H v u x y Q hr v1 v2 p)
  unfold neF at p
  split at p
  · cases v1
    cases v2
    refine .inl ⟨rfl, ?_⟩
    rw [dec_i]
    exact p μ H Step.refl hr _ (.bl _)
  · cases v1
    cases v2
    refine .inl ⟨rfl, ?_⟩
    rw [dec_s]
    exact p μ H Step.refl hr _ (.bl _)
  · exact gen p

/-! ### items -/
def ixF : IV → IV → Mem → Ret IV := fun v u h => match u with
  | .int i => match v with
    | .str s => bif decide (s.length ≤ sizeLine) then (match atI s.cps.toList i with
      | some c => .ok (.str ⟨#[c]⟩) h
      | none => .bad) else .bad
    | v => match seqOf h v with
      | some xs => (match atI xs i with
        | some y => .ok y h
        | none => .bad)
      | none => .bad
  | _ => .bad
theorem atI_VRs {K : PySem.W.Frag} {μ z : List Addr} {H : Hp} {xs : List IV} {vs : List V} {i : Int} {y : IV} (r : VRs K μ z H xs vs) (e : atI xs i = some y) : ∃ w, atI vs i = some w ∧ VR K μ z H y w := by
  unfold atI at e ⊢
  rw [← r.length]
  obtain ⟨j, e1, e2⟩ := Option.bind_eq_some_iff.mp e
  obtain ⟨w, e3, vr⟩ := r.get e2
  exact ⟨w, by rw [e1]; exact e3, vr⟩
theorem ix_seqs {K : PySem.W.Frag} {μ z : List Addr} {h : Mem} {H : Hp} {v : IV} {x : V} {i : Int} {Q : VK} (hr : HR K μ z h H) (v1 : VR K μ z H v x)
    (p : post K E μ z H (match seqOf h v with
      | some xs => (match atI xs i with
        | some y => .ok y h
        | none => .bad)
      | none => .bad) (VQ K z Q)) : rIx K x (.int i) H Q := by
  cases e1 : seqOf h v with
  | none => rw [e1] at p; exact p.elim
  | some xs =>
    rw [e1] at p
    simp only at p
    cases e2 : atI xs i with
    | none => rw [e2] at p; exact p.elim
    | some y =>
      rw [e2] at p
      obtain ⟨a, vs, ex, hq, r⟩ := seqOf_H hr v1 e1
      obtain ⟨w, e3, vr⟩ := atI_VRs r e2
      have q := p μ H Step.refl hr w vr
      rcases hq with hq | hq
      · exact .inl ⟨a, vs, i, w, ex, rfl, hq, e3, q⟩
      · exact .inr (.inl ⟨a, vs, i, w, ex, rfl, hq, e3, q⟩)
theorem rb_ix {K : PySem.W.Frag} : RB K (rIx K) ixF := by
  intro E μ z h H v u x y Q hr v1 v2 p
  cases v2 with
  | int i =>
    cases v1 with
    | str s =>
      have p2 : post K E μ z H (bif decide (s.length ≤ sizeLine) then (match atI s.cps.toList i with
        | some c => Ret.ok (IV.str ⟨#[c]⟩) h
        | none => .bad) else .bad) (VQ K z Q) := p
      rcases cond_dec (P := fun r => post K E μ z H r (VQ K z Q)) p2 with ⟨hl, p⟩ | ⟨hl, p⟩
      · cases e : atI s.cps.toList i with
        | none => rw [e] at p; exact p.elim
        | some c =>
          rw [e] at p
          exact .inr (.inr ⟨s, i, c, rfl, rfl, hl, e, p μ H Step.refl hr _ (.str _)⟩)
      · exact p.elim
    | tup hq r => exact ix_seqs (v := .tup _) hr (.tup hq r) p
    | fl hq n m r => exact ix_seqs (v := .fl _) hr (.fl hq n m r) p
    | fz hq r => exact ix_seqs (v := .fz _) hr (.fz hq r) p
    | loc hl => exact ix_seqs (v := .loc _) hr (.loc hl) p
    | non => exact ix_seqs (v := .non) hr .non p
    | bl b => exact ix_seqs (v := .bl b) hr (.bl b) p
    | int j => exact ix_seqs (v := .int j) hr (.int j) p
  | _ => exact p.elim
theorem r_ix (ha : PE X a (tD X.K E da)) (hb : PE X b (tD X.K E db)) (hs : PlainIx b := by exact fun _ _ => rfl) : PE X (.Subscript a b pos) (tD X.K E (dBin ixF da db)) := PE_imp (pe_ix ix_seq ha hb hs) (i_bin rb_ix)
end
end VI
end

section
/-! Built-ins, methods, slices, stores, over plain values. -/
namespace VI
open PySem PySem.Spec PyProof.Rows L2
section
variable {X : Cx} {E : XI} {e a b : Expr} {es : List Expr} {pos p : Pos} {da db dc : Den} {K : PySem.W.Frag}
/-! ### calls by name -/
theorem r_blt {id : String} {x : Str} {r : List V → Hp → VK → Prop} {f : List IV → Mem → Ret IV} {a : DenA} (hc : CallR X (.builtin id) r) (rb : RC X.K r f) (hg : Gl X x) (hm : X.mg x = none) (hv : bootBuiltins x = some (.builtin id)) (ha : PA X (e :: es) (tAr X.K E a)) (hn : x ≠ "__name__" := by decide) (hdb : (x == ("__debug__" : Str)) = false := by decide)
    (hs : starEach (e :: es) X.env = (false, eval e X.env) :: starEach es X.env := by rfl) (hpl : (backTo pos (starEach es X.env)).any (·.1) = false := by rfl) : PE X (.Call (.Name x p) (e :: es) [] pos) (tD X.K E (dArg f a)) := PE_imp (pe_callB hc hg hm hv ha hn hdb hs hpl) (i_arg rb)
theorem r_ty {T : String} {x : Str} {r : List V → Hp → VK → Prop} {f : List IV → Mem → Ret IV} {a : DenA} (hc : CallR X (.type T) r) (rb : RC X.K r f) (hg : Gl X x) (hm : X.mg x = none) (hv : bootBuiltins x = some (.type T)) (ha : PA X (e :: es) (tAr X.K E a)) (hn : x ≠ "__name__" := by decide) (hdb : (x == ("__debug__" : Str)) = false := by decide)
    (hs : starEach (e :: es) X.env = (false, eval e X.env) :: starEach es X.env := by rfl) (hpl : (backTo pos (starEach es X.env)).any (·.1) = false := by rfl) : PE X (.Call (.Name x p) (e :: es) [] pos) (tD X.K E (dArg f a)) := PE_imp (pe_callTy hc hg hm hv ha hn hdb hs hpl) (i_arg rb)
theorem r_bltF {id : String} {x : Str} {r : List V → Hp → VK → Prop} {f : List IV → Mem → Ret (List IV)} {a : DenA} (hc : CallR X (.builtin id) r) (rb : RCF X.K r f) (hg : Gl X x) (hm : X.mg x = none) (hv : bootBuiltins x = some (.builtin id)) (ha : PA X (e :: es) (tAr X.K E a)) (hn : x ≠ "__name__" := by decide) (hdb : (x == ("__debug__" : Str)) = false := by decide)
    (hs : starEach (e :: es) X.env = (false, eval e X.env) :: starEach es X.env := by rfl) (hpl : (backTo pos (starEach es X.env)).any (·.1) = false := by rfl) : PE X (.Call (.Name x p) (e :: es) [] pos) (tF X.K E (fArg f a)) := PE_imp (pe_callB hc hg hm hv ha hn hdb hs hpl) (i_argF rb)
theorem r_tyF {T : String} {x : Str} {r : List V → Hp → VK → Prop} {f : List IV → Mem → Ret (List IV)} {a : DenA} (hc : CallR X (.type T) r) (rb : RCF X.K r f) (hg : Gl X x) (hm : X.mg x = none) (hv : bootBuiltins x = some (.type T)) (ha : PA X (e :: es) (tAr X.K E a)) (hn : x ≠ "__name__" := by decide) (hdb : (x == ("__debug__" : Str)) = false := by decide)
    (hs : starEach (e :: es) X.env = (false, eval e X.env) :: starEach es X.env := by rfl) (hpl : (backTo pos (starEach es X.env)).any (·.1) = false := by rfl) : PE X (.Call (.Name x p) (e :: es) [] pos) (tF X.K E (fArg f a)) := PE_imp (pe_callTy hc hg hm hv ha hn hdb hs hpl) (i_argF rb)

/-! ### len, abs, max, min, int -/
def lenF : List IV → Mem → Ret IV := fun vs h => match vs with
  | [v] => (match v with
    | .str s => bif decide (s.length ≤ sizeLine) then .ok (.int s.length) h else .bad
    | v => match seqOf h v with
      | some xs => .ok (.int xs.length) h
      | none => .bad)
  | _ => .bad
def rLenA (K : PySem.W.Frag) : List V → Hp → VK → Prop := fun xs H Q => (∃ p ys, xs = [.ref p] ∧ (SqL K H p ys ∨ SqT K H p ys) ∧ Q (.int ys.length) H) ∨ (∃ z, xs = [.str z] ∧ z.length ≤ sizeLine ∧ Q (.int z.length) H)
theorem call_lenA : CallR X (.builtin "len") (rLenA X.K) := call_len_seq.or call_len_str
theorem rc_len : RC K (rLenA K) lenF := by
  intro E μ z h H vs xs Q hr vr p
  cases vr with
  | nil => exact p.elim
  | @cons v x vs xs v1 t =>
    cases t with
    | cons _ _ => exact p.elim
    | nil =>
      have seqs : post K E μ z H (match seqOf h v with
          | some xs => .ok (.int xs.length) h
          | none => .bad) (VQ K z Q) → rLenA K [x] H Q := fun p => by
        cases e1 : seqOf h v with
        | none => rw [e1] at p; exact p.elim
        | some ys =>
          rw [e1] at p
          obtain ⟨a, ws, ex, hq, r⟩ := seqOf_H hr v1 e1
          subst ex
          refine .inl ⟨a, ws, rfl, hq, ?_⟩
          rw [← r.length]
          exact p μ H Step.refl hr _ (.int _)
      cases v with
      | str s =>
        cases v1
        rcases cond_dec (P := fun r => post K E μ z H r (VQ K z Q)) (show post K E μ z H (bif decide (s.length ≤ sizeLine) then .ok (.int s.length) h else .bad) (VQ K z Q) from p) with ⟨hl, p⟩ | ⟨hl, p⟩
        · exact .inr ⟨s, rfl, hl, p μ H Step.refl hr _ (.int _)⟩
        · exact p.elim
      | non => exact seqs p
      | bl _ => exact seqs p
      | int _ => exact seqs p
      | tup _ => exact seqs p
      | fl _ => exact seqs p
      | fz _ => exact seqs p
      | loc _ => exact seqs p
/-- one int in, one int out -/
def int1F (g : Int → Int) : List IV → Mem → Ret IV := fun vs h => match vs with
  | [.int i] => .ok (.int (g i)) h
  | _ => .bad
def int2F (g : Int → Int → Int) : List IV → Mem → Ret IV := fun vs h => match vs with
  | [.int i, .int j] => .ok (.int (g i j)) h
  | _ => .bad
theorem rc_int1 {g : Int → Int} : RC K (fun xs H Q => ∃ i, xs = [.int i] ∧ Q (.int (g i)) H) (int1F g) := by
  intro E μ z h H vs xs Q hr vr p
  cases vr with
  | nil => exact p.elim
  | cons v1 t =>
    cases t with
    | nil =>
      cases v1 with
      | int i => exact ⟨i, rfl, p μ H Step.refl hr _ (.int _)⟩
      | _ => exact p.elim
    | cons _ _ => cases v1 <;> exact p.elim
theorem rc_int2 {g : Int → Int → Int} : RC K (fun xs H Q => ∃ i j, xs = [.int i, .int j] ∧ Q (.int (g i j)) H) (int2F g) := by
  intro E μ z h H vs xs Q hr vr p
  cases vr with
  | nil => exact p.elim
  | cons v1 t =>
    cases t with
    | nil => cases v1 <;> exact p.elim
    | cons v2 t =>
      cases t with
      | nil =>
        cases v1 with
        | int i =>
          cases v2 with
          | int j => exact ⟨i, j, rfl, p μ H Step.refl hr _ (.int _)⟩
          | _ => exact p.elim
        | _ => exact p.elim
      | cons _ _ => cases v1 <;> cases v2 <;> exact p.elim
def absF := int1F fun i => if i < 0 then -i else i
def maxF := int2F fun i j => if j > i then j else i
def minF := int2F fun i j => if j < i then j else i
theorem rc_abs : RC K (fun xs H Q => ∃ i, xs = [.int i] ∧ Q (.int (if i < 0 then -i else i)) H) absF := rc_int1
theorem rc_max : RC K (fun xs H Q => ∃ i j, xs = [.int i, .int j] ∧ Q (.int (if j > i then j else i)) H) maxF := rc_int2
theorem rc_min : RC K (fun xs H Q => ∃ i j, xs = [.int i, .int j] ∧ Q (.int (if j < i then j else i)) H) minF := rc_int2
def toIntF : List IV → Mem → Ret IV := fun vs h => match vs with
  | [.int i] => .ok (.int i) h
  | [.bl b] => .ok (.int (if b then 1 else 0)) h
  | _ => .bad
theorem rc_toInt : RC K (fun xs H Q => (∃ i, xs = [.int i] ∧ Q (.int i) H) ∨ ∃ k, xs = [.bl k] ∧ Q (.int (if k then 1 else 0)) H) toIntF := by
  intro E μ z h H vs xs Q hr vr p
  cases vr with
  | nil => exact p.elim
  | cons v1 t =>
    cases t with
    | nil =>
      cases v1 with
      | int i => exact .inl ⟨i, rfl, p μ H Step.refl hr _ (.int _)⟩
      | bl b => exact .inr ⟨b, rfl, p μ H Step.refl hr _ (.int _)⟩
      | _ => exact p.elim
    | cons _ _ => cases v1 <;> exact p.elim

/-! ### list, tuple, sum, sorted -/
def listF : List IV → Mem → Ret (List IV) := fun vs h => match vs with
  | [v] => match seqOf h v with
    | some xs => .ok xs h
    | none => .bad
  | _ => .bad
theorem rc_list : RCF K (fun xs H Q => ∃ p ys, xs = [.ref p] ∧ (SqL K H p ys ∨ SqT K H p ys) ∧ ∀ l, H l = none → Q (.ref l) (upd H l (.lst ys))) listF := by
  intro E μ z h H vs xs Q hr vr p
  cases vr with
  | nil => exact p.elim
  | @cons v x vs xs v1 t =>
    cases t with
    | cons _ _ => exact p.elim
    | nil =>
      unfold listF at p
      simp only at p
      cases e1 : seqOf h v with
      | none => rw [e1] at p; exact p.elim
      | some ys =>
        rw [e1] at p
        obtain ⟨a, ws, ex, hq, r⟩ := seqOf_H hr v1 e1
        subst ex
        exact ⟨a, ws, rfl, hq, p.fresh hr r⟩
def tupleF : List IV → Mem → Ret IV := fun vs h => match vs with
  | [v] => match seqOf h v with
    | some xs => .ok (.tup xs) h
    | none => .bad
  | _ => .bad
theorem rc_tuple : RC K (fun xs H Q => ∃ p ys, xs = [.ref p] ∧ ((SqL K H p ys ∧ ∀ l, H l = none → Q (.ref l) (upd H l (.tup ys))) ∨ (SqT K H p ys ∧ Q (.ref p) H))) tupleF := by
  intro E μ z h H vs xs Q hr vr p
  cases vr with
  | nil => exact p.elim
  | @cons v x vs xs v1 t =>
    cases t with
    | cons _ _ => exact p.elim
    | nil =>
      unfold tupleF at p
      simp only at p
      cases e1 : seqOf h v with
      | none => rw [e1] at p; exact p.elim
      | some ys =>
        rw [e1] at p
        obtain ⟨a, ws, ex, hq, r⟩ := seqOf_H hr v1 e1
        subst ex
        rcases hq with hq | hq
        · exact ⟨a, ws, rfl, .inl ⟨hq, tupQ p hr r⟩⟩
        · exact ⟨a, ws, rfl, .inr ⟨hq, p μ H Step.refl hr _ (.tup hq r)⟩⟩
def lsq (h : Mem) (v : IV) : Option (List IV) := match v with
  | .fz xs => some xs
  | v => lstOf h v
theorem lsq_H {μ z : List Addr} {H : Hp} {h : Mem} {v : IV} {x : V} {xs : List IV} (hr : HR K μ z h H) (vr : VR K μ z H v x) (e : lsq h v = some xs) : ∃ a vs, x = .ref a ∧ SqL K H a vs ∧ VRs K μ z H xs vs := by
  cases vr with
  | fz hq r =>
    have e' := Option.some.inj e
    subst e'
    exact ⟨_, _, rfl, SqL_KL hq, r⟩
  | fl hq n m r =>
    obtain ⟨a, vs, e1, e2, e3⟩ := lstOf_H (v := .fl _) hr (.fl hq n m r) e
    exact ⟨a, vs, e1, SqL.of e2, e3⟩
  | loc hl =>
    obtain ⟨a, vs, e1, e2, e3⟩ := lstOf_H (v := .loc _) hr (.loc hl) e
    exact ⟨a, vs, e1, SqL.of e2, e3⟩
  | _ => cases e
def asI : IV → Option Int
  | .int i => some i
  | _ => none
def asB : IV → Option Bool
  | .bl i => some i
  | _ => none
theorem ints_of : ∀ {xs : List IV} {ns : List Int}, allS (xs.map asI) = some ns → xs = ns.map IV.int
  | [], ns, e => by
    have e' := Option.some.inj e
    subst e'
    rfl
  | v :: xs, ns, e => by
    cases v with
    | int i =>
      rw [List.map_cons, show asI (.int i) = some i from rfl] at e
      unfold allS at e
      cases e1 : allS (xs.map asI) with
      | none => rw [e1] at e; cases e
      | some ms =>
        rw [e1] at e
        have e' := Option.some.inj e
        subst e'
        rw [ints_of e1]
        rfl
    | _ => cases e
theorem bls_of : ∀ {xs : List IV} {ns : List Bool}, allS (xs.map asB) = some ns → xs = ns.map IV.bl
  | [], ns, e => by
    have e' := Option.some.inj e
    subst e'
    rfl
  | v :: xs, ns, e => by
    cases v with
    | bl i =>
      rw [List.map_cons, show asB (.bl i) = some i from rfl] at e
      unfold allS at e
      cases e1 : allS (xs.map asB) with
      | none => rw [e1] at e; cases e
      | some ms =>
        rw [e1] at e
        have e' := Option.some.inj e
        subst e'
        rw [bls_of e1]
        rfl
    | _ => cases e
/-- of a list of ints -/
def intsF (g : List Int → IV) : List IV → Mem → Ret IV := fun vs h => match vs with
  | [v] => match (lsq h v).bind fun xs => allS (xs.map asI) with
    | some ns => .ok (g ns) h
    | none => .bad
  | _ => .bad
theorem ints_at {μ z : List Addr} {H : Hp} {h : Mem} {v : IV} {x : V} {ns : List Int} (hr : HR K μ z h H) (vr : VR K μ z H v x) (e : ((lsq h v).bind fun xs => allS (xs.map asI)) = some ns) : ∃ a, x = .ref a ∧ SqL K H a (ns.map V.int) := by
  obtain ⟨xs, e1, e2⟩ := Option.bind_eq_some_iff.mp e
  obtain ⟨a, ws, ex, hq, r⟩ := lsq_H hr vr e1
  rw [ints_of e2] at r
  rw [r.ints] at hq
  exact ⟨a, ex, hq⟩
def sumF := intsF fun ns => .int ns.sum
theorem rc_sum : RC K (rSum K) sumF := by
  intro E μ z h H vs xs Q hr vr p
  cases vr with
  | nil => exact p.elim
  | @cons v x vs xs v1 t =>
    cases t with
    | cons _ _ => exact p.elim
    | nil =>
      unfold sumF intsF at p
      simp only at p
      cases e1 : (lsq h v).bind fun xs => allS (xs.map asI) with
      | none => rw [e1] at p; exact p.elim
      | some ns =>
        rw [e1] at p
        obtain ⟨a, ex, hq⟩ := ints_at hr v1 e1
        subst ex
        exact ⟨a, ns, rfl, hq, p μ H Step.refl hr _ (.int _)⟩
/-- the ints in their order -/
def ins (x : Int) : List Int → List Int
  | [] => [x]
  | y :: r => if x ≤ y then x :: y :: r else y :: ins x r
def isort : List Int → List Int
  | [] => []
  | x :: r => ins x (isort r)
theorem ins_perm (x : Int) : ∀ l : List Int, (ins x l).Perm (x :: l)
  | [] => .refl _
  | y :: r => by
    unfold ins
    split
    · exact .refl _
    · exact ((ins_perm x r).cons y).trans (.swap x y r)
theorem isort_perm : ∀ l : List Int, (isort l).Perm l
  | [] => .refl _
  | x :: r => (ins_perm x (isort r)).trans ((isort_perm r).cons x)
theorem ins_mem {x y : Int} {l : List Int} (h : y ∈ ins x l) : y = x ∨ y ∈ l := by
  have := (ins_perm x l).mem_iff.mp h
  exact List.mem_cons.mp this
theorem ins_sorted (x : Int) : ∀ l : List Int, l.Pairwise (· ≤ ·) → (ins x l).Pairwise (· ≤ ·)
  | [], _ => List.pairwise_singleton _ _
  | y :: r, h => by
    unfold ins
    split
    · rename_i hxy
      refine List.pairwise_cons.mpr ⟨fun w hw => ?_, h⟩
      rcases List.mem_cons.mp hw with e | e
      · rw [e]; exact hxy
      · exact Int.le_trans hxy ((List.pairwise_cons.mp h).1 w e)
    · rename_i hxy
      refine List.pairwise_cons.mpr ⟨fun w hw => ?_, ins_sorted x r (List.pairwise_cons.mp h).2⟩
      rcases ins_mem hw with e | e
      · rw [e]; omega
      · exact (List.pairwise_cons.mp h).1 w e
theorem isort_sorted : ∀ l : List Int, (isort l).Pairwise (· ≤ ·)
  | [] => .nil
  | x :: r => ins_sorted x _ (isort_sorted r)
theorem sorted_one : ∀ {l m : List Int}, l.Perm m → l.Pairwise (· ≤ ·) → m.Pairwise (· ≤ ·) → l = m
  | [], m, p, _, _ => by rw [List.nil_perm.mp p]
  | x :: l, [], p, _, _ => by cases List.perm_nil.mp p
  | x :: l, y :: m, p, h1, h2 => by
    have hx : x ∈ y :: m := p.mem_iff.mp List.mem_cons_self
    have hy : y ∈ x :: l := p.mem_iff.mpr List.mem_cons_self
    have e : x = y := by
      rcases List.mem_cons.mp hx with e | hx
      · exact e
      · rcases List.mem_cons.mp hy with e | hy
        · exact e.symm
        · have a1 := (List.pairwise_cons.mp h2).1 x hx
          have a2 := (List.pairwise_cons.mp h1).1 y hy
          omega
    subst e
    rw [sorted_one (List.Perm.cons_inv p) (List.pairwise_cons.mp h1).2 (List.pairwise_cons.mp h2).2]
def sortF : List IV → Mem → Ret (List IV) := fun vs h => match vs with
  | [v] => match (lsq h v).bind fun xs => allS (xs.map asI) with
    | some ns => .ok ((isort ns).map .int) h
    | none => .bad
  | _ => .bad
theorem rc_sort : RCF K (rSortedI K) sortF := by
  intro E μ z h H vs xs Q hr vr p
  cases vr with
  | nil => exact p.elim
  | @cons v x vs xs v1 t =>
    cases t with
    | cons _ _ => exact p.elim
    | nil =>
      unfold sortF at p
      simp only at p
      cases e1 : (lsq h v).bind fun xs => allS (xs.map asI) with
      | none => rw [e1] at p; exact p.elim
      | some ns =>
        rw [e1] at p
        obtain ⟨a, ex, hq⟩ := ints_at hr v1 e1
        subst ex
        refine ⟨a, ns, rfl, hq, fun ns' q pm so nq => ?_⟩
        have e : ns' = isort ns := sorted_one (pm.trans (isort_perm ns).symm) so (isort_sorted ns)
        rw [e]
        exact p.fresh hr (VRs.ofInts _) q nq
/-- list(range(a)), list(range(a, b)) -/
def fRg1 (d : Den) : DenA := fun ρ h => (d ρ h).bind fun v h1 => match v with
  | .int j => bif okR j && decide (j.toNat ≤ 16777216) then .ok (rgI 0 j) h1 else .bad
  | _ => .bad
def fRg2 (d d2 : Den) : DenA := fun ρ h => (d ρ h).bind fun v h1 => (d2 ρ h1).bind fun u h2 => match v, u with
  | .int i, .int j => bif okR i && okR j && decide ((j - i).toNat ≤ 16777216) then .ok (rgI i j) h2 else .bad
  | _, _ => .bad
theorem rgI_rel {μ z : List Addr} {H : Hp} (i j : Int) : VRs K μ z H (rgI i j) (rgV i j) := by
  have e1 : rgI i j = ((List.range (j - i).toNat).map fun k => i + (k : Nat)).map IV.int := by
    unfold rgI
    rw [List.map_map]
    rfl
  have e2 : rgV i j = ((List.range (j - i).toNat).map fun k => i + (k : Nat)).map V.int := by
    unfold rgV
    rw [List.map_map]
    rfl
  rw [e1, e2]
  exact VRs.ofInts _
theorem r_listRg1 {p2 pos2 : Pos} (hc : X.calm = true) (hg : Gl X "list") (hm : X.mg "list" = none) (hg2 : Gl X "range") (hm2 : X.mg "range" = none) (ha : PE X a (tD X.K E da)) (na : starEach [a] X.env = (false, eval a X.env) :: starEach [] X.env := by rfl)
    (na2 : starEach [.Call (.Name "range" p2) [a] [] pos2] X.env = (false, eval (.Call (.Name "range" p2) [a] [] pos2) X.env) :: starEach [] X.env := by rfl) : PE X (.Call (.Name "list" p) [.Call (.Name "range" p2) [a] [] pos2] [] pos) (tF X.K E (fRg1 da)) := PE_imp (pe_listRg hc hg hm (prg_1 hg2 hm2 ha na) na2) (by
  rintro σ H Q ⟨μ, z, h, ρ, hr, er, p⟩
  refine tD_of hr er p.bind fun μ1 h1 H1 v w s1 hr1 p1 vr1 => ?_
  cases vr1 with
  | int j =>
    refine ⟨j, rfl, ?_⟩
    have p2 : postF X.K E μ1 z H1 (bif okR j && decide (j.toNat ≤ 16777216) then .ok (rgI 0 j) h1 else .bad) Q := p1
    cases ec : okR j && decide (j.toNat ≤ 16777216) with
    | false => simp only [ec, cond_false] at p2; exact p2.elim
    | true =>
      simp only [ec, cond_true] at p2
      rw [Bool.and_eq_true, decide_eq_true_eq] at ec
      exact ⟨⟨by omega, by omega, (okR_of ec.1).1, (okR_of ec.1).2, by rw [Int.sub_zero]; exact ec.2⟩, p2.fresh hr1 (rgI_rel 0 j)⟩
  | _ => exact p1.elim)
theorem r_listRg2 {p2 pos2 : Pos} (hc : X.calm = true) (hg : Gl X "list") (hm : X.mg "list" = none) (hg2 : Gl X "range") (hm2 : X.mg "range" = none) (ha : PE X a (tD X.K E da)) (hb : PE X b (tD X.K E db)) (na : starEach [a, b] X.env = (false, eval a X.env) :: starEach [b] X.env := by rfl) (nb : starEach [b] X.env = (false, eval b X.env) :: starEach [] X.env := by rfl)
    (hpl : (backTo pos2 (starEach [b] X.env)).any (·.1) = false := by rfl)
    (na2 : starEach [.Call (.Name "range" p2) [a, b] [] pos2] X.env = (false, eval (.Call (.Name "range" p2) [a, b] [] pos2) X.env) :: starEach [] X.env := by rfl) : PE X (.Call (.Name "list" p) [.Call (.Name "range" p2) [a, b] [] pos2] [] pos) (tF X.K E (fRg2 da db)) := PE_imp (pe_listRg hc hg hm (prg_2 hg2 hm2 ha hb na nb hpl) na2) (by
  rintro σ H Q ⟨μ, z, h, ρ, hr, er, p⟩
  refine tD_of hr er p.bind fun μ1 h1 H1 v w s1 hr1 p1 vr1 => ?_
  refine tD_of hr1 (er.step s1) p1.bind fun μ2 h2 H2 u y s2 hr2 p2 vr2 => ?_
  cases vr1 with
  | int i =>
    cases vr2 with
    | int j =>
      refine ⟨i, j, rfl, rfl, ?_⟩
      have p3 : postF X.K E μ2 z H2 (bif okR i && okR j && decide ((j - i).toNat ≤ 16777216) then .ok (rgI i j) h2 else .bad) Q := p2
      cases ec : okR i && okR j && decide ((j - i).toNat ≤ 16777216) with
      | false => simp only [ec, cond_false] at p3; exact p3.elim
      | true =>
        simp only [ec, cond_true] at p3
        rw [Bool.and_eq_true, Bool.and_eq_true, decide_eq_true_eq] at ec
        exact ⟨⟨(okR_of ec.1.1).1, (okR_of ec.1.1).2, (okR_of ec.1.2).1, (okR_of ec.1.2).2, ec.2⟩, p3.fresh hr2 (rgI_rel i j)⟩
    | _ => exact p2.elim
  | _ => cases vr2 <;> exact p2.elim)

/-! ### [..] * n, slices -/
def fRep (d d2 : Den) : DenA := fun ρ h => (d ρ h).bind fun v h1 => (d2 ρ h1).bind fun u h2 => match u with
  | .int k => (match lstOf h2 v with
    | some xs => bif decide (-9223372036854775808 ≤ k) && decide (k < 9223372036854775808) && decide (xs.length * k.toNat ≤ sizeLine) then .ok (List.replicate k.toNat xs).flatten h2 else .bad
    | none => .bad)
  | _ => .bad
theorem r_rep (ha : PE X a (tD X.K E da)) (hb : PE X b (tD X.K E db)) : PE X (.BinOp a .Mult b pos) (tF X.K E (fRep da db)) := PE_imp (pe_op op_rep ha hb) (by
  rintro σ H Q ⟨μ, z, h, ρ, hr, er, p⟩
  refine tD_of hr er p.bind fun μ1 h1 H1 v w s1 hr1 p1 vr1 => ?_
  refine tD_of hr1 (er.step s1) p1.bind fun μ2 h2 H2 u y s2 hr2 p2 vr2 => ?_
  cases vr2 with
  | int k =>
    simp only at p2
    cases e1 : lstOf h2 v with
    | none => rw [e1] at p2; exact p2.elim
    | some xs =>
      rw [e1] at p2
      simp only at p2
      cases ec : decide (-9223372036854775808 ≤ k) && decide (k < 9223372036854775808) && decide (xs.length * k.toNat ≤ sizeLine) with
      | false => simp only [ec, cond_false] at p2; exact p2.elim
      | true =>
        simp only [ec, cond_true] at p2
        rw [Bool.and_eq_true, Bool.and_eq_true, decide_eq_true_eq, decide_eq_true_eq, decide_eq_true_eq] at ec
        obtain ⟨l, vs, ex, hl, r⟩ := lstOf_H hr2 (vr1.step s2) e1
        exact ⟨l, k, vs, ex, rfl, hl, by omega, by omega, by rw [← r.length]; exact ec.2, p2.fresh hr2 (r.rep _)⟩
  | _ => exact p2.elim)
/-- a part of a slice -/
abbrev DenO := Sl → Mem → Ret (Option Int)
def tOr' (K : PySem.W.Frag) (E : XI) (d : DenO) : TO := fun σ H Q => ∃ μ z h ρ, HR K μ z h H ∧ ER K μ z H ρ σ ∧ post K E μ z H (d ρ h) fun _ _ H' o => Q o H'
theorem PO_imp {o : Option Expr} {t t' : TO} (h : PO X o t) (i : ∀ σ H Q, t' σ H Q → t σ H Q) : PO X o t' := ⟨fun pins s σ H Q I q => h.run pins s σ H Q I (i σ H Q q)⟩
def oNone : DenO := fun _ h => .ok none h
def oSome (d : Den) : DenO := fun ρ h => (d ρ h).bind fun v h1 => match v with
  | .int i => .ok (some i) h1
  | _ => .bad
theorem r_oNone : PO X none (tOr' X.K E oNone) := PO_imp po_none fun σ H Q ⟨μ, z, h, ρ, hr, er, p⟩ => p μ H Step.refl hr
theorem r_oSome (ha : PE X a (tD X.K E da)) : PO X (some a) (tOr' X.K E (oSome da)) := PO_imp (po_some ha) (by
  rintro σ H Q ⟨μ, z, h, ρ, hr, er, p⟩
  refine tD_of hr er p.bind fun μ1 h1 H1 v w s1 hr1 p1 vr1 => ?_
  cases vr1 with
  | int i => exact ⟨i, rfl, p1 μ1 H1 Step.refl hr1⟩
  | _ => exact p1.elim)
def cutI (xs : List IV) (lo hi : Option Int) : List IV := (xs.drop (HT.sIx xs.length 0 lo)).take (HT.sIx xs.length xs.length hi - HT.sIx xs.length 0 lo)
theorem cut_rel {μ z : List Addr} {H : Hp} {xs : List IV} {vs : List V} (r : VRs K μ z H xs vs) (lo hi : Option Int) : VRs K μ z H (cutI xs lo hi) (cutV vs lo hi) := by
  unfold cutI cutV
  rw [r.length]
  exact (r.drop _).take _
def fCut (d : Den) (lo hi : DenO) : DenA := fun ρ h => (d ρ h).bind fun v h1 => (lo ρ h1).bind fun l h2 => (hi ρ h2).bind fun u h3 => match lsq h3 v with
  | some xs => .ok (cutI xs l u) h3
  | none => .bad
def dCutT (d : Den) (lo hi : DenO) : Den := fun ρ h => (d ρ h).bind fun v h1 => (lo ρ h1).bind fun l h2 => (hi ρ h2).bind fun u h3 => match v with
  | .tup xs => .ok (.tup (cutI xs l u)) h3
  | _ => .bad
theorem r_cutL {lo hi : Option Expr} {dl dh : DenO} {p2 : Pos} (ha : PE X a (tD X.K E da)) (hl : PO X lo (tOr' X.K E dl)) (hh : PO X hi (tOr' X.K E dh)) : PE X (.Subscript a (.Slice lo hi none p2) pos) (tF X.K E (fCut da dl dh)) := PE_imp (pe_slice sl_list ha hl hh) (by
  rintro σ H Q ⟨μ, z, h, ρ, hr, er, p⟩
  refine tD_of hr er p.bind fun μ1 h1 H1 v w s1 hr1 p1 vr1 => ?_
  refine ⟨μ1, z, h1, ρ, hr1, er.step s1, p1.bind.mono fun μ2 h2 H2 l s2 hr2 p2 => ?_⟩
  refine ⟨μ2, z, h2, ρ, hr2, (er.step s1).step s2, p2.bind.mono fun μ3 h3 H3 u s3 hr3 p3 => ?_⟩
  cases e1 : lsq h3 v with
  | none => rw [e1] at p3; exact p3.elim
  | some xs =>
    rw [e1] at p3
    obtain ⟨a, vs, ex, hq, r⟩ := lsq_H hr3 ((vr1.step s2).step s3) e1
    exact ⟨a, vs, ex, hq, p3.fresh hr3 (cut_rel r l u)⟩)
theorem r_cutT {lo hi : Option Expr} {dl dh : DenO} {p2 : Pos} (ha : PE X a (tD X.K E da)) (hl : PO X lo (tOr' X.K E dl)) (hh : PO X hi (tOr' X.K E dh)) : PE X (.Subscript a (.Slice lo hi none p2) pos) (tD X.K E (dCutT da dl dh)) := PE_imp (pe_slice sl_tupA ha hl hh) (by
  rintro σ H Q ⟨μ, z, h, ρ, hr, er, p⟩
  refine tD_of hr er p.bind fun μ1 h1 H1 v w s1 hr1 p1 vr1 => ?_
  refine ⟨μ1, z, h1, ρ, hr1, er.step s1, p1.bind.mono fun μ2 h2 H2 l s2 hr2 p2 => ?_⟩
  refine ⟨μ2, z, h2, ρ, hr2, (er.step s1).step s2, p2.bind.mono fun μ3 h3 H3 u s3 hr3 p3 => ?_⟩
  have vr3 := (vr1.step s2).step s3
  cases vr3 with
  | @tup a xs vs hq r =>
    refine ⟨a, vs, rfl, hq, fun e => ?_, fun _ => tupQ p3 hr3 (cut_rel r l u)⟩
    have ec : cutI xs l u = xs := by
      unfold cutI
      rw [r.length, e.1, e.2, List.drop_zero, Nat.sub_zero, ← r.length, List.take_length]
    have p4 : post X.K E μ3 z H3 (.ok (.tup (cutI xs l u)) h3) (VQ X.K z Q) := p3
    rw [ec] at p4
    exact p4 μ3 H3 Step.refl hr3 _ (.tup hq r)
  | _ => exact p3.elim)
def fRev (d : Den) : DenA := fun ρ h => (d ρ h).bind fun v h1 => match lsq h1 v with
  | some xs => .ok xs.reverse h1
  | none => .bad
theorem r_rev {k : Nat} {p1 p2 p3 : Pos} (ha : PE X a (tD X.K E da)) : PE X (.Subscript a (.Slice none none (some (.UnaryOp .USub (.Constant (.int 1) k p1) p2)) p3) pos) (tF X.K E (fRev da)) := PE_imp (pe_revL ha) (by
  rintro σ H Q ⟨μ, z, h, ρ, hr, er, p⟩
  refine tD_of hr er p.bind fun μ1 h1 H1 v w s1 hr1 p1 vr1 => ?_
  cases e1 : lsq h1 v with
  | none => rw [e1] at p1; exact p1.elim
  | some xs =>
    rw [e1] at p1
    obtain ⟨a, vs, ex, hq, r⟩ := lsq_H hr1 vr1 e1
    exact ⟨a, vs, ex, hq, p1.fresh hr1 r.rev⟩)

/-! ### methods of lists -/
def RM (K : PySem.W.Frag) (r : V → List V → Hp → VK → Prop) (f : IV → List IV → Mem → Ret IV) : Prop := ∀ (E : XI) (μ z : List Addr) (h : Mem) (H : Hp) (v : IV) (vs : List IV) (x : V) (xs : List V) (Q : VK), HR K μ z h H → VR K μ z H v x → VRs K μ z H vs xs → post K E μ z H (f v vs h) (VQ K z Q) → r x xs H Q
def isL (h : Mem) (v : IV) : Bool := (lstOf h v).isSome
def dML (f : IV → List IV → Mem → Ret IV) (d : Den) (a : DenA) : Den := fun ρ h => (d ρ h).bind fun v h1 => bif isL h1 v then (a ρ h1).bind fun vs h2 => f v vs h2 else .bad
theorem isL_ty {μ z : List Addr} {H : Hp} {h : Mem} {v : IV} {x : V} (hr : HR K μ z h H) (vr : VR K μ z H v x) (e : isL h v = true) : tyV K "list" x H := by
  unfold isL at e
  obtain ⟨xs, e1⟩ := Option.isSome_iff_exists.mp e
  obtain ⟨a, vs, ex, hq, r⟩ := lstOf_H hr vr e1
  subst ex
  exact .inl ⟨rfl, vs, SqL.of hq⟩
theorem i_ml {r : V → List V → Hp → VK → Prop} {f : IV → List IV → Mem → Ret IV} {d : Den} {a : DenA} (rb : RM K r f) : ∀ (σ : L2.St) (H : Hp) (Q : VK), tD K E (dML f d a) σ H Q → tBM K "list" r (tD K E d) (tAr K E a) σ H Q := by
  rintro σ H Q ⟨μ, z, h, ρ, hr, er, p⟩
  refine tD_of hr er p.bind fun μ1 h1 H1 v w s1 hr1 p1 vr1 => ?_
  cases e1 : isL h1 v with
  | false => simp only [e1, cond_false] at p1; exact p1.elim
  | true =>
    simp only [e1, cond_true] at p1
    refine ⟨isL_ty hr1 vr1 e1, μ1, z, h1, ρ, hr1, er.step s1, p1.bind.mono fun μ2 h2 H2 vs s2 hr2 p2 ws vr2 => ?_⟩
    exact rb E μ2 z h2 H2 v vs w ws Q hr2 (vr1.step s2) vr2 p2
theorem i_ml0 {r : V → List V → Hp → VK → Prop} {f : IV → List IV → Mem → Ret IV} {d : Den} (rb : RM K r f) : ∀ (σ : L2.St) (H : Hp) (Q : VK), tD K E (dML f d aNil) σ H Q → tBM0 K "list" r (tD K E d) σ H Q := by
  rintro σ H Q ⟨μ, z, h, ρ, hr, er, p⟩
  refine tD_of hr er p.bind fun μ1 h1 H1 v w s1 hr1 p1 vr1 => ?_
  cases e1 : isL h1 v with
  | false => simp only [e1, cond_false] at p1; exact p1.elim
  | true =>
    simp only [e1, cond_true] at p1
    exact ⟨isL_ty hr1 vr1 e1, rb E μ1 z h1 H1 v [] w [] Q hr1 vr1 .nil p1⟩
/-- the list at a place becomes another -/
theorem putL {μ z : List Addr} {H : Hp} {h : Mem} {l : Nat} {a : Addr} {vs ws : List V} {xs : List IV} (hr : HR K μ z h H) (hl : μ[l]? = some a) (ha : H a = some (.lst vs)) (r : VRs K μ z H xs ws) :
    Step μ H μ (upd H a (.lst ws)) ∧ HR K μ z (h.set l (.lst xs)) (upd H a (.lst ws)) := by
  have s : Step μ H μ (upd H a (.lst ws)) := Step.put hr hl ha (fun i => i)
  exact ⟨s, hr.put hl s (.lst (r.step s))⟩
theorem at_lst {μ z : List Addr} {H : Hp} {h : Mem} {l : Nat} {a : Addr} {xs : List IV} (hr : HR K μ z h H) (hl : μ[l]? = some a) (e : h[l]? = some (.lst xs)) : ∃ vs, H a = some (.lst vs) ∧ VRs K μ z H xs vs := by
  obtain ⟨u, e3, r⟩ := hr.ob _ _ _ hl e
  cases r with
  | lst r => exact ⟨_, e3, r⟩
def appF : IV → List IV → Mem → Ret IV := fun v vs h => match v, vs with
  | .loc l, [y] => (match h[l]? with
    | some (.lst xs) => bif decide (xs.length < sizeLine) then .ok .non (h.set l (.lst (xs ++ [y]))) else .bad
    | _ => .bad)
  | _, _ => .bad
theorem rm_app : RM K rAppend appF := by
  intro E μ z h H v vs x xs Q hr vr rs p
  cases vr with
  | @loc a l hl =>
    cases rs with
    | nil => exact p.elim
    | @cons y w ys ws r1 t =>
      cases t with
      | cons _ _ => exact p.elim
      | nil =>
        unfold appF at p
        simp only at p
        cases eo : h[l]? with
        | none => rw [eo] at p; exact p.elim
        | some o =>
          cases o with
          | dK _ => rw [eo] at p; exact p.elim
          | oth _ => rw [eo] at p; exact p.elim
          | lst zs =>
            rw [eo] at p
            simp only at p
            rcases cond_dec (P := fun r => post K E μ z H r (VQ K z Q)) p with ⟨hlt, p⟩ | ⟨_, p⟩
            · obtain ⟨us, e3, r⟩ := at_lst hr hl eo
              obtain ⟨st, hr'⟩ := putL hr hl e3 (r.append (.cons r1 .nil))
              exact ⟨a, us, w, rfl, rfl, e3, by rw [← r.length]; exact hlt, p μ _ st hr' _ .non⟩
            · exact p.elim
  | _ => exact p.elim
def popF : IV → List IV → Mem → Ret IV := fun v vs h => match v, vs with
  | .loc l, [] => (match h[l]? with
    | some (.lst xs) => (match xs[xs.length - 1]? with
      | some y => .ok y (h.set l (.lst xs.dropLast))
      | none => .bad)
    | _ => .bad)
  | _, _ => .bad
theorem rm_pop : RM K rPop popF := by
  intro E μ z h H v vs x xs Q hr vr rs p
  cases vr with
  | @loc a l hl =>
    cases rs with
    | cons _ _ => exact p.elim
    | nil =>
      unfold popF at p
      simp only at p
      cases eo : h[l]? with
      | none => rw [eo] at p; exact p.elim
      | some o =>
        cases o with
        | dK _ => rw [eo] at p; exact p.elim
        | oth _ => rw [eo] at p; exact p.elim
        | lst zs =>
          rw [eo] at p
          simp only at p
          cases ey : zs[zs.length - 1]? with
          | none => rw [ey] at p; exact p.elim
          | some y =>
            rw [ey] at p
            obtain ⟨us, e3, r⟩ := at_lst hr hl eo
            obtain ⟨st, hr'⟩ := putL hr hl e3 r.last
            obtain ⟨w, e4, vr⟩ := r.get ey
            exact ⟨a, us, w, rfl, rfl, e3, by rw [← r.length]; exact e4, p μ _ st hr' _ (vr.step st)⟩
  | _ => exact p.elim
def popAtF : IV → List IV → Mem → Ret IV := fun v vs h => match v, vs with
  | .loc l, [.int i] => (match h[l]? with
    | some (.lst xs) => (match ixN xs.length i with
      | some k => bif decide (-9223372036854775808 ≤ i) && decide (i < 9223372036854775808) then (match xs[k]? with
        | some y => .ok y (h.set l (.lst (xs.eraseIdx k)))
        | none => .bad) else .bad
      | none => .bad)
    | _ => .bad)
  | _, _ => .bad
theorem rm_popAt : RM K rPopAt popAtF := by
  intro E μ z h H v vs x xs Q hr vr rs p
  cases vr with
  | @loc a l hl =>
    cases rs with
    | nil => exact p.elim
    | cons r1 t =>
      cases t with
      | cons _ _ => cases r1 <;> exact p.elim
      | nil =>
        cases r1 with
        | int i =>
          unfold popAtF at p
          simp only at p
          cases eo : h[l]? with
          | none => rw [eo] at p; exact p.elim
          | some o =>
            cases o with
            | dK _ => rw [eo] at p; exact p.elim
            | oth _ => rw [eo] at p; exact p.elim
            | lst zs =>
              rw [eo] at p
              simp only at p
              cases ek : ixN zs.length i with
              | none => rw [ek] at p; exact p.elim
              | some k =>
                rw [ek] at p
                simp only at p
                cases ec : decide (-9223372036854775808 ≤ i) && decide (i < 9223372036854775808) with
                | false => simp only [ec, cond_false] at p; exact p.elim
                | true =>
                  simp only [ec, cond_true] at p
                  rw [Bool.and_eq_true, decide_eq_true_eq, decide_eq_true_eq] at ec
                  cases ey : zs[k]? with
                  | none => rw [ey] at p; exact p.elim
                  | some y =>
                    rw [ey] at p
                    obtain ⟨us, e3, r⟩ := at_lst hr hl eo
                    obtain ⟨st, hr'⟩ := putL hr hl e3 (r.erase k)
                    obtain ⟨w, e4, vr⟩ := r.get ey
                    exact ⟨a, us, i, k, w, rfl, rfl, e3, by omega, by omega, by rw [← r.length]; exact (ixN_seq ek).1, e4, p μ _ st hr' _ (vr.step st)⟩
        | _ => exact p.elim
  | _ => exact p.elim

/-! ### stores -/
/-- o[i] = e, by values: the list's, the dict's -/
def putF : IV → IV → IV → Mem → Ret Unit := fun o i v h => match o, i with
  | .loc l, .int k => (match h[l]? with
    | some (.lst xs) => (match ixN xs.length k with
      | some j => .ok () (h.set l (.lst (xs.set j v)))
      | none => .bad)
    | _ => .bad)
  | _, _ => .bad
theorem put_list {E : XI} {μ z : List Addr} {H : Hp} {h : Mem} {o i v : IV} {x y w : V} {Q : Hp → Prop} (hr : HR K μ z h H) (v1 : VR K μ z H o x) (v2 : VR K μ z H i y) (v3 : VR K μ z H v w) (p : post K E μ z H (putF o i v h) fun _ _ H' _ => Q H') : rSetL x y w H Q := by
  cases v1 with
  | @loc a l hl =>
    cases v2 with
    | int k =>
      unfold putF at p
      simp only at p
      cases eo : h[l]? with
      | none => rw [eo] at p; exact p.elim
      | some o =>
        cases o with
        | dK _ => rw [eo] at p; exact p.elim
        | oth _ => rw [eo] at p; exact p.elim
        | lst zs =>
          rw [eo] at p
          simp only at p
          cases ek : ixN zs.length k with
          | none => rw [ek] at p; exact p.elim
          | some j =>
            rw [ek] at p
            obtain ⟨us, e3, r⟩ := at_lst hr hl eo
            obtain ⟨st, hr'⟩ := putL hr hl e3 (r.set v3 j)
            exact ⟨a, us, k, j, rfl, rfl, e3, by rw [← r.length]; exact ek, p μ _ st hr'⟩
    | _ => exact p.elim
  | _ => cases v2 <;> exact p.elim
def sPut (d di de : Den) : DenS := fun ρ h => (de ρ h).bind fun v h1 => (d ρ h1).bind fun o h2 => (di ρ h2).bind fun i h3 => (putF o i v h3).bind fun _ h4 => .ok (.nx, ρ) h4
theorem r_put {tpos : Pos} (ho : PE X a (tD X.K E da)) (hi : PE X b (tD X.K E db)) (he : PE X e (tD X.K E dc)) (ha : ∀ v, assign (.Subscript a b tpos) X.env v = (do
      let ov ← holding [v] (eval a X.env)
      let iv ← holding [v, ov] (eval b X.env)
      standAt tpos
      holding [v, ov, iv] (setItem ov iv v)
      release [v, ov, iv] []) := by intro _; rfl)
    (hs : swapsWithSole [.Subscript a b tpos] e pos.line X.env = pure false := by rfl) (hw : swappedStores [.Subscript a b tpos] e X.env = pure none := by rfl) (h1 : (assignEach [.Subscript a b tpos] X.env).map (·.2) = [assign (.Subscript a b tpos) X.env] := by rfl) :
    PS X (.Assign [.Subscript a b tpos] e pos) (tS X.K E (sPut da db dc)) := PS_imp (ps_asg he (pg_sub ho hi set_list ha) hs hw h1) (by
  rintro D σ H ⟨μ, z, h, ρ, hr, er, p⟩
  refine tD_of hr er p.bind fun μ1 h1 H1 v w s1 hr1 p1 vr1 => ?_
  refine tD_of hr1 (er.step s1) p1.bind fun μ2 h2 H2 o x s2 hr2 p2 vr2 => ?_
  refine tD_of hr2 ((er.step s1).step s2) p2.bind fun μ3 h3 H3 i y s3 hr3 p3 vr3 => ?_
  exact put_list hr3 (vr2.step s3) vr3 ((vr1.step s2).step s3) (p3.bind.mono fun μ4 h4 H4 _ s4 hr4 p4 => p4 μ4 H4 Step.refl hr4 σ ((((er.step s1).step s2).step s3).step s4) hr4))
/-- an item of a list that changes -/
def rGetL : V → V → Hp → VK → Prop := fun x y H Q => ∃ p xs i v, x = .ref p ∧ y = .int i ∧ H p = some (.lst xs) ∧ 0 ≤ i ∧ atI xs i = some v ∧ Q v H
theorem get_list : PGet X rGetL := by
  intro pins s σ H o i ov iv Q I ro ri q
  obtain ⟨q0, xs, k, v, rfl, rfl, hl, h0, he, q⟩ := q
  cases ro
  obtain ⟨t, rfl⟩ := ri
  obtain ⟨its, r, pl, hz⟩ := I.list (SqL.of hl)
  obtain ⟨j, h1, h2, h3, h4, h5⟩ := atI_get he
  obtain ⟨w, ew, rw'⟩ := r.get h2
  have hn := line63
  have hj : k.toNat = j := by
    rw [seqIndex_of h0 h5] at h1
    exact Option.some.inj h1
  exact wpAny_getItem_list pl.isList h0 (by omega) (by rw [hj]; simpa using ew) ⟨v, H, I, rw', q⟩
def getF : IV → IV → Mem → Ret IV := fun o i h => match o, i with
  | .loc l, .int k => (match h[l]? with
    | some (.lst xs) => bif decide (0 ≤ k) then (match atI xs k with
      | some v => .ok v h
      | none => .bad) else .bad
    | _ => .bad)
  | _, _ => .bad
theorem rb_get : RB K rGetL getF := by
  intro E μ z h H o i x y Q hr v1 v2 p
  cases v1 with
  | @loc a l hl =>
    cases v2 with
    | int k =>
      unfold getF at p
      simp only at p
      cases eo : h[l]? with
      | none => rw [eo] at p; exact p.elim
      | some o =>
        cases o with
        | dK _ => rw [eo] at p; exact p.elim
        | oth _ => rw [eo] at p; exact p.elim
        | lst zs =>
          rw [eo] at p
          simp only at p
          rcases cond_dec (P := fun r => post K E μ z H r (VQ K z Q)) p with ⟨h0, p⟩ | ⟨_, p⟩
          · cases ev : atI zs k with
            | none => rw [ev] at p; exact p.elim
            | some v =>
              rw [ev] at p
              obtain ⟨us, e3, r⟩ := at_lst hr hl eo
              obtain ⟨w, e4, vr⟩ := atI_VRs r ev
              exact ⟨a, us, k, w, rfl, rfl, e3, h0, e4, p μ H Step.refl hr _ vr⟩
          · exact p.elim
    | _ => exact p.elim
  | _ => cases v2 <;> exact p.elim
def sAugL (d di de : Den) (f : IV → IV → Mem → Ret IV) : DenS := fun ρ h => (d ρ h).bind fun o h1 => (di ρ h1).bind fun i h2 => (getF o i h2).bind fun x h3 => (de ρ h3).bind fun y h4 => (f x y h4).bind fun w h5 => (putF o i w h5).bind fun _ h6 => .ok (.nx, ρ) h6
theorem r_augL {tpos : Pos} {op : Operator} {r : TIp} {f : IV → IV → Mem → Ret IV} (ho : PE X a (tD X.K E da)) (hi : PE X b (tD X.K E db)) (he : PE X e (tD X.K E dc)) (hp : PIp X op r) (rb : RIp X.K r f)
    (ha : ∀ ov iv new, augStore b ov iv new = (do holding [new, ov, iv] (setItem ov iv new); release [new, ov, iv] []; pure .next) := by intros; rfl) : PS X (.AugAssign (.Subscript a b tpos) op e pos) (tS X.K E (sAugL da db dc f)) := PS_imp (ps_augS ho hi get_list he hp set_list ha) (by
  rintro D σ H ⟨μ, z, h, ρ, hr, er, p⟩
  refine tD_of hr er p.bind fun μ1 h1 H1 o x s1 hr1 p1 vr1 => ?_
  refine tD_of hr1 (er.step s1) p1.bind fun μ2 h2 H2 i y s2 hr2 p2 vr2 => ?_
  refine rb_get E μ2 z h2 H2 o i x y _ hr2 (vr1.step s2) vr2 (p2.bind.mono fun μ3 h3 H3 u s3 hr3 p3 w vr3 => ?_)
  refine tD_of hr3 (((er.step s1).step s2).step s3) p3.bind fun μ4 h4 H4 v t s4 hr4 p4 vr4 => ?_
  refine rb E μ4 z h4 H4 u v w t _ hr4 (vr3.step s4) vr4 (p4.bind.mono fun μ5 h5 H5 n s5 hr5 p5 m vr5 => ?_)
  exact put_list hr5 ((((vr1.step s2).step s3).step s4).step s5) (((vr2.step s3).step s4).step s5) vr5 (p5.bind.mono fun μ6 h6 H6 _ s6 hr6 p6 => p6 μ6 H6 Step.refl hr6 σ ((((((er.step s1).step s2).step s3).step s4).step s5).step s6) hr6))
def addI := intF (fun _ _ => true) fun i j => .int (i + j)
theorem rip_int {g : Int → Int → Int} : RIp K (ipI g) (intF (fun _ _ => true) fun i j => .int (g i j)) := by
  intro E μ z h H v u x y Q hr v1 v2 p
  cases v1 with
  | int i =>
    cases v2 with
    | int j => exact ⟨i, j, rfl, rfl, p μ H Step.refl hr _ (.int _)⟩
    | _ => exact p.elim
  | _ => exact p.elim
end
end VI
end

section
/-! enumerate of a tuple, of a list. -/
namespace PySem
open Sem (wp)
set_option maxHeartbeats 1000000 in
theorem vi_enum_new {v : Value} {o : Obj} {P : Heap → Prop} (B : Begins v o P) :
    Meets (Builtin.«enumerate.__new__» ⟨[.type "enumerate", v], []⟩) (fun _ R s => P s.heap ∧
      R (.ok (.ret (.ref (s.heap.push o).objs.size))) { s with heap := (s.heap.push o).push { cls := .type "enumerate", data := .fields #[.none, .bool false, .ref s.heap.objs.size, rawInt 0, .none, .none] } }) :=
  .of_wp fun prog w A R s hyp => by
    obtain ⟨hp, gg, dd, tk, os⟩ := s
    obtain ⟨h1, hyp⟩ := hyp
    have hsub := sub_enumerate
    have start : ∀ {A' : Around} {E : Value → Shared → Prop} {Q : Value → Shared → Prop}, Q (.ref hp.objs.size) ⟨hp.push o, gg, dd, tk, os⟩ → wpAny (model prog w) A' (pyIter v) Q E ⟨hp, gg, dd, tk, os⟩ := fun q => B.iter prog w _ _ ⟨hp, gg, dd, tk, os⟩ _ h1 q
    wp_walk
    refine wpAny_stack_any fun st => wpAny_pure ?_
    split
    · rename_i c _ _ _ _ _
      cases (c == Value.type "enumerate")
      · wp_walk using start
        exact ⟨_, rfl, hyp⟩
      · wp_walk using start
        exact ⟨_, rfl, hyp⟩
    · wp_walk using start
      exact ⟨_, rfl, hyp⟩
section
variable {prog : Program} {w : World} {A : Around} {E : Value → Shared → Prop} {s : Shared}
theorem vi_call_enum {v : Value} {o : Obj} {P : Heap → Prop} {Q : Value → Shared → Prop} (B : Begins v o P) (hP : P s.heap)
    (k : ∀ h', IsEnum h' (s.heap.objs.size + 1) s.heap.objs.size 0 .none → h'.get? s.heap.objs.size = some o → h'.objs.size = s.heap.objs.size + 2 → (∀ b ob, s.heap.get? b = some ob → h'.get? b = some ob) → Q (.ref (s.heap.objs.size + 1)) { s with heap := h' }) :
    wpAny (model prog w) A (call (.type "enumerate") [v]) Q E s := by
  refine callType_new F.called_enumerate (by decide) (F.typeCall_enumerate_1 _) (F.newCall_enumerate_1 _) (fun obj => F.args_object_init_2 obj _) F.entry_enumerate_new (vi_enum_new B) ⟨hP, ?_⟩
  have sz : (s.heap.push o).objs.size = s.heap.objs.size + 1 := Heap.size_push ..
  have en := Heap.get?_push_size (s.heap.push o) (o := { cls := .type "enumerate", data := .fields #[.none, .bool false, .ref s.heap.objs.size, rawInt 0, .none, .none] }) rfl
  show _ ∧ _
  rw [sz] at en ⊢
  exact ⟨⟨_, en, rfl⟩, k _ en (Heap.get?_push_of_some _ (Heap.get?_push_size _ B.free)) (by rw [Heap.size_push, sz]) fun b ob q => Heap.get?_push_of_some _ (Heap.get?_push_of_some _ q)⟩
end
end PySem
namespace VI
open PySem PySem.Spec PyProof.Rows L2
/-- each item of the tuple at a with its number, in a new pair -/
def ItEt (K : PySem.W.Frag) (a : Addr) : It :=
  ⟨fun i H => ∃ (xs : List V) (x : V), SqT K H a xs ∧ xs[i]? = some x, fun i H v H' => ∃ T x, v = .ref T ∧ H T = none ∧ H' = upd H T (.tup [.int (i : Nat), x]) ∧ ∀ xs, SqT K H a xs → xs[i]? = some x, fun i H => ∃ xs : List V, SqT K H a xs ∧ xs.length = i⟩
theorem turn_et {P : Program} {w : World} {K : PySem.W.Frag} {elts : List Expr} {kk : Nat} {tpos : Pos} (a e it : Addr) :
    Turn P w K (.Tuple elts kk tpos) (ItEt K a) [e, it] e (fun i h => (∃ old, IsEnum h e it ((i : Nat) : Int) old) ∧ h.IsTupleIter it a i ∧ e ≠ it ∧ a ≠ it ∧ a ≠ e) where
  mem := List.mem_cons_self
  obj := by
    intro i h st b hb
    obtain ⟨⟨old, he⟩, ⟨o, ho, hc, hd⟩, _⟩ := st
    rcases List.mem_cons.mp hb with z | z
    · subst z
      exact ⟨_, he, fun v q => nomatch q⟩
    · rw [List.mem_singleton.mp z]
      exact ⟨o, ho, fun v q => by rw [hd] at q; cases q⟩
  keep := by
    intro i h h' st k
    obtain ⟨⟨old, he⟩, hi, ne⟩ := st
    exact ⟨⟨old, k e List.mem_cons_self _ he⟩, hi.at fun o q => k it (List.mem_cons_of_mem _ List.mem_cons_self) o q, ne⟩
  item := by
    intro X hP hw hK hc i pins s σ H E I hf st hg
    subst hP hw hK
    obtain ⟨⟨old, he⟩, hit, hne, hai, hae⟩ := st
    obtain ⟨xs, x, hq, hx⟩ := hg
    obtain ⟨its, rv, pt, hz⟩ := I.tuple hq
    obtain ⟨u, hu, ru⟩ := rv.get hx
    have hel : e < s.heap.objs.size := Heap.lt_size he
    have hil : it < s.heap.objs.size := by
      obtain ⟨_, q, _⟩ := hit
      exact Heap.lt_size q
    have hlt : i < its.toArray.size := by
      obtain ⟨q, _⟩ := List.getElem?_eq_some_iff.mp hu
      simpa using q
    have eu : its.toArray[i]? = some u := by simpa using hu
    refine wpAny_pyNext_enum_itemD (Draws.tuple (A := X.A.in1) (I.ok.hd hc) it a hai its.toArray) he ⟨hit, pt⟩ hlt hne (fun m => ?_) fun y h' tk hy ho hst hT hsz hk => ?_
    · rcases List.mem_cons.mp m with z | z
      · exact hne z
      · exact hae (List.mem_singleton.mp z).symm
    · have ey : u = y := by
        rw [eu] at hy
        exact Option.some.inj hy
      subst ey
      refine ⟨_, rfl, wpAny_letOwnedTupleGo_enum (s := { s with heap := h', toks := tk + 1 }) ho fun h'' he' sb => ?_⟩
      have hT2 : h''.get? s.heap.objs.size = some { cls := .type "tuple", data := .seq #[.int i tk, u] } := (sb.2 _ (Nat.ne_of_gt hel)).trans hT
      have new : ObjOk X.prog X.w (upd H s.heap.objs.size (.tup [.int (i : Nat), x])) h'' s.heap.objs.size (.tup [.int (i : Nat), x]) :=
        ⟨by show 2 ≤ sizeLine; decide, [.int i tk, u], .cons ⟨_, rfl⟩ (.cons ru .nil), ⟨_, hT2, rfl, _, rfl⟩⟩
      have I1 : Inv X pins σ (upd H s.heap.objs.size (.tup [.int (i : Nat), x])) { s with heap := h'', toks := tk + 1 } :=
        I.turnedNew (ch := [e, it]) (fun b ob hb q => (sb.2 b fun z => hb (by rw [z]; exact List.mem_cons_self)).trans (hk b ob (fun z => hb (by rw [z]; exact List.mem_cons_self)) (fun z => hb (by rw [z]; exact List.mem_cons_of_mem _ List.mem_cons_self)) q)) hf (Nat.le_refl _) new
      refine ⟨.ref s.heap.objs.size, _, I1, rfl, ⟨_, x, rfl, I.hok.fresh (Nat.le_refl _), rfl, fun ys hy => by rw [I.tuple_inj hy hq]; exact hx⟩, ⟨⟨u, ?_⟩, hst.1.at fun o q => (sb.2 it hne.symm).trans q, hne, hai, hae⟩, fun b hb => ?_⟩
      · have e1 : ((i + 1 : Nat) : Int) = (i : Int) + 1 := by omega
        rw [e1]
        exact he'
      · have hb' : b < s.heap.objs.size := by
          rcases List.mem_cons.mp hb with z | z
          · rw [z]; exact hel
          · rw [List.mem_singleton.mp z]; exact hil
        rw [upd_ne (Nat.ne_of_lt hb')]
        exact (hf b hb).1
  done := by
    intro X hP hw hK hc i pins s σ H E I hf st hg
    subst hP hw hK
    obtain ⟨⟨old, he⟩, hit, hne, hai, hae⟩ := st
    obtain ⟨xs, hq, hx⟩ := hg
    obtain ⟨its, rv, pt, hz⟩ := I.tuple hq
    obtain ⟨f0, f1, f2, f3, f4, f5⟩ := hf it (List.mem_cons_of_mem _ List.mem_cons_self)
    have hl := rv.length
    have hi2 : i = its.toArray.size := by simp; omega
    subst hi2
    refine wpAny_pyNext_enum_endD (Draws.tuple (A := X.A.in1) (I.ok.hd hc) it a hai its.toArray) he ⟨hit, pt⟩ fun h' eb => ⟨rfl, I.turned (t' := s.toks) (fun b o hb q => eb b o hb q) f0 f1 f3 f4 f5⟩
  self := fun A i s Q E st h => by
    obtain ⟨⟨_, he⟩, _⟩ := st
    exact wpAny_pyIter_enum he h
theorem walk_et {K : PySem.W.Frag} {a : Addr} {xs : List V} : Walk (ItEt K a) xs.length (fun H => SqT K H a xs) (YPair (fun i => some (.int (i : Nat))) (fun i => xs[i]?)) := by
  refine ⟨fun i _ hi q => ⟨xs, xs[i], q, List.getElem?_eq_getElem hi⟩, fun _ q => ⟨xs, q, rfl⟩, fun i H v H' _ q y => ?_⟩
  obtain ⟨T, x, h1, h2, h3, h4⟩ := y
  exact ⟨T, .int (i : Nat), x, h1, h2, h3, rfl, h4 xs q⟩
def iEnumT (K : PySem.W.Frag) (ta : TA) : TI := fun σ H R => ta σ H fun vs H1 => ∃ a xs, vs = [.ref a] ∧ SqT K H1 a xs ∧ R (ItEt K a) H1
theorem pi_enumT {X : Cx} {e : Expr} {ta : TA} {p pos tpos : Pos} {elts : List Expr} {kk : Nat} (hg : Gl X "enumerate") (hm : X.mg "enumerate" = none) (ha : PA X [e] ta) (hs : starEach [e] X.env = [(false, eval e X.env)] := by rfl) :
    PI X (.Tuple elts kk tpos) (.Call (.Name "enumerate" p) [e] [] pos) (iEnumT X.K ta) := by
  constructor
  intro pins s σ H R I q
  refine Call_ (ld_blt I hg hm boot_enumerate (PyProof.Rows.callWith_type1 (thn (ha.run pos pins s σ H _ I q) ?_) hs rfl))
  rintro us s1 ⟨vs, H1, I1, r1, a, xs, rfl, hq, k⟩
  cases r1 with
  | cons r rr =>
    cases rr
    cases r
    obtain ⟨its, rv, pt, hz⟩ := I1.tuple hq
    refine vi_call_enum (begins_tuple a its.toArray) pt fun h' he ho hsz hk => wpAny_pyIter_enum he ?_
    have I2 : Inv X pins σ H1 { s1 with heap := h' } := I1.kept (t' := s1.toks) hk
    have hal : a < s1.heap.objs.size := by
      obtain ⟨ob, q, _⟩ := pt
      exact Heap.lt_size q
    refine ⟨s1.heap.objs.size + 1, [s1.heap.objs.size + 1, s1.heap.objs.size], _, _, H1, rfl, I2, turn_et a _ _, ⟨⟨_, he⟩, ⟨_, ho, rfl, rfl⟩, Nat.succ_ne_self _, Nat.ne_of_lt hal, Nat.ne_of_lt (Nat.lt_succ_of_lt hal)⟩, fun b hb => ?_, k⟩
    have hb' : s1.heap.objs.size ≤ b := by
      rcases List.mem_cons.mp hb with z | z
      · rw [z]; exact Nat.le_succ _
      · rw [List.mem_singleton.mp z]; exact Nat.le_refl _
    exact I1.fpOk hb' (I1.hok.fresh hb')
/-- pairs of a number and an item -/
def numd (k : Nat) : List IV → List IV
  | [] => []
  | x :: r => .tup [.int k, x] :: numd (k + 1) r
theorem numd_len (k : Nat) : ∀ xs : List IV, (numd k xs).length = xs.length
  | [] => rfl
  | x :: r => by unfold numd; rw [List.length_cons, List.length_cons, numd_len (k + 1) r]
theorem numd_get : ∀ (xs : List IV) (k i : Nat) (x : IV), xs[i]? = some x → (numd k xs)[i]? = some (.tup [.int ((k + i : Nat) : Int), x])
  | [], _, i, _, e => by simp at e
  | y :: r, k, 0, x, e => by
    have e' : y = x := by simpa using e
    subst e'
    rfl
  | y :: r, k, i + 1, x, e => by
    unfold numd
    rw [List.getElem?_cons_succ, numd_get r (k + 1) i x (by simpa using e), Nat.add_assoc, Nat.add_comm 1 i]
section
variable {X : Cx} {E : XI} {e : Expr} {pos p tpos : Pos} {K : PySem.W.Frag}
/-- what a walk of new pairs gives -/
theorem pair_walk {μ1 z : List Addr} {H1 : Hp} {xs : List IV} {vs : List V} {J : It} {G : Hp → Prop} {R : It → Hp → Prop} (wk : Walk J vs.length G (YPair (fun i => some (.int (i : Nat))) (fun i => vs[i]?))) (hG : ∀ μ2 H2, Step μ1 H1 μ2 H2 → G H2) (r : VRs K μ1 z H1 xs vs)
    (p : ∀ (J : It) (G : Hp → Prop) (Y : Nat → Hp → V → Hp → Prop), Walk J (numd 0 xs).length G Y →
    (∀ μ2 z2 h2 H2, Step μ1 H1 μ2 H2 → (∀ q ∈ z2, q ∈ z ∨ H1 q = none) → HR K μ2 z2 h2 H2 → G H2 ∧ ∀ i x H3, i < (numd 0 xs).length → Y i H2 x H3 → ∃ v, (numd 0 xs)[i]? = some v ∧ Step μ2 H2 μ2 H3 ∧ HR K μ2 z2 h2 H3 ∧ VR K μ2 z2 H3 v x) → R J H1) : R J H1 := by
  have el : (numd 0 xs).length = vs.length := (numd_len 0 xs).trans r.length
  refine p J G _ (by rw [el]; exact wk) fun μ2 z2 h2 H2 s2 n2 hr2 => ⟨hG μ2 H2 s2, fun i x H3 hi y => ?_⟩
  obtain ⟨T, a1, b1, rfl, nT, rfl, ea, eb⟩ := y
  have ea' : V.int (i : Nat) = a1 := Option.some.inj ea
  subst ea'
  obtain ⟨u, e1, e2⟩ := r.get' eb
  refine ⟨_, numd_get xs 0 i u e1, Step.new nT, hr2.new nT, .tup (.inl (.inl upd_same)) (.cons ?_ (.cons (((e2.rehide n2).step s2).step (Step.new nT)) .nil))⟩
  rw [Nat.zero_add]
  exact .int _
def wEn (a : DenA) : DenA := fun ρ h => (a ρ h).bind fun vs h1 => match vs with
  | [.tup xs] => .ok (numd 0 xs) h1
  | _ => .bad
theorem r_wEnT {a : DenA} {elts : List Expr} {kk : Nat} (hg : Gl X "enumerate") (hm : X.mg "enumerate" = none) (ha : PA X [e] (tAr X.K E a)) (hs : starEach [e] X.env = [(false, eval e X.env)] := by rfl) :
    PI X (.Tuple elts kk tpos) (.Call (.Name "enumerate" p) [e] [] pos) (tIV X.K E (wEn a)) := PI_imp (pi_enumT hg hm ha hs) (by
  rintro σ H R ⟨μ, z, h, ρ, hr, er, p⟩
  refine ⟨μ, z, h, ρ, hr, er, p.bind.mono fun μ1 h1 H1 vs s1 hr1 p1 ws vr => ?_⟩
  cases vr with
  | nil => exact p1.elim
  | cons v1 t =>
    cases t with
    | cons _ _ => cases v1 <;> exact p1.elim
    | nil =>
      cases v1 with
      | @tup a xs vs hq r => exact ⟨a, vs, rfl, hq, pair_walk walk_et (fun μ2 H2 s2 => SqT.step s2 hq) r (p1 μ1 H1 Step.refl hr1)⟩
      | _ => exact p1.elim)
def wEnL (a : DenA) : DenA := fun ρ h => (a ρ h).bind fun vs h1 => match vs with
  | [.fl xs] => .ok (numd 0 xs) h1
  | _ => .bad
theorem r_wEnL {a : DenA} {elts : List Expr} {kk : Nat} (hg : Gl X "enumerate") (hm : X.mg "enumerate" = none) (ha : PA X [e] (tAr X.K E a)) (hs : starEach [e] X.env = [(false, eval e X.env)] := by rfl) :
    PI X (.Tuple elts kk tpos) (.Call (.Name "enumerate" p) [e] [] pos) (tIV X.K E (wEnL a)) := PI_imp (pi_enum hg hm ha hs) (by
  rintro σ H R ⟨μ, z, h, ρ, hr, er, p⟩
  refine ⟨μ, z, h, ρ, hr, er, p.bind.mono fun μ1 h1 H1 vs s1 hr1 p1 ws vr => ?_⟩
  cases vr with
  | nil => exact p1.elim
  | cons v1 t =>
    cases t with
    | cons _ _ => cases v1 <;> exact p1.elim
    | nil =>
      cases v1 with
      | @fl a xs vs hq n m r => exact ⟨a, vs, rfl, SqL.of hq, pair_walk walk_enum (fun μ2 H2 s2 => SqL.of (s2.keep _ _ hq n)) r (p1 μ1 H1 Step.refl hr1)⟩
      | _ => exact p1.elim)
end
end VI
end

section
/-! Dicts with ints and texts as keys; repr; pairs of names. -/
namespace VI
open PySem PySem.Spec PyProof.Rows L2
section
variable {X : Cx} {E : XI} {e a b : Expr} {es : List Expr} {pos p : Pos} {da db dc : Den} {K : PySem.W.Frag}
/-! ### the hidden thing, whatever may change -/
section
variable {μ μ1 μ' z : List Addr} {H H1 H' : Hp} {h : Mem}
mutual
theorem VR.mutY {q : Addr} {o u : HO} (hq : H q = some u) (ni : ¬ Imm u) (m : q ∈ z) : ∀ {x : IV} {v : V}, VR K μ z H x v → VR K μ z (upd H q o) x v
  | _, _, .non => .non
  | _, _, .bl b => .bl b
  | _, _, .int i => .int i
  | _, _, .str x => .str x
  | _, _, .tup h r => by
    refine .tup ?_ (VRs.mutY hq ni m r)
    rcases h with (h | ⟨o2, h⟩) | h
    · refine .inl (.inl ?_)
      rw [upd_ne]
      · exact h
      · intro e
        rw [e, hq] at h
        cases h
        exact ni trivial
    · refine .inl (.inr ⟨o2, ?_⟩)
      rw [upd_ne]
      · exact h
      · intro e
        rw [e, hq] at h
        cases h
        exact ni trivial
    · exact .inr h
  | _, _, .fl (a := a) h n1 m1 r => by
    have ne : a ≠ q := fun e => m1 (by rw [e]; exact m)
    exact .fl (by rw [upd_ne ne]; exact h) n1 m1 (VRs.mutY hq ni m r)
  | _, _, .fz (a := a) h r => by
    refine .fz (h.imp (fun ⟨o2, h2⟩ => ⟨o2, ?_⟩) id) (VRs.mutY hq ni m r)
    have ne : a ≠ q := fun e => by
      rw [e, hq] at h2
      cases h2
      exact ni trivial
    rw [upd_ne ne]
    exact h2
  | _, _, .loc h => .loc h
theorem VRs.mutY {q : Addr} {o u : HO} (hq : H q = some u) (ni : ¬ Imm u) (m : q ∈ z) : ∀ {xs : List IV} {vs : List V}, VRs K μ z H xs vs → VRs K μ z (upd H q o) xs vs
  | _, _, .nil => .nil
  | _, _, .cons r t => .cons (VR.mutY hq ni m r) (VRs.mutY hq ni m t)
end
theorem KRs.mutY {q : Addr} {o u : HO} (hq : H q = some u) (ni : ¬ Imm u) (m : q ∈ z) : ∀ {xs : List (Key × IV)} {vs : List (Key × V)}, KRs K μ z H xs vs → KRs K μ z (upd H q o) xs vs
  | _, _, .nil => .nil
  | _, _, .cons r t => .cons (r.mutY hq ni m) (KRs.mutY hq ni m t)
theorem FRs.mutY {q : Addr} {o u : HO} (hq : H q = some u) (ni : ¬ Imm u) (m : q ∈ z) : ∀ {xs : List (Str × IV)} {vs : List (Str × V)}, FRs K μ z H xs vs → FRs K μ z (upd H q o) xs vs
  | _, _, .nil => .nil
  | _, _, .cons r t => .cons (r.mutY hq ni m) (FRs.mutY hq ni m t)
theorem NRs.mutY {q : Addr} {o u : HO} (hq : H q = some u) (ni : ¬ Imm u) (m : q ∈ z) : ∀ {xs : List (NestedKey × IV)} {vs : List (NestedKey × Addr × V)}, NRs K μ z H xs vs → NRs K μ z (upd H q o) xs vs
  | _, _, .nil => .nil
  | _, _, .cons t r k => .cons (t.mutY hq ni m) (r.mutY hq ni m) (NRs.mutY hq ni m k)
theorem HR.mutY {q : Addr} {o u : HO} (hq : H q = some u) (ni : ¬ Imm u) (m : q ∈ z) (r : HR K μ z h H) : HR K μ z h (upd H q o) :=
  ⟨r.len, r.nd, fun l a i e1 e2 => by
    obtain ⟨u2, e3, k⟩ := r.ob l a i e1 e2
    have ne : a ≠ q := fun e => (r.zz q m).1 (by rw [← e]; exact List.mem_of_getElem? e1)
    refine ⟨u2, by rw [upd_ne ne]; exact e3, ?_⟩
    cases k with
    | lst k => exact .lst (k.mutY hq ni m)
    | dK k => exact .dK (k.mutY hq ni m)
    | oth k =>
      cases k with
      | ob h r => exact .oth (.ob h (r.mutY hq ni m))
      | dN r => exact .oth (.dN (r.mutY hq ni m)), fun a ma => ⟨(r.zz a ma).1, by
    by_cases e : a = q
    · subst e
      exact ⟨o, upd_same⟩
    · rw [upd_ne e]
      exact (r.zz a ma).2⟩⟩
end

/-! ### keys -/
def keyI : IV → Option Key
  | .int i => some (.inl i)
  | .str s => some (.inr s)
  | _ => none
theorem key_rel {μ z : List Addr} {H : Hp} {v : IV} {x : V} {k : Key} (vr : VR K μ z H v x) (e : keyI v = some k) : x = kV k := by
  cases vr with
  | int i =>
    have e' := Option.some.inj e
    subst e'
    rfl
  | str s =>
    have e' := Option.some.inj e
    subst e'
    rfl
  | _ => cases e
def valI (kvs : List (Key × IV)) (k : Key) : Option IV := (kvs.find? fun kv => decide (kv.1 = k)).map (·.2)
def putI (kvs : List (Key × IV)) (k : Key) (v : IV) : List (Key × IV) := if kvs.any (fun kv => decide (kv.1 = k)) then kvs.map fun kv => if kv.1 = k then (kv.1, v) else kv else kvs ++ [(k, v)]
theorem val_rel {μ z : List Addr} {H : Hp} {k : Key} : ∀ {kvs : List (Key × IV)} {ws : List (Key × V)} {v : IV}, KRs K μ z H kvs ws → valI kvs k = some v → ∃ w, valV ws k = some w ∧ VR K μ z H v w
  | [], _, v, .nil, e => by cases e
  | (j, x) :: r, _, v, .cons (v := w) vr t, e => by
    unfold valI at e
    rw [List.find?_cons] at e
    by_cases hj : j = k
    · subst hj
      simp only [decide_true] at e
      have e' : x = v := Option.some.inj e
      subst e'
      exact ⟨w, valV_pos rfl, vr⟩
    · simp only [decide_eq_false hj] at e
      obtain ⟨w2, h1, h2⟩ := val_rel t e
      exact ⟨w2, by rw [valV_neg hj]; exact h1, h2⟩
theorem any_rel {μ z : List Addr} {H : Hp} {k : Key} : ∀ {kvs : List (Key × IV)} {ws : List (Key × V)}, KRs K μ z H kvs ws → (kvs.any fun kv => decide (kv.1 = k)) = (ws.any fun kv => decide (kv.1 = k))
  | _, _, .nil => rfl
  | _, _, .cons vr t => by rw [List.any_cons, List.any_cons, any_rel t]
theorem map_rel {μ z : List Addr} {H : Hp} {k : Key} {y : IV} {w : V} (q : VR K μ z H y w) : ∀ {kvs : List (Key × IV)} {ws : List (Key × V)}, KRs K μ z H kvs ws → KRs K μ z H (kvs.map fun kv => if kv.1 = k then (kv.1, y) else kv) (ws.map fun kv => if kv.1 = k then (kv.1, w) else kv)
  | _, _, .nil => .nil
  | _, _, .cons (k := j) vr t => by
    rw [List.map_cons, List.map_cons]
    by_cases hj : j = k
    · simp only [if_pos hj]
      exact .cons q (map_rel q t)
    · simp only [if_neg hj]
      exact .cons vr (map_rel q t)
theorem app_rel {μ z : List Addr} {H : Hp} : ∀ {kvs jvs : List (Key × IV)} {ws us : List (Key × V)}, KRs K μ z H kvs ws → KRs K μ z H jvs us → KRs K μ z H (kvs ++ jvs) (ws ++ us)
  | _, _, _, _, .nil, s => s
  | _, _, _, _, .cons r t, s => .cons r (app_rel t s)
theorem put_rel {μ z : List Addr} {H : Hp} {k : Key} {y : IV} {w : V} {kvs : List (Key × IV)} {ws : List (Key × V)} (r : KRs K μ z H kvs ws) (q : VR K μ z H y w) : KRs K μ z H (putI kvs k y) (putK ws k w) := by
  unfold putI putK
  rw [any_rel r]
  split
  · exact map_rel q r
  · exact app_rel r (.cons q .nil)
/-- d[k] -/
def dGetI (d di : Den) : Den := dBin (fun o i h => match o with
  | .loc l => (match h[l]?, keyI i with
    | some (.dK kvs), some k => (match valI kvs k with
      | some v => .ok v h
      | none => .bad)
    | _, _ => .bad)
  | _ => .bad) d di
theorem at_dK {μ z : List Addr} {H : Hp} {h : Mem} {l : Nat} {a : Addr} {kvs : List (Key × IV)} (hr : HR K μ z h H) (hl : μ[l]? = some a) (e : h[l]? = some (.dK kvs)) : ∃ ws, H a = some (.dK ws) ∧ KRs K μ z H kvs ws := by
  obtain ⟨u, e3, r⟩ := hr.ob _ _ _ hl e
  cases r with
  | dK r => exact ⟨_, e3, r⟩
theorem r_dget (hu : X.A.units + 1 < cLine) (ha : PE X a (tD X.K E da)) (hb : PE X b (tD X.K E db)) (hs : NoSl b := by exact fun _ _ => rfl) : PE X (.Subscript a b pos) (tD X.K E (dGetI da db)) := PE_imp (pe_dget hu ha hb hs) (by
  rintro σ H Q ⟨μ, z, h, ρ, hr, er, p⟩
  refine tD_of hr er p.bind fun μ1 h1 H1 v w s1 hr1 p1 vr1 => ?_
  refine tD_of hr1 (er.step s1) p1.bind fun μ2 h2 H2 u y s2 hr2 p2 vr2 => ?_
  have vr3 := vr1.step s2
  cases vr3 with
  | @loc a l hl =>
    simp only at p2
    cases eo : h2[l]? with
    | none => rw [eo] at p2; exact p2.elim
    | some o =>
      cases o with
      | lst _ => rw [eo] at p2; exact p2.elim
      | oth _ => rw [eo] at p2; exact p2.elim
      | dK kvs =>
        cases ek : keyI u with
        | none => rw [eo, ek] at p2; exact p2.elim
        | some k =>
          rw [eo, ek] at p2
          simp only at p2
          cases ev : valI kvs k with
          | none => rw [ev] at p2; exact p2.elim
          | some x =>
            rw [ev] at p2
            obtain ⟨ws, e3, r⟩ := at_dK hr2 hl eo
            obtain ⟨t, e4, vr⟩ := val_rel r ev
            refine ⟨a, t, rfl, ?_, p2 μ2 H2 Step.refl hr2 _ vr⟩
            rw [key_rel vr2 ek, ← e4]
            exact DGet.k e3
  | _ => exact p2.elim)
/-- d[k] = v -/
def sDPutI (d di de : Den) : DenS := fun ρ h => (de ρ h).bind fun v h1 => (d ρ h1).bind fun o h2 => (di ρ h2).bind fun i h3 => match o with
  | .loc l => (match h3[l]?, keyI i with
    | some (.dK kvs), some k => bif decide (kvs.length < sizeLine) then .ok (.nx, ρ) (h3.set l (.dK (putI kvs k v))) else .bad
    | _, _ => .bad)
  | _ => .bad
theorem putD {μ z : List Addr} {H : Hp} {h : Mem} {l : Nat} {a : Addr} {vs ws : List (Key × V)} {xs : List (Key × IV)} (hr : HR K μ z h H) (hl : μ[l]? = some a) (ha : H a = some (.dK vs)) (r : KRs K μ z H xs ws) :
    Step μ H μ (upd H a (.dK ws)) ∧ HR K μ z (h.set l (.dK xs)) (upd H a (.dK ws)) := by
  have s : Step μ H μ (upd H a (.dK ws)) := Step.put hr hl ha (fun i => i)
  exact ⟨s, hr.put hl s (.dK (r.step s))⟩
theorem r_dput {tpos : Pos} (hu : X.A.units + 1 < cLine) (ha : PE X a (tD X.K E da)) (hb : PE X b (tD X.K E db)) (he : PE X e (tD X.K E dc)) (hs : swapsWith e (some (.Subscript a b tpos)) pos.line X.env = pure false := by rfl) :
    PS X (.Assign [.Subscript a b tpos] e pos) (tS X.K E (sDPutI da db dc)) := PS_imp (ps_dput hu ha hb he hs) (by
  rintro D σ H ⟨μ, z, h, ρ, hr, er, p⟩
  refine tD_of hr er p.bind fun μ1 h1 H1 v w s1 hr1 p1 vr1 => ?_
  refine tD_of hr1 (er.step s1) p1.bind fun μ2 h2 H2 o x s2 hr2 p2 vr2 => ?_
  refine tD_of hr2 ((er.step s1).step s2) p2.bind fun μ3 h3 H3 i y s3 hr3 p3 vr3 => ?_
  have vo := vr2.step s3
  cases vo with
  | @loc a l hl =>
    simp only at p3
    cases eo : h3[l]? with
    | none => rw [eo] at p3; exact p3.elim
    | some o =>
      cases o with
      | lst _ => rw [eo] at p3; exact p3.elim
      | oth _ => rw [eo] at p3; exact p3.elim
      | dK kvs =>
        cases ek : keyI i with
        | none => rw [eo, ek] at p3; exact p3.elim
        | some k =>
          rw [eo, ek] at p3
          simp only at p3
          rcases cond_dec (P := fun r => post X.K E μ3 z H3 r (endQ2 X.K z (fun μ' h' H' ρ' => ∀ σ', ER X.K μ' z H' ρ' σ' → HR X.K μ' z h' H' → D.nx σ' H') (fun μ' h' H' ρ' => ∀ σ', ER X.K μ' z H' ρ' σ' → D.bk σ' H') (fun μ' h' H' ρ' => ∀ σ', ER X.K μ' z H' ρ' σ' → D.ct σ' H') (fun μ' _ H' v => ∀ w, VR X.K μ' z H' v w → D.rt w H'))) p3 with ⟨hlt, p⟩ | ⟨_, p⟩
          · obtain ⟨ws, e3, r⟩ := at_dK hr3 hl eo
            obtain ⟨st, hr'⟩ := putD hr3 hl e3 (put_rel (k := k) r ((vr1.step s2).step s3))
            refine ⟨a, _, rfl, ?_, p μ3 _ st hr' σ ((((er.step s1).step s2).step s3).step st) hr'⟩
            rw [key_rel vr3 ek]
            exact DPut.k e3 (by rw [← r.length]; exact hlt)
          · exact p.elim
  | _ => exact p3.elim)
/-! ### {k: v, ..} with written texts as keys -/
def tPd (K : PySem.W.Frag) (E : XI) (ks : List Str) (d : DenA) : L2.St → Hp → (List (V × V) → Hp → Prop) → Prop := fun σ H Q => ∃ μ z h ρ, HR K μ z h H ∧ ER K μ z H ρ σ ∧ post K E μ z H (d ρ h) fun μ' _ H' vs => ∀ ws, VRs K μ' z H' vs ws → Q ((ks.map V.str).zip ws) H'
structure PD (X : Cx) (E : XI) (pos : Pos) (keys : List (Option Expr)) (vals : List Expr) (ks : List Str) (d : DenA) : Prop where
  run : ∃ trs, PPs X pos keys vals trs ∧ ∀ σ H Q, tPd X.K E ks d σ H Q → tPairs trs σ H Q
theorem r_pd0 : PD X E pos [] [] [] aNil := ⟨[], pps_nil, fun σ H Q ⟨μ, z, h, ρ, hr, er, p⟩ => p μ H Step.refl hr [] .nil⟩
theorem r_pd {k : Str} {j : Nat} {kp : Pos} {ks : List Str} {keys : List (Option Expr)} {vals : List Expr} {d : DenA} (h1 : PE X a (tD X.K E da)) (h2 : PD X E pos keys vals ks d) : PD X E pos (some (.Constant (.str k) j kp) :: keys) (a :: vals) (k :: ks) (aCons da d) := by
  obtain ⟨trs, hp, hi⟩ := h2.run
  refine ⟨(tC (.str k), tD X.K E da) :: trs, pps_cons pe_str h1 hp, ?_⟩
  rintro σ H Q ⟨μ, z, h, ρ, hr, er, p⟩
  refine tD_of hr er p.bind fun μ1 h1 H1 v w s1 hr1 p1 vr1 => ?_
  refine hi σ H1 _ ⟨μ1, z, h1, ρ, hr1, er.step s1, p1.bind.mono fun μ2 h2 H2 vs s2 hr2 p2 ws vr2 => ?_⟩
  exact p2 μ2 H2 Step.refl hr2 (w :: ws) (.cons (vr1.step s2) vr2)
def mergeI (kvs more : List (Key × IV)) : List (Key × IV) := more.foldl (fun acc kv => putI acc kv.1 kv.2) kvs
theorem merge_rel {μ z : List Addr} {H : Hp} : ∀ (more : List (Key × IV)) (mw : List (Key × V)) (kvs : List (Key × IV)) (ws : List (Key × V)), KRs K μ z H more mw → KRs K μ z H kvs ws → KRs K μ z H (mergeI kvs more) (mergeK ws mw)
  | [], _, _, _, .nil, r => r
  | (_, _) :: more, _ :: mw, kvs, ws, .cons q t, r => merge_rel more mw _ _ t (put_rel r q)
def zipK (ks : List Str) (vs : List IV) : List (Key × IV) := (ks.map Sum.inr).zip vs
theorem zip_rel {μ z : List Addr} {H : Hp} : ∀ (ks : List Str) {vs : List IV} {ws : List V}, VRs K μ z H vs ws → KRs K μ z H (zipK ks vs) ((ks.map (Sum.inr : Str → Key)).zip ws)
  | [], _, _, _ => .nil
  | _ :: _, _, _, .nil => .nil
  | k :: ks, _, _, .cons r t => .cons r (zip_rel ks t)
theorem zip_kV : ∀ (ks : List Str) (ws : List V), (ks.map V.str).zip ws = ((ks.map (Sum.inr : Str → Key)).zip ws).map fun kv => (kV kv.1, kv.2)
  | [], _ => rfl
  | _ :: _, [] => rfl
  | k :: ks, w :: ws => by
    have := zip_kV ks ws
    show (V.str k, w) :: (ks.map V.str).zip ws = _
    rw [this]
    rfl
def dDisp (ks : List Str) (d : DenA) : Den := fun ρ h => (d ρ h).bind fun vs h1 => .ok (.loc h1.length) (h1 ++ [.dK (mergeI [] (zipK ks vs))])
theorem r_disp {keys : List (Option Expr)} {vals : List Expr} {ks : List Str} {d : DenA} (h : PD X E pos keys vals ks d) (hk : ks.length ≤ 15) (hall : keys.all (·.isSome) = true) (hl : keys.length = vals.length) (h0 : keys ≠ []) (hs : keys.length ≤ 15) :
    PE X (.Dict keys vals pos) (tD X.K E (dDisp ks d)) := by
  obtain ⟨trs, hp, hi⟩ := h.run
  refine PE_imp (pe_disp hp hall hl h0 hs) ?_
  rintro σ H Q ⟨μ, z, h, ρ, hr, er, p⟩ q nq
  have nz : q ∉ z := (hr.fresh nq).2
  refine hi σ _ _ ⟨μ, q :: z, h, ρ, hr.hideNew nq, (er.hide (.inl nq)).step (Step.new nq), ?_⟩
  have p1 := p.bind
  cases e1 : d ρ h with
  | bad => rw [e1] at p1; exact p1.elim
  | ex e2 h2 =>
    rw [e1] at p1
    exact fun μ' H' s r => p1 μ' H' ((Step.new nq).trans s) r.show
  | ok vs h1 =>
    unfold dDisp at p
    rw [e1] at p
    intro μ' H' s hr' ws vr
    have eq0 : H' q = some (.dK []) := s.keep q _ upd_same (hr.fresh nq).1
    refine ⟨eq0, (ks.map (Sum.inr : Str → Key)).zip ws, zip_kV ks ws, ?_, ?_⟩
    · refine Nat.le_trans ?_ hk
      rw [List.length_zip, List.length_map]
      exact Nat.min_le_left _ _
    · have ni : ¬ Imm (.dK []) := fun i => i
      have rel : KRs X.K μ' (q :: z) H' (mergeI [] (zipK ks vs)) (mergeK [] ((ks.map (Sum.inr : Str → Key)).zip ws)) := merge_rel _ _ _ _ (zip_rel ks vr) .nil
      have hr2 := hr'.mutY (o := .dK (mergeK [] ((ks.map (Sum.inr : Str → Key)).zip ws))) eq0 ni List.mem_cons_self
      have nm : q ∉ μ' := (hr'.zz q List.mem_cons_self).1
      have st : Step μ H μ' (upd H' q (.dK (mergeK [] ((ks.map (Sum.inr : Str → Key)).zip ws)))) := by
        have s0 : Step μ H μ' H' := (Step.new nq).trans s
        exact s0.mutNew nq
      refine p (μ' ++ [q]) _ (st.alloc nq nm) (hr2.unhide nz upd_same (.dK (rel.mutY eq0 ni List.mem_cons_self))) _ (.loc ?_)
      rw [hr'.len, List.getElem?_append_right (Nat.le_refl _), Nat.sub_self]
      rfl

/-! ### a, b = x, y -/
def sPar (i j : Nat) (d : DenA) : DenS := fun ρ h => (d ρ h).bind fun vs h1 => match vs with
  | [v, w] => .ok (.nx, (ρ.set i (some v)).set j (some w)) h1
  | _ => .bad
theorem r_par {i j : Nat} {x y : Str} {d : DenA} {px py pt : Pos} {kt k2 pt2} (hc : X.calm = true) (hN : X.N.Nodup) (hi : X.N[i]? = some x) (hj : X.N[j]? = some y) (hij : i ≠ j)
    (hx : X.env.scope.names.lookup x = some .local) (hy : X.env.scope.names.lookup y = some .local) (ha : PA X [a, b] (tAr X.K E d))
    (hw : swappedStores [.Tuple [.Name x px, .Name y py] kt pt] (.Tuple [a, b] k2 pt2) X.env = pure (some [x, y]))
    (hs : swapsWithSole [.Tuple [.Name x px, .Name y py] kt pt] (.Tuple [a, b] k2 pt2) pos.line X.env = pure false := by rfl) :
    PS X (.Assign [.Tuple [.Name x px, .Name y py] kt pt] (.Tuple [a, b] k2 pt2) pos) (tS X.K E (sPar i j d)) := PS_imp (ps_par hc hN hi hj hij hx hy ha hw hs) (by
  rintro D σ H ⟨μ, z, h, ρ, hr, er, p⟩
  refine ⟨μ, z, h, ρ, hr, er, p.bind.mono fun μ1 h1 H1 vs s1 hr1 p1 ws vr => ?_⟩
  cases vr with
  | nil => exact p1.elim
  | cons v1 t =>
    cases t with
    | nil => exact p1.elim
    | cons v2 t =>
      cases t with
      | cons _ _ => exact p1.elim
      | nil => exact ⟨_, _, rfl, p1 μ1 H1 Step.refl hr1 _ (((er.step s1).set v1 i).set v2 j) hr1⟩)

/-! ### repr -/
def rRepr (K : PySem.W.Frag) : List V → Hp → VK → Prop := fun xs H Q => ∃ x d, xs = [x] ∧ Dp K H x d ∧ d.showable = true ∧ d.hasDict = false ∧ d.depth ≤ 60 ∧ d.shown.length ≤ sizeLine ∧ Q (.str d.shown) H
theorem call_repr (hg : X.A.guards = some []) (hu : X.A.units + 64 < cLine) : CallR X (.builtin "repr") (rRepr X.K) := by
  intro pins s σ H xs us Q I r q
  obtain ⟨x, d, rfl, dp, sh, hd, dep, sz, q⟩ := q
  obtain ⟨u, rfl, rx⟩ := Vals.one r
  obtain ⟨as, rd⟩ := Dp.reads I d x u dp rx
  have nd : d.hasDict = true → sysModules ∉ as := PyData.noDict_hsm hd
  have fin : ∀ t h' tk, (∀ b o, s.heap.get? b = some o → h'.get? b = some o) → EP X pins σ Q (.str d.shown t) { s with heap := h', toks := tk } := fun t h' tk k => ⟨.str d.shown, H, I.kept k, ⟨t, rfl⟩, q⟩
  cases x with
  | ref a =>
    cases rx
    exact repr_of_reads' rd sh nd hg (by omega) (fun _ _ e => e) (fun h' u tk k => fin u h' tk k) sz
  | non =>
    cases dp
    cases rx
    rw [PyData.shown_none] at fin
    exact PySem.P.repr_of_none (fin _ s.heap _ fun _ _ e => e)
  | bl b =>
    cases dp
    cases rx
    rw [PyData.shown_bool] at fin
    exact PySem.P.repr_of_bool (fin _ s.heap _ fun _ _ e => e)
  | int i =>
    cases dp
    obtain ⟨t, rfl⟩ := rx
    rw [PyData.shown_int] at fin
    have hi : i.natAbs.log2 < 1920 := by simpa [PyData.showable] using sh
    exact PySem.P.repr_of_int hi (fin _ s.heap _ fun _ _ e => e)
  | str y =>
    cases dp
    obtain ⟨t, rfl⟩ := rx
    rw [PyData.shown_str] at fin sz
    exact PySem.P.repr_of_str (fin _ s.heap _ fun _ _ e => e) sz
  | byt _ => cases dp
  | flt _ => cases dp
  | ty _ => cases dp
def reprF : List IV → Mem → Ret IV := fun vs h => match vs with
  | [v] => (match toD h deep v with
    | some d => bif d.showable && !d.hasDict && decide (d.depth ≤ 60) && decide (d.shown.length ≤ sizeLine) then .ok (.str d.shown) h else .bad
    | none => .bad)
  | _ => .bad
theorem rc_repr : RC K (rRepr K) reprF := by
  intro E μ z h H vs xs Q hr vr p
  cases vr with
  | nil => exact p.elim
  | @cons v x vs xs v1 t =>
    cases t with
    | cons _ _ => exact p.elim
    | nil =>
      unfold reprF at p
      simp only at p
      cases e1 : toD h deep v with
      | none => rw [e1] at p; exact p.elim
      | some d =>
        rw [e1] at p
        simp only at p
        cases ec : d.showable && !d.hasDict && decide (d.depth ≤ 60) && decide (d.shown.length ≤ sizeLine) with
        | false => simp only [ec, cond_false] at p; exact p.elim
        | true =>
          simp only [ec, cond_true] at p
          rw [Bool.and_eq_true, Bool.and_eq_true, Bool.and_eq_true, decide_eq_true_eq, decide_eq_true_eq] at ec
          refine ⟨x, d, rfl, dp_of hr _ _ _ _ v1 e1, ec.1.1.1, ?_, ec.1.2, ec.2, p μ H Step.refl hr _ (.str _)⟩
          have := ec.1.1.2
          simpa using this
end
end VI
end

section
/-! Sequences of either kind, walked, numbered, cut; products. -/
namespace VI
open PySem PySem.Spec PyProof.Rows L2
section
variable {X : Cx} {E : XI} {e a b : Expr} {es : List Expr} {pos p tpos : Pos} {da db dc : Den} {K : PySem.W.Frag}
/-! ### walks -/
def iSeq (K : PySem.W.Frag) (tl : TE) : TI := fun σ H R => tl σ H fun x H1 => ∃ a, x = .ref a ∧ (((∃ xs, SqL K H1 a xs) ∧ R (Itl K a) H1) ∨ ((∃ xs, SqT K H1 a xs) ∧ R (Itt K a) H1))
theorem pi_seq {tg : Expr} {tl : TE} (hl : PE X e tl) : PI X tg e (iSeq X.K tl) := by
  constructor
  intro pins s σ H R I h
  refine thn (hl.run pins s σ H _ I h) ?_
  rintro v s1 ⟨x, H1, I1, r1, a, ex, q⟩
  subst ex
  cases r1
  have fp : ∀ b ∈ [s1.heap.objs.size], FpOk X pins H1 b := fun b hb => by
    rw [List.mem_singleton.mp hb]
    exact I1.fpOk (Nat.le_refl _) (I1.hok.fresh (Nat.le_refl _))
  rcases q with ⟨⟨xs, hq⟩, q⟩ | ⟨⟨xs, hq⟩, q⟩
  · obtain ⟨its, _, pl, _⟩ := I1.list hq
    exact wpAny_pyIter_list pl.isList ⟨_, [_], _, _, H1, rfl, I1.kept (t' := s1.toks) fun b o e => Heap.get?_push_of_some _ e, turn_list a _, ⟨_, Heap.get?_push_size _ rfl, rfl, rfl⟩, fp, q⟩
  · obtain ⟨its, _, pl, _⟩ := I1.tuple hq
    exact wpAny_pyIter_tuple (show s1.heap.IsTuple a its.toArray from pl) ⟨_, [_], _, _, H1, rfl, I1.kept (t' := s1.toks) fun b o e => Heap.get?_push_of_some _ e, turn_tuple a _, ⟨_, Heap.get?_push_size _ rfl, rfl, rfl⟩, fp, q⟩
def wSeq (d : Den) : DenA := fun ρ h => (d ρ h).bind fun v h1 => match v with
  | .tup xs => .ok xs h1
  | .fl xs => .ok xs h1
  | .fz xs => .ok xs h1
  | _ => .bad
theorem r_wSeq {tg : Expr} {d : Den} (he : PE X e (tD X.K E d)) : PI X tg e (tIV X.K E (wSeq d)) := PI_imp (pi_seq he) (by
  rintro σ H R ⟨μ, z, h, ρ, hr, er, p⟩
  refine tD_of hr er p.bind fun μ1 h1 H1 v w s1 hr1 p1 vr1 => ?_
  cases vr1 with
  | @tup a xs vs hq hvs =>
    refine ⟨a, rfl, .inr ⟨⟨vs, hq⟩, ?_⟩⟩
    have el : xs.length = vs.length := hvs.length
    refine p1 μ1 H1 Step.refl hr1 _ (fun H => SqT X.K H a vs) (YAt vs) (by rw [el]; exact walk_tup) fun μ2 z2 h2 H2 s2 n2 hr2 => ⟨SqT.step s2 hq, fun i x H3 hi y => ?_⟩
    obtain ⟨rfl, y⟩ := y
    obtain ⟨u, e1, e2⟩ := hvs.get' y
    exact ⟨u, e1, Step.refl, hr2, (e2.rehide n2).step s2⟩
  | @fl a xs vs hq n m hvs =>
    refine ⟨a, rfl, .inl ⟨⟨vs, .inl (.inl hq)⟩, ?_⟩⟩
    have el : xs.length = vs.length := hvs.length
    refine p1 μ1 H1 Step.refl hr1 _ (fun H => SqL X.K H a vs) (YAt vs) (by rw [el]; exact walk_list) fun μ2 z2 h2 H2 s2 n2 hr2 => ⟨.inl (.inl (s2.keep _ _ hq n)), fun i x H3 hi y => ?_⟩
    obtain ⟨rfl, y⟩ := y
    obtain ⟨u, e1, e2⟩ := hvs.get' y
    exact ⟨u, e1, Step.refl, hr2, (e2.rehide n2).step s2⟩
  | @fz a xs vs hq hvs =>
    have hs : ∀ {μ2 H2}, Step μ1 H1 μ2 H2 → SqL X.K H2 a vs := fun s2 => by
      rcases hq with ⟨o, hq⟩ | hq
      · exact .inl (.inr ⟨o, s2.imm _ _ hq trivial⟩)
      · exact .inr hq
    refine ⟨a, rfl, .inl ⟨⟨vs, hs Step.refl⟩, ?_⟩⟩
    have el : xs.length = vs.length := hvs.length
    refine p1 μ1 H1 Step.refl hr1 _ (fun H => SqL X.K H a vs) (YAt vs) (by rw [el]; exact walk_list) fun μ2 z2 h2 H2 s2 n2 hr2 => ⟨hs s2, fun i x H3 hi y => ?_⟩
    obtain ⟨rfl, y⟩ := y
    obtain ⟨u, e1, e2⟩ := hvs.get' y
    exact ⟨u, e1, Step.refl, hr2, (e2.rehide n2).step s2⟩
  | _ => exact p1.elim)
def iEnumA (K : PySem.W.Frag) (ta : TA) : TI := fun σ H R => ta σ H fun vs H1 => ∃ a xs, vs = [.ref a] ∧ ((SqL K H1 a xs ∧ R (Ite K a) H1) ∨ (SqT K H1 a xs ∧ R (ItEt K a) H1))
theorem pi_enumA {ta : TA} {elts : List Expr} {kk : Nat} (hg : Gl X "enumerate") (hm : X.mg "enumerate" = none) (ha : PA X [e] ta) (hs : starEach [e] X.env = [(false, eval e X.env)] := by rfl) :
    PI X (.Tuple elts kk tpos) (.Call (.Name "enumerate" p) [e] [] pos) (iEnumA X.K ta) := by
  constructor
  intro pins s σ H R I q
  refine Call_ (ld_blt I hg hm boot_enumerate (PyProof.Rows.callWith_type1 (thn (ha.run pos pins s σ H _ I q) ?_) hs rfl))
  rintro us s1 ⟨vs, H1, I1, r1, a, xs, rfl, k⟩
  cases r1 with
  | cons r rr =>
    cases rr
    cases r
    have fp : ∀ b ∈ [s1.heap.objs.size + 1, s1.heap.objs.size], FpOk X pins H1 b := fun b hb => by
      have hb' : s1.heap.objs.size ≤ b := by
        rcases List.mem_cons.mp hb with z | z
        · rw [z]; exact Nat.le_succ _
        · rw [List.mem_singleton.mp z]; exact Nat.le_refl _
      exact I1.fpOk hb' (I1.hok.fresh hb')
    rcases k with ⟨hq, k⟩ | ⟨hq, k⟩
    · obtain ⟨its, rv, pl, hz⟩ := I1.list hq
      refine vi_call_enum (begins_list a its.toArray) pl.isList fun h' he ho hsz hk => wpAny_pyIter_enum he ?_
      exact ⟨_, [_, _], _, _, H1, rfl, I1.kept (t' := s1.toks) hk, turn_enum a _ _, ⟨⟨_, he⟩, ⟨_, ho, rfl, rfl⟩, Nat.succ_ne_self _⟩, fp, k⟩
    · obtain ⟨its, rv, pt, hz⟩ := I1.tuple hq
      have hal : a < s1.heap.objs.size := by
        obtain ⟨ob, q, _⟩ := pt
        exact Heap.lt_size q
      refine vi_call_enum (begins_tuple a its.toArray) pt fun h' he ho hsz hk => wpAny_pyIter_enum he ?_
      exact ⟨_, [_, _], _, _, H1, rfl, I1.kept (t' := s1.toks) hk, turn_et a _ _, ⟨⟨_, he⟩, ⟨_, ho, rfl, rfl⟩, Nat.succ_ne_self _, Nat.ne_of_lt hal, Nat.ne_of_lt (Nat.lt_succ_of_lt hal)⟩, fp, k⟩
def wEnum (a : DenA) : DenA := fun ρ h => (a ρ h).bind fun vs h1 => match vs with
  | [.tup xs] => .ok (numd 0 xs) h1
  | [.fl xs] => .ok (numd 0 xs) h1
  | _ => .bad
theorem r_wEnum {a : DenA} {elts : List Expr} {kk : Nat} (hg : Gl X "enumerate") (hm : X.mg "enumerate" = none) (ha : PA X [e] (tAr X.K E a)) (hs : starEach [e] X.env = [(false, eval e X.env)] := by rfl) :
    PI X (.Tuple elts kk tpos) (.Call (.Name "enumerate" p) [e] [] pos) (tIV X.K E (wEnum a)) := PI_imp (pi_enumA hg hm ha hs) (by
  rintro σ H R ⟨μ, z, h, ρ, hr, er, p⟩
  refine ⟨μ, z, h, ρ, hr, er, p.bind.mono fun μ1 h1 H1 vs s1 hr1 p1 ws vr => ?_⟩
  cases vr with
  | nil => exact p1.elim
  | cons v1 t =>
    cases t with
    | cons _ _ => cases v1 <;> exact p1.elim
    | nil =>
      cases v1 with
      | @tup a xs vs hq r => exact ⟨a, vs, rfl, .inr ⟨hq, pair_walk walk_et (fun μ2 H2 s2 => SqT.step s2 hq) r (p1 μ1 H1 Step.refl hr1)⟩⟩
      | @fl a xs vs hq n m r => exact ⟨a, vs, rfl, .inl ⟨SqL.of hq, pair_walk walk_enum (fun μ2 H2 s2 => SqL.of (s2.keep _ _ hq n)) r (p1 μ1 H1 Step.refl hr1)⟩⟩
      | _ => exact p1.elim)
/-! ### slices of either -/
def cutF (v : IV) (l u : Option Int) (h : Mem) : Ret IV := match v with
  | .tup xs => .ok (.tup (cutI xs l u)) h
  | v => match lsq h v with
    | some xs => .ok (.fl (cutI xs l u)) h
    | none => .bad
def dCut (d : Den) (lo hi : DenO) : Den := fun ρ h => (d ρ h).bind fun v h1 => (lo ρ h1).bind fun l h2 => (hi ρ h2).bind fun u h3 => cutF v l u h3
theorem r_cut {lo hi : Option Expr} {dl dh : DenO} {p2 : Pos} (ha : PE X a (tD X.K E da)) (hl : PO X lo (tOr' X.K E dl)) (hh : PO X hi (tOr' X.K E dh)) : PE X (.Subscript a (.Slice lo hi none p2) pos) (tD X.K E (dCut da dl dh)) := PE_imp (pe_slice (sl_list.or sl_tupA) ha hl hh) (by
  rintro σ H Q ⟨μ, z, h, ρ, hr, er, p⟩
  refine tD_of hr er p.bind fun μ1 h1 H1 v w s1 hr1 p1 vr1 => ?_
  refine ⟨μ1, z, h1, ρ, hr1, er.step s1, p1.bind.mono fun μ2 h2 H2 l s2 hr2 p2 => ?_⟩
  refine ⟨μ2, z, h2, ρ, hr2, (er.step s1).step s2, p2.bind.mono fun μ3 h3 H3 u s3 hr3 p3 => ?_⟩
  have vr3 := (vr1.step s2).step s3
  have lists : post X.K E μ3 z H3 (match lsq h3 v with
    | some xs => .ok (.fl (cutI xs l u)) h3
    | none => .bad) (VQ X.K z Q) → rSlL X.K w l u H3 Q := fun p4 => by
    cases e1 : lsq h3 v with
    | none => rw [e1] at p4; exact p4.elim
    | some xs =>
      rw [e1] at p4
      obtain ⟨a, vs, ex, hq, r⟩ := lsq_H hr3 vr3 e1
      exact ⟨a, vs, ex, hq, flQ p4 hr3 (cut_rel r l u)⟩
  cases vr3 with
  | @tup a xs vs hq r =>
    refine .inr ⟨a, vs, rfl, hq, fun e => ?_, fun _ => tupQ p3 hr3 (cut_rel r l u)⟩
    have ec : cutI xs l u = xs := by
      unfold cutI
      rw [r.length, e.1, e.2, List.drop_zero, Nat.sub_zero, ← r.length, List.take_length]
    have p4 : post X.K E μ3 z H3 (.ok (.tup (cutI xs l u)) h3) (VQ X.K z Q) := p3
    rw [ec] at p4
    exact p4 μ3 H3 Step.refl hr3 _ (.tup hq r)
  | non => exact .inl (lists p3)
  | bl _ => exact .inl (lists p3)
  | int _ => exact .inl (lists p3)
  | str _ => exact .inl (lists p3)
  | fl _ _ _ _ => exact .inl (lists p3)
  | fz _ _ => exact .inl (lists p3)
  | loc _ => exact .inl (lists p3))
end
end VI
namespace VI
open PySem
theorem bt_len : bootBuiltins "len" = some (.builtin "len") := by decide +kernel
theorem bt_abs : bootBuiltins "abs" = some (.builtin "abs") := by decide +kernel
theorem bt_max : bootBuiltins "max" = some (.builtin "max") := by decide +kernel
theorem bt_min : bootBuiltins "min" = some (.builtin "min") := by decide +kernel
theorem bt_sum : bootBuiltins "sum" = some (.builtin "sum") := by decide +kernel
theorem bt_repr : bootBuiltins "repr" = some (.builtin "repr") := by decide +kernel
theorem bt_sorted : bootBuiltins "sorted" = some (.builtin "sorted") := by decide +kernel
theorem bt_int : bootBuiltins "int" = some (.type "int") := by decide +kernel
theorem bt_tuple : bootBuiltins "tuple" = some (.type "tuple") := by decide +kernel
theorem bt_list : bootBuiltins "list" = some (.type "list") := by decide +kernel
end VI
end

section
/-! The draws that laws share, as plain functions. -/
namespace VI
open PySem PySem.Spec PyProof.Rows L2
def d__law_source : DenS :=
    (sSeq (sAsg (tgN 1) (dC (.int 11)))
    (sSeq (sFor (wSeq (dVar 0)) (Sh.tg (.n 2)) (sAsg (tgN 1) (dBin modF (dArg toIntF (aCons (dBin addF (dBin addF (dBin mulF (dVar 1) (dC (.int 69069))) (dBin mulF (dVar 2) (dC (.int 31)))) (dC (.int 5))) aNil)) (dC (.int 2147483629)))))
    (sRet (dDisp ["cells", "left", "mixed", "turn"] (aCons (dAl (fRev (dFl (fLc (wSeq (dVar 0)) (Sh.tg (.n 2)) dYes (dArg absF (aCons (dVar 2) aNil)) [2])))) (aCons (dC (.int 1)) (aCons (dVar 1) (aCons (dC (.int 0)) aNil))))))))
def fn__law_source : FnI := funI 3 1 d__law_source
def d__law_pick : DenS :=
    (sSeq (sWh (dAndT (dTst (dBin gtF (dVar 1) (dC (.int 1)))) (dAndT (dTst (dBin ltF (dGetI (dVar 0) (dC (.str "left"))) (dC (.int 2)))) (dTst (dBin gtF (dArg lenF (aCons (dGetI (dVar 0) (dC (.str "cells"))) aNil)) (dC (.int 0)))))) (sDPutI (dVar 0) (dC (.str "left")) (dML popF (dGetI (dVar 0) (dC (.str "cells"))) aNil)))
    (sSeq (sAsg (tgN 2) (dGetI (dVar 0) (dC (.str "left"))))
    (sSeq (sIf (dOrT (dTst (dBin ltF (dVar 1) (dC (.int 2)))) (dTst (dBin gtF (dVar 2) (dC (.int 1))))) (sSeq (sDPutI (dVar 0) (dC (.str "left")) (dBin divF (dVar 2) (dArg maxF (aCons (dC (.int 1)) (aCons (dVar 1) aNil)))))
    (sRet (dBin modF (dArg toIntF (aCons (dVar 2) aNil)) (dArg maxF (aCons (dC (.int 1)) (aCons (dVar 1) aNil)))))) sNx)
    (sSeq (sDPutI (dVar 0) (dC (.str "turn")) (dBin addF (dGetI (dVar 0) (dC (.str "turn"))) (dC (.int 1))))
    (sSeq (sAsg (tgN 3) (dBin modF (dArg toIntF (aCons (dBin addF (dGetI (dVar 0) (dC (.str "mixed"))) (dBin mulF (dGetI (dVar 0) (dC (.str "turn"))) (dC (.int 104729)))) aNil)) (dC (.int 998244353))))
    (sSeq (sAsg (tgN 3) (dBin modF (dArg toIntF (aCons (dBin addF (dBin mulF (dVar 3) (dVar 3)) (dBin mulF (dGetI (dVar 0) (dC (.str "turn"))) (dC (.int 17)))) aNil)) (dC (.int 2147483647))))
    (sSeq (sDPutI (dVar 0) (dC (.str "mixed")) (dVar 3))
    (sRet (dBin modF (dArg toIntF (aCons (dBin divF (dVar 3) (dC (.int 16))) aNil)) (dVar 1))))))))))
def fn__law_pick : FnI := funI 4 2 d__law_pick
def d__law_of : DenS :=
    (sRet (dBin ixF (dVar 1) (dArg fn__law_pick (aCons (dVar 0) (aCons (dArg lenF (aCons (dVar 1) aNil)) aNil)))))
def fn__law_of : FnI := funI 2 2 d__law_of
def d__law_mixed : DenS :=
    (sSeq (sAsg (tgN 2) (dAl (fArg listF (aCons (dVar 1) aNil))))
    (sRet (dFl (fLc (wRng1 (aCons (dArg lenF (aCons (dVar 2) aNil)) aNil)) (Sh.tg (.n 3)) dYes (dML popAtF (dVar 2) (aCons (dArg fn__law_pick (aCons (dVar 0) (aCons (dArg lenF (aCons (dVar 2) aNil)) aNil))) aNil)) [3]))))
def fn__law_mixed : FnI := funI 4 2 d__law_mixed
def d__law_draw_request : DenS :=
    (sSeq (sAsg (tgN 2) (dArg fn__law_pick (aCons (dVar 0) (aCons (dC (.int 8)) aNil))))
    (sSeq (sIf (dTst (dBin eqF (dVar 2) (dC (.int 0)))) (sRet (dTup aNil)) sNx)
    (sSeq (sIf (dTst (dBin eqF (dVar 2) (dC (.int 1)))) (sSeq (sAsg (tgN 3) (dArg fn__law_pick (aCons (dVar 0) (aCons (dVar 1) aNil))))
    (sRet (dArg tupleF (aCons (dFl (fRg2 (dVar 3) (dArg minF (aCons (dVar 1) (aCons (dBin addF (dVar 3) (dC (.int 3))) aNil))))) aNil)))) sNx)
    (sSeq (sAsg (tgN 4) (dBin ixF (dFl (fLst (aCons (dC (.int 1)) (aCons (dC (.int 2)) (aCons (dC (.int 2)) (aCons (dC (.int 2)) (aCons (dC (.int 3)) (aCons (dBin addF (dC (.int 1)) (dArg fn__law_pick (aCons (dVar 0) (aCons (dVar 1) aNil)))) aNil)))))))) (dBin subF (dVar 2) (dC (.int 2)))))
    (sRet (dArg tupleF (aCons (dFl (fArg sortF (aCons (dCut (dArg fn__law_mixed (aCons (dVar 0) (aCons (dFl (fRg1 (dVar 1))) aNil))) oNone (oSome (dVar 4))) aNil))) aNil)))))))
def fn__law_draw_request : FnI := funI 5 2 d__law_draw_request
def d__law_draw_yard : DenS :=
    (sSeq (sAsg (Sh.tg (.t (.cons (.n 3) (.cons (.n 4) .nil)))) (dTup (aCons (dBin addF (dC (.int 1)) (dArg fn__law_pick (aCons (dVar 0) (aCons (dVar 1) aNil)))) (aCons (dArg fn__law_of (aCons (dVar 0) (aCons (dFl (fLst (aCons (dFl (fLst (aCons (dC (.int 1)) aNil))) (aCons (dFl (fLst (aCons (dC (.int 1)) (aCons (dC (.int 2)) aNil)))) (aCons (dFl (fLst (aCons (dC (.int 1)) (aCons (dC (.int 3)) (aCons (dC (.int 3)) (aCons (dC (.int 9)) aNil)))))) (aCons (dFl (fLst (aCons (dC (.int 1)) (aCons (dC (.int 2)) (aCons (dC (.int 5)) (aCons (dC (.int 7)) (aCons (dBin powF (dC (.int 10)) (dC (.int 6))) aNil))))))) aNil)))))) aNil))) aNil))))
    (sRet (dTup (aCons (dBin addF (dC (.int 1)) (dArg fn__law_pick (aCons (dVar 0) (aCons (dVar 2) aNil)))) (aCons (dArg tupleF (aCons (dFl (fLc (wRng1 (aCons (dVar 3) aNil)) (Sh.tg (.n 5)) dYes (dArg fn__law_of (aCons (dVar 0) (aCons (dVar 4) aNil))) [5])) aNil)) aNil)))))
def fn__law_draw_yard : FnI := funI 6 3 d__law_draw_yard
def d__law_draw_row : DenS :=
    (sSeq (sAsg (tgN 3) (dAl (fLst aNil)))
    (sSeq (sFor (wRng1 (aCons (dArg fn__law_pick (aCons (dVar 0) (aCons (dBin addF (dVar 2) (dC (.int 1))) aNil))) aNil)) (Sh.tg (.n 4)) (sSeq (sAsg (tgN 5) (dAnd (dBin neF (dVar 3) (dFl (fLst aNil))) (dBin eqF (dArg fn__law_pick (aCons (dVar 0) (aCons (dC (.int 4)) aNil))) (dC (.int 0)))))
    (sExp (dML appF (dVar 3) (aCons (dIf (dTst (dVar 5)) (dArg fn__law_of (aCons (dVar 0) (aCons (dVar 3) aNil))) (dArg fn__law_draw_request (aCons (dVar 0) (aCons (dVar 1) aNil)))) aNil)))))
    (sRet (dArg tupleF (aCons (dVar 3) aNil)))))
def fn__law_draw_row : FnI := funI 6 3 d__law_draw_row
def d__law_draw_gifts : DenS :=
    (sSeq (sAsg (Sh.tg (.t (.cons (.n 3) (.cons (.n 4) .nil)))) (dTup (aCons (dAl (fRep (dFl (fLst (aCons (dC (.int 0)) aNil))) (dArg lenF (aCons (dBin ixF (dVar 1) (dC (.int 1))) aNil)))) (aCons (dAl (fLst aNil)) aNil))))
    (sSeq (sFor (wSeq (dVar 2)) (Sh.tg (.n 5)) (sSeq (sAsg (tgN 6) (dFl (fLc (wSeq (dVar 5)) (Sh.tg (.n 8)) (dTst (dBin ltF (dBin ixF (dVar 3) (dVar 8)) (dBin ixF (dVar 1) (dC (.int 0))))) (dVar 8) [8])))
    (sSeq (sAsg (tgN 7) (dIf (dAndT (dTst (dBin neF (dVar 6) (dFl (fLst aNil)))) (dTst (dBin gtF (dArg fn__law_pick (aCons (dVar 0) (aCons (dC (.int 6)) aNil))) (dC (.int 0))))) (dArg fn__law_of (aCons (dVar 0) (aCons (dVar 6) aNil))) (dC .non)))
    (sSeq (sExp (dML appF (dVar 4) (aCons (dVar 7) aNil)))
    (sIf (dTst (dBin notNF (dVar 7) (dC .non))) (sPut (dVar 3) (dVar 7) (dBin addF (dBin ixF (dVar 3) (dVar 7)) (dC (.int 1)))) sNx)))))
    (sRet (dArg tupleF (aCons (dVar 4) aNil)))))
def fn__law_draw_gifts : FnI := funI 9 3 d__law_draw_gifts
def d__law_loads : DenS :=
    (sRet (dFl (fLc (wRng1 (aCons (dArg lenF (aCons (dBin ixF (dVar 0) (dC (.int 1))) aNil)) aNil)) (Sh.tg (.n 2)) dYes (dArg lenF (aCons (dFl (fLc (wSeq (dVar 1)) (Sh.tg (.n 3)) (dTst (dBin eqF (dVar 3) (dVar 2))) (dVar 3) [3])) aNil)) [2])))
def fn__law_loads : FnI := funI 4 2 d__law_loads
end VI
end

section
/-! Reckoning with the plain functions. -/
namespace VI
open PySem PySem.Spec PyProof.Rows L2
section
variable {ρ : Sl} {h h1 : Mem} {v : IV}
theorem e_var {i : Nat} (e : ρ[i]? = some (some v)) : dVar i ρ h = .ok v h := by
  unfold dVar
  rw [e]
theorem e_bin {f : IV → IV → Mem → Ret IV} {a b : Den} {x y : IV} {h2 : Mem} (ha : a ρ h = .ok x h1) (hb : b ρ h1 = .ok y h2) : dBin f a b ρ h = f x y h2 := by
  unfold dBin
  rw [ha, Ret.bind_ok, hb, Ret.bind_ok]
theorem bind_of {α β : Type} {r : Ret α} {f : α → Mem → Ret β} {a : α} (e : r = .ok a h) : r.bind f = f a h := by rw [e]; rfl
end
end VI
end

section
namespace VI
open PySem PySem.Spec PyProof.Rows L2
/-- the source of draws -/
structure Src where
  cells : List Int
  left : Int
  mixed : Int
  turn : Int
structure Src.Ok (s : Src) : Prop where
  cells : ∀ x ∈ s.cells, 0 ≤ x
  left : 0 ≤ s.left
  mixed : 0 ≤ s.mixed
  turn : 0 ≤ s.turn
def mem (s : Src) (rest : Mem) : Mem := .lst (s.cells.map .int) :: .dK [(.inr "cells", .loc 0), (.inr "left", .int s.left), (.inr "mixed", .int s.mixed), (.inr "turn", .int s.turn)] :: rest
theorem mem_0 {s : Src} {rest : Mem} : (mem s rest)[0]? = some (.lst (s.cells.map .int)) := rfl
theorem mem_1 {s : Src} {rest : Mem} : (mem s rest)[1]? = some (.dK [(.inr "cells", .loc 0), (.inr "left", .int s.left), (.inr "mixed", .int s.mixed), (.inr "turn", .int s.turn)]) := rfl
theorem val_cells {a b c d : IV} : valI [(.inr "cells", a), (.inr "left", b), (.inr "mixed", c), (.inr "turn", d)] (.inr "cells") = some a := by rfl
theorem val_left {a b c d : IV} : valI [(.inr "cells", a), (.inr "left", b), (.inr "mixed", c), (.inr "turn", d)] (.inr "left") = some b := by rfl
theorem val_mixed {a b c d : IV} : valI [(.inr "cells", a), (.inr "left", b), (.inr "mixed", c), (.inr "turn", d)] (.inr "mixed") = some c := by rfl
theorem val_turn {a b c d : IV} : valI [(.inr "cells", a), (.inr "left", b), (.inr "mixed", c), (.inr "turn", d)] (.inr "turn") = some d := by rfl
theorem put_left {a b c d x : IV} : putI [(.inr "cells", a), (.inr "left", b), (.inr "mixed", c), (.inr "turn", d)] (.inr "left") x = [(.inr "cells", a), (.inr "left", x), (.inr "mixed", c), (.inr "turn", d)] := by rfl
theorem put_mixed {a b c d x : IV} : putI [(.inr "cells", a), (.inr "left", b), (.inr "mixed", c), (.inr "turn", d)] (.inr "mixed") x = [(.inr "cells", a), (.inr "left", b), (.inr "mixed", x), (.inr "turn", d)] := by rfl
theorem put_turn {a b c d x : IV} : putI [(.inr "cells", a), (.inr "left", b), (.inr "mixed", c), (.inr "turn", d)] (.inr "turn") x = [(.inr "cells", a), (.inr "left", b), (.inr "mixed", c), (.inr "turn", x)] := by rfl
section
variable {ρ : Sl} {s : Src} {rest : Mem} {i : Nat}
theorem get_left (e : ρ[i]? = some (some (.loc 1))) : dGetI (dVar i) (dC (.str "left")) ρ (mem s rest) = .ok (.int s.left) (mem s rest) := by
  simp only [dGetI, dBin, dVar, e, Ret.bind_ok, dC, mem_1, keyI, val_left]
theorem get_cells (e : ρ[i]? = some (some (.loc 1))) : dGetI (dVar i) (dC (.str "cells")) ρ (mem s rest) = .ok (.loc 0) (mem s rest) := by
  simp only [dGetI, dBin, dVar, e, Ret.bind_ok, dC, mem_1, keyI, val_cells]
theorem get_mixed (e : ρ[i]? = some (some (.loc 1))) : dGetI (dVar i) (dC (.str "mixed")) ρ (mem s rest) = .ok (.int s.mixed) (mem s rest) := by
  simp only [dGetI, dBin, dVar, e, Ret.bind_ok, dC, mem_1, keyI, val_mixed]
theorem get_turn (e : ρ[i]? = some (some (.loc 1))) : dGetI (dVar i) (dC (.str "turn")) ρ (mem s rest) = .ok (.int s.turn) (mem s rest) := by
  simp only [dGetI, dBin, dVar, e, Ret.bind_ok, dC, mem_1, keyI, val_turn]
theorem set_left {d : Den} {x : Int} {s' : Src} (e : ρ[i]? = some (some (.loc 1))) (h : d ρ (mem s rest) = .ok (.int x) (mem s' rest)) : sDPutI (dVar i) (dC (.str "left")) d ρ (mem s rest) = .ok (.nx, ρ) (mem { s' with left := x } rest) := by
  simp only [sDPutI, h, dVar, e, Ret.bind_ok, dC, mem_1, keyI, put_left]
  rfl
theorem set_mixed {d : Den} {x : Int} {s' : Src} (e : ρ[i]? = some (some (.loc 1))) (h : d ρ (mem s rest) = .ok (.int x) (mem s' rest)) : sDPutI (dVar i) (dC (.str "mixed")) d ρ (mem s rest) = .ok (.nx, ρ) (mem { s' with mixed := x } rest) := by
  simp only [sDPutI, h, dVar, e, Ret.bind_ok, dC, mem_1, keyI, put_mixed]
  rfl
theorem set_turn {d : Den} {x : Int} {s' : Src} (e : ρ[i]? = some (some (.loc 1))) (h : d ρ (mem s rest) = .ok (.int x) (mem s' rest)) : sDPutI (dVar i) (dC (.str "turn")) d ρ (mem s rest) = .ok (.nx, ρ) (mem { s' with turn := x } rest) := by
  simp only [sDPutI, h, dVar, e, Ret.bind_ok, dC, mem_1, keyI, put_turn]
  rfl
theorem pop_cells {x : Int} {cs : List Int} (e : ρ[i]? = some (some (.loc 1))) (hc : s.cells = cs ++ [x]) : dML popF (dGetI (dVar i) (dC (.str "cells"))) aNil ρ (mem s rest) = .ok (.int x) (mem { s with cells := cs } rest) := by
  have hl : (mem s rest)[0]? = some (.lst (s.cells.map .int)) := rfl
  have e1 : isL (mem s rest) (.loc 0) = true := rfl
  unfold dML
  rw [get_cells e, Ret.bind_ok, e1, cond_true]
  simp only [aNil, Ret.bind_ok, popF, hl, hc]
  have e2 : ((cs ++ [x]).map IV.int)[((cs ++ [x]).map IV.int).length - 1]? = some (.int x) := by
    rw [List.map_append, List.length_append]
    simp
  have e3 : ((cs ++ [x]).map IV.int).dropLast = cs.map IV.int := by simp
  rw [e2, e3]
  rfl
end
end VI
end

section
namespace VI
open PySem PySem.Spec PyProof.Rows L2
theorem fmod_pos {a b : Int} (h : 0 < b) : 0 ≤ a.fmod b ∧ a.fmod b < b := ⟨Int.fmod_nonneg_of_pos a h, Int.fmod_lt_of_pos a h⟩
theorem fdiv_nn {a b : Int} (ha : 0 ≤ a) (hb : 0 ≤ b) : 0 ≤ a.fdiv b := Int.fdiv_nonneg ha hb
section
variable {ρ : Sl} {h h' h2 : Mem} {a b : Den}
theorem v_gt {i j : Int} (ha : a ρ h = .ok (.int i) h') (hb : b ρ h' = .ok (.int j) h2) : dTst (dBin gtF a b) ρ h = .ok (decide (j < i)) h2 := by
  simp only [dTst, e_bin ha hb, gtF, cmpF, intF, cond_true, Ret.bind_ok]
theorem v_lt {i j : Int} (ha : a ρ h = .ok (.int i) h') (hb : b ρ h' = .ok (.int j) h2) : dTst (dBin ltF a b) ρ h = .ok (decide (i < j)) h2 := by
  simp only [dTst, e_bin ha hb, ltF, cmpF, intF, cond_true, Ret.bind_ok]
theorem v_add {i j : Int} (ha : a ρ h = .ok (.int i) h') (hb : b ρ h' = .ok (.int j) h2) : dBin addF a b ρ h = .ok (.int (i + j)) h2 := by
  simp only [e_bin ha hb, addF]
theorem v_sub {i j : Int} (ha : a ρ h = .ok (.int i) h') (hb : b ρ h' = .ok (.int j) h2) : dBin subF a b ρ h = .ok (.int (i - j)) h2 := by
  simp only [e_bin ha hb, subF, intF, cond_true]
theorem v_mul {i j : Int} (ha : a ρ h = .ok (.int i) h') (hb : b ρ h' = .ok (.int j) h2) (hc : cMul i j = true) : dBin mulF a b ρ h = .ok (.int (i * j)) h2 := by
  simp only [e_bin ha hb, mulF, intF, hc, cond_true]
theorem v_div {i j : Int} (ha : a ρ h = .ok (.int i) h') (hb : b ρ h' = .ok (.int j) h2) (hc : cDiv i j = true) : dBin divF a b ρ h = .ok (.int (i.fdiv j)) h2 := by
  simp only [e_bin ha hb, divF, intF, hc, cond_true]
theorem v_mod {i j : Int} (ha : a ρ h = .ok (.int i) h') (hb : b ρ h' = .ok (.int j) h2) (hc : j ≠ 0) : dBin modF a b ρ h = .ok (.int (i.fmod j)) h2 := by
  simp only [e_bin ha hb, modF, intF, decide_eq_true hc, cond_true]
theorem v_c {v : IV} : dC v ρ h = .ok v h := rfl
theorem v_1 {f : List IV → Mem → Ret IV} {x : IV} (ha : a ρ h = .ok x h') : dArg f (aCons a aNil) ρ h = f [x] h' := by
  simp only [dArg, aCons, aNil, ha, Ret.bind_ok]
theorem v_2 {f : List IV → Mem → Ret IV} {x y : IV} {h2 : Mem} (ha : a ρ h = .ok x h') (hb : b ρ h' = .ok y h2) : dArg f (aCons a (aCons b aNil)) ρ h = f [x, y] h2 := by
  simp only [dArg, aCons, aNil, ha, hb, Ret.bind_ok]
theorem v_3 {f : List IV → Mem → Ret IV} {c : Den} {x y z : IV} {h2 h3 : Mem} (ha : a ρ h = .ok x h') (hb : b ρ h' = .ok y h2) (hc : c ρ h2 = .ok z h3) : dArg f (aCons a (aCons b (aCons c aNil))) ρ h = f [x, y, z] h3 := by
  simp only [dArg, aCons, aNil, ha, hb, hc, Ret.bind_ok]
theorem v_toInt {i : Int} (ha : a ρ h = .ok (.int i) h') : dArg toIntF (aCons a aNil) ρ h = .ok (.int i) h' := by rw [v_1 ha]; rfl
theorem v_max {i j : Int} (ha : a ρ h = .ok (.int i) h') (hb : b ρ h' = .ok (.int j) h') : dArg maxF (aCons a (aCons b aNil)) ρ h = .ok (.int (if j > i then j else i)) h' := by rw [v_2 ha hb]; rfl
theorem v_min {i j : Int} (ha : a ρ h = .ok (.int i) h') (hb : b ρ h' = .ok (.int j) h') : dArg minF (aCons a (aCons b aNil)) ρ h = .ok (.int (if j < i then j else i)) h' := by rw [v_2 ha hb]; rfl
theorem v_set {i : Nat} {d : Den} {v : IV} (hd : d ρ h = .ok v h') : sAsg (tgN i) d ρ h = .ok (.nx, ρ.set i (some v)) h' := by
  simp only [sAsg, hd, Ret.bind_ok, tgN]
theorem v_seq {a b : DenS} {ρ1 : Sl} (ha : a ρ h = .ok (.nx, ρ1) h') : sSeq a b ρ h = b ρ1 h' := by
  simp only [sSeq, ha, Ret.bind_ok]
theorem v_seqR {a b : DenS} {ρ1 : Sl} {v : IV} (ha : a ρ h = .ok (.rt v, ρ1) h') : sSeq a b ρ h = .ok (.rt v, ρ1) h' := by
  simp only [sSeq, ha, Ret.bind_ok]
theorem v_ret {d : Den} {v : IV} (hd : d ρ h = .ok v h') : sRet d ρ h = .ok (.rt v, ρ) h' := by
  simp only [sRet, hd, Ret.bind_ok]
theorem v_if {c : DenT} {a b : DenS} {k : Bool} (hc : c ρ h = .ok k h') : sIf c a b ρ h = if k then a ρ h' else b ρ h' := by
  simp only [sIf, hc, Ret.bind_ok]
theorem v_exp {d : Den} {v : IV} (hd : d ρ h = .ok v h') : sExp d ρ h = .ok (.nx, ρ) h' := by
  simp only [sExp, hd, Ret.bind_ok]
theorem v_or {a b : DenT} {x y : Bool} (ha : a ρ h = .ok x h') (hb : b ρ h' = .ok y h') : dOrT a b ρ h = .ok (x || y) h' := by
  cases x
  · simp only [dOrT, ha, hb, Ret.bind_ok, Bool.false_or]
    rfl
  · simp only [dOrT, ha, Ret.bind_ok, Bool.true_or]
    rfl
theorem v_and {a b : DenT} {x y : Bool} (ha : a ρ h = .ok x h') (hb : b ρ h' = .ok y h') : dAndT a b ρ h = .ok (x && y) h' := by
  cases x
  · simp only [dAndT, ha, Ret.bind_ok, Bool.false_and]
    rfl
  · simp only [dAndT, ha, hb, Ret.bind_ok, Bool.true_and]
    rfl
end
theorem cMul_r {i j : Int} (h0 : -18446744073709551616 < j) (h1 : j < 18446744073709551616) : cMul i j = true := by
  unfold cMul
  rw [decide_eq_true h0, decide_eq_true h1]
  simp
theorem cDiv_of {i j : Int} (h0 : 0 < j) (h1 : j < 1073741824) : cDiv i j = true := by
  unfold cDiv
  rw [decide_eq_true (show j ≠ 0 by omega), decide_eq_true (show j.natAbs < 1073741824 by omega)]
  rfl
/-- the loop that takes cells -/
theorem take_cells {m : Int} {rest : Mem} : ∀ (n : Nat) (s : Src), s.Ok → s.cells.length < n → ∃ s' : Src, s'.Ok ∧ s'.cells.length ≤ s.cells.length ∧
    whN (dAndT (dTst (dBin gtF (dVar 1) (dC (.int 1)))) (dAndT (dTst (dBin ltF (dGetI (dVar 0) (dC (.str "left"))) (dC (.int 2)))) (dTst (dBin gtF (dArg lenF (aCons (dGetI (dVar 0) (dC (.str "cells"))) aNil)) (dC (.int 0)))))) (sDPutI (dVar 0) (dC (.str "left")) (dML popF (dGetI (dVar 0) (dC (.str "cells"))) aNil)) n
      [some (.loc 1), some (.int m), none, none] (mem s rest) = .ok (.nx, [some (.loc 1), some (.int m), none, none]) (mem s' rest)
  | 0, s, _, h => absurd h (Nat.not_lt_zero _)
  | n + 1, s, ok, h => by
    have e0 : ([some (IV.loc 1), some (.int m), none, none] : Sl)[0]? = some (some (.loc 1)) := rfl
    have e1 : ([some (IV.loc 1), some (.int m), none, none] : Sl)[1]? = some (some (.int m)) := rfl
    have t1 : dTst (dBin gtF (dVar 1) (dC (.int 1))) [some (.loc 1), some (.int m), none, none] (mem s rest) = .ok (decide (1 < m)) (mem s rest) := v_gt (e_var e1) v_c
    have t2 : dTst (dBin ltF (dGetI (dVar 0) (dC (.str "left"))) (dC (.int 2))) [some (.loc 1), some (.int m), none, none] (mem s rest) = .ok (decide (s.left < 2)) (mem s rest) := v_lt (get_left e0) v_c
    have hl : dArg lenF (aCons (dGetI (dVar 0) (dC (.str "cells"))) aNil) [some (.loc 1), some (.int m), none, none] (mem s rest) = .ok (.int s.cells.length) (mem s rest) := by
      rw [v_1 (get_cells e0)]
      show Ret.ok (IV.int ((s.cells.map IV.int).length : Nat)) (mem s rest) = _
      rw [List.length_map]
    have t3 : dTst (dBin gtF (dArg lenF (aCons (dGetI (dVar 0) (dC (.str "cells"))) aNil)) (dC (.int 0))) [some (.loc 1), some (.int m), none, none] (mem s rest) = .ok (decide ((0 : Int) < s.cells.length)) (mem s rest) := v_gt hl v_c
    have tt := v_and t1 (v_and t2 t3)
    unfold whN
    rw [tt, Ret.bind_ok]
    cases hb : (decide (1 < m) && (decide (s.left < 2) && decide ((0 : Int) < s.cells.length))) with
    | false => exact ⟨s, ok, Nat.le_refl _, by simp⟩
    | true =>
      rw [Bool.and_eq_true, Bool.and_eq_true, decide_eq_true_eq, decide_eq_true_eq, decide_eq_true_eq] at hb
      have hne : s.cells ≠ [] := fun z => by
        rw [z] at hb
        simp at hb
      obtain ⟨cs, x, hx⟩ : ∃ cs x, s.cells = cs ++ [x] := ⟨s.cells.dropLast, s.cells.getLast hne, (List.dropLast_concat_getLast hne).symm⟩
      have p := set_left (d := dML popF (dGetI (dVar 0) (dC (.str "cells"))) aNil) e0 (pop_cells (rest := rest) e0 hx)
      rw [if_pos rfl, p, Ret.bind_ok]
      have hxx : 0 ≤ x := ok.cells x (by rw [hx]; simp)
      have ok2 : Src.Ok { cells := cs, left := x, mixed := s.mixed, turn := s.turn } := ⟨fun y hy => ok.cells y (by rw [hx]; exact List.mem_append_left _ hy), hxx, ok.mixed, ok.turn⟩
      have hlen : cs.length < n := by
        rw [hx, List.length_append] at h
        simp at h
        omega
      obtain ⟨s', o', l', e'⟩ := take_cells n _ ok2 hlen
      refine ⟨s', o', Nat.le_trans l' ?_, e'⟩
      rw [hx, List.length_append]
      exact Nat.le_add_right _ _
/-- a draw below m -/
theorem pick {s : Src} {rest : Mem} {m : Int} (ok : s.Ok) (hc : s.cells.length ≤ 63) (hm : m < 1073741824) :
    ∃ (s' : Src) (k : Nat), s'.Ok ∧ s'.cells.length ≤ 63 ∧ fn__law_pick [.loc 1, .int m] (mem s rest) = .ok (.int k) (mem s' rest) ∧ ((k : Int) < m ∨ k = 0) := by
  have hfuel : s.cells.length < fuel := by
    have : (64 : Nat) ≤ fuel := by decide
    omega
  obtain ⟨s1, ok1, l1, e1⟩ := take_cells (m := m) (rest := rest) fuel s ok hfuel
  have c1 : s1.cells.length ≤ 63 := Nat.le_trans l1 hc
  have start : fn__law_pick [.loc 1, .int m] (mem s rest) = (d__law_pick [some (.loc 1), some (.int m), none, none] (mem s rest)).bind fun r h1 => match r.1 with
    | .nx => .ok .non h1
    | .rt v => .ok v h1
    | _ => .bad := rfl
  rw [start]
  unfold d__law_pick
  have ew : sWh (dAndT (dTst (dBin gtF (dVar 1) (dC (.int 1)))) (dAndT (dTst (dBin ltF (dGetI (dVar 0) (dC (.str "left"))) (dC (.int 2)))) (dTst (dBin gtF (dArg lenF (aCons (dGetI (dVar 0) (dC (.str "cells"))) aNil)) (dC (.int 0)))))) (sDPutI (dVar 0) (dC (.str "left")) (dML popF (dGetI (dVar 0) (dC (.str "cells"))) aNil))
      [some (.loc 1), some (.int m), none, none] (mem s rest) = _ := e1
  rw [v_seq ew]
  rw [v_seq (v_set (get_left (i := 0) (s := s1) (rest := rest) rfl))]
  show ∃ (s' : Src) (k : Nat), _ ∧ _ ∧ (sSeq _ _ [some (.loc 1), some (.int m), some (.int s1.left), none] (mem s1 rest)).bind _ = _ ∧ _
  have g0 : ([some (IV.loc 1), some (.int m), some (.int s1.left), none] : Sl)[0]? = some (some (.loc 1)) := rfl
  have g1 : ([some (IV.loc 1), some (.int m), some (.int s1.left), none] : Sl)[1]? = some (some (.int m)) := rfl
  have g2 : ([some (IV.loc 1), some (.int m), some (.int s1.left), none] : Sl)[2]? = some (some (.int s1.left)) := rfl
  have t1 : dTst (dBin ltF (dVar 1) (dC (.int 2))) [some (.loc 1), some (.int m), some (.int s1.left), none] (mem s1 rest) = .ok (decide (m < 2)) (mem s1 rest) := v_lt (e_var g1) v_c
  have t2 : dTst (dBin gtF (dVar 2) (dC (.int 1))) [some (.loc 1), some (.int m), some (.int s1.left), none] (mem s1 rest) = .ok (decide (1 < s1.left)) (mem s1 rest) := v_gt (e_var g2) v_c
  have tt := v_or t1 t2
  have mx : dArg maxF (aCons (dC (.int 1)) (aCons (dVar 1) aNil)) [some (.loc 1), some (.int m), some (.int s1.left), none] (mem s1 rest) = .ok (.int (if m > 1 then m else 1)) (mem s1 rest) := v_max v_c (e_var g1)
  have mpos : 0 < (if m > 1 then m else 1) := by split <;> omega
  have mlt : (if m > 1 then m else 1) < 1073741824 := by split <;> omega
  cases hb : (decide (m < 2) || decide (1 < s1.left)) with
  | true =>
    rw [hb] at tt
    have dv : dBin divF (dVar 2) (dArg maxF (aCons (dC (.int 1)) (aCons (dVar 1) aNil))) [some (.loc 1), some (.int m), some (.int s1.left), none] (mem s1 rest) = .ok (.int (s1.left.fdiv (if m > 1 then m else 1))) (mem s1 rest) := v_div (e_var g2) mx (cDiv_of mpos mlt)
    have mx2 : dArg maxF (aCons (dC (.int 1)) (aCons (dVar 1) aNil)) [some (.loc 1), some (.int m), some (.int s1.left), none] (mem { s1 with left := s1.left.fdiv (if m > 1 then m else 1) } rest) = .ok (.int (if m > 1 then m else 1)) _ := v_max v_c (e_var g1)
    have md := v_mod (v_toInt (e_var (h := mem { s1 with left := s1.left.fdiv (if m > 1 then m else 1) } rest) g2)) mx2 (by omega)
    have br : sIf (dOrT (dTst (dBin ltF (dVar 1) (dC (.int 2)))) (dTst (dBin gtF (dVar 2) (dC (.int 1))))) (sSeq (sDPutI (dVar 0) (dC (.str "left")) (dBin divF (dVar 2) (dArg maxF (aCons (dC (.int 1)) (aCons (dVar 1) aNil)))))
        (sRet (dBin modF (dArg toIntF (aCons (dVar 2) aNil)) (dArg maxF (aCons (dC (.int 1)) (aCons (dVar 1) aNil)))))) sNx [some (.loc 1), some (.int m), some (.int s1.left), none] (mem s1 rest) = .ok (.rt (.int (s1.left.fmod (if m > 1 then m else 1))), [some (.loc 1), some (.int m), some (.int s1.left), none]) (mem { s1 with left := s1.left.fdiv (if m > 1 then m else 1) } rest) := by
      rw [v_if tt, if_pos rfl, v_seq (set_left g0 dv), v_ret md]
    rw [v_seqR br, Ret.bind_ok]
    obtain ⟨f0, f1⟩ := fmod_pos (a := s1.left) mpos
    refine ⟨{ s1 with left := s1.left.fdiv (if m > 1 then m else 1) }, (s1.left.fmod (if m > 1 then m else 1)).toNat, ⟨ok1.cells, fdiv_nn ok1.left (Int.le_of_lt mpos), ok1.mixed, ok1.turn⟩, c1, ?_, ?_⟩
    · rw [Int.toNat_of_nonneg f0]
    · rw [Int.toNat_of_nonneg f0]
      by_cases hm1 : m > 1
      · rw [if_pos hm1] at f1 ⊢
        exact .inl f1
      · rw [if_neg hm1] at f0 f1 ⊢
        right
        omega
  | false =>
    rw [hb] at tt
    rw [Bool.or_eq_false_iff, decide_eq_false_iff_not, decide_eq_false_iff_not] at hb
    have br : sIf (dOrT (dTst (dBin ltF (dVar 1) (dC (.int 2)))) (dTst (dBin gtF (dVar 2) (dC (.int 1))))) (sSeq (sDPutI (dVar 0) (dC (.str "left")) (dBin divF (dVar 2) (dArg maxF (aCons (dC (.int 1)) (aCons (dVar 1) aNil)))))
        (sRet (dBin modF (dArg toIntF (aCons (dVar 2) aNil)) (dArg maxF (aCons (dC (.int 1)) (aCons (dVar 1) aNil)))))) sNx [some (.loc 1), some (.int m), some (.int s1.left), none] (mem s1 rest) = .ok (.nx, [some (.loc 1), some (.int m), some (.int s1.left), none]) (mem s1 rest) := by
      rw [v_if tt]
      rfl
    rw [v_seq br]
    have a1 := v_add (get_turn (s := s1) (rest := rest) g0) (v_c (v := .int 1))
    rw [v_seq (set_turn g0 a1)]
    generalize hs2 : ({ s1 with turn := s1.turn + 1 } : Src) = s2
    have k1 : dBin addF (dGetI (dVar 0) (dC (.str "mixed"))) (dBin mulF (dGetI (dVar 0) (dC (.str "turn"))) (dC (.int 104729))) [some (.loc 1), some (.int m), some (.int s1.left), none] (mem s2 rest) = .ok (.int (s2.mixed + s2.turn * 104729)) (mem s2 rest) :=
      v_add (get_mixed g0) (v_mul (get_turn g0) v_c (cMul_r (by decide) (by decide)))
    have k2 := v_mod (v_toInt k1) (v_c (v := .int 998244353)) (by decide)
    rw [v_seq (v_set k2)]
    show ∃ (s' : Src) (k : Nat), _ ∧ _ ∧ (sSeq _ _ [some (.loc 1), some (.int m), some (.int s1.left), some (.int ((s2.mixed + s2.turn * 104729).fmod 998244353))] (mem s2 rest)).bind _ = _ ∧ _
    obtain ⟨q0, q1⟩ := fmod_pos (a := s2.mixed + s2.turn * 104729) (show (0 : Int) < 998244353 by decide)
    generalize (s2.mixed + s2.turn * 104729).fmod 998244353 = x at q0 q1
    have n0 : ([some (IV.loc 1), some (.int m), some (.int s1.left), some (.int x)] : Sl)[0]? = some (some (.loc 1)) := rfl
    have n3 : ([some (IV.loc 1), some (.int m), some (.int s1.left), some (.int x)] : Sl)[3]? = some (some (.int x)) := rfl
    have k3 : dBin addF (dBin mulF (dVar 3) (dVar 3)) (dBin mulF (dGetI (dVar 0) (dC (.str "turn"))) (dC (.int 17))) [some (.loc 1), some (.int m), some (.int s1.left), some (.int x)] (mem s2 rest) = .ok (.int (x * x + s2.turn * 17)) (mem s2 rest) :=
      v_add (v_mul (e_var n3) (e_var n3) (cMul_r (by omega) (by omega))) (v_mul (get_turn n0) v_c (cMul_r (by decide) (by decide)))
    have k4 := v_mod (v_toInt k3) (v_c (v := .int 2147483647)) (by decide)
    rw [v_seq (v_set k4)]
    show ∃ (s' : Src) (k : Nat), _ ∧ _ ∧ (sSeq _ _ [some (.loc 1), some (.int m), some (.int s1.left), some (.int ((x * x + s2.turn * 17).fmod 2147483647))] (mem s2 rest)).bind _ = _ ∧ _
    obtain ⟨r0, r1⟩ := fmod_pos (a := x * x + s2.turn * 17) (show (0 : Int) < 2147483647 by decide)
    generalize (x * x + s2.turn * 17).fmod 2147483647 = y at r0 r1
    have o0 : ([some (IV.loc 1), some (.int m), some (.int s1.left), some (.int y)] : Sl)[0]? = some (some (.loc 1)) := rfl
    have o1 : ([some (IV.loc 1), some (.int m), some (.int s1.left), some (.int y)] : Sl)[1]? = some (some (.int m)) := rfl
    have o3 : ([some (IV.loc 1), some (.int m), some (.int s1.left), some (.int y)] : Sl)[3]? = some (some (.int y)) := rfl
    rw [v_seq (set_mixed o0 (e_var o3))]
    have k5 := v_mod (v_toInt (v_div (e_var (h := mem { s2 with mixed := y } rest) o3) (v_c (v := .int 16)) (cDiv_of (by decide) (by decide)))) (e_var o1) (by omega)
    rw [v_ret k5, Ret.bind_ok]
    obtain ⟨w0, w1⟩ := fmod_pos (a := y.fdiv 16) (show 0 < m by omega)
    refine ⟨{ s2 with mixed := y }, ((y.fdiv 16).fmod m).toNat, ?_, ?_, ?_, ?_⟩
    · subst hs2
      have := ok1.turn
      exact ⟨ok1.cells, ok1.left, r0, by show 0 ≤ s1.turn + 1; omega⟩
    · subst hs2
      exact c1
    · rw [Int.toNat_of_nonneg w0]
    · rw [Int.toNat_of_nonneg w0]
      exact .inl w1
end VI
end

section
namespace VI
open PySem PySem.Spec PyProof.Rows L2
theorem fn_eq {n m : Nat} {b : DenS} {as : List IV} {h h' : Mem} {ρ : Sl} {v : IV} (hl : as.length = m) (e : b (as.map some ++ List.replicate (n - as.length) none) h = .ok (.rt v, ρ) h') : funI n m b as h = .ok v h' := by
  unfold funI
  rw [if_pos hl, e]
  rfl
theorem sl_lt {n : Nat} (h : n ≤ 100000) : n < sizeLine := by
  rw [sizeLine_eq]
  omega
theorem sl_le {n : Nat} (h : n ≤ 100000) : n ≤ sizeLine := Nat.le_of_lt (sl_lt h)
/-- a comprehension whose parts change nothing -/
theorem lc_pure {t : Tg} {tt : DenT} {el : Den} {ρ : Sl} {h : Mem} {p : IV → Bool} {g : IV → IV} : ∀ (items : List IV) (n : Nat), n + items.length ≤ 100000 →
    (∀ x ∈ items, ∃ ρ1, t x ρ = some ρ1 ∧ tt ρ1 h = .ok (p x) h ∧ (p x = true → el ρ1 h = .ok (g x) h)) → lcV t tt el ρ items n h = .ok ((items.filter p).map g) h
  | [], _, _, _ => rfl
  | x :: r, n, hn, hs => by
    obtain ⟨ρ1, e1, e2, e3⟩ := hs x List.mem_cons_self
    rw [List.length_cons] at hn
    unfold lcV
    rw [e1]
    simp only [e2, nox, Ret.bind_ok]
    cases hp : p x with
    | false =>
      rw [List.filter_cons_of_neg (by rw [hp]; exact Bool.false_ne_true)]
      simp only [Bool.false_eq_true, if_false]
      exact lc_pure r n (by omega) fun y hy => hs y (List.mem_cons_of_mem _ hy)
    | true =>
      rw [List.filter_cons_of_pos hp]
      simp only [if_true, e3 hp, nox, Ret.bind_ok, if_pos (sl_lt (show n ≤ 100000 by omega))]
      rw [lc_pure r (n + 1) (by omega) fun y hy => hs y (List.mem_cons_of_mem _ hy), Ret.bind_ok]
      rfl
theorem lc_map {t : Tg} {el : Den} {ρ : Sl} {h : Mem} {g : IV → IV} (items : List IV) (n : Nat) (hn : n + items.length ≤ 100000) (hs : ∀ x ∈ items, ∃ ρ1, t x ρ = some ρ1 ∧ el ρ1 h = .ok (g x) h) : lcV t dYes el ρ items n h = .ok (items.map g) h := by
  have := lc_pure (p := fun _ => true) (g := g) (tt := dYes) (t := t) (el := el) (ρ := ρ) (h := h) items n hn fun x hx => by
    obtain ⟨ρ1, e1, e2⟩ := hs x hx
    exact ⟨ρ1, e1, rfl, fun _ => e2⟩
  rw [this, List.filter_eq_self.mpr (fun _ _ => rfl)]

theorem a_nil {ρ : Sl} {h : Mem} : aNil ρ h = .ok [] h := rfl
theorem a_cons {ρ : Sl} {h h1 h2 : Mem} {d : Den} {r : DenA} {v : IV} {vs : List IV} (e1 : d ρ h = .ok v h1) (e2 : r ρ h1 = .ok vs h2) : aCons d r ρ h = .ok (v :: vs) h2 := by
  simp only [aCons, e1, e2, Ret.bind_ok]
structure Src.Good (s : Src) : Prop where
  ok : s.Ok
  few : s.cells.length ≤ 63
theorem pickG {s : Src} {rest : Mem} {m : Int} (g : s.Good) (hm : m < 1073741824) :
    ∃ (s' : Src) (k : Nat), s'.Good ∧ fn__law_pick [.loc 1, .int m] (mem s rest) = .ok (.int k) (mem s' rest) ∧ ((k : Int) < m ∨ k = 0) := by
  obtain ⟨s', k, o, c, e, q⟩ := pick (rest := rest) g.ok g.few hm
  exact ⟨s', k, ⟨o, c⟩, e, q⟩

/-! ### the source -/
theorem mix_loop {scr : IV} {h : Mem} : ∀ (ns : List Int) (m : Int) (c : Option IV), 0 ≤ m → ∃ (m' : Int) (c' : Option IV), 0 ≤ m' ∧
    forV (Sh.tg (.n 2)) (sAsg (tgN 1) (dBin modF (dArg toIntF (aCons (dBin addF (dBin addF (dBin mulF (dVar 1) (dC (.int 69069))) (dBin mulF (dVar 2) (dC (.int 31)))) (dC (.int 5))) aNil)) (dC (.int 2147483629)))) (ns.map .int) [some scr, some (.int m), c] h = .ok (.nx, [some scr, some (.int m'), c']) h
  | [], m, c, h0 => ⟨m, c, h0, rfl⟩
  | n :: ns, m, c, h0 => by
    have g1 : ([some scr, some (IV.int m), some (.int n)] : Sl)[1]? = some (some (.int m)) := rfl
    have g2 : ([some scr, some (IV.int m), some (.int n)] : Sl)[2]? = some (some (.int n)) := rfl
    have k := v_mod (v_toInt (v_add (v_add (v_mul (e_var (h := h) g1) (v_c (v := .int 69069)) (cMul_r (by decide) (by decide))) (v_mul (e_var g2) (v_c (v := .int 31)) (cMul_r (by decide) (by decide)))) (v_c (v := .int 5)))) (v_c (v := .int 2147483629)) (by decide)
    obtain ⟨q0, _⟩ := fmod_pos (a := m * 69069 + n * 31 + 5) (show (0 : Int) < 2147483629 by decide)
    obtain ⟨m', c', p0, e⟩ := mix_loop ns _ (some (.int n)) q0
    refine ⟨m', c', p0, ?_⟩
    rw [List.map_cons]
    unfold forV
    show (sAsg _ _ [some scr, some (.int m), some (.int n)] h).bind _ = _
    rw [v_set k, Ret.bind_ok]
    exact e
theorem source {ns : List Int} (hn : ns.length ≤ 63) : ∃ s : Src, s.Good ∧ fn__law_source [.fz (ns.map .int)] [] = .ok (.loc 1) (mem s []) := by
  obtain ⟨m, c, h0, e⟩ := mix_loop (scr := .fz (ns.map .int)) (h := []) ns 11 none (by decide)
  refine ⟨{ cells := (ns.map fun i => if i < 0 then -i else i).reverse, left := 1, mixed := m, turn := 0 }, ⟨⟨fun x hx => ?_, by show (0 : Int) ≤ 1; decide, h0, by show (0 : Int) ≤ 0; decide⟩, ?_⟩, ?_⟩
  · obtain ⟨i, _, rfl⟩ := List.mem_map.mp (List.mem_reverse.mp hx)
    split <;> omega
  · show ((ns.map fun i => if i < 0 then -i else i).reverse).length ≤ 63
    rw [List.length_reverse, List.length_map]
    exact hn
  · have cells : lcV (Sh.tg (.n 2)) dYes (dArg absF (aCons (dVar 2) aNil)) (wipeI [some (.fz (ns.map .int)), some (.int m), c] [2]) (ns.map IV.int) 0 [] = .ok ((ns.map IV.int).map fun v => match v with
        | .int i => IV.int (if i < 0 then -i else i)
        | v => v) [] := by
      refine lc_map _ _ (by rw [List.length_map]; omega) fun x hx => ?_
      obtain ⟨i, _, rfl⟩ := List.mem_map.mp hx
      refine ⟨_, rfl, ?_⟩
      rw [v_1 (e_var (v := .int i) rfl)]
      rfl
    have cl : dAl (fRev (dFl (fLc (wSeq (dVar 0)) (Sh.tg (.n 2)) dYes (dArg absF (aCons (dVar 2) aNil)) [2]))) [some (.fz (ns.map .int)), some (.int m), c] [] = .ok (.loc 0) [.lst (((ns.map fun i => if i < 0 then -i else i).reverse).map .int)] := by
      unfold dAl fRev dFl fLc wSeq
      rw [e_var (v := .fz (ns.map .int)) rfl]
      simp only [Ret.bind_ok]
      rw [cells]
      simp only [Ret.bind_ok, lsq, lstOf]
      have er : ((ns.map IV.int).map fun v => match v with
        | .int i => IV.int (if i < 0 then -i else i)
        | v => v).reverse = ((ns.map fun i => if i < 0 then -i else i).reverse).map IV.int := by
        rw [List.map_reverse, List.map_map, List.map_map]
        rfl
      rw [er]
      rfl
    unfold fn__law_source
    refine fn_eq (ρ := [some (.fz (ns.map .int)), some (.int m), c]) rfl ?_
    unfold d__law_source
    rw [v_seq (v_set v_c)]
    have fe : sFor (wSeq (dVar 0)) (Sh.tg (.n 2)) (sAsg (tgN 1) (dBin modF (dArg toIntF (aCons (dBin addF (dBin addF (dBin mulF (dVar 1) (dC (.int 69069))) (dBin mulF (dVar 2) (dC (.int 31)))) (dC (.int 5))) aNil)) (dC (.int 2147483629)))) [some (.fz (ns.map .int)), some (.int 11), none] [] = .ok (.nx, [some (.fz (ns.map .int)), some (.int m), c]) [] := e
    have fe2 := v_seq (b := sRet (dDisp ["cells", "left", "mixed", "turn"] (aCons (dAl (fRev (dFl (fLc (wSeq (dVar 0)) (Sh.tg (.n 2)) dYes (dArg absF (aCons (dVar 2) aNil)) [2])))) (aCons (dC (.int 1)) (aCons (dVar 1) (aCons (dC (.int 0)) aNil)))))) fe
    refine Eq.trans fe2 ?_
    refine v_ret ?_
    unfold dDisp
    rw [a_cons cl (a_cons v_c (a_cons (e_var (v := .int m) rfl) (a_cons v_c a_nil)))]
    rfl
end VI
end

section
namespace VI
open PySem PySem.Spec PyProof.Rows L2
theorem len_seq {h : Mem} {v : IV} {xs : List IV} (e : seqOf h v = some xs) : lenF [v] h = .ok (.int xs.length) h := by
  cases v with
  | str s => cases e
  | non => cases e
  | bl _ => cases e
  | int _ => cases e
  | tup ys => have e' := Option.some.inj e; subst e'; rfl
  | fz ys => have e' := Option.some.inj e; subst e'; rfl
  | fl ys => have e' := Option.some.inj e; subst e'; rfl
  | loc l =>
    show (match seqOf h (.loc l) with
      | some xs => Ret.ok (IV.int xs.length) h
      | none => .bad) = _
    rw [e]
theorem ix_seq' {h : Mem} {v y : IV} {xs : List IV} {k : Nat} (e : seqOf h v = some xs) (ek : xs[k]? = some y) : ixF v (.int (k : Nat)) h = .ok y h := by
  have ea : atI xs ((k : Nat) : Int) = some y := atI_nat ek
  have gen : (match seqOf h v with
      | some xs => (match atI xs ((k : Nat) : Int) with
        | some y => Ret.ok y h
        | none => .bad)
      | none => .bad) = .ok y h := by
    rw [e]
    simp only [ea]
  cases v with
  | str s => cases e
  | non => cases e
  | bl _ => cases e
  | int _ => cases e
  | tup ys => exact gen
  | fz ys => exact gen
  | fl ys => exact gen
  | loc l => exact gen
theorem v_ix {ρ : Sl} {h h1 h2 : Mem} {a b : Den} {v y : IV} {xs : List IV} {k : Nat} (ha : a ρ h = .ok v h1) (hb : b ρ h1 = .ok (.int (k : Nat)) h2) (e : seqOf h2 v = some xs) (ek : xs[k]? = some y) : dBin ixF a b ρ h = .ok y h2 := by
  rw [e_bin ha hb]
  exact ix_seq' e ek
theorem v_len {ρ : Sl} {h h1 : Mem} {a : Den} {v : IV} {xs : List IV} (ha : a ρ h = .ok v h1) (e : seqOf h1 v = some xs) : dArg lenF (aCons a aNil) ρ h = .ok (.int xs.length) h1 := by
  rw [v_1 ha]
  exact len_seq e
/-- one of some -/
theorem of {s : Src} {rest : Mem} {v : IV} {xs : List IV} (g : s.Good) (hv : ∀ s, seqOf (mem s rest) v = some xs) (hne : xs ≠ []) (hl : xs.length < 1073741824) :
    ∃ (s' : Src) (k : Nat) (y : IV), s'.Good ∧ xs[k]? = some y ∧ fn__law_of [.loc 1, v] (mem s rest) = .ok y (mem s' rest) := by
  obtain ⟨s', k, g', e, hk⟩ := pickG (rest := rest) (m := (xs.length : Nat)) g (by omega)
  have hk' : k < xs.length := by
    have : 0 < xs.length := List.length_pos_iff.mpr hne
    omega
  refine ⟨s', k, xs[k], g', List.getElem?_eq_getElem hk', ?_⟩
  unfold fn__law_of
  refine fn_eq (ρ := [some (.loc 1), some v]) rfl ?_
  unfold d__law_of
  have e0 : ([some (IV.loc 1), some v] : Sl)[0]? = some (some (.loc 1)) := rfl
  have e1 : ([some (IV.loc 1), some v] : Sl)[1]? = some (some v) := rfl
  show sRet _ [some (.loc 1), some v] (mem s rest) = _
  refine v_ret (v_ix (e_var e1) ?_ (hv s') (List.getElem?_eq_getElem hk'))
  rw [v_2 (e_var e0) (v_len (e_var e1) (hv s))]
  exact e
theorem mem_at {s : Src} {rest : Mem} {o : IO} {ext : Mem} : (mem s (rest ++ o :: ext))[rest.length + 2]? = some o := by
  show (rest ++ o :: ext)[rest.length]? = some o
  rw [List.getElem?_append_right (Nat.le_refl _), Nat.sub_self]
  rfl
theorem mem_set {s : Src} {rest : Mem} {o p : IO} {ext : Mem} : (mem s (rest ++ o :: ext)).set (rest.length + 2) p = mem s (rest ++ p :: ext) := by
  show mem s ((rest ++ o :: ext).set rest.length p) = _
  rw [List.set_append_right _ _ (Nat.le_refl _), Nat.sub_self]
  rfl
theorem mem_len {s : Src} {rest : Mem} : (mem s rest).length = rest.length + 2 := rfl
theorem mem_app {s : Src} {rest ext : Mem} : mem s rest ++ ext = mem s (rest ++ ext) := rfl
theorem ixN_nat {n k : Nat} (h : k < n) : ixN n ((k : Nat) : Int) = some k := by
  unfold ixN
  rw [if_pos (by omega), if_pos (by omega)]
  rfl
theorem perm_erase {α : Type} : ∀ (l : List α) (k : Nat) (x : α), l[k]? = some x → (x :: l.eraseIdx k).Perm l
  | [], k, x, e => by simp at e
  | y :: r, 0, x, e => by
    have e' : y = x := by simpa using e
    subst e'
    exact .refl _
  | y :: r, k + 1, x, e => by
    have ih := perm_erase r k x (by simpa using e)
    exact (List.Perm.swap y x _).trans (ih.cons y)
/-- the turns of a mixing -/
theorem mix_turns {rest ext : Mem} {v3 : IV} : ∀ (items ys : List IV) (c : Nat) (s : Src), s.Good → items.length = ys.length → c + items.length ≤ 100000 → ys.length < 1073741824 →
    ∃ (s' : Src) (zs : List IV), s'.Good ∧ zs.Perm ys ∧ lcV (Sh.tg (.n 3)) dYes (dML popAtF (dVar 2) (aCons (dArg fn__law_pick (aCons (dVar 0) (aCons (dArg lenF (aCons (dVar 2) aNil)) aNil))) aNil)) [some (.loc 1), some v3, some (.loc (rest.length + 2)), none] items c (mem s (rest ++ .lst ys :: ext)) =
      .ok zs (mem s' (rest ++ .lst [] :: ext))
  | [], ys, c, s, g, hl, _, _ => by
    have : ys = [] := List.length_eq_zero_iff.mp hl.symm
    subst this
    exact ⟨s, [], g, .refl _, rfl⟩
  | x :: items, ys, c, s, g, hl, hc, hy => by
    rw [List.length_cons] at hl hc
    obtain ⟨s1, k, g1, e, hk⟩ := pickG (rest := rest ++ .lst ys :: ext) (m := (ys.length : Nat)) g (by omega)
    have hk' : k < ys.length := by omega
    have ey : ys[k]? = some ys[k] := List.getElem?_eq_getElem hk'
    have hel : (ys.eraseIdx k).length = items.length := by
      rw [List.length_eraseIdx, if_pos hk']
      omega
    obtain ⟨s2, zs, g2, pm, e2⟩ := mix_turns (rest := rest) (ext := ext) (v3 := v3) items (ys.eraseIdx k) (c + 1) s1 g1 hel.symm (by omega) (by omega)
    refine ⟨s2, ys[k] :: zs, g2, (pm.cons _).trans (perm_erase ys k _ ey), ?_⟩
    have e0 : ([some (IV.loc 1), some v3, some (.loc (rest.length + 2)), some x] : Sl)[0]? = some (some (.loc 1)) := rfl
    have e2' : ([some (IV.loc 1), some v3, some (.loc (rest.length + 2)), some x] : Sl)[2]? = some (some (.loc (rest.length + 2))) := rfl
    have sq : ∀ s, seqOf (mem s (rest ++ .lst ys :: ext)) (.loc (rest.length + 2)) = some ys := fun s => by
      show (match (mem s (rest ++ IO.lst ys :: ext))[rest.length + 2]? with
        | some (.lst xs) => some xs
        | _ => none) = _
      rw [mem_at]
    have il : isL (mem s (rest ++ .lst ys :: ext)) (.loc (rest.length + 2)) = true := by
      unfold isL
      have : lstOf (mem s (rest ++ .lst ys :: ext)) (.loc (rest.length + 2)) = some ys := sq s
      rw [this]
      rfl
    have pk : dArg fn__law_pick (aCons (dVar 0) (aCons (dArg lenF (aCons (dVar 2) aNil)) aNil)) [some (.loc 1), some v3, some (.loc (rest.length + 2)), some x] (mem s (rest ++ .lst ys :: ext)) = .ok (.int (k : Nat)) (mem s1 (rest ++ .lst ys :: ext)) := by
      rw [v_2 (e_var e0) (v_len (e_var e2') (sq s))]
      exact e
    have pop : dML popAtF (dVar 2) (aCons (dArg fn__law_pick (aCons (dVar 0) (aCons (dArg lenF (aCons (dVar 2) aNil)) aNil))) aNil) [some (.loc 1), some v3, some (.loc (rest.length + 2)), some x] (mem s (rest ++ .lst ys :: ext)) = .ok ys[k] (mem s1 (rest ++ .lst (ys.eraseIdx k) :: ext)) := by
      unfold dML
      rw [e_var e2', Ret.bind_ok, il, cond_true, a_cons pk a_nil, Ret.bind_ok]
      unfold popAtF
      simp only [mem_at, ixN_nat hk', ey]
      rw [decide_eq_true (show (-9223372036854775808 : Int) ≤ (k : Nat) by omega), decide_eq_true (show ((k : Nat) : Int) < 9223372036854775808 by omega)]
      simp only [Bool.and_self, cond_true]
      rw [mem_set]
    unfold lcV
    show (match Sh.tg (.n 3) x [some (.loc 1), some v3, some (.loc (rest.length + 2)), none] with
      | none => Ret.bad
      | some ρ1 => (nox (dYes ρ1 (mem s (rest ++ IO.lst ys :: ext)))).bind fun b h1 => if b then (nox (dML popAtF (dVar 2) (aCons (dArg fn__law_pick (aCons (dVar 0) (aCons (dArg lenF (aCons (dVar 2) aNil)) aNil))) aNil) ρ1 h1)).bind fun y h2 => if c < sizeLine then (lcV (Sh.tg (.n 3)) dYes (dML popAtF (dVar 2) (aCons (dArg fn__law_pick (aCons (dVar 0) (aCons (dArg lenF (aCons (dVar 2) aNil)) aNil))) aNil)) [some (.loc 1), some v3, some (.loc (rest.length + 2)), none] items (c + 1) h2).bind fun ys h3 => .ok (y :: ys) h3 else .bad
        else lcV (Sh.tg (.n 3)) dYes (dML popAtF (dVar 2) (aCons (dArg fn__law_pick (aCons (dVar 0) (aCons (dArg lenF (aCons (dVar 2) aNil)) aNil))) aNil)) [some (.loc 1), some v3, some (.loc (rest.length + 2)), none] items c h1) = _
    show (nox (dML popAtF (dVar 2) (aCons (dArg fn__law_pick (aCons (dVar 0) (aCons (dArg lenF (aCons (dVar 2) aNil)) aNil))) aNil) [some (.loc 1), some v3, some (.loc (rest.length + 2)), some x] (mem s (rest ++ .lst ys :: ext)))).bind _ = _
    rw [pop]
    simp only [nox, Ret.bind_ok, if_pos (sl_lt (show c ≤ 100000 by omega)), e2]
theorem okR_nat {n : Nat} (h : n ≤ 1000000) : okR ((n : Nat) : Int) = true := by
  unfold okR
  rw [Bool.and_eq_true, decide_eq_true_eq, decide_eq_true_eq]
  constructor <;> omega
theorem rng1 {ρ : Sl} {h h1 : Mem} {d : Den} {n : Nat} (e : d ρ h = .ok (.int (n : Nat)) h1) (hn : n ≤ 1000000) : wRng1 (aCons d aNil) ρ h = .ok (rgI 0 (n : Nat)) h1 := by
  have q : aCons d aNil ρ h = .ok [.int (n : Nat)] h1 := a_cons e a_nil
  unfold wRng1
  rw [q, Ret.bind_ok]
  have k := okR_nat hn
  generalize ((n : Nat) : Int) = j at k ⊢
  show (bif okR j then Ret.ok (rgI 0 j) h1 else .bad) = _
  rw [k, cond_true]
/-- things mixed -/
theorem mixed {s : Src} {rest : Mem} {v : IV} {xs : List IV} (g : s.Good) (hv : seqOf (mem s rest) v = some xs) (hl : xs.length ≤ 50000) :
    ∃ (s' : Src) (zs : List IV), s'.Good ∧ zs.Perm xs ∧ fn__law_mixed [.loc 1, v] (mem s rest) = .ok (.fl zs) (mem s' (rest ++ [.lst []])) := by
  obtain ⟨s', zs, g', pm, e⟩ := mix_turns (rest := rest) (ext := ([] : Mem)) (v3 := v) (rgI 0 xs.length) xs 0 s g (by rw [rgI_len]; omega) (by rw [rgI_len]; omega) (by omega)
  refine ⟨s', zs, g', pm, ?_⟩
  unfold fn__law_mixed
  refine fn_eq (ρ := [some (.loc 1), some v, some (.loc (rest.length + 2)), none]) rfl ?_
  unfold d__law_mixed
  have e1 : ([some (IV.loc 1), some v, none, none] : Sl)[1]? = some (some v) := rfl
  have al : dAl (fArg listF (aCons (dVar 1) aNil)) [some (.loc 1), some v, none, none] (mem s rest) = .ok (.loc (rest.length + 2)) (mem s (rest ++ [.lst xs])) := by
    unfold dAl fArg
    rw [a_cons (e_var e1) a_nil, Ret.bind_ok]
    unfold listF
    simp only [hv, Ret.bind_ok, mem_len, mem_app]
  rw [show ([IV.loc 1, v].map some ++ List.replicate (4 - [IV.loc 1, v].length) none : Sl) = [some (.loc 1), some v, none, none] from rfl, v_seq (v_set al)]
  show sRet _ [some (.loc 1), some v, some (.loc (rest.length + 2)), none] (mem s (rest ++ [.lst xs])) = _
  refine v_ret ?_
  have sq : seqOf (mem s (rest ++ [.lst xs])) (.loc (rest.length + 2)) = some xs := by
    show (match (mem s (rest ++ IO.lst xs :: []))[rest.length + 2]? with
      | some (.lst xs) => some xs
      | _ => none) = _
    rw [mem_at]
  have e2 : ([some (IV.loc 1), some v, some (.loc (rest.length + 2)), none] : Sl)[2]? = some (some (.loc (rest.length + 2))) := rfl
  have rg : wRng1 (aCons (dArg lenF (aCons (dVar 2) aNil)) aNil) [some (.loc 1), some v, some (.loc (rest.length + 2)), none] (mem s (rest ++ [.lst xs])) = .ok (rgI 0 xs.length) (mem s (rest ++ [.lst xs])) := rng1 (v_len (e_var e2) sq) (by omega)
  unfold dFl fLc
  rw [rg, Ret.bind_ok]
  show (lcV (Sh.tg (.n 3)) dYes _ [some (.loc 1), some v, some (.loc (rest.length + 2)), none] (rgI 0 xs.length) 0 (mem s (rest ++ [.lst xs]))).bind _ = _
  rw [e]
  rfl
end VI
end

section
namespace VI
open PySem PySem.Spec PyProof.Rows L2
/-- ascending houses below n -/
structure ReqOk (n : Nat) (v : IV) : Prop where
  ex : ∃ hs : List Nat, v = .tup (hs.map fun k => .int (k : Nat)) ∧ hs.Pairwise (· < ·) ∧ ∀ k ∈ hs, k < n
theorem v_eqI {ρ : Sl} {h h1 h2 : Mem} {a b : Den} {i j : Int} (ha : a ρ h = .ok (.int i) h1) (hb : b ρ h1 = .ok (.int j) h2) : dBin eqF a b ρ h = .ok (.bl (decide (i = j))) h2 := by
  rw [e_bin ha hb]
  rfl
theorem v_tst {ρ : Sl} {h h1 : Mem} {d : Den} {b : Bool} (e : d ρ h = .ok (.bl b) h1) : dTst d ρ h = .ok b h1 := by
  simp only [dTst, e, Ret.bind_ok]
theorem rgI_nat (a b : Nat) : rgI (a : Nat) (b : Nat) = ((List.range (b - a)).map fun i => a + i).map fun k => IV.int (k : Nat) := by
  unfold rgI
  rw [List.map_map, show (((b : Nat) : Int) - ((a : Nat) : Int)).toNat = b - a by omega]
  apply List.map_congr_left
  intro i _
  show IV.int (((a : Nat) : Int) + ((i : Nat) : Int)) = IV.int (((a + i : Nat) : Nat) : Int)
  congr 1
theorem range_asc (a n : Nat) : ((List.range n).map fun i => a + i).Pairwise (· < ·) := by
  rw [List.pairwise_map]
  exact List.pairwise_lt_range.imp fun h => by omega
theorem rg1 {ρ : Sl} {h h1 : Mem} {d : Den} {n : Nat} (e : d ρ h = .ok (.int (n : Nat)) h1) (hn : n ≤ 1000000) : fRg1 d ρ h = .ok (rgI 0 (n : Nat)) h1 := by
  unfold fRg1
  rw [e, Ret.bind_ok]
  have k := okR_nat hn
  have k2 : ((n : Nat) : Int).toNat ≤ 16777216 := by omega
  generalize ((n : Nat) : Int) = j at k k2 ⊢
  show (bif okR j && decide (j.toNat ≤ 16777216) then Ret.ok (rgI 0 j) h1 else .bad) = _
  rw [k, decide_eq_true k2]
  rfl
theorem rg2 {ρ : Sl} {h h1 h2 : Mem} {d e : Den} {m n : Nat} (e1 : d ρ h = .ok (.int (m : Nat)) h1) (e2 : e ρ h1 = .ok (.int (n : Nat)) h2) (hm : m ≤ 1000000) (hn : n ≤ 1000000) : fRg2 d e ρ h = .ok (rgI (m : Nat) (n : Nat)) h2 := by
  unfold fRg2
  rw [e1, Ret.bind_ok, e2, Ret.bind_ok]
  have k := okR_nat hm
  have k1 := okR_nat hn
  have k2 : (((n : Nat) : Int) - ((m : Nat) : Int)).toNat ≤ 16777216 := by omega
  generalize ((n : Nat) : Int) = j at k1 k2 ⊢
  generalize ((m : Nat) : Int) = i at k k2 ⊢
  show (bif okR i && okR j && decide ((j - i).toNat ≤ 16777216) then Ret.ok (rgI i j) h2 else .bad) = _
  rw [k, k1, decide_eq_true k2]
  rfl
theorem v_fl {ρ : Sl} {h h1 : Mem} {d : DenA} {xs : List IV} (e : d ρ h = .ok xs h1) : dFl d ρ h = .ok (.fl xs) h1 := by
  simp only [dFl, e, Ret.bind_ok]
theorem f_lst {ρ : Sl} {h h1 : Mem} {d : DenA} {xs : List IV} (e : d ρ h = .ok xs h1) (hl : xs.length ≤ 100000) : fLst d ρ h = .ok xs h1 := by
  simp only [fLst, e, Ret.bind_ok, if_pos (sl_le hl)]
theorem v_tup {ρ : Sl} {h h1 : Mem} {d : DenA} {xs : List IV} (e : d ρ h = .ok xs h1) (hl : xs.length ≤ 100000) : dTup d ρ h = .ok (.tup xs) h1 := by
  simp only [dTup, e, Ret.bind_ok, if_pos (sl_le hl)]
theorem v_tuple {ρ : Sl} {h h1 : Mem} {a : Den} {v : IV} {xs : List IV} (ha : a ρ h = .ok v h1) (e : seqOf h1 v = some xs) : dArg tupleF (aCons a aNil) ρ h = .ok (.tup xs) h1 := by
  rw [v_1 ha]
  unfold tupleF
  simp only [e]
theorem allS_ints : ∀ ns : List Int, allS ((ns.map IV.int).map asI) = some ns
  | [] => rfl
  | n :: ns => by
    rw [List.map_cons, List.map_cons, show asI (.int n) = some n from rfl]
    unfold allS
    rw [allS_ints ns]
theorem cut_to (xs : List IV) (m : Nat) : cutI xs none (some (m : Nat)) = xs.take m := by
  unfold cutI
  rw [HT.sIx_none, HT.sIx_nat, List.drop_zero, Nat.sub_zero, ← List.take_eq_take_min]
theorem perm_ints {zs : List IV} {ns : List Int} (p : zs.Perm (ns.map .int)) : ∃ ms : List Int, zs = ms.map .int ∧ ms.Perm ns := by
  have all : ∀ z ∈ zs, ∃ i, z = IV.int i := fun z hz => by
    obtain ⟨i, _, e⟩ := List.mem_map.mp (p.mem_iff.mp hz)
    exact ⟨i, e.symm⟩
  let g : IV → Int := fun v => match v with
    | .int i => i
    | _ => 0
  refine ⟨zs.map g, ?_, ?_⟩
  · have go : ∀ l : List IV, (∀ z ∈ l, ∃ i, z = IV.int i) → l = (l.map g).map IV.int := fun l => by
      induction l with
      | nil => exact fun _ => rfl
      | cons z r ih =>
        intro hz
        obtain ⟨i, e⟩ := hz z List.mem_cons_self
        subst e
        rw [List.map_cons, List.map_cons, ← ih fun y hy => hz y (List.mem_cons_of_mem _ hy)]
    exact go zs all
  · have := p.map g
    rw [List.map_map] at this
    have e : ∀ l : List Int, l.map (g ∘ IV.int) = l := fun l => by
      induction l with
      | nil => rfl
      | cons x r ih => rw [List.map_cons, ih]; rfl
    rw [e] at this
    exact this
/-- ints that are ascending without repetition, all from naturals -/
theorem asc_nats {ms : List Int} (so : ms.Pairwise (· ≤ ·)) (nd : ms.Nodup) (h0 : ∀ i ∈ ms, 0 ≤ i) : ∃ hs : List Nat, ms = hs.map (fun k => ((k : Nat) : Int)) ∧ hs.Pairwise (· < ·) := by
  refine ⟨ms.map Int.toNat, ?_, ?_⟩
  · have go : ∀ l : List Int, (∀ i ∈ l, 0 ≤ i) → l = (l.map Int.toNat).map (fun k => ((k : Nat) : Int)) := fun l => by
      induction l with
      | nil => exact fun _ => rfl
      | cons z r ih =>
        intro hz
        rw [List.map_cons, List.map_cons, ← ih fun y hy => hz y (List.mem_cons_of_mem _ hy), Int.toNat_of_nonneg (hz z List.mem_cons_self)]
    exact go ms h0
  · rw [List.pairwise_map]
    have := so.and nd
    refine List.Pairwise.imp_of_mem ?_ this
    intro a b ha hb ⟨h1, h2⟩
    have a0 := h0 a ha
    have b0 := h0 b hb
    omega
theorem request {s : Src} {rest : Mem} {n : Nat} (g : s.Good) (hn0 : 0 < n) (hn : n ≤ 1000) :
    ∃ (s' : Src) (ext : Mem) (v : IV), s'.Good ∧ ReqOk n v ∧ fn__law_draw_request [.loc 1, .int (n : Nat)] (mem s rest) = .ok v (mem s' (rest ++ ext)) := by
  obtain ⟨s1, w, g1, e1, hw⟩ := pickG (rest := rest) (m := 8) g (by decide)
  have hw8 : w < 8 := by omega
  have p1 : dArg fn__law_pick (aCons (dVar 0) (aCons (dC (.int 8)) aNil)) [some (.loc 1), some (.int (n : Nat)), none, none, none] (mem s rest) = .ok (.int (w : Nat)) (mem s1 rest) := by
    rw [v_2 (e_var (v := .loc 1) rfl) v_c]
    exact e1
  have E0 : ([some (IV.loc 1), some (.int (n : Nat)), some (.int (w : Nat)), none, none] : Sl)[0]? = some (some (.loc 1)) := rfl
  have E1 : ([some (IV.loc 1), some (.int (n : Nat)), some (.int (w : Nat)), none, none] : Sl)[1]? = some (some (.int (n : Nat))) := rfl
  have E2 : ([some (IV.loc 1), some (.int (n : Nat)), some (.int (w : Nat)), none, none] : Sl)[2]? = some (some (.int (w : Nat))) := rfl
  have t0 : dTst (dBin eqF (dVar 2) (dC (.int 0))) [some (.loc 1), some (.int (n : Nat)), some (.int (w : Nat)), none, none] (mem s1 rest) = .ok (decide (((w : Nat) : Int) = 0)) (mem s1 rest) := v_tst (v_eqI (e_var E2) v_c)
  have t1 : dTst (dBin eqF (dVar 2) (dC (.int 1))) [some (.loc 1), some (.int (n : Nat)), some (.int (w : Nat)), none, none] (mem s1 rest) = .ok (decide (((w : Nat) : Int) = 1)) (mem s1 rest) := v_tst (v_eqI (e_var E2) v_c)
  by_cases h0 : w = 0
  · subst h0
    refine ⟨s1, [], .tup [], g1, ⟨[], rfl, .nil, by simp⟩, ?_⟩
    unfold fn__law_draw_request
    refine fn_eq (ρ := [some (.loc 1), some (.int (n : Nat)), some (.int ((0 : Nat) : Int)), none, none]) rfl ?_
    unfold d__law_draw_request
    rw [List.append_nil, show ([IV.loc 1, .int (n : Nat)].map some ++ List.replicate (5 - [IV.loc 1, .int (n : Nat)].length) none : Sl) = [some (.loc 1), some (.int (n : Nat)), none, none, none] from rfl, v_seq (v_set p1)]
    refine v_seqR ?_
    show sIf _ _ _ [some (.loc 1), some (.int (n : Nat)), some (.int ((0 : Nat) : Int)), none, none] (mem s1 rest) = _
    rw [v_if t0]
    exact v_ret (v_tup a_nil (by decide))
  · have f0 : decide (((w : Nat) : Int) = 0) = false := decide_eq_false (by omega)
    rw [f0] at t0
    by_cases h1 : w = 1
    · subst h1
      obtain ⟨s2, k, g2, e2, hk⟩ := pickG (rest := rest) (m := (n : Nat)) g1 (by omega)
      have hkn : k < n := by omega
      have p2 : dArg fn__law_pick (aCons (dVar 0) (aCons (dVar 1) aNil)) [some (.loc 1), some (.int (n : Nat)), some (.int ((1 : Nat) : Int)), none, none] (mem s1 rest) = .ok (.int (k : Nat)) (mem s2 rest) := by
        rw [v_2 (e_var E0) (e_var E1)]
        exact e2
      have F1 : ([some (IV.loc 1), some (.int (n : Nat)), some (.int ((1 : Nat) : Int)), some (.int (k : Nat)), none] : Sl)[1]? = some (some (.int (n : Nat))) := rfl
      have F3 : ([some (IV.loc 1), some (.int (n : Nat)), some (.int ((1 : Nat) : Int)), some (.int (k : Nat)), none] : Sl)[3]? = some (some (.int (k : Nat))) := rfl
      have mn : dArg minF (aCons (dVar 1) (aCons (dBin addF (dVar 3) (dC (.int 3))) aNil)) [some (.loc 1), some (.int (n : Nat)), some (.int ((1 : Nat) : Int)), some (.int (k : Nat)), none] (mem s2 rest) = .ok (.int ((min n (k + 3) : Nat) : Int)) (mem s2 rest) := by
        rw [v_min (e_var F1) (v_add (e_var F3) v_c)]
        congr 2
        by_cases hq : k + 3 < n
        · rw [if_pos (by omega)]
          omega
        · rw [if_neg (by omega)]
          omega
      refine ⟨s2, [], _, g2, ⟨_, rfl, range_asc k (min n (k + 3) - k), fun x hx => ?_⟩, ?_⟩
      · obtain ⟨i, hi, rfl⟩ := List.mem_map.mp hx
        have := List.mem_range.mp hi
        omega
      · unfold fn__law_draw_request
        refine fn_eq (ρ := [some (.loc 1), some (.int (n : Nat)), some (.int ((1 : Nat) : Int)), some (.int (k : Nat)), none]) rfl ?_
        unfold d__law_draw_request
        rw [List.append_nil, show ([IV.loc 1, .int (n : Nat)].map some ++ List.replicate (5 - [IV.loc 1, .int (n : Nat)].length) none : Sl) = [some (.loc 1), some (.int (n : Nat)), none, none, none] from rfl, v_seq (v_set p1)]
        have skip : sIf (dTst (dBin eqF (dVar 2) (dC (.int 0)))) (sRet (dTup aNil)) sNx [some (.loc 1), some (.int (n : Nat)), some (.int ((1 : Nat) : Int)), none, none] (mem s1 rest) = .ok (.nx, [some (.loc 1), some (.int (n : Nat)), some (.int ((1 : Nat) : Int)), none, none]) (mem s1 rest) := by
          rw [v_if t0]
          rfl
        refine Eq.trans (v_seq skip) (v_seqR ?_)
        rw [v_if t1]
        show sSeq _ _ [some (.loc 1), some (.int (n : Nat)), some (.int ((1 : Nat) : Int)), none, none] (mem s1 rest) = _
        rw [v_seq (v_set p2)]
        show sRet _ [some (.loc 1), some (.int (n : Nat)), some (.int ((1 : Nat) : Int)), some (.int (k : Nat)), none] (mem s2 rest) = _
        refine v_ret ?_
        have rr := rg2 (e_var F3) mn (by omega) (by omega)
        rw [rgI_nat] at rr
        exact v_tuple (v_fl rr) rfl
    · have f1 : decide (((w : Nat) : Int) = 1) = false := decide_eq_false (by omega)
      rw [f1] at t1
      obtain ⟨s2, k, g2, e2, hk⟩ := pickG (rest := rest) (m := (n : Nat)) g1 (by omega)
      have p2 : dArg fn__law_pick (aCons (dVar 0) (aCons (dVar 1) aNil)) [some (.loc 1), some (.int (n : Nat)), some (.int (w : Nat)), none, none] (mem s1 rest) = .ok (.int (k : Nat)) (mem s2 rest) := by
        rw [v_2 (e_var E0) (e_var E1)]
        exact e2
      have menu := f_lst (a_cons (v_c (v := .int 1)) (a_cons (v_c (v := .int 2)) (a_cons (v_c (v := .int 2)) (a_cons (v_c (v := .int 2)) (a_cons (v_c (v := .int 3)) (a_cons (v_add (v_c (h := mem s1 rest) (v := .int 1)) p2) a_nil)))))) (by simp)
      obtain ⟨m, hm⟩ : ∃ m : Nat, ([IV.int 1, .int 2, .int 2, .int 2, .int 3, .int (1 + (k : Nat))] : List IV)[w - 2]? = some (.int (m : Nat)) := by
        have hw2 : w - 2 < 6 := by omega
        match w - 2, hw2 with
        | 0, _ => exact ⟨1, rfl⟩
        | 1, _ => exact ⟨2, rfl⟩
        | 2, _ => exact ⟨2, rfl⟩
        | 3, _ => exact ⟨2, rfl⟩
        | 4, _ => exact ⟨3, rfl⟩
        | 5, _ => exact ⟨1 + k, rfl⟩
      have ix : dBin subF (dVar 2) (dC (.int 2)) [some (.loc 1), some (.int (n : Nat)), some (.int (w : Nat)), none, none] (mem s2 rest) = .ok (.int ((w - 2 : Nat) : Int)) (mem s2 rest) := by
        rw [v_sub (e_var E2) v_c]
        congr 2
        omega
      have pm := v_ix (v_fl menu) ix rfl hm
      have G0 : ([some (IV.loc 1), some (.int (n : Nat)), some (.int (w : Nat)), none, some (.int (m : Nat))] : Sl)[0]? = some (some (.loc 1)) := rfl
      have G1 : ([some (IV.loc 1), some (.int (n : Nat)), some (.int (w : Nat)), none, some (.int (m : Nat))] : Sl)[1]? = some (some (.int (n : Nat))) := rfl
      have G4 : ([some (IV.loc 1), some (.int (n : Nat)), some (.int (w : Nat)), none, some (.int (m : Nat))] : Sl)[4]? = some (some (.int (m : Nat))) := rfl
      have hr0 : rgI 0 (n : Nat) = ((List.range n).map fun k => ((k : Nat) : Int)).map IV.int := by
        have := rgI_nat 0 n
        rw [Nat.sub_zero] at this
        rw [show ((0 : Nat) : Int) = 0 from rfl] at this
        rw [this, List.map_map, List.map_map]
        apply List.map_congr_left
        intro i _
        show IV.int (((0 + i : Nat) : Nat) : Int) = IV.int ((i : Nat) : Int)
        rw [Nat.zero_add]
      obtain ⟨s3, zs, g3, pz, e3⟩ := mixed (s := s2) (rest := rest) (v := .fl (rgI 0 (n : Nat))) (xs := rgI 0 (n : Nat)) g2 rfl (by rw [rgI_len]; omega)
      rw [hr0] at pz
      obtain ⟨ms, ez, pms⟩ := perm_ints pz
      have nd : ms.Nodup := pms.nodup_iff.mpr (by
        rw [List.nodup_iff_pairwise_ne, List.pairwise_map]
        exact List.pairwise_lt_range.imp fun h => by omega)
      have bd : ∀ i ∈ ms, 0 ≤ i ∧ i < (n : Nat) := fun i hi => by
        obtain ⟨q, hq, rfl⟩ := List.mem_map.mp (pms.mem_iff.mp hi)
        have := List.mem_range.mp hq
        omega
      have sub : ∀ i ∈ isort (ms.take m), i ∈ ms := fun i hi => List.mem_of_mem_take ((isort_perm _).mem_iff.mp hi)
      obtain ⟨hs, eh, ah⟩ := asc_nats (isort_sorted (ms.take m)) ((isort_perm (ms.take m)).nodup_iff.mpr ((List.take_sublist _ _).nodup nd)) fun i hi => (bd i (sub i hi)).1
      refine ⟨s3, [.lst []], .tup (hs.map fun k => .int (k : Nat)), g3, ⟨hs, rfl, ah, fun x hx => ?_⟩, ?_⟩
      · have : ((x : Nat) : Int) ∈ isort (ms.take m) := by
          rw [eh]
          exact List.mem_map_of_mem hx
        have := (bd _ (sub _ this)).2
        omega
      · unfold fn__law_draw_request
        refine fn_eq (ρ := [some (.loc 1), some (.int (n : Nat)), some (.int (w : Nat)), none, some (.int (m : Nat))]) rfl ?_
        unfold d__law_draw_request
        rw [show ([IV.loc 1, .int (n : Nat)].map some ++ List.replicate (5 - [IV.loc 1, .int (n : Nat)].length) none : Sl) = [some (.loc 1), some (.int (n : Nat)), none, none, none] from rfl, v_seq (v_set p1)]
        have skip : sIf (dTst (dBin eqF (dVar 2) (dC (.int 0)))) (sRet (dTup aNil)) sNx [some (.loc 1), some (.int (n : Nat)), some (.int (w : Nat)), none, none] (mem s1 rest) = .ok (.nx, [some (.loc 1), some (.int (n : Nat)), some (.int (w : Nat)), none, none]) (mem s1 rest) := by
          rw [v_if t0]
          rfl
        refine Eq.trans (v_seq skip) ?_
        have skip2 : ∀ b : DenS, sIf (dTst (dBin eqF (dVar 2) (dC (.int 1)))) b sNx [some (.loc 1), some (.int (n : Nat)), some (.int (w : Nat)), none, none] (mem s1 rest) = .ok (.nx, [some (.loc 1), some (.int (n : Nat)), some (.int (w : Nat)), none, none]) (mem s1 rest) := fun b => by
          rw [v_if t1]
          rfl
        refine Eq.trans (v_seq (skip2 _)) ?_
        rw [v_seq (v_set pm)]
        show sRet _ [some (.loc 1), some (.int (n : Nat)), some (.int (w : Nat)), none, some (.int (m : Nat))] (mem s2 rest) = _
        refine v_ret ?_
        have mx : dArg fn__law_mixed (aCons (dVar 0) (aCons (dFl (fRg1 (dVar 1))) aNil)) [some (.loc 1), some (.int (n : Nat)), some (.int (w : Nat)), none, some (.int (m : Nat))] (mem s2 rest) = .ok (.fl zs) (mem s3 (rest ++ [.lst []])) := by
          rw [v_2 (e_var G0) (v_fl (rg1 (e_var G1) (by omega)))]
          exact e3
        have ct : dCut (dArg fn__law_mixed (aCons (dVar 0) (aCons (dFl (fRg1 (dVar 1))) aNil))) oNone (oSome (dVar 4)) [some (.loc 1), some (.int (n : Nat)), some (.int (w : Nat)), none, some (.int (m : Nat))] (mem s2 rest) = .ok (.fl ((ms.take m).map .int)) (mem s3 (rest ++ [.lst []])) := by
          unfold dCut
          rw [mx]
          simp only [Ret.bind_ok, oNone, oSome, e_var G4, cutF, lsq, lstOf, cut_to, ez, List.map_take]
        have st : fArg sortF (aCons (dCut (dArg fn__law_mixed (aCons (dVar 0) (aCons (dFl (fRg1 (dVar 1))) aNil))) oNone (oSome (dVar 4))) aNil) [some (.loc 1), some (.int (n : Nat)), some (.int (w : Nat)), none, some (.int (m : Nat))] (mem s2 rest) = .ok ((isort (ms.take m)).map .int) (mem s3 (rest ++ [.lst []])) := by
          unfold fArg
          rw [a_cons ct a_nil, Ret.bind_ok]
          unfold sortF
          simp only [lsq, lstOf, Option.bind_some, allS_ints]
        have fin := v_tuple (v_fl st) (xs := (isort (ms.take m)).map .int) rfl
        rw [eh, List.map_map] at fin
        exact fin
end VI
end

section
namespace VI
open PySem PySem.Spec PyProof.Rows L2
theorem sz_le {n : Nat} (h : n ≤ 100000) : (n ≤ sizeLine) = True := by
  rw [eq_true (sl_le h)]
theorem bindO {α β : Type} (a : α) (h : Mem) (f : α → Mem → Ret β) : (Ret.ok a h).bind f = f a h := id rfl
theorem eqF_i {i j : Int} {h : Mem} : eqF (.int i) (.int j) h = .ok (.bl (decide (i = j))) h := id rfl
theorem neF_i {i j : Int} {h : Mem} : neF (.int i) (.int j) h = .ok (.bl (!decide (i = j))) h := id rfl
theorem addF_i {i j : Int} {h : Mem} : addF (.int i) (.int j) h = .ok (.int (i + j)) h := id rfl
theorem subF_i {i j : Int} {h : Mem} : subF (.int i) (.int j) h = .ok (.int (i - j)) h := id rfl
theorem gtF_i {i j : Int} {h : Mem} : gtF (.int i) (.int j) h = .ok (.bl (decide (j < i))) h := id rfl
theorem ltF_i {i j : Int} {h : Mem} : ltF (.int i) (.int j) h = .ok (.bl (decide (i < j))) h := id rfl
theorem isN_non {h : Mem} : isNF .non .non h = .ok (.bl true) h := id rfl
theorem isN_int {i : Int} {h : Mem} : isNF (.int i) .non h = .ok (.bl false) h := id rfl
theorem notN_non {h : Mem} : notNF .non .non h = .ok (.bl false) h := id rfl
theorem notN_int {i : Int} {h : Mem} : notNF (.int i) .non h = .ok (.bl true) h := id rfl
theorem ixF_seq {h : Mem} {xs : List IV} {y : IV} {k : Int} : ixF (.tup xs) (.int k) h = (match atI xs k with
        | some y => .ok y h
        | none => .bad) := id rfl
def gateL (vs : List IV) (h : Mem) : Ret (List IV) := if vs.length ≤ sizeLine then .ok vs h else .bad
def gateT (vs : List IV) (h : Mem) : Ret IV := if vs.length ≤ sizeLine then .ok (.tup vs) h else .bad
theorem gateL_ok {vs : List IV} {h : Mem} (e : vs.length ≤ 100000) : gateL vs h = .ok vs h := if_pos (sl_le e)
theorem gateT_ok {vs : List IV} {h : Mem} (e : vs.length ≤ 100000) : gateT vs h = .ok (.tup vs) h := if_pos (sl_le e)
theorem fLst_eq {a : DenA} {ρ : Sl} {h : Mem} : fLst a ρ h = (a ρ h).bind gateL := id rfl
theorem dTup_eq {a : DenA} {ρ : Sl} {h : Mem} : dTup a ρ h = (a ρ h).bind gateT := id rfl
/-- a comprehension that draws -/
theorem lc_draw {t : Tg} {el : Den} {ρ : Sl} {rest : Mem} {P : IV → Prop} (hs : ∀ x s, s.Good → ∃ ρ1 s' y, t x ρ = some ρ1 ∧ s'.Good ∧ P y ∧ el ρ1 (mem s rest) = .ok y (mem s' rest)) : ∀ (items : List IV) (n : Nat) (s : Src), s.Good → n + items.length ≤ 100000 →
    ∃ s' ys, s'.Good ∧ ys.length = items.length ∧ (∀ y ∈ ys, P y) ∧ lcV t dYes el ρ items n (mem s rest) = .ok ys (mem s' rest)
  | [], n, s, g, _ => ⟨s, [], g, rfl, by simp, rfl⟩
  | x :: r, n, s, g, hn => by
    rw [List.length_cons] at hn
    obtain ⟨ρ1, s1, y, e1, g1, p1, e2⟩ := hs x s g
    obtain ⟨s2, ys, g2, l2, p2, e3⟩ := lc_draw hs r (n + 1) s1 g1 (by omega)
    refine ⟨s2, y :: ys, g2, by rw [List.length_cons, List.length_cons, l2], fun z hz => ?_, ?_⟩
    · rcases List.mem_cons.mp hz with e | hz
      · rw [e]; exact p1
      · exact p2 z hz
    · unfold lcV
      rw [e1]
      simp only [dYes, nox, Ret.bind_ok, if_true, e2, if_pos (sl_lt (show n ≤ 100000 by omega))]
      rw [e3]
      rfl
structure YardOk (n room : Nat) (v : IV) : Prop where
  ex : ∃ (c : Nat) (ws : List Int), v = .tup [.int c, .tup (ws.map .int)] ∧ 1 ≤ c ∧ c ≤ room ∧ 1 ≤ ws.length ∧ ws.length ≤ n ∧ ∀ w ∈ ws, 1 ≤ w ∧ w ≤ 1000000
def menus : List (List Int) := [[1], [1, 2], [1, 3, 3, 9], [1, 2, 5, 7, 1000000]]
theorem yard {s : Src} {rest : Mem} {n r : Nat} (g : s.Good) (hn0 : 0 < n) (hn : n ≤ 1000) (hr0 : 0 < r) (hr : r ≤ 1000) :
    ∃ (s' : Src) (v : IV), s'.Good ∧ YardOk n r v ∧ fn__law_draw_yard [.loc 1, .int (n : Nat), .int (r : Nat)] (mem s rest) = .ok v (mem s' rest) := by
  obtain ⟨s1, k1, g1, e1, h1⟩ := pickG (rest := rest) (m := (n : Nat)) g (by omega)
  obtain ⟨s2, k2, y, g2, ey, e2⟩ := of (rest := rest) (v := .fl (menus.map fun m => .fl (m.map .int))) (xs := menus.map fun m => .fl (m.map .int)) g1 (fun _ => rfl) (by simp [menus]) (by simp [menus])
  obtain ⟨m, hm, rfl⟩ : ∃ m ∈ menus, IV.fl (m.map IV.int) = y := by
    have := List.mem_of_getElem? ey
    exact List.mem_map.mp this
  obtain ⟨s3, k3, g3, e3, h3⟩ := pickG (rest := rest) (m := (r : Nat)) g2 (by omega)
  have hmn : m ≠ [] := fun z => by
    subst z
    revert hm
    decide
  have hmw : ∀ w ∈ m, 1 ≤ w ∧ w ≤ 1000000 := by
    have all : ∀ m ∈ menus, ∀ w ∈ m, 1 ≤ w ∧ w ≤ 1000000 := by decide
    exact all m hm
  have hml : m.length ≤ 5 := by
    have all : ∀ m ∈ menus, m.length ≤ 5 := by decide
    exact all m hm
  obtain ⟨s4, ys, g4, l4, p4, e4⟩ := lc_draw (t := Sh.tg (.n 5)) (el := dArg fn__law_of (aCons (dVar 0) (aCons (dVar 4) aNil))) (rest := rest) (P := fun y => ∃ w ∈ m, y = IV.int w)
    (ρ := [some (.loc 1), some (.int (n : Nat)), some (.int (r : Nat)), some (.int (1 + (k1 : Nat))), some (.fl (m.map .int)), none])
    (fun x s g => by
      obtain ⟨s', k, y, g', ey, e⟩ := of (rest := rest) (v := .fl (m.map .int)) (xs := m.map .int) g (fun _ => rfl) (by simpa using hmn) (by simp; omega)
      obtain ⟨w, hw, rfl⟩ := List.mem_map.mp (List.mem_of_getElem? ey)
      exact ⟨_, s', _, rfl, g', ⟨w, hw, rfl⟩, by simp only [sSeq, sAsg, sIf, sRet, sExp, dArg, dBin, dUn, dTst, dAndT, dOrT, dNotT, dIf, dAnd, dOr, dTup_eq, gateL_ok, gateT_ok, dFl, fLst_eq, fArg, aCons, aNil, dVar, dC, tgN, Sh.tg, Shs.tgs, tgT, tgsCons, tgsNil, Shs.len, bindO, List.getElem?_cons_zero, List.getElem?_cons_succ, List.set_cons_zero, List.set_cons_succ, List.length_cons, List.length_nil, List.map_cons, List.map_nil, List.cons_append, List.nil_append, List.replicate_succ, List.replicate_zero, Nat.reduceAdd, Nat.reduceSub, Nat.reduceEqDiff, if_true, Nat.reduceLeDiff, eqF_i, neF_i, addF_i, subF_i, gtF_i, ltF_i, ixF_seq, nox, wipeI, isN_non, isN_int, notN_non, notN_int, cond_true, cond_false, if_false, Bool.false_eq_true, e]⟩) (rgI 0 (1 + (k1 : Nat))) 0 s3 g3 (by rw [rgI_len]; omega)
  obtain ⟨ws, rfl, hws⟩ : ∃ ws : List Int, ys = ws.map .int ∧ ∀ w ∈ ws, w ∈ m := by
    clear e4 l4
    induction ys with
    | nil => exact ⟨[], rfl, by simp⟩
    | cons y r ih =>
      obtain ⟨w, hw, rfl⟩ := p4 y List.mem_cons_self
      obtain ⟨ws, e, h⟩ := ih fun z hz => p4 z (List.mem_cons_of_mem _ hz)
      refine ⟨w :: ws, by rw [e]; rfl, fun z hz => ?_⟩
      rcases List.mem_cons.mp hz with q | q
      · rw [q]; exact hw
      · exact h z q
  have lws : ws.length = 1 + k1 := by
    rw [List.length_map, rgI_len] at l4
    omega
  refine ⟨s4, .tup [.int ((1 + k3 : Nat) : Int), .tup (ws.map .int)], g4, ⟨1 + k3, ws, rfl, by omega, by omega, by omega, by omega, fun w hw => hmw w (hws w hw)⟩, ?_⟩
  have mn : ∀ ρ h, dFl (fLst (aCons (dFl (fLst (aCons (dC (.int 1)) aNil))) (aCons (dFl (fLst (aCons (dC (.int 1)) (aCons (dC (.int 2)) aNil)))) (aCons (dFl (fLst (aCons (dC (.int 1)) (aCons (dC (.int 3)) (aCons (dC (.int 3)) (aCons (dC (.int 9)) aNil)))))) (aCons (dFl (fLst (aCons (dC (.int 1)) (aCons (dC (.int 2)) (aCons (dC (.int 5)) (aCons (dC (.int 7)) (aCons (dBin powF (dC (.int 10)) (dC (.int 6))) aNil))))))) aNil))))) ρ h = .ok (.fl (menus.map fun m => .fl (m.map .int))) h := fun ρ h => by
    have pw : powF (.int 10) (.int 6) h = .ok (.int 1000000) h := rfl
    simp only [sSeq, sAsg, sIf, sRet, sExp, dArg, dBin, dUn, dTst, dAndT, dOrT, dNotT, dIf, dAnd, dOr, dTup_eq, gateL_ok, gateT_ok, dFl, fLst_eq, fArg, aCons, aNil, dVar, dC, tgN, Sh.tg, Shs.tgs, tgT, tgsCons, tgsNil, Shs.len, bindO, List.getElem?_cons_zero, List.getElem?_cons_succ, List.set_cons_zero, List.set_cons_succ, List.length_cons, List.length_nil, List.map_cons, List.map_nil, List.cons_append, List.nil_append, List.replicate_succ, List.replicate_zero, Nat.reduceAdd, Nat.reduceSub, Nat.reduceEqDiff, if_true, Nat.reduceLeDiff, eqF_i, neF_i, addF_i, subF_i, gtF_i, ltF_i, ixF_seq, nox, wipeI, isN_non, isN_int, notN_non, notN_int, cond_true, cond_false, if_false, Bool.false_eq_true, menus, pw]
  have rg : wRng1 (aCons (dVar 3) aNil) [some (.loc 1), some (.int (n : Nat)), some (.int (r : Nat)), some (.int (1 + (k1 : Nat))), some (.fl (m.map .int)), none] (mem s3 rest) = .ok (rgI 0 (1 + (k1 : Nat))) (mem s3 rest) := by
    have e : ((1 + k1 : Nat) : Int) = 1 + (k1 : Nat) := by omega
    have := rng1 (n := 1 + k1) (d := dVar 3) (ρ := [some (.loc 1), some (.int (n : Nat)), some (.int (r : Nat)), some (.int (1 + (k1 : Nat))), some (.fl (m.map .int)), none]) (h := mem s3 rest) (h1 := mem s3 rest) (by rw [e]; exact e_var rfl) (by omega)
    rw [e] at this
    exact this
  unfold fn__law_draw_yard
  refine fn_eq (ρ := [some (.loc 1), some (.int (n : Nat)), some (.int (r : Nat)), some (.int (1 + (k1 : Nat))), some (.fl (m.map .int)), none]) rfl ?_
  unfold d__law_draw_yard
  generalize fn__law_pick = fp at e1 e3 ⊢
  generalize fn__law_of = fo at e2 e4 ⊢
  generalize hmn' : dFl (fLst (aCons (dFl (fLst (aCons (dC (.int 1)) aNil))) _)) = mnu at mn ⊢
  have e5 : lcV (tgN 5) dYes (dArg fo (aCons (dVar 0) (aCons (dVar 4) aNil))) _ _ _ _ = _ := e4
  generalize hrg : wRng1 (aCons (dVar 3) aNil) = rgg at rg ⊢
  simp only [sSeq, sAsg, sIf, sRet, sExp, dArg, dBin, dUn, dTst, dAndT, dOrT, dNotT, dIf, dAnd, dOr, dTup_eq, gateL_ok, gateT_ok, dFl, fLst_eq, fArg, aCons, aNil, dVar, dC, tgN, Sh.tg, Shs.tgs, tgT, tgsCons, tgsNil, Shs.len, bindO, List.getElem?_cons_zero, List.getElem?_cons_succ, List.set_cons_zero, List.set_cons_succ, List.length_cons, List.length_nil, List.map_cons, List.map_nil, List.cons_append, List.nil_append, List.replicate_succ, List.replicate_zero, Nat.reduceAdd, Nat.reduceSub, Nat.reduceEqDiff, if_true, Nat.reduceLeDiff, eqF_i, neF_i, addF_i, subF_i, gtF_i, ltF_i, ixF_seq, nox, wipeI, isN_non, isN_int, notN_non, notN_int, cond_true, cond_false, if_false, Bool.false_eq_true, e1, mn, e2, e3, fLc, Option.bind_some, rg, e5, tupleF, seqOf, lstOf]
  rw [show ((1 + k3 : Nat) : Int) = 1 + (k3 : Nat) by omega]
end VI
end

section
/-! What a value tells as data, and how much of it there is. -/
namespace VI
open PySem PySem.Spec PyProof.Rows L2
structure Sz (h : Mem) (v : IV) (d : PyData) (k w : Nat) : Prop where
  see : ∀ n, k ≤ n → toD h n v = some d
  lay : d.canLay0 = true
  shw : d.showable = true
  dep : d.depth ≤ k
  wt : d.weight ≤ w
  sh : d.intsShort 13 = true
structure SzL (h : Mem) (vs : List IV) (ds : List PyData) (k w : Nat) : Prop where
  see : ∀ n, k ≤ n → allS (vs.map (toD h n)) = some ds
  lay : PyData.canLayAll0 ds = true
  shw : PyData.showableAll ds = true
  dep : PyData.depthAll ds ≤ k
  wt : PyData.weightAll ds ≤ w
  sh : PyData.intsShortAll 13 ds = true
section
variable {h : Mem} {v u : IV} {d e : PyData} {k w k' w' : Nat} {vs us : List IV} {ds es : List PyData}
theorem Sz.mono (s : Sz h v d k w) (hk : k ≤ k') (hw : w ≤ w') : Sz h v d k' w' := ⟨fun n hn => s.see n (Nat.le_trans hk hn), s.lay, s.shw, Nat.le_trans s.dep hk, Nat.le_trans s.wt hw, s.sh⟩
theorem SzL.mono (s : SzL h vs ds k w) (hk : k ≤ k') (hw : w ≤ w') : SzL h vs ds k' w' := ⟨fun n hn => s.see n (Nat.le_trans hk hn), s.lay, s.shw, Nat.le_trans s.dep hk, Nat.le_trans s.wt hw, s.sh⟩
theorem log2_lt {n : Nat} (h : n < 2 ^ 40) : n.log2 < 40 := by
  by_cases z : n = 0
  · subst z
    decide
  · exact (Nat.log2_lt z).mpr h
theorem Sz.int {i : Int} (hi : i.natAbs < 10 ^ 12) : Sz h (.int i) (.int i) 1 40 := by
  have e : (10 : Nat) ^ 12 = 1000000000000 := by decide
  have e2 : (2 : Nat) ^ 40 = 1099511627776 := by decide
  have hl : i.natAbs.log2 < 40 := log2_lt (by omega)
  refine ⟨fun n hn => ?_, ?_, ?_, ?_, ?_, ?_⟩
  · obtain ⟨m, rfl⟩ : ∃ m, n = m + 1 := ⟨n - 1, by omega⟩
    rfl
  · unfold PyData.canLay0; rfl
  · unfold PyData.showable
    rw [decide_eq_true_eq]
    omega
  · unfold PyData.depth
    omega
  · unfold PyData.weight
    split
    · omega
    · omega
  · unfold PyData.intsShort
    rw [decide_eq_true_eq]
    exact PyData.shown_int_le hi
theorem Sz.non : Sz h .non .none 1 40 := by
  refine ⟨fun n hn => ?_, ?_, ?_, ?_, ?_, ?_⟩
  · obtain ⟨m, rfl⟩ : ∃ m, n = m + 1 := ⟨n - 1, by omega⟩
    rfl
  · unfold PyData.canLay0; rfl
  · unfold PyData.showable; rfl
  · unfold PyData.depth
    omega
  · unfold PyData.weight
    omega
  · unfold PyData.intsShort; rfl
theorem SzL.nil : SzL h [] [] k 0 := by
  refine ⟨fun n hn => rfl, ?_, ?_, ?_, ?_, ?_⟩
  · unfold PyData.canLayAll0; rfl
  · unfold PyData.showableAll; rfl
  · unfold PyData.depthAll
    omega
  · unfold PyData.weightAll
    omega
  · unfold PyData.intsShortAll; rfl
theorem SzL.cons (s : Sz h v d k w) (t : SzL h vs ds k w') : SzL h (v :: vs) (d :: ds) k (w + 1 + w') := by
  refine ⟨fun n hn => ?_, ?_, ?_, ?_, ?_, ?_⟩
  · rw [List.map_cons, s.see n hn]
    unfold allS
    rw [t.see n hn]
  · unfold PyData.canLayAll0
    rw [s.lay, t.lay]
    rfl
  · unfold PyData.showableAll
    rw [s.shw, t.shw]
    rfl
  · unfold PyData.depthAll
    have := s.dep
    have := t.dep
    omega
  · unfold PyData.weightAll
    have := s.wt
    have := t.wt
    omega
  · unfold PyData.intsShortAll
    rw [s.sh, t.sh]
    rfl
theorem Sz.tup (t : SzL h vs ds k w) : Sz h (.tup vs) (.tuple ds) (k + 1) w := by
  refine ⟨fun n hn => ?_, ?_, ?_, ?_, ?_, ?_⟩
  · obtain ⟨m, rfl⟩ : ∃ m, n = m + 1 := ⟨n - 1, by omega⟩
    unfold toD
    simp only
    rw [t.see m (by omega)]
    rfl
  · unfold PyData.canLay0; exact t.lay
  · unfold PyData.showable; exact t.shw
  · unfold PyData.depth
    have := t.dep
    omega
  · unfold PyData.weight
    exact t.wt
  · unfold PyData.intsShort; exact t.sh
theorem Sz.lst0 {x : IV} (t : SzL h vs ds k w) (hx : ∀ n, k ≤ n → toD h (n + 1) x = (allS (vs.map (toD h n))).map .list) : Sz h x (.list ds) (k + 1) w := by
  refine ⟨fun n hn => ?_, ?_, ?_, ?_, ?_, ?_⟩
  · obtain ⟨m, rfl⟩ : ∃ m, n = m + 1 := ⟨n - 1, by omega⟩
    rw [hx m (by omega), t.see m (by omega)]
    rfl
  · unfold PyData.canLay0; exact t.lay
  · unfold PyData.showable; exact t.shw
  · unfold PyData.depth
    have := t.dep
    omega
  · unfold PyData.weight
    exact t.wt
  · unfold PyData.intsShort; exact t.sh
theorem Sz.fl (t : SzL h vs ds k w) : Sz h (.fl vs) (.list ds) (k + 1) w := Sz.lst0 t fun n _ => by
  rw [toD]
theorem Sz.loc {l : Nat} (e : h[l]? = some (.lst vs)) (t : SzL h vs ds k w) : Sz h (.loc l) (.list ds) (k + 1) w := Sz.lst0 t fun n _ => by
  rw [toD]
  simp only [e]
theorem SzL.map {α : Type} {f : α → IV} {g : α → PyData} : ∀ {l : List α}, (∀ a ∈ l, Sz h (f a) (g a) k w) → SzL h (l.map f) (l.map g) k ((w + 1) * l.length)
  | [], _ => by
    rw [List.length_nil, Nat.mul_zero]
    exact SzL.nil
  | a :: l, q => by
    rw [List.map_cons, List.map_cons, List.length_cons, Nat.mul_add, Nat.mul_one, Nat.add_comm ((w + 1) * l.length)]
    exact SzL.cons (q a List.mem_cons_self) (SzL.map fun b hb => q b (List.mem_cons_of_mem _ hb))
theorem SzL.ints {ns : List Int} (q : ∀ i ∈ ns, i.natAbs < 10 ^ 12) : SzL h (ns.map .int) (ns.map .int) 1 (41 * ns.length) := SzL.map fun i hi => Sz.int (q i hi)
theorem repr_ok (s : Sz h v d k w) (hk : k ≤ 60) (hw : w ≤ 1048576) : reprF [v] h = .ok (.str d.shown) h := by
  have hdp : d.depth ≤ 60 := Nat.le_trans s.dep hk
  have hlen : d.shown.length ≤ sizeLine := PyData.shown_fits (B := 13) (by decide) (by decide) (PyData.leavesShort_of_canLay0 13 d s.lay s.sh) (Nat.le_trans (Nat.le_trans s.wt hw) (by decide))
  have hdd : deep = 66 := rfl
  unfold reprF
  simp only
  rw [s.see deep (by omega)]
  simp only
  rw [s.shw, PyData.hasDict_of_canLay d s.lay, decide_eq_true hdp, decide_eq_true hlen]
  rfl
theorem shaped_ok (s : Sz h v d k w) (hk : k ≤ 60) : SeqAt.shaped d = true := by
  have hdp : d.depth ≤ 64 := by
    have := s.dep
    omega
  unfold SeqAt.shaped
  rw [s.lay, decide_eq_true hdp]
  rfl
theorem data_ok {g : PyData → PyData → Bool} (s : Sz h v d k w) (t : Sz h u e k' w') (hk : k ≤ 60) (hk' : k' ≤ 60) : dataF g v u h = .ok (.bl (g d e)) h := by
  have hdd : deep = 66 := rfl
  unfold dataF
  rw [s.see deep (by omega), t.see deep (by omega)]
  simp only
  rw [shaped_ok s hk, shaped_ok t hk']
  rfl
/-- a place's list against the empty one -/
theorem ne_nil {l : Nat} (hl : h[l]? = some (.lst vs)) (t : SzL h vs ds k w) (hk : k ≤ 59) : neF (.loc l) (.fl []) h = .ok (.bl (!vs.isEmpty)) h := by
  have e1 : neF (.loc l) (.fl []) h = dataF (fun d e => !PyData.eqv d e) (.loc l) (.fl []) h := rfl
  rw [e1, data_ok (Sz.loc hl t) (Sz.fl (SzL.nil (k := 0))) (by omega) (by decide)]
  have q := t.see k (Nat.le_refl _)
  cases vs with
  | nil =>
    have q' := Option.some.inj q
    subst q'
    rfl
  | cons x r =>
    have : ∃ d1 ds1, ds = d1 :: ds1 := by
      rw [List.map_cons] at q
      cases e2 : toD h k x with
      | none => rw [e2] at q; cases q
      | some d1 =>
        rw [e2] at q
        unfold allS at q
        cases e3 : allS (r.map (toD h k)) with
        | none => rw [e3] at q; cases q
        | some ds1 =>
          rw [e3] at q
          exact ⟨d1, ds1, (Option.some.inj q).symm⟩
    obtain ⟨d1, ds1, rfl⟩ := this
    rfl
theorem ne_nilF (t : SzL h vs ds k w) (hk : k ≤ 59) : neF (.fl vs) (.fl []) h = .ok (.bl (!vs.isEmpty)) h := by
  have e1 : neF (.fl vs) (.fl []) h = dataF (fun d e => !PyData.eqv d e) (.fl vs) (.fl []) h := rfl
  rw [e1, data_ok (Sz.fl t) (Sz.fl (SzL.nil (k := 0))) (by omega) (by decide)]
  have q := t.see k (Nat.le_refl _)
  cases vs with
  | nil =>
    have q' := Option.some.inj q
    subst q'
    rfl
  | cons x r =>
    have : ∃ d1 ds1, ds = d1 :: ds1 := by
      rw [List.map_cons] at q
      cases e2 : toD h k x with
      | none => rw [e2] at q; cases q
      | some d1 =>
        rw [e2] at q
        unfold allS at q
        cases e3 : allS (r.map (toD h k)) with
        | none => rw [e3] at q; cases q
        | some ds1 =>
          rw [e3] at q
          exact ⟨d1, ds1, (Option.some.inj q).symm⟩
    obtain ⟨d1, ds1, rfl⟩ := this
    rfl
end
end VI
end

section
namespace VI
open PySem PySem.Spec PyProof.Rows L2
def RqOk (n : Nat) (hs : List Nat) : Prop := hs.Pairwise (· < ·) ∧ ∀ k ∈ hs, k < n
def reqIV (hs : List Nat) : IV := .tup (hs.map fun k => .int (k : Nat))
def reqD (hs : List Nat) : PyData := .tuple (hs.map fun k => .int (k : Nat))
theorem asc_len {n : Nat} : ∀ (hs : List Nat) (a : Nat), hs.Pairwise (· < ·) → (∀ k ∈ hs, a ≤ k ∧ k < n) → hs.length ≤ n - a
  | [], a, _, _ => Nat.zero_le _
  | x :: r, a, p, b => by
    have hx := b x List.mem_cons_self
    have p' := List.pairwise_cons.mp p
    have := asc_len r (x + 1) p'.2 fun k hk => ⟨p'.1 k hk, (b k (List.mem_cons_of_mem _ hk)).2⟩
    rw [List.length_cons]
    omega
theorem RqOk.len {n : Nat} {hs : List Nat} (o : RqOk n hs) : hs.length ≤ n := asc_len hs 0 o.1 fun k hk => ⟨Nat.zero_le _, o.2 k hk⟩
theorem big12 : (10 : Nat) ^ 12 = 1000000000000 := by decide
theorem sz_req {h : Mem} {n : Nat} {hs : List Nat} (o : RqOk n hs) (hn : n ≤ 1000) : Sz h (reqIV hs) (reqD hs) 2 41000 := by
  have := o.len
  refine (Sz.tup (SzL.map (w := 40) fun k hk => Sz.int ?_)).mono (Nat.le_refl _) (by omega)
  have := o.2 k hk
  rw [big12]
  omega
theorem sz_reqs {h : Mem} {n : Nat} {rs : List (List Nat)} (o : ∀ r ∈ rs, RqOk n r) (hn : n ≤ 1000) : SzL h (rs.map reqIV) (rs.map reqD) 2 (41001 * rs.length) := SzL.map fun r hr => sz_req (o r hr) hn
theorem requestR {s : Src} {rest : Mem} {n : Nat} (g : s.Good) (hn0 : 0 < n) (hn : n ≤ 1000) :
    ∃ (s' : Src) (ext : Mem) (hs : List Nat), s'.Good ∧ RqOk n hs ∧ fn__law_draw_request [.loc 1, .int (n : Nat)] (mem s rest) = .ok (reqIV hs) (mem s' (rest ++ ext)) := by
  obtain ⟨s', ext, v, g', ⟨hs, rfl, a, b⟩, e⟩ := request (rest := rest) g hn0 hn
  exact ⟨s', ext, hs, g', ⟨a, b⟩, e⟩
theorem isL_mem {s : Src} {rest ext : Mem} {xs : List IV} {l : Nat} (hl : l = rest.length + 2) : isL (mem s (rest ++ .lst xs :: ext)) (.loc l) = true := by
  subst hl
  have : lstOf (mem s (rest ++ .lst xs :: ext)) (.loc (rest.length + 2)) = some xs := by
    show (match (mem s (rest ++ IO.lst xs :: ext))[rest.length + 2]? with
      | some (.lst xs) => some xs
      | _ => none) = _
    rw [mem_at]
  unfold isL
  rw [this]
  rfl
theorem seq_mem {s : Src} {rest ext : Mem} {xs : List IV} {l : Nat} (hl : l = rest.length + 2) : seqOf (mem s (rest ++ .lst xs :: ext)) (.loc l) = some xs := by
  subst hl
  show (match (mem s (rest ++ IO.lst xs :: ext))[rest.length + 2]? with
    | some (.lst xs) => some xs
    | _ => none) = _
  rw [mem_at]
theorem app_mem {s : Src} {rest ext : Mem} {xs : List IV} {y : IV} {l : Nat} (hl : l = rest.length + 2) (hx : xs.length ≤ 100000) : appF (.loc l) [y] (mem s (rest ++ .lst xs :: ext)) = .ok .non (mem s (rest ++ .lst (xs ++ [y]) :: ext)) := by
  subst hl
  unfold appF
  simp only [mem_at, decide_eq_true (sl_lt hx), cond_true, mem_set]
def rowBody : DenS := (sSeq (sAsg (tgN 5) (dAnd (dBin neF (dVar 3) (dFl (fLst aNil))) (dBin eqF (dArg fn__law_pick (aCons (dVar 0) (aCons (dC (.int 4)) aNil))) (dC (.int 0)))))
    (sExp (dML appF (dVar 3) (aCons (dIf (dTst (dVar 5)) (dArg fn__law_of (aCons (dVar 0) (aCons (dVar 3) aNil))) (dArg fn__law_draw_request (aCons (dVar 0) (aCons (dVar 1) aNil)))) aNil))))
theorem row_step {s : Src} {rest ext : Mem} {n : Nat} {rs : List (List Nat)} {m x : IV} {b : Option IV} (g : s.Good) (hn0 : 0 < n) (hn : n ≤ 1000) (hrs : ∀ r ∈ rs, RqOk n r) (hl : rs.length ≤ 50000) :
    ∃ (s' : Src) (ext' : Mem) (r : List Nat) (b' : IV), s'.Good ∧ RqOk n r ∧ rowBody [some (.loc 1), some (.int (n : Nat)), some m, some (.loc (rest.length + 2)), some x, b] (mem s (rest ++ .lst (rs.map reqIV) :: ext)) =
      .ok (.nx, [some (.loc 1), some (.int (n : Nat)), some m, some (.loc (rest.length + 2)), some x, some b']) (mem s' (rest ++ .lst ((rs ++ [r]).map reqIV) :: ext')) := by
  have ap : ∀ {s : Src} {ext : Mem} {y : IV}, appF (.loc (rest.length + 2)) [y] (mem s (rest ++ .lst (rs.map reqIV) :: ext)) = .ok .non (mem s (rest ++ .lst (rs.map reqIV ++ [y]) :: ext)) := app_mem rfl (by rw [List.length_map]; omega)
  have il : ∀ {s : Src} {ext : Mem}, isL (mem s (rest ++ .lst (rs.map reqIV) :: ext)) (.loc (rest.length + 2)) = true := isL_mem rfl
  have sq : ∀ s, seqOf (mem s (rest ++ .lst (rs.map reqIV) :: ext)) (.loc (rest.length + 2)) = some (rs.map reqIV) := fun s => seq_mem rfl
  have ne : neF (.loc (rest.length + 2)) (.fl []) (mem s (rest ++ .lst (rs.map reqIV) :: ext)) = .ok (.bl (!(rs.map reqIV).isEmpty)) (mem s (rest ++ .lst (rs.map reqIV) :: ext)) := ne_nil mem_at (sz_reqs hrs hn) (by decide)
  have mp : ∀ r, (rs ++ [r]).map reqIV = rs.map reqIV ++ [reqIV r] := fun r => by rw [List.map_append]; rfl
  by_cases h0 : rs = []
  · have ee : (rs.map reqIV).isEmpty = true := by rw [h0]; rfl
    obtain ⟨s1, ext1, r, g1, o1, e1⟩ := requestR (rest := rest ++ .lst (rs.map reqIV) :: ext) g hn0 hn
    rw [List.append_assoc, List.cons_append] at e1
    refine ⟨s1, ext ++ ext1, r, .bl false, g1, o1, ?_⟩
    rw [mp]
    rw [ee] at ne
    unfold rowBody
    generalize fn__law_draw_request = fr at e1 ⊢
    generalize fn__law_pick = fp
    generalize fn__law_of = fo
    simp only [sSeq, sAsg, sIf, sRet, sExp, dArg, dBin, dUn, dTst, dAndT, dOrT, dNotT, dIf, dAnd, dOr, dTup_eq, gateL_ok, gateT_ok, dFl, fLst_eq, fArg, aCons, aNil, dVar, dC, tgN, Sh.tg, Shs.tgs, tgT, tgsCons, tgsNil, Shs.len, bindO, List.getElem?_cons_zero, List.getElem?_cons_succ, List.set_cons_zero, List.set_cons_succ, List.length_cons, List.length_nil, List.map_cons, List.map_nil, List.cons_append, List.nil_append, List.replicate_succ, List.replicate_zero, Nat.reduceAdd, Nat.reduceSub, Nat.reduceEqDiff, if_true, Nat.reduceLeDiff, eqF_i, neF_i, addF_i, subF_i, gtF_i, ltF_i, ixF_seq, nox, wipeI, isN_non, isN_int, notN_non, notN_int, cond_true, cond_false, if_false, Bool.false_eq_true, ne, Bool.not_true, dML, il, e1, ap]
  · have ee : (rs.map reqIV).isEmpty = false := by
      cases rs with
      | nil => exact absurd rfl h0
      | cons _ _ => rfl
    rw [ee] at ne
    obtain ⟨s0, k, g0, e0, h0'⟩ := pickG (rest := rest ++ .lst (rs.map reqIV) :: ext) (m := 4) g (by decide)
    by_cases hk : k = 0
    · obtain ⟨s1, j, y, g1, ey, e1⟩ := of (rest := rest ++ .lst (rs.map reqIV) :: ext) (v := .loc (rest.length + 2)) (xs := rs.map reqIV) g0 sq (by
        intro z
        exact h0 (List.map_eq_nil_iff.mp z)) (by rw [List.length_map]; omega)
      obtain ⟨r, hr, rfl⟩ := List.mem_map.mp (List.mem_of_getElem? ey)
      refine ⟨s1, ext, r, .bl true, g1, hrs r hr, ?_⟩
      rw [mp]
      have hd : decide (((k : Nat) : Int) = 0) = true := decide_eq_true (by omega)
      unfold rowBody
      generalize fn__law_draw_request = fr
      generalize fn__law_pick = fp at e0 ⊢
      generalize fn__law_of = fo at e1 ⊢
      simp only [sSeq, sAsg, sIf, sRet, sExp, dArg, dBin, dUn, dTst, dAndT, dOrT, dNotT, dIf, dAnd, dOr, dTup_eq, gateL_ok, gateT_ok, dFl, fLst_eq, fArg, aCons, aNil, dVar, dC, tgN, Sh.tg, Shs.tgs, tgT, tgsCons, tgsNil, Shs.len, bindO, List.getElem?_cons_zero, List.getElem?_cons_succ, List.set_cons_zero, List.set_cons_succ, List.length_cons, List.length_nil, List.map_cons, List.map_nil, List.cons_append, List.nil_append, List.replicate_succ, List.replicate_zero, Nat.reduceAdd, Nat.reduceSub, Nat.reduceEqDiff, if_true, Nat.reduceLeDiff, eqF_i, neF_i, addF_i, subF_i, gtF_i, ltF_i, ixF_seq, nox, wipeI, isN_non, isN_int, notN_non, notN_int, cond_true, cond_false, if_false, Bool.false_eq_true, ne, Bool.not_false, dML, il, e0, hd, e1, ap]
    · obtain ⟨s1, ext1, r, g1, o1, e1⟩ := requestR (rest := rest ++ .lst (rs.map reqIV) :: ext) g0 hn0 hn
      rw [List.append_assoc, List.cons_append] at e1
      refine ⟨s1, ext ++ ext1, r, .bl false, g1, o1, ?_⟩
      rw [mp]
      have hd : decide (((k : Nat) : Int) = 0) = false := decide_eq_false (by omega)
      unfold rowBody
      generalize fn__law_draw_request = fr at e1 ⊢
      generalize fn__law_pick = fp at e0 ⊢
      generalize fn__law_of = fo
      simp only [sSeq, sAsg, sIf, sRet, sExp, dArg, dBin, dUn, dTst, dAndT, dOrT, dNotT, dIf, dAnd, dOr, dTup_eq, gateL_ok, gateT_ok, dFl, fLst_eq, fArg, aCons, aNil, dVar, dC, tgN, Sh.tg, Shs.tgs, tgT, tgsCons, tgsNil, Shs.len, bindO, List.getElem?_cons_zero, List.getElem?_cons_succ, List.set_cons_zero, List.set_cons_succ, List.length_cons, List.length_nil, List.map_cons, List.map_nil, List.cons_append, List.nil_append, List.replicate_succ, List.replicate_zero, Nat.reduceAdd, Nat.reduceSub, Nat.reduceEqDiff, if_true, Nat.reduceLeDiff, eqF_i, neF_i, addF_i, subF_i, gtF_i, ltF_i, ixF_seq, nox, wipeI, isN_non, isN_int, notN_non, notN_int, cond_true, cond_false, if_false, Bool.false_eq_true, ne, Bool.not_false, dML, il, e0, hd, e1, ap]
theorem row_loop {rest : Mem} {n : Nat} {m : IV} (hn0 : 0 < n) (hn : n ≤ 1000) : ∀ (items : List IV) (s : Src) (ext : Mem) (rs : List (List Nat)) (a b : Option IV), s.Good → (∀ r ∈ rs, RqOk n r) → rs.length + items.length ≤ 50000 →
    ∃ (s' : Src) (ext' : Mem) (rs' : List (List Nat)) (a' b' : Option IV), s'.Good ∧ (∀ r ∈ rs', RqOk n r) ∧ rs'.length = rs.length + items.length ∧ forV (Sh.tg (.n 4)) rowBody items [some (.loc 1), some (.int (n : Nat)), some m, some (.loc (rest.length + 2)), a, b] (mem s (rest ++ .lst (rs.map reqIV) :: ext)) =
      .ok (.nx, [some (.loc 1), some (.int (n : Nat)), some m, some (.loc (rest.length + 2)), a', b']) (mem s' (rest ++ .lst (rs'.map reqIV) :: ext'))
  | [], s, ext, rs, a, b, g, hrs, _ => ⟨s, ext, rs, a, b, g, hrs, rfl, rfl⟩
  | x :: items, s, ext, rs, a, b, g, hrs, hl => by
    rw [List.length_cons] at hl
    obtain ⟨s1, ext1, r, b1, g1, o1, e1⟩ := row_step (rest := rest) (ext := ext) (m := m) (x := x) (b := b) g hn0 hn hrs (by omega)
    obtain ⟨s2, ext2, rs2, a2, b2, g2, o2, l2, e2⟩ := row_loop hn0 hn items s1 ext1 (rs ++ [r]) (some x) (some b1) g1 (fun q hq => by
      rcases List.mem_append.mp hq with q1 | q1
      · exact hrs q q1
      · rw [List.mem_singleton.mp q1]; exact o1) (by rw [List.length_append]; simp; omega)
    refine ⟨s2, ext2, rs2, a2, b2, g2, o2, by rw [l2, List.length_append, List.length_cons]; simp; omega, ?_⟩
    unfold forV
    show (rowBody [some (.loc 1), some (.int (n : Nat)), some m, some (.loc (rest.length + 2)), some x, b] _).bind _ = _
    rw [e1, Ret.bind_ok]
    exact e2
theorem row {s : Src} {rest : Mem} {n most : Nat} (g : s.Good) (hn0 : 0 < n) (hn : n ≤ 1000) (hm : most ≤ 1000) :
    ∃ (s' : Src) (ext : Mem) (rs : List (List Nat)), s'.Good ∧ rs.length ≤ most ∧ (∀ r ∈ rs, RqOk n r) ∧ fn__law_draw_row [.loc 1, .int (n : Nat), .int (most : Nat)] (mem s rest) = .ok (.tup (rs.map reqIV)) (mem s' (rest ++ ext)) := by
  obtain ⟨s1, k, g1, e1, hk⟩ := pickG (rest := rest ++ [.lst []]) (m := ((most + 1 : Nat) : Int)) g (by omega)
  obtain ⟨s2, ext2, rs, a2, b2, g2, o2, l2, e2⟩ := row_loop (rest := rest) (m := .int (most : Nat)) hn0 hn (rgI 0 (k : Nat)) s1 [] [] none none g1 (by simp) (by rw [rgI_len]; simp; omega)
  rw [rgI_len] at l2
  refine ⟨s2, .lst (rs.map reqIV) :: ext2, rs, g2, by simp at l2; omega, o2, ?_⟩
  unfold fn__law_draw_row
  refine fn_eq (ρ := [some (.loc 1), some (.int (n : Nat)), some (.int (most : Nat)), some (.loc (rest.length + 2)), a2, b2]) rfl ?_
  have un : d__law_draw_row = sSeq (sAsg (tgN 3) (dAl (fLst aNil))) (sSeq (sFor (wRng1 (aCons (dArg fn__law_pick (aCons (dVar 0) (aCons (dBin addF (dVar 2) (dC (.int 1))) aNil))) aNil)) (Sh.tg (.n 4)) rowBody) (sRet (dArg tupleF (aCons (dVar 3) aNil)))) := rfl
  rw [un]
  have pk : dArg fn__law_pick (aCons (dVar 0) (aCons (dBin addF (dVar 2) (dC (.int 1))) aNil)) [some (.loc 1), some (.int (n : Nat)), some (.int (most : Nat)), some (.loc (rest.length + 2)), none, none] (mem s (rest ++ [.lst []])) = .ok (.int (k : Nat)) (mem s1 (rest ++ [.lst []])) := by
    rw [v_2 (e_var (v := .loc 1) rfl) (v_add (e_var (v := .int (most : Nat)) rfl) v_c)]
    exact e1
  have rg := rng1 pk (by omega)
  generalize (wRng1 (aCons (dArg fn__law_pick (aCons (dVar 0) (aCons (dBin addF (dVar 2) (dC (.int 1))) aNil))) aNil)) = rgg at rg ⊢
  generalize rowBody = rb at e2 ⊢
  have sq : seqOf (mem s2 (rest ++ .lst (rs.map reqIV) :: ext2)) (.loc (rest.length + 2)) = some (rs.map reqIV) := seq_mem rfl
  have e3 : forV (Sh.tg (.n 4)) rb (rgI 0 (k : Nat)) _ (mem s1 (rest ++ [.lst []])) = _ := e2
  generalize Sh.tg (.n 4) = tgg at e3 ⊢
  simp only [sSeq, sAsg, sIf, sRet, sExp, dArg, dBin, dUn, dTst, dAndT, dOrT, dNotT, dIf, dAnd, dOr, dTup_eq, gateL_ok, gateT_ok, dFl, fLst_eq, fArg, aCons, aNil, dVar, dC, tgN, Sh.tg, Shs.tgs, tgT, tgsCons, tgsNil, Shs.len, bindO, List.getElem?_cons_zero, List.getElem?_cons_succ, List.set_cons_zero, List.set_cons_succ, List.length_cons, List.length_nil, List.map_cons, List.map_nil, List.cons_append, List.nil_append, List.replicate_succ, List.replicate_zero, Nat.reduceAdd, Nat.reduceSub, Nat.reduceEqDiff, if_true, Nat.reduceLeDiff, eqF_i, neF_i, addF_i, subF_i, gtF_i, ltF_i, ixF_seq, nox, wipeI, isN_non, isN_int, notN_non, notN_int, cond_true, cond_false, if_false, Bool.false_eq_true, dAl, mem_len, mem_app, sFor, rg, e3, tupleF, sq]
end VI
end

section
namespace VI
open PySem PySem.Spec PyProof.Rows L2
theorem lc_typed {α : Type} {t : Tg} {tt : DenT} {el : Den} {ρ : Sl} {h : Mem} {emb : α → IV} {p : α → Bool} {g : α → IV} : ∀ (l : List α) (n : Nat), n + l.length ≤ 100000 →
    (∀ a ∈ l, ∃ ρ1, t (emb a) ρ = some ρ1 ∧ tt ρ1 h = .ok (p a) h ∧ (p a = true → el ρ1 h = .ok (g a) h)) → lcV t tt el ρ (l.map emb) n h = .ok ((l.filter p).map g) h
  | [], _, _, _ => rfl
  | x :: r, n, hn, hs => by
    obtain ⟨ρ1, e1, e2, e3⟩ := hs x List.mem_cons_self
    rw [List.length_cons] at hn
    rw [List.map_cons]
    unfold lcV
    rw [e1]
    simp only [e2, nox, Ret.bind_ok]
    cases hp : p x with
    | false =>
      rw [List.filter_cons_of_neg (by rw [hp]; exact Bool.false_ne_true)]
      simp only [Bool.false_eq_true, if_false]
      exact lc_typed r n (by omega) fun y hy => hs y (List.mem_cons_of_mem _ hy)
    | true =>
      rw [List.filter_cons_of_pos hp]
      simp only [if_true, e3 hp, nox, Ret.bind_ok, if_pos (sl_lt (show n ≤ 100000 by omega))]
      rw [lc_typed r (n + 1) (by omega) fun y hy => hs y (List.mem_cons_of_mem _ hy), Ret.bind_ok]
      rfl
def natIV (k : Nat) : IV := .int (k : Nat)
def giftIV : Option Nat → IV
  | none => .non
  | some k => .int (k : Nat)
def giftD : Option Nat → PyData
  | none => .none
  | some k => .int (k : Nat)
structure GInv (n c : Nat) (rs : List (List Nat)) (gs : List (Option Nat)) (ls : List Nat) : Prop where
  len : gs.length = rs.length
  inn : ∀ (i k : Nat), gs[i]? = some (some k) → ∃ hs, rs[i]? = some hs ∧ k ∈ hs
  ll : ls.length = n
  cn : ∀ j, j < n → ls[j]? = some (gs.count (some j))
  le : ∀ j, gs.count (some j) ≤ c
theorem GInv.addN {n c : Nat} {rs : List (List Nat)} {gs : List (Option Nat)} {ls : List Nat} (v : GInv n c rs gs ls) (hs : List Nat) : GInv n c (rs ++ [hs]) (gs ++ [.none]) ls := by
  have cz : ∀ j, (gs ++ [Option.none]).count (some j) = gs.count (some j) := fun j => by
    rw [List.count_append]
    simp
  refine ⟨by rw [List.length_append, List.length_append, v.len]; rfl, fun i k e => ?_, v.ll, fun j hj => by rw [cz]; exact v.cn j hj, fun j => by rw [cz]; exact v.le j⟩
  by_cases hi : i < gs.length
  · rw [List.getElem?_append_left hi] at e
    rw [List.getElem?_append_left (by rw [← v.len]; exact hi)]
    exact v.inn i k e
  · rw [List.getElem?_append_right (by omega)] at e
    cases hd : i - gs.length with
    | zero => rw [hd] at e; cases e
    | succ _ => rw [hd] at e; cases e
theorem GInv.addS {n c : Nat} {rs : List (List Nat)} {gs : List (Option Nat)} {ls : List Nat} (v : GInv n c rs gs ls) {hs : List Nat} {q l : Nat} (hq : q ∈ hs) (hn : q < n) (hl : ls[q]? = .some l) (hc : l < c) : GInv n c (rs ++ [hs]) (gs ++ [.some q]) (ls.set q (l + 1)) := by
  have cz : ∀ j, (gs ++ [Option.some q]).count (.some j) = gs.count (.some j) + if j = q then 1 else 0 := fun j => by
    rw [List.count_append, List.count_singleton]
    by_cases hj : j = q
    · subst hj
      simp
    · rw [if_neg hj, if_neg]
      intro z
      have := eq_of_beq z
      exact hj (Option.some.inj this).symm
  have hlq : l = gs.count (.some q) := by
    have := v.cn q hn
    rw [hl] at this
    exact Option.some.inj this
  refine ⟨by rw [List.length_append, List.length_append, v.len]; rfl, fun i k e => ?_, by rw [List.length_set]; exact v.ll, fun j hj => ?_, fun j => ?_⟩
  · by_cases hi : i < gs.length
    · rw [List.getElem?_append_left hi] at e
      rw [List.getElem?_append_left (by rw [← v.len]; exact hi)]
      exact v.inn i k e
    · rw [List.getElem?_append_right (by omega)] at e
      cases hd : i - gs.length with
      | zero =>
        rw [hd] at e
        have e' : q = k := by
          have := Option.some.inj e
          exact Option.some.inj this
        subst e'
        refine ⟨hs, ?_, hq⟩
        rw [List.getElem?_append_right (by rw [← v.len]; omega), ← v.len, hd]
        rfl
      | succ _ => rw [hd] at e; cases e
  · rw [cz]
    by_cases hjq : j = q
    · subst hjq
      rw [List.getElem?_set_self (by rw [v.ll]; exact hn), if_pos rfl, hlq]
    · rw [List.getElem?_set_ne (Ne.symm hjq), if_neg hjq]
      exact v.cn j hj
  · rw [cz]
    have := v.le j
    by_cases hjq : j = q
    · subst hjq
      rw [if_pos rfl]
      omega
    · rw [if_neg hjq]
      exact this
def opD : Den := (dFl (fLc (wSeq (dVar 5)) (Sh.tg (.n 8)) (dTst (dBin ltF (dBin ixF (dVar 3) (dVar 8)) (dBin ixF (dVar 1) (dC (.int 0))))) (dVar 8) [8]))
def giftsBody : DenS := (sSeq (sAsg (tgN 6) opD)
    (sSeq (sAsg (tgN 7) (dIf (dAndT (dTst (dBin neF (dVar 6) (dFl (fLst aNil)))) (dTst (dBin gtF (dArg fn__law_pick (aCons (dVar 0) (aCons (dC (.int 6)) aNil))) (dC (.int 0))))) (dArg fn__law_of (aCons (dVar 0) (aCons (dVar 6) aNil))) (dC .non)))
    (sSeq (sExp (dML appF (dVar 4) (aCons (dVar 7) aNil)))
    (sIf (dTst (dBin notNF (dVar 7) (dC .non))) (sPut (dVar 3) (dVar 7) (dBin addF (dBin ixF (dVar 3) (dVar 7)) (dC (.int 1)))) sNx))))
def yardIV (c : Nat) (ws : List Int) : IV := .tup [.int (c : Nat), .tup (ws.map .int)]
/-- the memory while gifts are drawn -/
def gm (s : Src) (rest : Mem) (ls : List Nat) (gs : List (Option Nat)) : Mem := mem s (rest ++ [.lst (ls.map natIV), .lst (gs.map giftIV)])
section
variable {s : Src} {rest : Mem} {ls : List Nat} {gs : List (Option Nat)}
theorem gm_app {y : Option Nat} (hx : gs.length ≤ 100000) : appF (.loc (rest.length + 3)) [giftIV y] (gm s rest ls gs) = .ok .non (gm s rest ls (gs ++ [y])) := by
  have := app_mem (s := s) (rest := rest ++ [.lst (ls.map natIV)]) (ext := []) (xs := gs.map giftIV) (y := giftIV y) (l := rest.length + 3) (by rw [List.length_append]; rfl) (by rw [List.length_map]; exact hx)
  rw [List.append_assoc, List.append_assoc] at this
  unfold gm
  rw [List.map_append]
  exact this
theorem gm_isL : isL (gm s rest ls gs) (.loc (rest.length + 3)) = true := by
  have := isL_mem (s := s) (rest := rest ++ [.lst (ls.map natIV)]) (ext := []) (xs := gs.map giftIV) (l := rest.length + 3) (by rw [List.length_append]; rfl)
  rw [List.append_assoc] at this
  exact this
theorem gm_seq : seqOf (gm s rest ls gs) (.loc (rest.length + 3)) = some (gs.map giftIV) := by
  have := seq_mem (s := s) (rest := rest ++ [.lst (ls.map natIV)]) (ext := []) (xs := gs.map giftIV) (l := rest.length + 3) (by rw [List.length_append]; rfl)
  rw [List.append_assoc] at this
  exact this
theorem gm_ix {q l : Nat} (hl : ls[q]? = some l) : ixF (.loc (rest.length + 2)) (.int (q : Nat)) (gm s rest ls gs) = .ok (.int (l : Nat)) (gm s rest ls gs) := by
  refine ix_seq' (xs := ls.map natIV) (seq_mem (ext := [.lst (gs.map giftIV)]) rfl) ?_
  rw [List.getElem?_map, hl]
  rfl
theorem gm_put {q l : Nat} (hq : q < ls.length) : putF (.loc (rest.length + 2)) (.int (q : Nat)) (.int (l : Nat)) (gm s rest ls gs) = .ok () (gm s rest (ls.set q l) gs) := by
  have e1 : (gm s rest ls gs)[rest.length + 2]? = some (.lst (ls.map natIV)) := mem_at
  have e2 : ixN (ls.map natIV).length ((q : Nat) : Int) = some q := ixN_nat (by rw [List.length_map]; exact hq)
  have e3 : (gm s rest ls gs).set (rest.length + 2) (.lst ((ls.map natIV).set q (.int (l : Nat)))) = gm s rest (ls.set q l) gs := by
    have := mem_set (s := s) (rest := rest) (o := .lst (ls.map natIV)) (p := .lst ((ls.map natIV).set q (.int (l : Nat)))) (ext := [.lst (gs.map giftIV)])
    refine Eq.trans this ?_
    unfold gm
    rw [List.map_set]
    rfl
  unfold putF
  simp only [e1, e2, e3]
theorem gm_ne {os : List Nat} {h : Mem} (hos : ∀ k ∈ os, k < 1000) : neF (.fl (os.map natIV)) (.fl []) h = .ok (.bl (!os.isEmpty)) h := by
  have := ne_nilF (h := h) (SzL.map (f := natIV) (g := fun k => .int (k : Nat)) (k := 1) (w := 40) (l := os) fun k hk => Sz.int (by
    have := hos k hk
    rw [big12]
    omega)) (by decide)
  rw [this]
  cases os <;> rfl
end
theorem gifts_step {s : Src} {rest : Mem} {n c : Nat} {ws : List Int} {rs : List (List Nat)} {hs : List Nat} {gs : List (Option Nat)} {ls : List Nat} {rv : IV} {a b d : Option IV} (g : s.Good) (hn : n ≤ 1000) (iv : GInv n c rs gs ls) (ro : RqOk n hs) (hl : gs.length ≤ 50000) :
    ∃ (s' : Src) (x : Option Nat) (ls' : List Nat) (a' b' : IV), s'.Good ∧ GInv n c (rs ++ [hs]) (gs ++ [x]) ls' ∧ giftsBody [some (.loc 1), some (yardIV c ws), some rv, some (.loc (rest.length + 2)), some (.loc (rest.length + 3)), some (reqIV hs), a, b, none] (gm s rest ls gs) =
      .ok (.nx, [some (.loc 1), some (yardIV c ws), some rv, some (.loc (rest.length + 2)), some (.loc (rest.length + 3)), some (reqIV hs), some a', some b', none]) (gm s' rest ls' (gs ++ [x])) := by
  have op : ∃ os : List Nat, os.length ≤ hs.length ∧ (∀ q ∈ os, q ∈ hs ∧ ∃ l, ls[q]? = some l ∧ l < c) ∧ opD [some (.loc 1), some (yardIV c ws), some rv, some (.loc (rest.length + 2)), some (.loc (rest.length + 3)), some (reqIV hs), a, b, none] (gm s rest ls gs) = .ok (.fl (os.map natIV)) (gm s rest ls gs) := by
    refine ⟨hs.filter fun q => decide (ls.getD q 0 < c), List.length_filter_le _ _, fun q hq => ?_, ?_⟩
    · obtain ⟨h1, h2⟩ := List.mem_filter.mp hq
      refine ⟨h1, ls[q]'(by rw [iv.ll]; exact ro.2 q h1), List.getElem?_eq_getElem _, ?_⟩
      have h3 := of_decide_eq_true h2
      rw [List.getD_eq_getElem?_getD, List.getElem?_eq_getElem (by rw [iv.ll]; exact ro.2 q h1)] at h3
      exact h3
    · have lc := lc_typed (t := tgN 8) (tt := dTst (dBin ltF (dBin ixF (dVar 3) (dVar 8)) (dBin ixF (dVar 1) (dC (.int 0))))) (el := dVar 8) (ρ := [some (.loc 1), some (yardIV c ws), some rv, some (.loc (rest.length + 2)), some (.loc (rest.length + 3)), some (reqIV hs), a, b, none])
        (h := gm s rest ls gs) (emb := natIV) (g := natIV) (p := fun q => decide (ls.getD q 0 < c)) hs 0 (by have := ro.len; omega) fun q hq => by
          have hl : ls[q]? = some (ls.getD q 0) := by
            rw [List.getD_eq_getElem?_getD, List.getElem?_eq_getElem (by rw [iv.ll]; exact ro.2 q hq)]
            rfl
          refine ⟨_, rfl, ?_, fun _ => rfl⟩
          have ix := gm_ix (s := s) (rest := rest) (gs := gs) hl
          have iy : ixF (yardIV c ws) (.int 0) (gm s rest ls gs) = .ok (.int (c : Nat)) (gm s rest ls gs) := rfl
          have dd : decide (((ls.getD q 0 : Nat) : Int) < ((c : Nat) : Int)) = decide (ls.getD q 0 < c) := by
            by_cases hc : ls.getD q 0 < c
            · rw [decide_eq_true hc, decide_eq_true (by omega)]
            · rw [decide_eq_false hc, decide_eq_false (by omega)]
          simp only [sSeq, sAsg, sIf, sRet, sExp, dArg, dBin, dUn, dTst, dAndT, dOrT, dNotT, dIf, dAnd, dOr, dTup_eq, gateL_ok, gateT_ok, dFl, fLst_eq, fArg, aCons, aNil, dVar, dC, tgN, Sh.tg, Shs.tgs, tgT, tgsCons, tgsNil, Shs.len, bindO, List.getElem?_cons_zero, List.getElem?_cons_succ, List.set_cons_zero, List.set_cons_succ, List.length_cons, List.length_nil, List.map_cons, List.map_nil, List.cons_append, List.nil_append, List.replicate_succ, List.replicate_zero, Nat.reduceAdd, Nat.reduceSub, Nat.reduceEqDiff, if_true, Nat.reduceLeDiff, eqF_i, neF_i, addF_i, subF_i, gtF_i, ltF_i, ixF_seq, nox, wipeI, isN_non, isN_int, notN_non, notN_int, cond_true, cond_false, if_false, Bool.false_eq_true, natIV, ix, iy, dd]
      unfold opD
      have rq : reqIV hs = .tup (hs.map natIV) := rfl
      rw [rq] at lc ⊢
      simp only [sSeq, sAsg, sIf, sRet, sExp, dArg, dBin, dUn, dTst, dAndT, dOrT, dNotT, dIf, dAnd, dOr, dTup_eq, gateL_ok, gateT_ok, dFl, fLst_eq, fArg, aCons, aNil, dVar, dC, tgN, Sh.tg, Shs.tgs, tgT, tgsCons, tgsNil, Shs.len, bindO, List.getElem?_cons_zero, List.getElem?_cons_succ, List.set_cons_zero, List.set_cons_succ, List.length_cons, List.length_nil, List.map_cons, List.map_nil, List.cons_append, List.nil_append, List.replicate_succ, List.replicate_zero, Nat.reduceAdd, Nat.reduceSub, Nat.reduceEqDiff, if_true, Nat.reduceLeDiff, eqF_i, neF_i, addF_i, subF_i, gtF_i, ltF_i, ixF_seq, nox, wipeI, isN_non, isN_int, notN_non, notN_int, cond_true, cond_false, if_false, Bool.false_eq_true, fLc, wSeq, lc]
  obtain ⟨os, hol, hos, eo⟩ := op
  have ne := gm_ne (os := os) (h := gm s rest ls gs) fun k hk => by
    have := ro.2 k (hos k hk).1
    omega
  have il : ∀ {s ls}, isL (gm s rest ls gs) (.loc (rest.length + 3)) = true := gm_isL
  have apn : ∀ {s ls}, appF (.loc (rest.length + 3)) [.non] (gm s rest ls gs) = .ok .non (gm s rest ls (gs ++ [none])) := gm_app (y := none) (by omega)
  have noneCase : ∀ {s1 : Src} {f : DenT}, s1.Good → f [some (.loc 1), some (yardIV c ws), some rv, some (.loc (rest.length + 2)), some (.loc (rest.length + 3)), some (reqIV hs), some (.fl (os.map natIV)), b, none] (gm s rest ls gs) = .ok false (gm s1 rest ls gs) →
      (sSeq (sAsg (tgN 6) opD) (sSeq (sAsg (tgN 7) (dIf f (dArg fn__law_of (aCons (dVar 0) (aCons (dVar 6) aNil))) (dC .non))) (sSeq (sExp (dML appF (dVar 4) (aCons (dVar 7) aNil)))
        (sIf (dTst (dBin notNF (dVar 7) (dC .non))) (sPut (dVar 3) (dVar 7) (dBin addF (dBin ixF (dVar 3) (dVar 7)) (dC (.int 1)))) sNx)))) [some (.loc 1), some (yardIV c ws), some rv, some (.loc (rest.length + 2)), some (.loc (rest.length + 3)), some (reqIV hs), a, b, none] (gm s rest ls gs) =
      .ok (.nx, [some (.loc 1), some (yardIV c ws), some rv, some (.loc (rest.length + 2)), some (.loc (rest.length + 3)), some (reqIV hs), some (.fl (os.map natIV)), some .non, none]) (gm s1 rest ls (gs ++ [none])) := fun {s1 f} g1 ef => by
    generalize fn__law_of = fo
    generalize opD = od at eo ⊢
    simp only [sSeq, sAsg, sIf, sRet, sExp, dArg, dBin, dUn, dTst, dAndT, dOrT, dNotT, dIf, dAnd, dOr, dTup_eq, gateL_ok, gateT_ok, dFl, fLst_eq, fArg, aCons, aNil, dVar, dC, tgN, Sh.tg, Shs.tgs, tgT, tgsCons, tgsNil, Shs.len, bindO, List.getElem?_cons_zero, List.getElem?_cons_succ, List.set_cons_zero, List.set_cons_succ, List.length_cons, List.length_nil, List.map_cons, List.map_nil, List.cons_append, List.nil_append, List.replicate_succ, List.replicate_zero, Nat.reduceAdd, Nat.reduceSub, Nat.reduceEqDiff, if_true, Nat.reduceLeDiff, eqF_i, neF_i, addF_i, subF_i, gtF_i, ltF_i, ixF_seq, nox, wipeI, isN_non, isN_int, notN_non, notN_int, cond_true, cond_false, if_false, Bool.false_eq_true, eo, ef, dML, il, apn, sNx]
  by_cases h0 : os = []
  · refine ⟨s, none, ls, .fl (os.map natIV), .non, g, iv.addN hs, ?_⟩
    refine noneCase (f := (dAndT (dTst (dBin neF (dVar 6) (dFl (fLst aNil)))) (dTst (dBin gtF (dArg fn__law_pick (aCons (dVar 0) (aCons (dC (.int 6)) aNil))) (dC (.int 0)))))) g ?_
    have ee : os.isEmpty = true := by rw [h0]; rfl
    rw [ee] at ne
    generalize fn__law_pick = fp
    simp only [sSeq, sAsg, sIf, sRet, sExp, dArg, dBin, dUn, dTst, dAndT, dOrT, dNotT, dIf, dAnd, dOr, dTup_eq, gateL_ok, gateT_ok, dFl, fLst_eq, fArg, aCons, aNil, dVar, dC, tgN, Sh.tg, Shs.tgs, tgT, tgsCons, tgsNil, Shs.len, bindO, List.getElem?_cons_zero, List.getElem?_cons_succ, List.set_cons_zero, List.set_cons_succ, List.length_cons, List.length_nil, List.map_cons, List.map_nil, List.cons_append, List.nil_append, List.replicate_succ, List.replicate_zero, Nat.reduceAdd, Nat.reduceSub, Nat.reduceEqDiff, if_true, Nat.reduceLeDiff, eqF_i, neF_i, addF_i, subF_i, gtF_i, ltF_i, ixF_seq, nox, wipeI, isN_non, isN_int, notN_non, notN_int, cond_true, cond_false, if_false, Bool.false_eq_true, ne, Bool.not_true]
  · have ee : os.isEmpty = false := by
      cases os with
      | nil => exact absurd rfl h0
      | cons _ _ => rfl
    rw [ee] at ne
    obtain ⟨s1, k, g1, e1, hk⟩ := pickG (rest := rest ++ [.lst (ls.map natIV), .lst (gs.map giftIV)]) (m := 6) g (by decide)
    have e1' : fn__law_pick [.loc 1, .int 6] (gm s rest ls gs) = .ok (.int (k : Nat)) (gm s1 rest ls gs) := e1
    have tt : (dAndT (dTst (dBin neF (dVar 6) (dFl (fLst aNil)))) (dTst (dBin gtF (dArg fn__law_pick (aCons (dVar 0) (aCons (dC (.int 6)) aNil))) (dC (.int 0))))) [some (.loc 1), some (yardIV c ws), some rv, some (.loc (rest.length + 2)), some (.loc (rest.length + 3)), some (reqIV hs), some (.fl (os.map natIV)), b, none] (gm s rest ls gs) = .ok (decide ((0 : Int) < (k : Nat))) (gm s1 rest ls gs) := by
      generalize fn__law_pick = fp at e1' ⊢
      simp only [sSeq, sAsg, sIf, sRet, sExp, dArg, dBin, dUn, dTst, dAndT, dOrT, dNotT, dIf, dAnd, dOr, dTup_eq, gateL_ok, gateT_ok, dFl, fLst_eq, fArg, aCons, aNil, dVar, dC, tgN, Sh.tg, Shs.tgs, tgT, tgsCons, tgsNil, Shs.len, bindO, List.getElem?_cons_zero, List.getElem?_cons_succ, List.set_cons_zero, List.set_cons_succ, List.length_cons, List.length_nil, List.map_cons, List.map_nil, List.cons_append, List.nil_append, List.replicate_succ, List.replicate_zero, Nat.reduceAdd, Nat.reduceSub, Nat.reduceEqDiff, if_true, Nat.reduceLeDiff, eqF_i, neF_i, addF_i, subF_i, gtF_i, ltF_i, ixF_seq, nox, wipeI, isN_non, isN_int, notN_non, notN_int, cond_true, cond_false, if_false, Bool.false_eq_true, ne, Bool.not_false, e1']
    by_cases hk0 : k = 0
    · rw [decide_eq_false (by omega)] at tt
      exact ⟨s1, none, ls, .fl (os.map natIV), .non, g1, iv.addN hs, noneCase g1 tt⟩
    · rw [decide_eq_true (by omega)] at tt
      obtain ⟨s2, j, y, g2, ey, e2⟩ := of (rest := rest ++ [.lst (ls.map natIV), .lst (gs.map giftIV)]) (v := .fl (os.map natIV)) (xs := os.map natIV) g1 (fun _ => rfl) (fun z => h0 (List.map_eq_nil_iff.mp z)) (by
        have hsub := ro.len
        rw [List.length_map]
        omega)
      obtain ⟨q, hq, rfl⟩ := List.mem_map.mp (List.mem_of_getElem? ey)
      obtain ⟨hqh, l, hql, hlc⟩ := hos q hq
      have hqn := ro.2 q hqh
      have e2' : fn__law_of [.loc 1, .fl (os.map natIV)] (gm s1 rest ls gs) = .ok (natIV q) (gm s2 rest ls gs) := e2
      refine ⟨s2, some q, ls.set q (l + 1), .fl (os.map natIV), natIV q, g2, iv.addS hqh hqn hql hlc, ?_⟩
      have aps : appF (.loc (rest.length + 3)) [.int (q : Nat)] (gm s2 rest ls gs) = .ok .non (gm s2 rest ls (gs ++ [some q])) := gm_app (y := some q) (by omega)
      have ix := gm_ix (s := s2) (rest := rest) (gs := gs ++ [some q]) hql
      have pt := gm_put (s := s2) (rest := rest) (gs := gs ++ [some q]) (ls := ls) (q := q) (l := l + 1) (by rw [iv.ll]; exact hqn)
      have ca : ((l + 1 : Nat) : Int) = (l : Nat) + 1 := by omega
      rw [ca] at pt
      unfold giftsBody
      unfold natIV at e2' ⊢
      unfold natIV at tt eo
      generalize (dAndT (dTst (dBin neF (dVar 6) (dFl (fLst aNil)))) (dTst (dBin gtF (dArg fn__law_pick (aCons (dVar 0) (aCons (dC (.int 6)) aNil))) (dC (.int 0))))) = ff at tt ⊢
      generalize fn__law_of = fo at e2' ⊢
      generalize opD = od at eo ⊢
      simp only [sSeq, sAsg, sIf, sRet, sExp, dArg, dBin, dUn, dTst, dAndT, dOrT, dNotT, dIf, dAnd, dOr, dTup_eq, gateL_ok, gateT_ok, dFl, fLst_eq, fArg, aCons, aNil, dVar, dC, tgN, Sh.tg, Shs.tgs, tgT, tgsCons, tgsNil, Shs.len, bindO, List.getElem?_cons_zero, List.getElem?_cons_succ, List.set_cons_zero, List.set_cons_succ, List.length_cons, List.length_nil, List.map_cons, List.map_nil, List.cons_append, List.nil_append, List.replicate_succ, List.replicate_zero, Nat.reduceAdd, Nat.reduceSub, Nat.reduceEqDiff, if_true, Nat.reduceLeDiff, eqF_i, neF_i, addF_i, subF_i, gtF_i, ltF_i, ixF_seq, nox, wipeI, isN_non, isN_int, notN_non, notN_int, cond_true, cond_false, if_false, Bool.false_eq_true, eo, tt, e2', dML, il, aps, sPut, ix, pt]
theorem gifts_loop {rest : Mem} {n c : Nat} {ws : List Int} {rv : IV} (hn : n ≤ 1000) : ∀ (todo done : List (List Nat)) (s : Src) (gs : List (Option Nat)) (ls : List Nat) (r a b : Option IV), s.Good → (∀ hs ∈ todo, RqOk n hs) → GInv n c done gs ls → gs.length + todo.length ≤ 50000 →
    ∃ (s' : Src) (gs' : List (Option Nat)) (ls' : List Nat) (r' a' b' : Option IV), s'.Good ∧ GInv n c (done ++ todo) gs' ls' ∧ forV (Sh.tg (.n 5)) giftsBody (todo.map reqIV) [some (.loc 1), some (yardIV c ws), some rv, some (.loc (rest.length + 2)), some (.loc (rest.length + 3)), r, a, b, none] (gm s rest ls gs) =
      .ok (.nx, [some (.loc 1), some (yardIV c ws), some rv, some (.loc (rest.length + 2)), some (.loc (rest.length + 3)), r', a', b', none]) (gm s' rest ls' gs')
  | [], done, s, gs, ls, r, a, b, g, _, iv, _ => ⟨s, gs, ls, r, a, b, g, by rw [List.append_nil]; exact iv, rfl⟩
  | hs :: todo, done, s, gs, ls, r, a, b, g, ok, iv, hl => by
    rw [List.length_cons] at hl
    obtain ⟨s1, x, ls1, a1, b1, g1, iv1, e1⟩ := gifts_step (ws := ws) (rv := rv) (rest := rest) (a := a) (b := b) (d := none) g hn iv (ok hs List.mem_cons_self) (by omega)
    obtain ⟨s2, gs2, ls2, r2, a2, b2, g2, iv2, e2⟩ := gifts_loop hn todo (done ++ [hs]) s1 (gs ++ [x]) ls1 (some (reqIV hs)) (some a1) (some b1) g1 (fun q hq => ok q (List.mem_cons_of_mem _ hq)) iv1 (by rw [List.length_append]; simp; omega)
    rw [List.append_assoc] at iv2
    refine ⟨s2, gs2, ls2, r2, a2, b2, g2, iv2, ?_⟩
    rw [List.map_cons]
    unfold forV
    show (giftsBody [some (.loc 1), some (yardIV c ws), some rv, some (.loc (rest.length + 2)), some (.loc (rest.length + 3)), some (reqIV hs), a, b, none] _).bind _ = _
    rw [e1, Ret.bind_ok]
    exact e2
theorem gifts {s : Src} {rest : Mem} {n c : Nat} {ws : List Int} {rs : List (List Nat)} (g : s.Good) (hw : ws.length = n) (hn : n ≤ 1000) (hrs : ∀ r ∈ rs, RqOk n r) (hl : rs.length ≤ 50000) :
    ∃ (s' : Src) (ext : Mem) (gs : List (Option Nat)) (ls : List Nat), s'.Good ∧ GInv n c rs gs ls ∧ fn__law_draw_gifts [.loc 1, yardIV c ws, .tup (rs.map reqIV)] (mem s rest) = .ok (.tup (gs.map giftIV)) (mem s' (rest ++ ext)) := by
  have iv0 : GInv n c [] [] (List.replicate n 0) := ⟨rfl, fun i k e => by simp at e, by rw [List.length_replicate], fun j hj => by rw [List.getElem?_replicate, if_pos hj]; rfl, fun j => by simp⟩
  obtain ⟨s1, gs, ls, r1, a1, b1, g1, iv, e⟩ := gifts_loop (rest := rest) (ws := ws) (rv := .tup (rs.map reqIV)) hn rs [] s [] (List.replicate n 0) none none none g hrs iv0 (by simp; omega)
  rw [List.nil_append] at iv
  refine ⟨s1, [.lst (ls.map natIV), .lst (gs.map giftIV)], gs, ls, g1, iv, ?_⟩
  unfold fn__law_draw_gifts
  refine fn_eq (ρ := [some (.loc 1), some (yardIV c ws), some (.tup (rs.map reqIV)), some (.loc (rest.length + 2)), some (.loc (rest.length + 3)), r1, a1, b1, none]) rfl ?_
  have un : d__law_draw_gifts = (sSeq (sAsg (Sh.tg (.t (.cons (.n 3) (.cons (.n 4) .nil)))) (dTup (aCons (dAl (fRep (dFl (fLst (aCons (dC (.int 0)) aNil))) (dArg lenF (aCons (dBin ixF (dVar 1) (dC (.int 1))) aNil)))) (aCons (dAl (fLst aNil)) aNil))))
    (sSeq (sFor (wSeq (dVar 2)) (Sh.tg (.n 5)) giftsBody) (sRet (dArg tupleF (aCons (dVar 4) aNil))))) := rfl
  rw [un]
  have rp : fRep (dFl (fLst (aCons (dC (.int 0)) aNil))) (dArg lenF (aCons (dBin ixF (dVar 1) (dC (.int 1))) aNil)) [some (.loc 1), some (yardIV c ws), some (.tup (rs.map reqIV)), none, none, none, none, none, none] (mem s rest) = .ok ((List.replicate n 0).map natIV) (mem s rest) := by
    have ix : ixF (yardIV c ws) (.int 1) (mem s rest) = .ok (.tup (ws.map .int)) (mem s rest) := rfl
    have ln : lenF [.tup (ws.map .int)] (mem s rest) = .ok (.int (n : Nat)) (mem s rest) := by
      show Ret.ok (IV.int ((ws.map IV.int).length : Nat)) (mem s rest) = _
      rw [List.length_map, hw]
    have c1 : (decide (-9223372036854775808 ≤ ((n : Nat) : Int)) && decide (((n : Nat) : Int) < 9223372036854775808) && decide ((([.int 0] : List IV).length * ((n : Nat) : Int).toNat ≤ sizeLine))) = true := by
      rw [Bool.and_eq_true, Bool.and_eq_true, decide_eq_true_eq, decide_eq_true_eq, decide_eq_true_eq]
      refine ⟨⟨by omega, by omega⟩, sl_le ?_⟩
      show 1 * ((n : Nat) : Int).toNat ≤ 100000
      omega
    have fl : (List.replicate ((n : Nat) : Int).toNat [IV.int 0]).flatten = (List.replicate n 0).map natIV := by
      rw [Int.toNat_natCast, List.map_replicate]
      clear iv0 e iv c1 ln hw hrs hn
      induction n with
      | zero => rfl
      | succ n ih => rw [List.replicate_succ, List.flatten_cons, ih]; rfl
    unfold fRep
    simp only [sSeq, sAsg, sIf, sRet, sExp, dArg, dBin, dUn, dTst, dAndT, dOrT, dNotT, dIf, dAnd, dOr, dTup_eq, gateL_ok, gateT_ok, dFl, fLst_eq, fArg, aCons, aNil, dVar, dC, tgN, Sh.tg, Shs.tgs, tgT, tgsCons, tgsNil, Shs.len, bindO, List.getElem?_cons_zero, List.getElem?_cons_succ, List.set_cons_zero, List.set_cons_succ, List.length_cons, List.length_nil, List.map_cons, List.map_nil, List.cons_append, List.nil_append, List.replicate_succ, List.replicate_zero, Nat.reduceAdd, Nat.reduceSub, Nat.reduceEqDiff, if_true, Nat.reduceLeDiff, eqF_i, neF_i, addF_i, subF_i, gtF_i, ltF_i, ixF_seq, nox, wipeI, isN_non, isN_int, notN_non, notN_int, cond_true, cond_false, if_false, Bool.false_eq_true, ix, ln, lstOf]
    generalize ((n : Nat) : Int) = j at c1 fl
    show (bif _ then Ret.ok _ (mem s rest) else .bad) = _
    simp only [List.length_cons, List.length_nil] at c1
    rw [c1, cond_true, fl]
  have e' : forV (tgN 5) giftsBody (rs.map reqIV) _ (mem s (rest ++ [.lst ((List.replicate n 0).map natIV), .lst []])) = .ok _ (gm s1 rest ls gs) := e
  generalize giftsBody = gb at e' ⊢
  have sq : seqOf (gm s1 rest ls gs) (.loc (rest.length + 3)) = some (gs.map giftIV) := gm_seq
  generalize fRep (dFl (fLst (aCons (dC (.int 0)) aNil))) (dArg lenF (aCons (dBin ixF (dVar 1) (dC (.int 1))) aNil)) = rpp at rp ⊢
  simp only [sSeq, sAsg, sIf, sRet, sExp, dArg, dBin, dUn, dTst, dAndT, dOrT, dNotT, dIf, dAnd, dOr, dTup_eq, gateL_ok, gateT_ok, dFl, fLst_eq, fArg, aCons, aNil, dVar, dC, tgN, Sh.tg, Shs.tgs, tgT, tgsCons, tgsNil, Shs.len, bindO, List.getElem?_cons_zero, List.getElem?_cons_succ, List.set_cons_zero, List.set_cons_succ, List.length_cons, List.length_nil, List.map_cons, List.map_nil, List.cons_append, List.nil_append, List.replicate_succ, List.replicate_zero, Nat.reduceAdd, Nat.reduceSub, Nat.reduceEqDiff, if_true, Nat.reduceLeDiff, eqF_i, neF_i, addF_i, subF_i, gtF_i, ltF_i, ixF_seq, nox, wipeI, isN_non, isN_int, notN_non, notN_int, cond_true, cond_false, if_false, Bool.false_eq_true, dAl, rp, mem_len, mem_app, List.length_append, List.append_assoc, Option.bind_some, sFor, wSeq, e', tupleF, sq]
  rfl
end VI
end

section
/-! isinstance, all, any, in, count; repr of data with empty dicts. -/
namespace VI
open PySem PySem.Spec PyProof.Rows L2
inductive Ty where
  | non | bl | int | str | tup | lst | dct
  deriving DecidableEq
def Ty.nm : Ty → String
  | .non => "NoneType"
  | .bl => "bool"
  | .int => "int"
  | .str => "str"
  | .tup => "tuple"
  | .lst => "list"
  | .dct => "dict"
def Ty.isi (a b : Ty) : Bool := decide (a = b) || (decide (a = .bl) && decide (b = .int))
theorem kit_isi {K : PySem.W.Frag} (a b : Ty) : PySem.W.kitOne K (.type a.nm) (.type b.nm) = some (a.isi b) := by
  refine kit_ty ?_
  cases a <;> cases b <;> decide +kernel
def tyN (h : Mem) : IV → Option Ty
  | .non => some .non
  | .bl _ => some .bl
  | .int _ => some .int
  | .str _ => some .str
  | .tup _ => some .tup
  | .fl _ => some .lst
  | .fz _ => some .lst
  | .loc l => match h[l]? with
    | some (.lst _) => some .lst
    | some (.dK _) => some .dct
    | some (.oth _) => none
    | none => none
section
variable {X : Cx} {E : XI} {e a b : Expr} {es : List Expr} {pos p tpos : Pos} {da db dc : Den} {K : PySem.W.Frag}
theorem tyN_ty {μ z : List Addr} {h : Mem} {H : Hp} {v : IV} {x : V} {t : Ty} (hr : HR K μ z h H) (vr : VR K μ z H v x) (e : tyN h v = some t) : TyX K H x (.type t.nm) := by
  cases vr with
  | non => cases Option.some.inj e; exact .base .non
  | bl b => cases Option.some.inj e; exact .base (.bl b)
  | int i => cases Option.some.inj e; exact .base (.int i)
  | str s => cases Option.some.inj e; exact .base (.str s)
  | tup hq r =>
    cases Option.some.inj e
    rcases hq with (hq | ⟨o, hq⟩) | ⟨o, its, n, hk, hc, _⟩
    · exact .base (.tup hq)
    · exact .fTuple hq
    · exact .kTuple hk hc
  | fl hq n m r => cases Option.some.inj e; exact .base (.lst hq)
  | fz hq r =>
    cases Option.some.inj e
    rcases hq with ⟨o, hq⟩ | ⟨o, its, n, hk, hc, _⟩
    · exact .base (.frz hq)
    · exact .kList hk hc
  | @loc a l hl =>
    have e' : (match h[l]? with
      | some (.lst _) => some Ty.lst
      | some (.dK _) => some Ty.dct
      | some (.oth _) => none
      | none => none) = some t := e
    cases eo : h[l]? with
    | none => rw [eo] at e'; cases e'
    | some o =>
      rw [eo] at e'
      obtain ⟨u, e3, r⟩ := hr.ob _ _ _ hl eo
      cases r with
      | lst r => cases Option.some.inj e'; exact .base (.lst e3)
      | dK r => cases Option.some.inj e'; exact .base (.dK e3)
      | oth r => cases e'
def isiF (T : Ty) : IV → Mem → Ret IV := fun v h => match tyN h v with
  | some t => .ok (.bl (t.isi T)) h
  | none => .bad
theorem bt_isinstance : bootBuiltins "isinstance" = some (.builtin "isinstance") := by decide +kernel
theorem r_isi {x : Str} {p2 : Pos} (T : Ty) (hg : Gl X "isinstance") (hm : X.mg "isinstance" = none) (hgT : Gl X x) (hmT : X.mg x = none) (hvT : bootBuiltins x = some (.type T.nm)) (ha : PE X a (tD X.K E da)) (hn : x ≠ "__name__" := by decide) (hd : (x == ("__debug__" : Str)) = false := by decide)
    (hs1 : starEach [.Name x p2] X.env = (false, eval (.Name x p2) X.env) :: starEach [] X.env := by rfl) (hs : starEach [a, .Name x p2] X.env = (false, eval a X.env) :: starEach [.Name x p2] X.env := by rfl) (hpl : (backTo pos (starEach [.Name x p2] X.env)).any (·.1) = false := by rfl) :
    PE X (.Call (.Name "isinstance" p) [a, .Name x p2] [] pos) (tD X.K E (dUn (isiF T) da)) := PE_imp (pe_callB call_isi hg hm bt_isinstance (pa_cons ha (pa_cons (pe_bltn (v := .ty T.nm) hgT hmT hvT rfl hn hd) pa_nil hs1) hs) (by decide) (by decide) hs hpl) (by
  rintro σ H Q ⟨μ, z, h, ρ, hr, er, p⟩
  refine tD_of hr er p.bind fun μ1 h1 H1 v w s1 hr1 p1 vr1 => ?_
  unfold isiF at p1
  cases e1 : tyN h1 v with
  | none => rw [e1] at p1; exact p1.elim
  | some t =>
    rw [e1] at p1
    exact ⟨w, .ty T.nm, _, _, t.isi T, rfl, .ty _, tyN_ty hr1 vr1 e1, kit_isi t T, p1 μ1 H1 Step.refl hr1 _ (.bl _)⟩)

/-! ### all, any -/
def boolsF (g : List Bool → Bool) : List IV → Mem → Ret IV := fun vs h => match vs with
  | [v] => match (lsq h v).bind fun xs => allS (xs.map asB) with
    | some ns => .ok (.bl (g ns)) h
    | none => .bad
  | _ => .bad
theorem bools_at {μ z : List Addr} {H : Hp} {h : Mem} {v : IV} {x : V} {ns : List Bool} (hr : HR K μ z h H) (vr : VR K μ z H v x) (e : ((lsq h v).bind fun xs => allS (xs.map asB)) = some ns) : ∃ a, x = .ref a ∧ SqL K H a (ns.map V.bl) := by
  obtain ⟨xs, e1, e2⟩ := Option.bind_eq_some_iff.mp e
  obtain ⟨a, ws, ex, hq, r⟩ := lsq_H hr vr e1
  rw [bls_of e2] at r
  rw [r.bls] at hq
  exact ⟨a, ex, hq⟩
theorem rc_bools {g : List Bool → Bool} : RC K (fun vs H Q => ∃ (a : Addr) (bs : List Bool), vs = [V.ref a] ∧ SqL K H a (bs.map V.bl) ∧ Q (.bl (g bs)) H) (boolsF g) := by
  intro E μ z h H vs xs Q hr vr p
  cases vr with
  | nil => exact p.elim
  | @cons v x vs xs v1 t =>
    cases t with
    | cons _ _ => exact p.elim
    | nil =>
      unfold boolsF at p
      simp only at p
      cases e1 : (lsq h v).bind fun xs => allS (xs.map asB) with
      | none => rw [e1] at p; exact p.elim
      | some ns =>
        rw [e1] at p
        obtain ⟨a, ex, hq⟩ := bools_at hr v1 e1
        subst ex
        exact ⟨a, ns, rfl, hq, p μ H Step.refl hr _ (.bl _)⟩
def allF := boolsF fun bs => bs.all id
def anyF := boolsF fun bs => bs.any id
theorem rc_all : RC K (rAll K) allF := rc_bools
theorem rc_any : RC K (rAny K) anyF := rc_bools
theorem bt_all : bootBuiltins "all" = some (.builtin "all") := by decide +kernel
theorem bt_any : bootBuiltins "any" = some (.builtin "any") := by decide +kernel

/-! ### in, count -/
def flatI : IV → Bool
  | .non => true
  | .bl _ => true
  | .int _ => true
  | .str _ => true
  | _ => false
def eqI : IV → IV → Bool
  | .non, .non => true
  | .bl a, .bl b => a == b
  | .bl a, .int b => (if a then 1 else 0) == b
  | .int a, .bl b => a == (if b then 1 else 0)
  | .int a, .int b => a == b
  | .str a, .str b => a == b
  | _, _ => false
theorem flat_rel {μ z : List Addr} {H : Hp} {v : IV} {x : V} (vr : VR K μ z H v x) (f : flatI v = true) : flatV x = true := by
  cases vr with
  | non => rfl
  | bl _ => rfl
  | int _ => rfl
  | str _ => rfl
  | _ => cases f
theorem flat_all {μ z : List Addr} {H : Hp} : ∀ {vs : List IV} {xs : List V}, VRs K μ z H vs xs → vs.all flatI = true → xs.all flatV = true
  | _, _, .nil, _ => rfl
  | _, _, .cons r t, f => by
    rw [List.all_cons, Bool.and_eq_true] at f ⊢
    exact ⟨flat_rel r f.1, flat_all t f.2⟩
theorem eq_rel {μ z : List Addr} {H : Hp} {v u : IV} {x y : V} (r1 : VR K μ z H v x) (r2 : VR K μ z H u y) (f1 : flatI v = true) (f2 : flatI u = true) : eqV x y = eqI v u := by
  cases r1 with
  | non => cases r2 <;> first | rfl | cases f2
  | bl _ => cases r2 <;> first | rfl | cases f2
  | int _ => cases r2 <;> first | rfl | cases f2
  | str _ => cases r2 <;> first | rfl | cases f2
  | _ => cases f1
theorem anyI_rel {μ z : List Addr} {H : Hp} {u : IV} {y : V} (r2 : VR K μ z H u y) (f2 : flatI u = true) : ∀ {vs : List IV} {xs : List V}, VRs K μ z H vs xs → vs.all flatI = true → (xs.any fun x => eqV x y) = vs.any fun v => eqI v u
  | _, _, .nil, _ => rfl
  | _, _, .cons r t, f => by
    rw [List.all_cons, Bool.and_eq_true] at f
    rw [List.any_cons, List.any_cons, eq_rel r r2 f.1 f2, anyI_rel r2 f2 t f.2]
theorem count_rel {μ z : List Addr} {H : Hp} {u : IV} {y : V} (r2 : VR K μ z H u y) (f2 : flatI u = true) : ∀ {vs : List IV} {xs : List V}, VRs K μ z H vs xs → vs.all flatI = true → (xs.countP fun x => eqV x y) = vs.countP fun v => eqI v u
  | _, _, .nil, _ => rfl
  | _, _, .cons r t, f => by
    rw [List.all_cons, Bool.and_eq_true] at f
    rw [List.countP_cons, List.countP_cons, eq_rel r r2 f.1 f2, count_rel r2 f2 t f.2]
def inG (neg : Bool) : IV → IV → Mem → Ret IV := fun v u h => match seqOf h u with
  | some xs => bif flatI v && xs.all flatI then .ok (.bl (if neg then !(xs.any fun y => eqI y v) else xs.any fun y => eqI y v)) h else .bad
  | none => .bad
def inF := inG false
def notInF := inG true
theorem rb_inG {neg : Bool} : RB K (rIn K neg) (inG neg) := by
  intro E μ z h H v u x y Q hr v1 v2 p
  unfold inG at p
  cases e1 : seqOf h u with
  | none => rw [e1] at p; exact p.elim
  | some xs =>
    rw [e1] at p
    simp only at p
    cases ec : flatI v && xs.all flatI with
    | false => simp only [ec, cond_false] at p; exact p.elim
    | true =>
      simp only [ec, cond_true] at p
      rw [Bool.and_eq_true] at ec
      obtain ⟨a, ws, ex, hq, r⟩ := seqOf_H hr v2 e1
      refine ⟨a, ws, ex, hq, flat_rel v1 ec.1, flat_all r ec.2, ?_⟩
      have q := p μ H Step.refl hr _ (.bl _)
      unfold inV
      rw [anyI_rel v1 ec.1 r ec.2]
      exact q
theorem rb_in : RB K (rIn K false) inF := rb_inG
theorem rb_notIn : RB K (rIn K true) notInF := rb_inG
/-- list.count of flat things -/
def rCntF (K : PySem.W.Frag) : V → List V → Hp → VK → Prop := fun x xs H Q => ∃ (p : Addr) (ys : List V) (k : V), x = .ref p ∧ xs = [k] ∧ SqL K H p ys ∧ flatV k = true ∧ ys.all flatV = true ∧ Q (.int (ys.countP fun y => eqV y k : Nat)) H
theorem countP_eqU {x : V} : ∀ {xs : List V} {us : List Value}, Vals xs us → xs.all flatV = true → us.countP (eqU x) = xs.countP fun y => eqV y x
  | _, _, .nil, _ => rfl
  | y :: xs, u :: us, .cons r t, f => by
    rw [List.all_cons, Bool.and_eq_true] at f
    rw [List.countP_cons, List.countP_cons, eqU_of r f.1, countP_eqU t f.2]
theorem mt_cntF : MtR X "list.count" (rCntF X.K) := by
  intro pins s σ H x xs v us Q I rx rxs h
  obtain ⟨p, ys, k, rfl, rfl, hs, fk, fs, q⟩ := h
  cases rx
  obtain ⟨u, rfl, ru⟩ := rxs.one
  obtain ⟨its, rv, ⟨⟨cls, dd, data, sl⟩, n, ho, hc, hdn, hd⟩, hlen⟩ := I.list hs
  simp only at hc hd
  subst hc hd
  refine call_meets PySem.F.slot_list_count ⟨_, ho, rfl⟩ PySem.F.entry_list_count (PySem.F.args_list_count_2 _ _)
    (SeqAt.list_countAt p its.toArray n dd sl u (eqU k)) ⟨ho, fun y hy => mem_eqAt ru fk rv fs y (by simpa using hy), ?_⟩
  have ec : its.toArray.toList.countP (eqU k) = ys.countP fun y => eqV y k := countP_eqU rv fs
  refine ⟨.int (ys.countP fun y => eqV y k : Nat), H, I.tok _, ⟨s.toks, ?_⟩, q⟩
  show Value.int ((its.toArray.toList.countP (eqU k) : Nat) : Int) s.toks = Value.int ((ys.countP fun y => eqV y k : Nat) : Int) s.toks
  rw [ec]
def countF : IV → List IV → Mem → Ret IV := fun v vs h => match vs with
  | [k] => match lsq h v with
    | some xs => bif flatI k && xs.all flatI then .ok (.int (xs.countP fun y => eqI y k : Nat)) h else .bad
    | none => .bad
  | _ => .bad
theorem rm_count : RM K (rCntF K) countF := by
  intro E μ z h H v vs x xs Q hr vr rs p
  cases rs with
  | nil => exact p.elim
  | @cons k y vs xs v1 t =>
    cases t with
    | cons _ _ => exact p.elim
    | nil =>
      unfold countF at p
      simp only at p
      cases e1 : lsq h v with
      | none => rw [e1] at p; exact p.elim
      | some ys =>
        rw [e1] at p
        simp only at p
        cases ec : flatI k && ys.all flatI with
        | false => simp only [ec, cond_false] at p; exact p.elim
        | true =>
          simp only [ec, cond_true] at p
          rw [Bool.and_eq_true] at ec
          obtain ⟨a, ws, ex, hq, r⟩ := lsq_H hr vr e1
          refine ⟨a, ws, y, ex, rfl, hq, flat_rel v1 ec.1, flat_all r ec.2, ?_⟩
          have q := p μ H Step.refl hr _ (.int _)
          rw [count_rel v1 ec.1 r ec.2]
          exact q
end
end VI
end

section
/-! in a dict, get; in of anything. -/
namespace VI
open PySem PySem.Spec PyProof.Rows L2
section
variable {X : Cx} {E : XI} {e a b c : Expr} {es : List Expr} {pos p tpos apos : Pos} {da db dc : Den} {K : PySem.W.Frag}
theorem val_none {μ z : List Addr} {H : Hp} {k : Key} : ∀ {kvs : List (Key × IV)} {ws : List (Key × V)}, KRs K μ z H kvs ws → valI kvs k = none → valV ws k = none
  | [], _, .nil, _ => rfl
  | (j, x) :: r, _, .cons (v := w) vr t, e => by
    unfold valI at e
    rw [List.find?_cons] at e
    by_cases hj : j = k
    · subst hj
      simp only [decide_true] at e
      cases e
    · simp only [decide_eq_false hj] at e
      rw [valV_neg hj]
      exact val_none t e
/-- what a dict has at a key -/
def lookI (h : Mem) (o i : IV) : Option (Option IV) := match o with
  | .loc l => (match h[l]?, keyI i with
    | some (.dK kvs), some k => some (valI kvs k)
    | _, _ => none)
  | _ => none
theorem look_rel {μ z : List Addr} {H : Hp} {h : Mem} {o i : IV} {x y : V} {r : Option IV} (hr : HR K μ z h H) (v1 : VR K μ z H o x) (v2 : VR K μ z H i y) (e : lookI h o i = some r) :
    ∃ (a : Addr) (w : Option V), x = .ref a ∧ DGet H a y w ∧ IsD H a ∧ w.isSome = r.isSome ∧ (∀ u, r = some u → ∃ t, w = some t ∧ VR K μ z H u t) := by
  cases v1 with
  | @loc a l hl =>
    have e' : (match h[l]?, keyI i with
      | some (.dK kvs), some k => some (valI kvs k)
      | _, _ => none) = some r := e
    cases eo : h[l]? with
    | none => rw [eo] at e'; cases e'
    | some o =>
      cases o with
      | lst _ => rw [eo] at e'; cases e'
      | oth _ => rw [eo] at e'; cases e'
      | dK kvs =>
        cases ek : keyI i with
        | none => rw [eo, ek] at e'; cases e'
        | some k =>
          rw [eo, ek] at e'
          have e2 : valI kvs k = r := Option.some.inj e'
          subst e2
          obtain ⟨ws, e3, q⟩ := at_dK hr hl eo
          refine ⟨a, valV ws k, rfl, ?_, .inl ⟨ws, .inl e3⟩, ?_, fun u hu => ?_⟩
          · rw [key_rel v2 ek]
            exact DGet.k e3
          · cases ev : valI kvs k with
            | none => rw [val_none q ev]; rfl
            | some u =>
              obtain ⟨t, e4, _⟩ := val_rel q ev
              rw [e4]
              rfl
          · obtain ⟨t, e4, vr⟩ := val_rel q hu
            exact ⟨t, e4, vr⟩
  | _ => cases e
/-- in a dict, or a sequence of flat things -/
def inA (neg : Bool) : IV → IV → Mem → Ret IV := fun v u h => match lookI h u v with
  | some r => .ok (.bl (if neg then !r.isSome else r.isSome)) h
  | none => inG neg v u h
def rDIn (neg : Bool) : R2 := fun y x H Q => ∃ a o, x = .ref a ∧ DGet H a y o ∧ Q (.bl (if neg then !o.isSome else o.isSome)) H
theorem op_din (hu : X.A.units + 1 < cLine) : OpR X (compareOp .In) (rDIn false) := by
  intro pins s σ H y x iv u Q I ry rx h
  obtain ⟨a, o, rfl, g, q⟩ := h
  obtain rfl : u = Value.ref a := rx
  exact d_in hu I g ry fun s3 I3 => ⟨.bl o.isSome, H, I3, rfl, q⟩
theorem op_dnotin (hu : X.A.units + 1 < cLine) : OpR X (compareOp .NotIn) (rDIn true) := by
  intro pins s σ H y x iv u Q I ry rx h
  obtain ⟨a, o, rfl, g, q⟩ := h
  obtain rfl : u = Value.ref a := rx
  exact d_notIn hu I g ry fun s3 I3 => ⟨.bl (!o.isSome), H, I3, rfl, q⟩
def rInA (K : PySem.W.Frag) (neg : Bool) : R2 := fun x y H Q => rIn K neg x y H Q ∨ rDIn neg x y H Q
theorem op_inA (hu : X.A.units + 1 < cLine) : OpR X (compareOp .In) (rInA X.K false) := op_in_seq.or (op_din hu)
theorem op_notInA (hu : X.A.units + 1 < cLine) : OpR X (compareOp .NotIn) (rInA X.K true) := op_notIn_seq.or (op_dnotin hu)
theorem rb_inA {neg : Bool} : RB K (rInA K neg) (inA neg) := by
  intro E μ z h H v u x y Q hr v1 v2 p
  unfold inA at p
  cases e1 : lookI h u v with
  | none =>
    rw [e1] at p
    exact .inl (rb_inG E μ z h H v u x y Q hr v1 v2 p)
  | some r =>
    rw [e1] at p
    obtain ⟨a, w, ex, g, _, e2, _⟩ := look_rel hr v2 v1 e1
    refine .inr ⟨a, w, ex, g, ?_⟩
    rw [e2]
    exact p μ H Step.refl hr _ (.bl _)
/-- d.get(k, x) -/
def dGet2 (d di de : Den) : Den := fun ρ h => (d ρ h).bind fun o h1 => (di ρ h1).bind fun i h2 => (de ρ h2).bind fun v h3 => match lookI h3 o i with
  | some r => .ok (r.getD v) h3
  | none => .bad
def isD (h : Mem) (o : IV) : Bool := match o with
  | .loc l => (match h[l]? with
    | some (.dK _) => true
    | _ => false)
  | _ => false
theorem isD_of {μ z : List Addr} {H : Hp} {h : Mem} {o i : IV} {x : V} {r : Option IV} (hr : HR K μ z h H) (v1 : VR K μ z H o x) (e : isD h o = true) : ∃ a, x = .ref a ∧ IsD H a := by
  cases v1 with
  | @loc a l hl =>
    have e' : (match h[l]? with
      | some (.dK _) => true
      | _ => false) = true := e
    cases eo : h[l]? with
    | none => rw [eo] at e'; cases e'
    | some o =>
      cases o with
      | lst _ => rw [eo] at e'; cases e'
      | oth _ => rw [eo] at e'; cases e'
      | dK kvs =>
        obtain ⟨ws, e3, q⟩ := at_dK hr hl eo
        exact ⟨a, rfl, .inl ⟨ws, .inl e3⟩⟩
  | _ => cases e
/-- d.get(k, x), the dict told first -/
def dGetD (d di de : Den) : Den := fun ρ h => (d ρ h).bind fun o h1 => bif isD h1 o then (di ρ h1).bind fun i h2 => (de ρ h2).bind fun v h3 => (match lookI h3 o i with
  | some r => .ok (r.getD v) h3
  | none => .bad) else .bad
theorem r_get2 {cpos : Pos} (hu : X.A.units + 1 < cLine) (ha : PE X a (tD X.K E da)) (hb : PE X b (tD X.K E db)) (hc : PE X c (tD X.K E dc)) (m : M2 X a "get" apos b c cpos) : PE X (.Call (.Attribute a "get" apos) [b, c] [] cpos) (tD X.K E (dGetD da db dc)) := PE_imp (pe_dget2 hu ha hb hc m) (by
  rintro σ H Q ⟨μ, z, h, ρ, hr, er, p⟩
  refine tD_of hr er p.bind fun μ1 h1 H1 o x s1 hr1 p1 vr1 => ?_
  cases e0 : isD h1 o with
  | false => simp only [e0, cond_false] at p1; exact p1.elim
  | true =>
    simp only [e0, cond_true] at p1
    obtain ⟨a, ex, da⟩ := isD_of (i := .non) (r := none) hr1 vr1 e0
    subst ex
    refine ⟨a, rfl, da, ?_⟩
    refine tD_of hr1 (er.step s1) p1.bind fun μ2 h2 H2 i y s2 hr2 p2 vr2 => ?_
    refine tD_of hr2 ((er.step s1).step s2) p2.bind fun μ3 h3 H3 v t s3 hr3 p3 vr3 => ?_
    cases e1 : lookI h3 o i with
    | none => rw [e1] at p3; exact p3.elim
    | some r =>
      rw [e1] at p3
      obtain ⟨a', w, ex, g, _, e2, e4⟩ := look_rel hr3 ((vr1.step s2).step s3) (vr2.step s3) e1
      cases ex
      refine ⟨w, g, ?_⟩
      cases r with
      | none =>
        have : w = none := by
          cases w with
          | none => rfl
          | some _ => cases e2
        subst this
        exact p3 μ3 H3 Step.refl hr3 _ vr3
      | some u =>
        obtain ⟨t', e5, vr5⟩ := e4 u rfl
        subst e5
        exact p3 μ3 H3 Step.refl hr3 _ vr5)
end
end VI
end

section
/-! Empty dicts, and repr of data that holds such. -/
namespace VI
open PySem PySem.Spec PyProof.Rows L2
section
variable {X : Cx} {E : XI} {e a b c : Expr} {es : List Expr} {pos p tpos apos : Pos} {da db dc : Den} {K : PySem.W.Frag}
/-- {} -/
def dNew : Den := fun _ h => .ok (.loc h.length) (h ++ [.dK []])
theorem r_dnew : PE X (.Dict [] [] pos) (tD X.K E dNew) := PE_imp pe_dnewK (by
  rintro σ H Q ⟨μ, z, h, ρ, hr, er, p⟩ q nq
  have nz : q ∉ z := (hr.fresh nq).2
  have nm : q ∉ μ := (hr.fresh nq).1
  refine p (μ ++ [q]) _ ((Step.new nq).alloc nq nm) ((hr.hideNew nq).unhide nz upd_same (.dK .nil)) _ (.loc ?_)
  rw [hr.len, List.getElem?_append_right (Nat.le_refl _), Nat.sub_self]
  rfl)
mutual
inductive Dq (K : PySem.W.Frag) (H : Hp) : V → PyData → Prop
  | non : Dq K H .non .none
  | bl (b : Bool) : Dq K H (.bl b) (.bool b)
  | int (i : Int) : Dq K H (.int i) (.int i)
  | str (x : Str) : Dq K H (.str x) (.str x)
  | lst {a : Addr} {xs : List V} {ds : List PyData} : Rd H a (.lst xs) → DqAll K H xs ds → Dq K H (.ref a) (.list ds)
  | tup {a : Addr} {xs : List V} {ds : List PyData} : SqT K H a xs → DqAll K H xs ds → Dq K H (.ref a) (.tuple ds)
  | dct {a : Addr} : H a = some (.dK []) → Dq K H (.ref a) (.dict [])
inductive DqAll (K : PySem.W.Frag) (H : Hp) : List V → List PyData → Prop
  | nil : DqAll K H [] []
  | cons {v : V} {vs : List V} {d : PyData} {ds : List PyData} : Dq K H v d → DqAll K H vs ds → DqAll K H (v :: vs) (d :: ds)
end
section
variable {pins : List (Addr × Obj)} {σ : L2.St} {H : Hp} {s : Shared}
def SysB (base : Heap) : Prop := ∃ m, base.Ns sysModules m
theorem sys_free (B : SysB X.base) (I : Inv X pins σ H s) : H sysModules = none := by
  obtain ⟨m, o, es, ep, e, _⟩ := B
  exact (I.bs sysModules _ e).2
theorem sys_rd (B : SysB X.base) (I : Inv X pins σ H s) {a : Addr} {u : HO} (e : Rd H a u) : a ≠ sysModules := fun z => by
  subst z
  rcases e with e | ⟨o, e⟩
  · rw [sys_free B I] at e; cases e
  · rw [sys_free B I] at e; cases e
mutual
theorem Dq.reads (B : SysB X.base) (I : Inv X pins σ H s) : ∀ (d : PyData) (v : V) (u : Value), Dq X.K H v d → RelV v u → ∃ as, Reads s.heap u d as ∧ sysModules ∉ as
  | .none, _, _, h, r => by
    cases h
    cases r
    exact ⟨_, Reads.none, by simp⟩
  | .bool b, _, _, h, r => by
    cases h
    cases r
    exact ⟨_, Reads.bool b, by simp⟩
  | .int i, _, _, h, r => by
    cases h
    obtain ⟨t, rfl⟩ := r
    exact ⟨_, Reads.int i t, by simp⟩
  | .str x, _, _, h, r => by
    cases h
    obtain ⟨t, rfl⟩ := r
    exact ⟨_, Reads.str x t, by simp⟩
  | .list ds, _, _, h, r => by
    cases h with
    | lst hs ha =>
      cases r
      obtain ⟨its, rv, ⟨o, n, ho, hc, _, hd⟩, _⟩ := I.list (.inl hs)
      obtain ⟨as, hr, nm⟩ := Dq.readsAll B I ds _ its ha rv
      refine ⟨_, Reads.list ho hc hd hr, fun m => ?_⟩
      rcases List.mem_cons.mp m with m | m
      · exact sys_rd B I hs m.symm
      · exact nm m
  | .tuple ds, _, _, h, r => by
    cases h with
    | tup hs ha =>
      cases r
      obtain ⟨its, rv, ⟨o, ho, hc, n, hd⟩, _⟩ := I.tuple hs
      obtain ⟨as, hr, nm⟩ := Dq.readsAll B I ds _ its ha rv
      exact ⟨_, Reads.tuple ho hc hd hr, nm⟩
  | .dict _, _, _, h, r => by
    cases h with
    | dct e =>
      cases r
      obtain ⟨_, hd, vs, rel, o, es, ep, ho, hc, hdat, _, hp, _⟩ := dk_of I.hok e
      cases rel
      have he : es.toList = [] := by
        cases hes : es.toList with
        | nil => rfl
        | cons _ _ => rw [hes] at hp; cases hp
      refine ⟨_, Reads.dict (kvs := []) (as := []) (bs := []) ho hc.1 hdat ?_ ?_, fun m => ?_⟩
      · rw [he]; exact ReadsAll.nil
      · rw [he]; exact ReadsAll.nil
      · rcases List.mem_cons.mp m with m | m
        · rw [← m] at hd
          cases hd
        · cases m
theorem Dq.readsAll (B : SysB X.base) (I : Inv X pins σ H s) : ∀ (ds : List PyData) (vs : List V) (us : List Value), DqAll X.K H vs ds → Vals vs us → ∃ as, ReadsAll s.heap us ds as ∧ sysModules ∉ as
  | [], _, _, h, r => by
    cases h
    cases r
    exact ⟨_, ReadsAll.nil, by simp⟩
  | d :: ds, _, _, h, r => by
    cases h with
    | cons h1 h2 =>
      cases r with
      | cons r1 r2 =>
        obtain ⟨as, q1, n1⟩ := Dq.reads B I d _ _ h1 r1
        obtain ⟨bs, q2, n2⟩ := Dq.readsAll B I ds _ _ h2 r2
        refine ⟨_, ReadsAll.cons q1 q2, fun m => ?_⟩
        rcases List.mem_append.mp m with m | m
        · exact n1 m
        · exact n2 m
end
end
def rReprD (K : PySem.W.Frag) : List V → Hp → VK → Prop := fun xs H Q => ∃ (a : Addr) (d : PyData), xs = [.ref a] ∧ Dq K H (.ref a) d ∧ d.showable = true ∧ d.depth ≤ 60 ∧ d.shown.length ≤ sizeLine ∧ Q (.str d.shown) H
theorem call_reprD (B : SysB X.base) (hg : X.A.guards = some []) (hu : X.A.units + 64 < cLine) : CallR X (.builtin "repr") (rReprD X.K) := by
  intro pins s σ H xs us Q I r q
  obtain ⟨a, d, rfl, dp, sh, dep, sz, q⟩ := q
  obtain ⟨u, rfl, rx⟩ := Vals.one r
  obtain ⟨as, rd, nm⟩ := Dq.reads B I d _ u dp rx
  have fin : ∀ t h' tk, (∀ b o, s.heap.get? b = some o → h'.get? b = some o) → EP X pins σ Q (.str d.shown t) { s with heap := h', toks := tk } := fun t h' tk k => ⟨.str d.shown, H, I.kept k, ⟨t, rfl⟩, q⟩
  cases rx
  exact repr_of_reads' rd sh (fun _ => nm) hg (by omega) (fun _ _ e => e) (fun h' u tk k => fin u h' tk k) sz
/-- data with empty dicts; no part of the script -/
def toE (h : Mem) : Nat → IV → Option PyData
  | 0, _ => none
  | n + 1, v => match v with
    | .non => some .none
    | .bl b => some (.bool b)
    | .int i => some (.int i)
    | .str s => some (.str s)
    | .tup xs => (allS (xs.map (toE h n))).map .tuple
    | .fl xs => (allS (xs.map (toE h n))).map .list
    | .fz _ => none
    | .loc l => match h[l]? with
      | some (.lst xs) => (allS (xs.map (toE h n))).map .list
      | some (.dK []) => some (.dict [])
      | _ => none
theorem dq_all {μ z : List Addr} {H : Hp} {f : IV → Option PyData} (hf : ∀ v x d, VR K μ z H v x → f v = some d → Dq K H x d) : ∀ {xs : List IV} {vs : List V} {ds : List PyData}, VRs K μ z H xs vs → allS (xs.map f) = some ds → DqAll K H vs ds
  | [], _, ds, .nil, e => by
    have e' := Option.some.inj e
    subst e'
    exact .nil
  | v :: xs, _, ds, .cons r t, e => by
    rw [List.map_cons] at e
    cases e1 : f v with
    | none => rw [e1] at e; cases e
    | some d =>
      rw [e1] at e
      unfold allS at e
      cases e2 : allS (xs.map f) with
      | none => rw [e2] at e; cases e
      | some ds2 =>
        rw [e2] at e
        have e' := Option.some.inj e
        subst e'
        exact .cons (hf _ _ _ r e1) (dq_all hf t e2)
theorem dq_of {μ z : List Addr} {h : Mem} {H : Hp} (hr : HR K μ z h H) : ∀ (n : Nat) (v : IV) (x : V) (d : PyData), VR K μ z H v x → toE h n v = some d → Dq K H x d
  | 0, _, _, _, _, e => by cases e
  | n + 1, v, x, d, vr, e => by
    unfold toE at e
    have ih := fun v x d r e => dq_of hr n v x d r e
    cases vr with
    | non => have e' := Option.some.inj e; subst e'; exact .non
    | bl b => have e' := Option.some.inj e; subst e'; exact .bl b
    | int i => have e' := Option.some.inj e; subst e'; exact .int i
    | str s => have e' := Option.some.inj e; subst e'; exact .str s
    | tup hq r =>
      obtain ⟨ds, e1, e2⟩ := Option.map_eq_some_iff.mp e
      subst e2
      exact .tup hq (dq_all ih r e1)
    | fl hq n m r =>
      obtain ⟨ds, e1, e2⟩ := Option.map_eq_some_iff.mp e
      subst e2
      exact .lst (.inl hq) (dq_all ih r e1)
    | fz hq r => cases e
    | loc hl =>
      simp only at e
      split at e
      · rename_i xs eo
        obtain ⟨ds, e1, e2⟩ := Option.map_eq_some_iff.mp e
        subst e2
        obtain ⟨u, e3, r⟩ := hr.ob _ _ _ hl eo
        cases r with
        | lst r => exact .lst (.inl e3) (dq_all ih r e1)
      · rename_i eo
        have e' := Option.some.inj e
        subst e'
        obtain ⟨u, e3, r⟩ := hr.ob _ _ _ hl eo
        cases r with
        | dK r =>
          cases r
          exact .dct e3
      · cases e
def refI : IV → Bool
  | .tup _ => true
  | .fl _ => true
  | .loc _ => true
  | _ => false
/-- repr of a tuple, list or dict that may hold empty dicts -/
def reprDF : List IV → Mem → Ret IV := fun vs h => match vs with
  | [v] => (match toE h deep v with
    | some d => bif refI v && d.showable && decide (d.depth ≤ 60) && decide (d.shown.length ≤ sizeLine) then .ok (.str d.shown) h else .bad
    | none => .bad)
  | _ => .bad
theorem rc_reprD : RC K (rReprD K) reprDF := by
  intro E μ z h H vs xs Q hr vr p
  cases vr with
  | nil => exact p.elim
  | @cons v x vs xs v1 t =>
    cases t with
    | cons _ _ => exact p.elim
    | nil =>
      unfold reprDF at p
      simp only at p
      cases e1 : toE h deep v with
      | none => rw [e1] at p; exact p.elim
      | some d =>
        rw [e1] at p
        simp only at p
        cases ec : refI v && d.showable && decide (d.depth ≤ 60) && decide (d.shown.length ≤ sizeLine) with
        | false => simp only [ec, cond_false] at p; exact p.elim
        | true =>
          simp only [ec, cond_true] at p
          rw [Bool.and_eq_true, Bool.and_eq_true, Bool.and_eq_true, decide_eq_true_eq, decide_eq_true_eq] at ec
          have q := p μ H Step.refl hr _ (.str _)
          have dq := dq_of hr _ _ _ _ v1 e1
          obtain ⟨a, ex⟩ : ∃ a, x = .ref a := by
            cases v1 with
            | tup _ _ => exact ⟨_, rfl⟩
            | fl _ _ _ _ => exact ⟨_, rfl⟩
            | loc _ => exact ⟨_, rfl⟩
            | _ => cases ec.1.1.1
          subst ex
          exact ⟨a, d, rfl, dq, ec.1.1.2, ec.1.2, ec.2, q⟩
end
end VI
end

section
namespace VI
open PySem PySem.Spec PyProof.Rows L2
/-! ### the law's end -/
section
variable {P : Program} {w : World} {K : PySem.W.Frag} {mg mb : Str → Option Value} {CX : CXT} {k : Nat} {fa a : Addr} {fd : FuncData} {x : Str} {g : FnI}
/-- from a heap in which nothing but the script may be tracked -/
theorem lawS0 {t : Shared} {vs : List Value} {ns : List Int} {H : Hp} (kin : K.In t.heap) (hns : t.heap.Ns mainGlobals mg) (hb : t.heap.Ns builtinsNs mb) (hbb : ∀ x : Str, x ≠ "__name__" → mb x = bootBuiltins x) (hlim : t.heap.NoLimit) (hg : t.gens = #[])
    (ha : t.heap.get? a = some { cls := .type "list", data := .seq vs.toArray }) (room : Room k callerA) (hok : HOk P w H t.heap) (one : ∀ b u, H b = some u → b = a ∧ K.lookup a = none ∧ ∃ o v, u = .frz o v) (rel : VR K [] [] H (.fz (ns.map IV.int)) (.ref a))
    (sy : SysB t.heap) (F : ∀ base : Heap, K.In base → base.Ns mainGlobals mg → SysB base → FnG P w K mg base CX0 k fa fd [x] (spI K g)) (hbind : ∀ (s : Shared) (u : Value), BindsTo s fd ⟨[u], []⟩ [(x, u)])
    (hsp : ∃ h, g [.fz (ns.map IV.int)] [] = .ok (.bl true) h) :
    codeAny (model P w) callerA (.call (.ref fa) ⟨[.ref a], []⟩) (fun r t' => r = .ok (.ret (.bool true)) ∧ OldK t.heap t'.heap ∧ t'.os = t.os ∧ AllBare t'.gens) t := by
  have dicts : ∀ {b : Addr} {o : Obj} {es : Array DictEntry} {ep : Nat}, t.heap.get? b = some o → o.data = .dict es ep → H b = none := by
    intro b o es ep e d
    cases q : H b with
    | none => rfl
    | some u =>
      have z := (one b u q).1
      subst z
      rw [ha] at e
      rw [← Option.some.inj e] at d
      cases d
  have names : ∀ {b : Addr} {m : Str → Option Value}, t.heap.Ns b m → (hidT t.heap H).Ns b m := fun ⟨o, es, ep, e, d, r⟩ => ⟨o, es, ep, hidT_get e (dicts e d), d, r⟩
  have kinB : K.In (hidT t.heap H) := by
    intro b o e
    refine hidT_get (kin b o e) ?_
    cases q : H b with
    | none => rfl
    | some u =>
      obtain ⟨z, n, _⟩ := one b u q
      rw [z, n] at e
      cases e
  obtain ⟨mc, l1, l2⟩ := hlim
  have md : Mod K mg (hidT t.heap H) := ⟨kinB, names hns, ⟨mb, names hb, hbb⟩, mc, names l1, l2⟩
  have env : Env0 P w K mg (hidT t.heap H) callerA [] t H :=
    { frames := rfl, mod := md, bs := fun b o e => of_hidT e, bsz := Nat.le_of_eq (hidT_size _ _), funs := trivial, frf := fun b m => absurd (show b ∈ ([] : List Addr) from m) List.not_mem_nil, hok := hok, bare := .of_eq hg }
  obtain ⟨h, eg⟩ := hsp
  have prom : spI K g [.ref a] H (fun v _ => v = .bl true) E0 := by
    refine ⟨[], [], [], [.fz (ns.map IV.int)], ⟨rfl, List.nodup_nil, fun l b o e => by simp at e, fun b m => absurd m List.not_mem_nil⟩, .cons rel .nil, ?_⟩
    rw [eg]
    intro μ' H' _ _ w vr
    cases vr
    rfl
  refine codeAny_mono ((F _ kinB (names hns) (let ⟨m, q⟩ := sy; ⟨m, names q⟩)).run callerA [] t H ⟨[.ref a], []⟩ [.ref a] [.ref a] _ E0 room rfl env (hbind t (.ref a)) (.cons rfl .nil) prom) ?_
  intro r t' q
  match r, q with
  | .error e, q => exact q.elim
  | .ok .next, q => exact q.elim
  | .ok .brk, q => exact q.elim
  | .ok .cont, q => exact q.elim
  | .ok (.ret u), q =>
    obtain ⟨v, H', os, bare, un, hok', rv, ev⟩ := q
    have ev' : v = .bl true := ev
    rw [ev'] at rv
    have eu : u = Value.bool true := rv
    rw [eu]
    refine ⟨rfl, OldK.of_keep fun b o e => ?_, os, bare⟩
    cases z : H b with
    | none => exact un.keep b o e z (fun m => absurd (show b ∈ ([] : List Addr) from m) List.not_mem_nil) List.not_mem_nil
    | some u =>
      obtain ⟨_, _, o2, v2, e2⟩ := one b u z
      subst e2
      have e3 := (hok b _ z).1
      have e4 := (hok' b _ (un.frzs b o2 v2 z)).1
      rw [e] at e3
      rw [Option.some.inj e3]
      exact e4
theorem lawS {t : Shared} {vs : List Value} {ns : List Int} (kin : K.In t.heap) (hns : t.heap.Ns mainGlobals mg) (hb : t.heap.Ns builtinsNs mb) (hbb : ∀ x : Str, x ≠ "__name__" → mb x = bootBuiltins x) (hlim : t.heap.NoLimit) (hg : t.gens = #[])
    (ha : t.heap.get? a = some { cls := .type "list", data := .seq vs.toArray }) (hi : IntsAre vs ns) (hl : ns.length ≤ sizeLine) (room : Room k callerA)
    (sy : SysB t.heap) (F : ∀ base : Heap, K.In base → base.Ns mainGlobals mg → SysB base → FnG P w K mg base CX0 k fa fd [x] (spI K g)) (hbind : ∀ (s : Shared) (u : Value), BindsTo s fd ⟨[u], []⟩ [(x, u)])
    (hsp : ∃ h, g [.fz (ns.map IV.int)] [] = .ok (.bl true) h) :
    codeAny (model P w) callerA (.call (.ref fa) ⟨[.ref a], []⟩) (fun r t' => r = .ok (.ret (.bool true)) ∧ OldK t.heap t'.heap ∧ t'.os = t.os ∧ AllBare t'.gens) t := by
  have rv := vals_ints hi
  cases hka : K.lookup a with
  | some o =>
    have e := kin a o hka
    rw [ha] at e
    have e2 := Option.some.inj e
    subst e2
    refine lawS0 (H := fun _ => none) kin hns hb hbb hlim hg ha room (fun b u q => by cases q) (fun b u q => by cases q) ?_ sy F hbind hsp
    exact .fz (.inr ⟨_, vs.toArray, _, hka, rfl, rfl, rfl, by rw [List.size_toArray, hi.length]; exact hl, by simpa using rv⟩) (VRs.ofInts ns)
  | none =>
    let H : Hp := fun b => if b = a then some (.frz { cls := .type "list", data := .seq vs.toArray } (.lst (ns.map V.int))) else none
    have hH : H a = some (.frz { cls := .type "list", data := .seq vs.toArray } (.lst (ns.map V.int))) := if_pos rfl
    have tr : ∀ b u, H b = some u → b = a ∧ u = .frz { cls := .type "list", data := .seq vs.toArray } (.lst (ns.map V.int)) := by
      intro b u q
      by_cases e : b = a
      · subst e
        rw [hH] at q
        exact ⟨rfl, (Option.some.inj q).symm⟩
      · have q2 : (if b = a then some (HO.frz { cls := .type "list", data := .seq vs.toArray } (.lst (ns.map V.int))) else none) = some u := q
        rw [if_neg e] at q2
        cases q2
    refine lawS0 (H := H) kin hns hb hbb hlim hg ha room ?_ ?_ (.fz (.inl ⟨_, hH⟩) (VRs.ofInts ns)) sy F hbind hsp
    · intro b u q
      obtain ⟨e1, e2⟩ := tr b u q
      subst e1 e2
      exact ⟨ha, by rw [List.length_map]; exact hl, vs, _, rv, ha⟩
    · intro b u q
      obtain ⟨e1, e2⟩ := tr b u q
      exact ⟨e1, hka, _, _, e2⟩
end
/-- the goal behind the head, from what the law's def comes to for every script -/
theorem walkS {l : PySem.W.OpenLaw} {n k : Nat} {q : Program} {loose : List Str} {XP : (Str → Option Value) → Heap → Prop} {YP : World → Heap → Prop} {d : DefRec} {K : Params → PySem.W.Frag} {x : Str} {g : FnI}
    (hn : l.most = some n) (hn2 : n ≤ sizeLine) (hdf : d.params.defaults = []) (hr : Room k callerA) (hi : importsNone q = true) (hY : ∀ (w : World) (h : Heap), YP w h → (K w.params).In h)
    (F : ∀ (w : World) (mg : Str → Option Value) (fa : Addr) (h : Heap), (K w.params).In h → h.Ns mainGlobals mg → mg d.name = some (.ref fa) →
      ∃ fd : FuncData, (∀ (s : Shared) (u : Value), BindsTo s fd ⟨[u], []⟩ [(x, u)]) ∧ ∀ base : Heap, (K w.params).In base → base.Ns mainGlobals mg → SysB base → FnG l.prog w (K w.params) mg base CX0 k fa fd [x] (spI (K w.params) g))
    (hsp : ∀ ns : List Int, ns.length ≤ n → ∃ h, g [.fz (ns.map IV.int)] [] = .ok (.bl true) h) :
    PySem.W.WalkO q loose XP YP l.row.toRowW d [] (fun f vs => PySem.call f vs) := by
  refine Att.attach_call hn hdf fun w t0 t mg mb fa o pm cd doc a vs ns G Y _ _ _ hmg hobj hints hlen hgens => ?_
  have kin := hY w t.heap Y
  obtain ⟨fd, bnd, fs⟩ := F w mg fa t.heap kin G.T.g hmg
  exact lawS kin G.T.g G.T.b G.T.builtins G.T.nolimit hgens hobj hints (Nat.le_trans hlen hn2) hr (let ⟨m, z, _⟩ := (G.T.seer hi).mods; ⟨m, z⟩) fs bnd (hsp ns hlen)
end VI
end

section
/-! t[::-1] of a tuple. -/
namespace VI
open PySem PySem.Spec PyProof.Rows L2 HT
section
variable {prog : Program} {w : World} {A : Around} {E : Value → Shared → Prop} {s : Shared}
theorem sliceApplied_rev {sl : Addr} {vl vu vs : Value} {n : Nat} {Q : Int × Int × Nat → Shared → Prop} (slq : s.heap.IsSliceOf sl vl vu vs) (pLo : IsPart vl none) (pHi : IsPart vu none) (pSt : IsPart vs (some (-1)))
    (fin : Q ((n : Int) - 1, -1, n) s) : wpAny (model prog w) A (Builtin.Slice.sliceApplied (.ref sl) (pure (n : Int))) Q E s := by
  obtain ⟨obj, ogot, ocls, odat⟩ := id slq
  unfold Builtin.Slice.sliceApplied Builtin.Slice.sliceFields
  refine wpAny_bind (wpAny_bind (wpAny_field ogot odat (x := vl) rfl (wpAny_bind (wpAny_field ogot odat (x := vu) rfl (wpAny_bind (wpAny_field ogot odat (x := vs) rfl (wpAny_pure ?_)))))))
  refine wpAny_bind (slicePart_ pSt ?_)
  show wpAny _ _ (if ((-1 : Int) == 0) = true then _ else _) _ _ s
  rw [if_neg (by decide)]
  refine wpAny_bind (slicePart_ pLo (wpAny_bind (slicePart_ pHi (wpAny_bind (wpAny_pure ?_)))))
  show wpAny _ _ (match Builtin.Slice.sliceAdjust none none (-1) (n : Int) with | (lo, hi) => pure (lo, (-1 : Int), Builtin.Slice.slicePlaces lo hi (-1))) _ _ s
  have e1 : Builtin.Slice.sliceAdjust none none (-1) (n : Int) = ((n : Int) - 1, -1) := by
    unfold Builtin.Slice.sliceAdjust
    have h1 : ((-1 : Int) < 0) := by decide
    simp only [h1, if_true]
  have e2 : Builtin.Slice.slicePlaces ((n : Int) - 1) (-1) (-1) = n := by
    unfold Builtin.Slice.slicePlaces
    have h1 : ¬ ((-1 : Int) > 0) := by decide
    simp only [h1, if_false]
    split
    · simp
    · omega
  rw [e1]
  show wpAny _ _ (pure ((n : Int) - 1, (-1 : Int), Builtin.Slice.slicePlaces ((n : Int) - 1) (-1) (-1))) _ _ s
  rw [e2]
  exact wpAny_pure fin
theorem pick_rev (xs : Array Value) : ((List.range xs.size).filterMap fun (m : Nat) => xs[(((xs.size : Int) - 1) + (m : Int) * (-1)).toNat]?).toArray = xs.toList.reverse.toArray := by
  congr 1
  have h : ∀ (k : Nat), k ≤ xs.size → (List.range k).filterMap (fun (m : Nat) => xs[(((xs.size : Int) - 1) + (m : Int) * (-1)).toNat]?) = xs.toList.reverse.take k := by
    intro k
    induction k with
    | zero => intro _; simp
    | succ k ih =>
      intro hk
      rw [List.range_succ, List.filterMap_append, ih (by omega), List.take_succ]
      congr 1
      have e : (((xs.size : Int) - 1) + (k : Int) * (-1)).toNat = xs.size - 1 - k := by omega
      have e2 : xs[xs.size - 1 - k]? = some (xs[xs.size - 1 - k]'(by omega)) := Array.getElem?_eq_getElem (by omega)
      have e3 : xs.toList.reverse[k]? = some (xs[xs.size - 1 - k]'(by omega)) := by
        rw [List.getElem?_reverse (by rw [Array.length_toList]; omega)]
        simp
      rw [e3, List.filterMap_cons, e, e2]
      rfl
  have := h xs.size (Nat.le_refl _)
  rw [this]
  apply List.take_of_length_le
  simp
theorem getItem_tuple_rev {t sl : Addr} {items : Array Value} {vl vu vs : Value} {Q : Value → Shared → Prop} (tup0 : IsTup s.heap t items) (slq : s.heap.IsSliceOf sl vl vu vs) (pLo : IsPart vl none) (pHi : IsPart vu none) (pSt : IsPart vs (some (-1)))
    (fin : Q (.ref s.heap.objs.size) { s with heap := s.heap.push { cls := .type "tuple", data := .seq items.toList.reverse.toArray } })
    (hsz : items.size ≤ sizeLine) : wpAny (model prog w) A (getItem (.ref t) (.ref sl)) Q E s := by
  have szOk : sizeOk (.seq items.toList.reverse.toArray) := by
    show items.toList.reverse.toArray.size ≤ sizeLine
    rw [List.size_toArray, List.length_reverse, Array.length_toList]
    exact hsz
  obtain ⟨obj, ogot, ocls, odat⟩ := id slq
  have slTy : s.TypeIs (.ref sl) "slice" := ⟨obj, ogot, ocls⟩
  unfold getItem
  try with_reducible refine wpAny_holding ?_
  first | refine wpAny_bind (wpAny_pure ?_) | skip
  refine wpAny_bind (wpAny_sequenceKey tup0.typeIs (by decide) ?_)
  refine wpAny_bind (wpAny_callSpecial?_slot (name := Str.ofString "__getitem__") tup0.typeIs PyProof.Rows.slot_tuple_getitem
    (wpAny_call_entry PyProof.Rows.slot_tuple_getitem tup0.typeIs entry_tuple_getitem ?_ (args_tuple_getitem _ _)))
  show wpAny _ _ (Builtin.Tuple.tupleItemsOf (.ref t) >>= _) _ _ s
  refine wpAny_bind (tupleItemsOf_ tup0 ?_)
  refine wpAny_bind (wpAny_typeOf slTy ?_)
  rw [if_pos (by decide)]
  refine wpAny_bind (sliceApplied_rev slq pLo pHi pSt ?_)
  have notAll : ¬ ((((items.size : Int) - 1) == 0 && (-1 : Int) == 1 && items.size == items.size) = true) := by
    intro q
    rw [Bool.and_eq_true, Bool.and_eq_true] at q
    exact absurd q.1.2 (by decide)
  show wpAny _ _ (if (((items.size : Int) - 1) == 0 && (-1 : Int) == 1 && items.size == items.size) = true then _ else _) _ _ s
  rw [if_neg notAll, pick_rev]
  first
    | exact wpAny_bind (m := Builtin.Tuple.tupleExact _) (wpAny_newObj_type (wpAny_pure ⟨_, rfl, wpAny_pure fin⟩) szOk)
    | exact wpAny_bind (m := Builtin.Tuple.tupleExact _) (wpAny_newObj_type (wpAny_bind (wpAny_pure (wpAny_pure ⟨_, rfl, wpAny_pure fin⟩))) szOk)
    | exact wpAny_bind (wpAny_bind (m := Builtin.Tuple.tupleExact _) (wpAny_newObj_type (wpAny_pure (wpAny_pure ⟨_, rfl, wpAny_pure fin⟩)) szOk))
    | exact wpAny_bind (wpAny_bind (m := Builtin.Tuple.tupleExact _) (wpAny_newObj_type (wpAny_pure ⟨_, rfl, wpAny_pure fin⟩) szOk))
end
section
variable {X : Cx} {E : XI} {da : Den} {e : Expr}
def tRevT (K : PySem.W.Frag) (te : TE) : TE := fun σ H Q => te σ H fun x H1 => ∃ a xs, x = .ref a ∧ SqT K H1 a xs ∧ ∀ p, H1 p = none → Q (.ref p) (upd H1 p (.tup xs.reverse))
theorem pe_revT {te : TE} {k : Nat} {p1 p2 p3 pos : Pos} (he : PE X e te) : PE X (.Subscript e (.Slice none none (some (.UnaryOp .USub (.Constant (.int 1) k p1) p2)) p3) pos) (tRevT X.K te) := by
  refine ⟨fun pins s σ H Q I fin => ?_⟩
  refine Subscript_ (thn (he.run pins s σ H _ I fin) fun v s1 ⟨x, H1, I1, r1, q1⟩ => ?_)
  obtain ⟨a, xs, ex, hx, q⟩ := q1
  subst ex
  cases r1
  have hst : PO X (some (.UnaryOp .USub (.Constant (.int 1) k p1) p2)) (tPart (tUn (rU fun i => .int (-i)) (tC (.int 1)))) := po_some (pe_un un_neg pe_int)
  refine wpAny_Slice (thn (po_none.run pins s1 σ H1 (fun o H2 => o = none ∧ H2 = H1) I1 ⟨rfl, rfl⟩) fun vl s2 ⟨l, H2, I2, pLo, el, e2⟩ => ?_)
  subst el e2
  refine thn (po_none.run pins s2 σ H2 (fun o H3 => o = none ∧ H3 = H2) I2 ⟨rfl, rfl⟩) fun vu s3 ⟨u, H3, I3, pHi, eu, e3⟩ => ?_
  subst eu e3
  refine thn (hst.run pins s3 σ H3 (fun o H4 => o = some (-1) ∧ H4 = H3) I3 ⟨1, rfl, -1, rfl, rfl, rfl⟩) fun vs s4 ⟨o, H4, I4, pSt, eo, e4⟩ => ?_
  subst eo e4
  have I5 : Inv X pins σ H4 { s4 with heap := s4.heap.push { cls := .type "slice", data := .fields #[vl, vu, vs] } } := I4.kept (t' := s4.toks) fun b ob q => Heap.get?_push_of_some _ q
  obtain ⟨its, r, tup0, hz⟩ := I5.tuple hx
  have hlen := r.length
  show wpAny (model X.prog X.w) X.A (subscriptTail e (.Slice none none (some (.UnaryOp .USub (.Constant (.int 1) k p1) p2)) p3) (.ref a) (.ref s4.heap.objs.size)) (EP X pins σ Q) X.xe { s4 with heap := s4.heap.push { cls := .type "slice", data := .fields #[vl, vu, vs] } }
  refine tail_any (ops := [.ref a, .ref s4.heap.objs.size]) tup0.typeIs (PyProof.Rows.slot_tuple_getitem.lookup) ?_ (by with_unfolding_all rfl)
  refine getItem_tuple_rev tup0 (Heap.IsSliceOf.new _ vl vu vs) pLo pHi pSt ?_ (by rw [List.size_toArray]; omega)
  refine ⟨.ref _, _, I5.laid (t' := s4.toks) (o := .tup xs.reverse) (fun b ob q => Heap.get?_push_of_some _ q) (Nat.le_refl _) ?_, rfl, q _ (I5.hok.fresh (Nat.le_refl _))⟩
  exact ⟨by rw [List.length_reverse]; exact hz, _, r.reverse, IsTup.new _ _⟩
def dRevT (d : Den) : Den := dUn (fun v fin => match v with
  | .tup xs => .ok (.tup xs.reverse) fin
  | _ => .bad) d
theorem r_revT {k : Nat} {p1 p2 p3 pos : Pos} (ha : PE X e (tD X.K E da)) : PE X (.Subscript e (.Slice none none (some (.UnaryOp .USub (.Constant (.int 1) k p1) p2)) p3) pos) (tD X.K E (dRevT da)) := PE_imp (pe_revT ha) (by
  rintro σ H Q ⟨μ, z, fin, ρ, hr, er, p⟩
  refine tD_of hr er p.bind fun μ1 h1 H1 v w s1 hr1 p1 vr1 => ?_
  cases vr1 with
  | @tup a xs vs hq r => exact ⟨a, vs, rfl, hq, tupQ p1 hr1 r.rev⟩
  | _ => exact p1.elim)
end
end VI
end

section
namespace VI
open PySem
theorem bt_bool : bootBuiltins "bool" = some (.type "bool") := by decide +kernel
theorem bt_str : bootBuiltins "str" = some (.type "str") := by decide +kernel
theorem bt_dict : bootBuiltins "dict" = some (.type "dict") := by decide +kernel
end VI
end

section
/-! == and != of anything's sequence with an empty one. -/
namespace VI
open PySem PySem.Spec PyProof.Rows L2
section
variable {X : Cx} {K : PySem.W.Frag}
def rEqE (K : PySem.W.Frag) (neg : Bool) : R2 := fun x y H Q => ∃ a b xs, x = .ref a ∧ y = .ref b ∧ ((SqT K H a xs ∧ SqT K H b []) ∨ (SqL K H a xs ∧ SqL K H b [])) ∧ Q (.bl (if neg then !xs.isEmpty else xs.isEmpty)) H
theorem vals_nil {us : List Value} (h : Vals [] us) : us = [] := by
  cases h
  rfl
theorem emp_size {xs : List V} {its : List Value} (r : Vals xs its) : (its.toArray.size == 0) = xs.isEmpty := by
  cases r <;> rfl
theorem op_eqE (hu : X.A.units < cLine) : OpR X (compareOp .Eq) (rEqE X.K false) := by
  intro pins s σ H x y v u Q I rx ry h
  obtain ⟨a, b, xs, rfl, rfl, hq, q⟩ := h
  cases rx
  cases ry
  rcases hq with ⟨h1, h2⟩ | ⟨h1, h2⟩
  · obtain ⟨its, r1, t1, _⟩ := I.tuple h1
    obtain ⟨itt, r2, t2, _⟩ := I.tuple h2
    have e2 := vals_nil r2
    subst e2
    refine SeqAt.eq_tupleAt (e := fun _ => true) t1 t2 hu (fun j _ j2 => absurd j2 (by simp)) ⟨.bl _, H, I, rfl, ?_⟩
    have : ((List.range (min its.toArray.size ([] : List Value).toArray.size)).all (fun _ => true) && its.toArray.size == ([] : List Value).toArray.size) = xs.isEmpty := by
      rw [List.all_eq_true.mpr fun _ _ => rfl]
      exact emp_size r1
    rw [this]
    exact q
  · obtain ⟨its, r1, t1, _⟩ := I.list h1
    obtain ⟨itt, r2, t2, _⟩ := I.list h2
    have e2 := vals_nil r2
    subst e2
    cases r1 with
    | nil => exact SeqAt.eq_listAt (e := fun _ => true) t1.isList t2.isList rfl hu (fun j _ j2 => absurd j2 (by simp)) ⟨.bl _, H, I, rfl, q⟩
    | cons r t => exact SeqAt.eq_list_lengthsAt t1.isList t2.isList (by simp) hu ⟨.bl _, H, I, rfl, q⟩
theorem op_neE (hu : X.A.units < cLine) : OpR X (compareOp .NotEq) (rEqE X.K true) := by
  intro pins s σ H x y v u Q I rx ry h
  obtain ⟨a, b, xs, rfl, rfl, hq, q⟩ := h
  cases rx
  cases ry
  rcases hq with ⟨h1, h2⟩ | ⟨h1, h2⟩
  · obtain ⟨its, r1, t1, _⟩ := I.tuple h1
    obtain ⟨itt, r2, t2, _⟩ := I.tuple h2
    have e2 := vals_nil r2
    subst e2
    refine SeqAt.RcNeAt.tuples (e := fun _ => true) t1 t2 hu (fun j _ j2 => absurd j2 (by simp)) X.prog X.w _ _ ⟨.bl _, H, I, rfl, ?_⟩
    have : ((List.range (min its.toArray.size ([] : List Value).toArray.size)).all (fun _ => true) && its.toArray.size == ([] : List Value).toArray.size) = xs.isEmpty := by
      rw [List.all_eq_true.mpr fun _ _ => rfl]
      exact emp_size r1
    rw [this]
    exact q
  · obtain ⟨its, r1, t1, _⟩ := I.list h1
    obtain ⟨itt, r2, t2, _⟩ := I.list h2
    have e2 := vals_nil r2
    subst e2
    cases r1 with
    | nil => exact SeqAt.RcNeAt.lists (e := fun _ => true) t1.isList t2.isList rfl hu (fun j _ j2 => absurd j2 (by simp)) X.prog X.w _ _ ⟨.bl _, H, I, rfl, q⟩
    | cons r t => exact SeqAt.RcNeAt.lists_lengths t1.isList t2.isList (by simp) hu X.prog X.w _ _ ⟨.bl _, H, I, rfl, q⟩
/-- against an empty sequence of the same kind -/
def empF (neg : Bool) : IV → IV → Mem → Ret IV := fun v u h => match v, u with
  | .tup xs, .tup [] => .ok (.bl (if neg then !xs.isEmpty else xs.isEmpty)) h
  | .tup _, _ => .bad
  | v, u => match lsq h v, lsq h u with
    | some xs, some [] => .ok (.bl (if neg then !xs.isEmpty else xs.isEmpty)) h
    | _, _ => .bad
theorem isE_rel {μ z : List Addr} {H : Hp} {xs : List IV} {vs : List V} (r : VRs K μ z H xs vs) : vs.isEmpty = xs.isEmpty := by
  cases r <;> rfl
theorem rb_emp {neg : Bool} : RB K (rEqE K neg) (empF neg) := by
  intro E μ z h H v u x y Q hr v1 v2 p
  have lists : post K E μ z H (match lsq h v, lsq h u with
      | some xs, some [] => .ok (.bl (if neg then !xs.isEmpty else xs.isEmpty)) h
      | _, _ => .bad) (VQ K z Q) → rEqE K neg x y H Q := fun p => by
    cases e1 : lsq h v with
    | none => rw [e1] at p; exact p.elim
    | some xs =>
      cases e2 : lsq h u with
      | none => rw [e1, e2] at p; exact p.elim
      | some ys =>
        rw [e1, e2] at p
        cases ys with
        | cons _ _ => exact p.elim
        | nil =>
          obtain ⟨a, vs, ex, hq, r⟩ := lsq_H hr v1 e1
          obtain ⟨b, ws, ey, hq2, r2⟩ := lsq_H hr v2 e2
          cases r2
          refine ⟨a, b, vs, ex, ey, .inr ⟨hq, hq2⟩, ?_⟩
          have q := p μ H Step.refl hr _ (.bl _)
          rw [isE_rel r]
          exact q
  cases v1 with
  | @tup a xs vs hq r =>
    cases v2 with
    | @tup b ys ws hq2 r2 =>
      cases ys with
      | cons _ _ => exact p.elim
      | nil =>
        cases r2
        refine ⟨a, b, vs, rfl, rfl, .inl ⟨hq, hq2⟩, ?_⟩
        have q := p μ H Step.refl hr _ (.bl _)
        rw [isE_rel r]
        exact q
    | _ => exact p.elim
  | _ => exact lists p
end
end VI
end

section
/-! repr of anything. -/
namespace VI
open PySem PySem.Spec PyProof.Rows L2
section
variable {X : Cx} {K : PySem.W.Frag}
def rReprA (K : PySem.W.Frag) : List V → Hp → VK → Prop := fun xs H Q => rRepr K xs H Q ∨ rReprD K xs H Q
theorem call_reprA (B : SysB X.base) (hg : X.A.guards = some []) (hu : X.A.units + 64 < cLine) : CallR X (.builtin "repr") (rReprA X.K) := (call_repr hg hu).or (call_reprD B hg hu)
def reprAF : List IV → Mem → Ret IV := fun vs h => match vs with
  | [v] => (match toD h deep v with
    | some _ => reprF [v] h
    | none => reprDF [v] h)
  | _ => .bad
theorem rc_reprA : RC K (rReprA K) reprAF := by
  intro E μ z h H vs xs Q hr vr p
  cases vr with
  | nil => exact p.elim
  | @cons v x vs xs v1 t =>
    cases t with
    | cons _ _ => exact p.elim
    | nil =>
      unfold reprAF at p
      simp only at p
      cases e1 : toD h deep v with
      | none =>
        rw [e1] at p
        exact .inr (rc_reprD E μ z h H [v] [x] Q hr (.cons v1 .nil) p)
      | some d =>
        rw [e1] at p
        exact .inl (rc_repr E μ z h H [v] [x] Q hr (.cons v1 .nil) p)
end
/-! ### anything: what it tells -/
/-- of the amount k, w, in a memory -/
structure Se (h : Mem) (v : IV) (d : PyData) (k w : Nat) : Prop where
  see : ∀ n, k ≤ n → toE h n v = some d
  shw : d.showable = true
  dep : d.depth ≤ k
  wt : d.weight ≤ w
  sh : d.leavesShort 40 = true
structure SeL (h : Mem) (vs : List IV) (ds : List PyData) (k w : Nat) : Prop where
  see : ∀ n, k ≤ n → allS (vs.map (toE h n)) = some ds
  shw : PyData.showableAll ds = true
  dep : PyData.depthAll ds ≤ k
  wt : PyData.weightAll ds ≤ w
  sh : PyData.leavesShortAll 40 ds = true
section
variable {h : Mem} {v u : IV} {d e : PyData} {k w k' w' : Nat} {vs us : List IV} {ds es : List PyData}
theorem Se.mono (s : Se h v d k w) (hk : k ≤ k') (hw : w ≤ w') : Se h v d k' w' := ⟨fun n hn => s.see n (Nat.le_trans hk hn), s.shw, Nat.le_trans s.dep hk, Nat.le_trans s.wt hw, s.sh⟩
theorem SeL.mono (s : SeL h vs ds k w) (hk : k ≤ k') (hw : w ≤ w') : SeL h vs ds k' w' := ⟨fun n hn => s.see n (Nat.le_trans hk hn), s.shw, Nat.le_trans s.dep hk, Nat.le_trans s.wt hw, s.sh⟩
theorem Se.flat {v : IV} {d : PyData} (e : ∀ n, toE h (n + 1) v = some d) (a : d.showable = true) (b : d.depth ≤ 1) (c : d.weight ≤ 120) (f : d.leavesShort 40 = true) : Se h v d 1 120 := by
  refine ⟨fun n hn => ?_, a, b, c, f⟩
  obtain ⟨m, rfl⟩ : ∃ m, n = m + 1 := ⟨n - 1, by omega⟩
  exact e m
theorem Se.int {i : Int} (hi : i.natAbs < 10 ^ 31) : Se h (.int i) (.int i) 1 120 := by
  have e : (10 : Nat) ^ 31 = 10000000000000000000000000000000 := by decide
  have e2 : (2 : Nat) ^ 110 = 1298074214633706907132624082305024 := by decide
  have hl : i.natAbs.log2 < 110 := by
    by_cases z : i.natAbs = 0
    · rw [z]; decide
    · exact (Nat.log2_lt z).mpr (by omega)
  refine Se.flat (fun n => rfl) ?_ ?_ ?_ ?_
  · unfold PyData.showable
    rw [decide_eq_true_eq]
    omega
  · unfold PyData.depth
    omega
  · unfold PyData.weight
    split
    · omega
    · omega
  · unfold PyData.leavesShort
    rw [decide_eq_true_eq]
    have e3 := int_text_length_le10 (k := 31) (by decide) hi
    have e4 : (PyData.shown (.int i)).length ≤ 32 := by
      show (Str.ofString (toString i)).length ≤ 32
      rw [PySem.ofString_length]
      exact e3
    omega
theorem Se.non : Se h .non .none 1 120 := Se.flat (fun n => rfl) (by unfold PyData.showable; rfl) (by unfold PyData.depth; omega) (by unfold PyData.weight; omega) (by unfold PyData.leavesShort; rfl)
theorem Se.bl (b : Bool) : Se h (.bl b) (.bool b) 1 120 := Se.flat (fun n => rfl) (by unfold PyData.showable; rfl) (by unfold PyData.depth; omega) (by unfold PyData.weight; omega) (by unfold PyData.leavesShort; rfl)
theorem Se.dct {l : Nat} (e : h[l]? = some (.dK [])) : Se h (.loc l) (.dict []) 1 120 := Se.flat (fun n => by rw [toE]; simp only [e]) (by unfold PyData.showable PyData.showableKv; rfl) (by unfold PyData.depth PyData.depthKv; omega) (by unfold PyData.weight PyData.weightKv; omega) (by unfold PyData.leavesShort PyData.leavesShortKv; rfl)
theorem Se.str {x : Str} (hw : (PyData.str x).weight ≤ 120) (hx : (PyData.str x).leavesShort 40 = true) : Se h (.str x) (.str x) 1 120 := Se.flat (fun n => rfl) (by unfold PyData.showable; rfl) (by unfold PyData.depth; omega) hw hx
theorem SeL.nil : SeL h [] [] k 0 := by
  refine ⟨fun n hn => rfl, ?_, ?_, ?_, ?_⟩
  · unfold PyData.showableAll; rfl
  · unfold PyData.depthAll
    omega
  · unfold PyData.weightAll
    omega
  · unfold PyData.leavesShortAll; rfl
theorem SeL.cons (s : Se h v d k w) (t : SeL h vs ds k w') : SeL h (v :: vs) (d :: ds) k (w + 1 + w') := by
  refine ⟨fun n hn => ?_, ?_, ?_, ?_, ?_⟩
  · rw [List.map_cons, s.see n hn]
    unfold allS
    rw [t.see n hn]
  · unfold PyData.showableAll
    rw [s.shw, t.shw]
    rfl
  · unfold PyData.depthAll
    have := s.dep
    have := t.dep
    omega
  · unfold PyData.weightAll
    have := s.wt
    have := t.wt
    omega
  · unfold PyData.leavesShortAll
    rw [s.sh, t.sh]
    rfl
theorem Se.seq {x : IV} {c : List PyData → PyData} (t : SeL h vs ds k w) (hx : ∀ n, toE h (n + 1) x = (allS (vs.map (toE h n))).map c) (c1 : (c ds).showable = PyData.showableAll ds) (c2 : (c ds).depth = PyData.depthAll ds + 1) (c3 : (c ds).weight = PyData.weightAll ds) (c4 : (c ds).leavesShort 40 = PyData.leavesShortAll 40 ds) : Se h x (c ds) (k + 1) w := by
  refine ⟨fun n hn => ?_, by rw [c1]; exact t.shw, by rw [c2]; have := t.dep; omega, by rw [c3]; exact t.wt, by rw [c4]; exact t.sh⟩
  obtain ⟨m, rfl⟩ : ∃ m, n = m + 1 := ⟨n - 1, by omega⟩
  rw [hx m, t.see m (by omega)]
  rfl
theorem Se.tup (t : SeL h vs ds k w) : Se h (.tup vs) (.tuple ds) (k + 1) w := Se.seq (c := .tuple) t (fun n => by rw [toE]) (by unfold PyData.showable; rfl) (by rw [PyData.depth]) (by rw [PyData.weight]) (by rw [PyData.leavesShort])
theorem Se.fl (t : SeL h vs ds k w) : Se h (.fl vs) (.list ds) (k + 1) w := Se.seq (c := .list) t (fun n => by rw [toE]) (by unfold PyData.showable; rfl) (by rw [PyData.depth]) (by rw [PyData.weight]) (by rw [PyData.leavesShort])
theorem SeL.map {α : Type} {f : α → IV} {g : α → PyData} : ∀ {l : List α}, (∀ a ∈ l, Se h (f a) (g a) k w) → SeL h (l.map f) (l.map g) k ((w + 1) * l.length)
  | [], _ => by
    rw [List.length_nil, Nat.mul_zero]
    exact SeL.nil
  | a :: l, q => by
    rw [List.map_cons, List.map_cons, List.length_cons, Nat.mul_add, Nat.mul_one, Nat.add_comm ((w + 1) * l.length)]
    exact SeL.cons (q a List.mem_cons_self) (SeL.map fun b hb => q b (List.mem_cons_of_mem _ hb))
theorem reprD_ok (s : Se h v d k w) (hk : k ≤ 60) (hw : w ≤ 300000) (hv : refI v = true) : reprDF [v] h = .ok (.str d.shown) h := by
  have hdp : d.depth ≤ 60 := Nat.le_trans s.dep hk
  have hlen : d.shown.length ≤ sizeLine := by
    have h1 := PyData.shown_le 40 (by decide) d s.sh
    have h2 := s.wt
    rw [sizeLine_eq]
    omega
  have hdd : deep = 66 := rfl
  unfold reprDF
  simp only
  rw [s.see deep (by omega)]
  simp only
  rw [hv, s.shw, decide_eq_true hdp, decide_eq_true hlen]
  rfl
end
end VI
end

section
namespace Vi_k11
open PySem PySem.Spec PyProof.Rows L2 VI
def d_is_number : DenS :=
    (sRet (dAnd (dUn (isiF .int) (dVar 0)) (dAnd (dNot (dUn (isiF .bl) (dVar 0))) (dBin geF (dVar 0) (dC (.int 0))))))
def fn_is_number : FnI := funI 1 1 d_is_number
def d_is_tuple_of : DenS :=
    (sRet (dAnd (dUn (isiF .tup) (dVar 1)) (dBin eqF (dArg lenF (aCons (dVar 1) aNil)) (dVar 0))))
def fn_is_tuple_of : FnI := funI 2 2 d_is_tuple_of
def d__room_fault : DenS :=
    (sSeq (sAsg (tgN 2) (dAl (fRep (dFl (fLst (aCons (dC (.int 0)) aNil))) (dArg lenF (aCons (dBin ixF (dVar 0) (dC (.int 1))) aNil)))))
    (sSeq (sFor (wEnum (aCons (dVar 1) aNil)) (Sh.tg (.t (.cons (.n 3) (.cons (.n 4) .nil)))) (sSeq (sIf (dTst (dBin isNF (dVar 4) (dC .non))) sCt sNx)
    (sSeq (sIf (dTst (dBin eqF (dBin ixF (dVar 2) (dVar 4)) (dBin ixF (dVar 0) (dC (.int 0))))) (sRet (dTup (aCons (dC (.str "room")) (aCons (dVar 3) aNil)))) sNx)
    (sAugL (dVar 2) (dVar 4) (dC (.int 1)) addI))))
    (sRet (dC .non))))
def fn__room_fault : FnI := funI 5 2 d__room_fault
def d__law_is_number : DenS :=
    (sRet (dAnd (dUn (isiF .int) (dVar 0)) (dAnd (dNot (dUn (isiF .bl) (dVar 0))) (dBin geF (dVar 0) (dC (.int 0))))))
def fn__law_is_number : FnI := funI 1 1 d__law_is_number
def d__is_form : DenS :=
    (sSeq (sIf (dNotT (dTst (dArg fn_is_tuple_of (aCons (dArg lenF (aCons (dVar 0) aNil)) (aCons (dVar 1) aNil))))) (sRet (dC (.bl false))) sNx)
    (sRet (dArg allF (aCons (dFl (fLc (wSeq (dVar 1)) (Sh.tg (.n 2)) dYes (dOr (dBin isNF (dVar 2) (dC .non)) (dArg fn_is_number (aCons (dVar 2) aNil))) [2])) aNil))))
def fn__is_form : FnI := funI 3 2 d__is_form
def d__law_gifts_fault : DenS :=
    (sSeq (sIf (dOrT (dNotT (dTst (dUn (isiF .tup) (dVar 2)))) (dTst (dBin neF (dArg lenF (aCons (dVar 2) aNil)) (dArg lenF (aCons (dVar 1) aNil))))) (sRet (dTup (aCons (dC (.str "form")) aNil))) sNx)
    (sSeq (sIf (dTst (dBin (empF true) (dFl (fLc (wSeq (dVar 2)) (Sh.tg (.n 5)) (dAndT (dTst (dBin notNF (dVar 5) (dC .non))) (dNotT (dTst (dArg fn__law_is_number (aCons (dVar 5) aNil))))) (dVar 5) [5])) (dFl (fLst aNil)))) (sRet (dTup (aCons (dC (.str "form")) aNil))) sNx)
    (sSeq (sAsg (tgN 3) (dFl (fLc (wRng1 (aCons (dArg lenF (aCons (dVar 1) aNil)) aNil)) (Sh.tg (.n 4)) (dAndT (dTst (dBin notNF (dBin ixF (dVar 2) (dVar 4)) (dC .non))) (dTst (dBin (inA true) (dBin ixF (dVar 2) (dVar 4)) (dBin ixF (dVar 1) (dVar 4))))) (dVar 4) [4])))
    (sSeq (sIf (dTst (dBin (empF true) (dVar 3) (dFl (fLst aNil)))) (sRet (dTup (aCons (dC (.str "gift")) (aCons (dBin ixF (dVar 3) (dC (.int 0))) aNil)))) sNx)
    (sSeq (sAsg (tgN 3) (dFl (fLc (wRng1 (aCons (dArg lenF (aCons (dVar 1) aNil)) aNil)) (Sh.tg (.n 4)) (dAndT (dTst (dBin notNF (dBin ixF (dVar 2) (dVar 4)) (dC .non))) (dTst (dBin geF (dML countF (dFl (fArg listF (aCons (dCut (dVar 2) oNone (oSome (dVar 4))) aNil))) (aCons (dBin ixF (dVar 2) (dVar 4)) aNil)) (dBin ixF (dVar 0) (dC (.int 0)))))) (dVar 4) [4])))
    (sRet (dIf (dTst (dBin (empF true) (dVar 3) (dFl (fLst aNil)))) (dTup (aCons (dC (.str "room")) (aCons (dBin ixF (dVar 3) (dC (.int 0))) aNil))) (dC .non))))))))
def fn__law_gifts_fault : FnI := funI 6 3 d__law_gifts_fault
def d_gifts_fault : DenS :=
    (sSeq (sIf (dNotT (dTst (dArg fn__is_form (aCons (dVar 1) (aCons (dVar 2) aNil))))) (sRet (dTup (aCons (dC (.str "form")) aNil))) sNx)
    (sSeq (sFor (wEnum (aCons (dVar 2) aNil)) (Sh.tg (.t (.cons (.n 3) (.cons (.n 4) .nil)))) (sIf (dAndT (dTst (dBin notNF (dVar 4) (dC .non))) (dTst (dBin (inA true) (dVar 4) (dBin ixF (dVar 1) (dVar 3))))) (sRet (dTup (aCons (dC (.str "gift")) (aCons (dVar 3) aNil)))) sNx))
    (sRet (dArg fn__room_fault (aCons (dVar 0) (aCons (dVar 2) aNil))))))
def fn_gifts_fault : FnI := funI 5 3 d_gifts_fault
def d__law_bent_gifts : DenS :=
    (sSeq (sAsg (tgN 4) (dArg fn__law_of (aCons (dVar 0) (aCons (dFl (fLst (aCons (dC .non) (aCons (dC (.bl true)) (aCons (dC (.bl false)) (aCons (dUn negF (dC (.int 1))) (aCons (dC (.int 0)) (aCons (dC (.int 1)) (aCons (dBin powF (dC (.int 10)) (dC (.int 30))) (aCons (dC (.str "0")) (aCons (dTup aNil) (aCons (dFl (fLst aNil)) (aCons dNew (aCons (dTup (aCons (dC (.int 0)) aNil)) (aCons (dArg lenF (aCons (dBin ixF (dVar 1) (dC (.int 1))) aNil)) aNil))))))))))))))) aNil))))
    (sSeq (sIf (dOrT (dTst (dBin (empF false) (dVar 3) (dTup aNil))) (dTst (dBin eqF (dArg fn__law_pick (aCons (dVar 0) (aCons (dC (.int 5)) aNil))) (dC (.int 0))))) (sRet (dArg fn__law_of (aCons (dVar 0) (aCons (dFl (fLst (aCons (dFl (fArg listF (aCons (dVar 3) aNil))) (aCons (dBin addF (dVar 3) (dTup (aCons (dC .non) aNil))) (aCons (dCut (dVar 3) oNone (oSome (dUn negF (dC (.int 1))))) (aCons (dRevT (dVar 3)) (aCons (dVar 4) (aCons (dBin addF (dVar 3) (dTup (aCons (dVar 4) aNil))) aNil)))))))) aNil)))) sNx)
    (sSeq (sAsg (tgN 5) (dArg fn__law_pick (aCons (dVar 0) (aCons (dArg lenF (aCons (dVar 3) aNil)) aNil))))
    (sSeq (sAsg (tgN 6) (dBin addF (dFl (fLst (aCons (dVar 4) (aCons (dArg fn__law_pick (aCons (dVar 0) (aCons (dArg lenF (aCons (dBin ixF (dVar 1) (dC (.int 1))) aNil)) aNil))) aNil)))) (dFl (fArg listF (aCons (dBin ixF (dVar 2) (dVar 5)) aNil)))))
    (sRet (dBin addF (dBin addF (dCut (dVar 3) oNone (oSome (dVar 5))) (dTup (aCons (dArg fn__law_of (aCons (dVar 0) (aCons (dVar 6) aNil))) aNil))) (dCut (dVar 3) (oSome (dBin addF (dVar 5) (dC (.int 1)))) oNone)))))))
def fn__law_bent_gifts : FnI := funI 7 4 d__law_bent_gifts
def d_law : DenS :=
    (sSeq (sAsg (tgN 1) (dArg fn__law_source (aCons (dVar 0) aNil)))
    (sSeq (sFor (wRng1 (aCons (dC (.int 6)) aNil)) (Sh.tg (.n 2)) (sSeq (sAsg (tgN 3) (dArg fn__law_draw_yard (aCons (dVar 1) (aCons (dBin ixF (dFl (fLst (aCons (dC (.int 1)) (aCons (dC (.int 2)) (aCons (dC (.int 4)) (aCons (dC (.int 7)) (aCons (dC (.int 3)) (aCons (dC (.int 5)) aNil)))))))) (dVar 2)) (aCons (dC (.int 3)) aNil)))))
    (sSeq (sAsg (tgN 4) (dArg fn__law_draw_row (aCons (dVar 1) (aCons (dArg lenF (aCons (dBin ixF (dVar 3) (dC (.int 1))) aNil)) (aCons (dBin ixF (dFl (fLst (aCons (dC (.int 3)) (aCons (dC (.int 8)) (aCons (dC (.int 12)) (aCons (dC (.int 20)) (aCons (dC (.int 6)) (aCons (dC (.int 9)) aNil)))))))) (dVar 2)) aNil)))))
    (sSeq (sAsg (tgN 5) (dArg fn__law_draw_gifts (aCons (dVar 1) (aCons (dVar 3) (aCons (dVar 4) aNil)))))
    (sSeq (sAsg (tgN 6) (dBin addF (dFl (fLst (aCons (dVar 5) aNil))) (dFl (fLc (wRng1 (aCons (dC (.int 6)) aNil)) (Sh.tg (.n 11)) dYes (dArg fn__law_bent_gifts (aCons (dVar 1) (aCons (dVar 3) (aCons (dVar 4) (aCons (dVar 5) aNil))))) [11]))))
    (sSeq (sAsg (tgN 8) (dFl (fLc (wSeq (dVar 6)) (Sh.tg (.n 7)) (dAndT (dTst (dUn (isiF .tup) (dVar 7))) (dTst (dBin eqF (dArg lenF (aCons (dVar 7) aNil)) (dArg lenF (aCons (dVar 4) aNil))))) (dVar 7) [7])))
    (sSeq (sFor (wSeq (dBin addF (dBin addF (dVar 6) (dFl (fLc (wSeq (dCut (dVar 8) oNone (oSome (dC (.int 4))))) (Sh.tg (.n 12)) dYes (dArg fn__law_bent_gifts (aCons (dVar 1) (aCons (dVar 3) (aCons (dVar 4) (aCons (dVar 12) aNil))))) [12]))) (dFl (fLst (aCons (dC .non) (aCons (dTup aNil) (aCons (dC (.str "")) (aCons (dC (.int 0)) aNil)))))))) (Sh.tg (.n 7)) (sSeq (sPar 9 10 (aCons (dArg fn__law_gifts_fault (aCons (dVar 3) (aCons (dVar 4) (aCons (dVar 7) aNil)))) (aCons (dArg reprDF (aCons (dFl (fLst (aCons (dVar 3) (aCons (dVar 4) (aCons (dVar 7) aNil))))) aNil)) aNil)))
    (sIf (dOrT (dTst (dBin neF (dArg reprF (aCons (dArg fn_gifts_fault (aCons (dVar 3) (aCons (dVar 4) (aCons (dVar 7) aNil)))) aNil)) (dArg reprF (aCons (dVar 9) aNil)))) (dTst (dBin neF (dArg reprDF (aCons (dFl (fLst (aCons (dVar 3) (aCons (dVar 4) (aCons (dVar 7) aNil))))) aNil)) (dVar 10)))) (sRet (dC (.bl false))) sNx)))
    (sIf (dTst (dBin notNF (dArg fn_gifts_fault (aCons (dVar 3) (aCons (dVar 4) (aCons (dVar 5) aNil)))) (dC .non))) (sRet (dC (.bl false))) sNx))))))))
    (sSeq (sAsg (Sh.tg (.t (.cons (.n 3) (.cons (.n 4) .nil)))) (dTup (aCons (dTup (aCons (dC (.int 1)) (aCons (dTup (aCons (dC (.int 3)) (aCons (dC (.int 1)) (aCons (dC (.int 1)) aNil)))) aNil))) (aCons (dTup (aCons (dTup (aCons (dC (.int 0)) (aCons (dC (.int 1)) aNil))) (aCons (dTup (aCons (dC (.int 0)) (aCons (dC (.int 2)) aNil))) (aCons (dTup (aCons (dC (.int 0)) aNil)) aNil)))) aNil))))
    (sSeq (sAsg (tgN 6) (dFl (fLst (aCons (dTup (aCons (dC (.int 0)) (aCons (dC (.int 2)) (aCons (dC .non) aNil)))) (aCons (dTup (aCons (dC (.int 1)) (aCons (dC (.int 2)) (aCons (dC (.int 0)) aNil)))) (aCons (dTup (aCons (dC (.int 0)) (aCons (dC (.int 0)) (aCons (dC .non) aNil)))) (aCons (dTup (aCons (dC (.int 0)) (aCons (dC (.int 1)) (aCons (dC .non) aNil)))) (aCons (dTup (aCons (dC (.int 2)) (aCons (dC (.int 0)) (aCons (dC (.int 0)) aNil)))) (aCons (dTup (aCons (dC (.int 0)) (aCons (dC (.int 2)) aNil))) (aCons (dTup (aCons (dC (.int 0)) (aCons (dC (.bl true)) (aCons (dC .non) aNil)))) (aCons (dTup (aCons (dC .non) (aCons (dC (.int 0)) (aCons (dC (.int 0)) aNil)))) aNil)))))))))))
    (sSeq (sAsg (tgN 9) (dFl (fLst (aCons (dC .non) (aCons (dC .non) (aCons (dTup (aCons (dC (.str "room")) (aCons (dC (.int 1)) aNil))) (aCons (dTup (aCons (dC (.str "gift")) (aCons (dC (.int 1)) aNil))) (aCons (dTup (aCons (dC (.str "gift")) (aCons (dC (.int 0)) aNil))) (aCons (dTup (aCons (dC (.str "form")) aNil)) (aCons (dTup (aCons (dC (.str "form")) aNil)) (aCons (dTup (aCons (dC (.str "room")) (aCons (dC (.int 2)) aNil))) aNil)))))))))))
    (sRet (dBin eqF (dFl (fLc (wSeq (dVar 6)) (Sh.tg (.n 7)) dYes (dArg fn_gifts_fault (aCons (dVar 3) (aCons (dVar 4) (aCons (dVar 7) aNil)))) [7])) (dVar 9))))))))
def fn_law : FnI := funI 13 1 d_law
end Vi_k11
end

section
namespace VI
open PySem PySem.Spec PyProof.Rows L2
def ldsOf (n : Nat) (gs : List (Option Nat)) : List Nat := (List.range n).map fun j => gs.count (some j)
def worthOf (ws : List Int) : Option Nat → Int
  | none => 0
  | some k => ws.getD k 0
def givenOf (ws : List Int) (gs : List (Option Nat)) : Int := ((gs.filter Option.isSome).map (worthOf ws)).sum
/-- the places where p holds -/
def idx {α : Type} (p : α → Bool) (l : List α) : List Nat := (l.zipIdx.filter fun x => p x.1).map (·.2)
theorem idx_range' {α : Type} (p : α → Bool) : ∀ (l : List α) (k : Nat), (List.range' k l.length).filter (fun r => (l[r - k]?.map p).getD false) = ((l.zipIdx k).filter fun x => p x.1).map (·.2)
  | [], _ => rfl
  | x :: l, k => by
    have ih := idx_range' p l (k + 1)
    have e : (List.range' (k + 1) l.length).filter (fun r => ((x :: l)[r - k]?.map p).getD false) = (List.range' (k + 1) l.length).filter (fun r => (l[r - (k + 1)]?.map p).getD false) := by
      apply List.filter_congr
      intro r hr
      have := List.mem_range'.mp hr
      obtain ⟨i, hi, rfl⟩ := this
      rw [show k + 1 + 1 * i - k = (k + 1 + 1 * i - (k + 1)) + 1 by omega, List.getElem?_cons_succ]
    rw [List.length_cons, List.range'_succ, List.zipIdx_cons]
    cases hp : p x with
    | true =>
      rw [List.filter_cons_of_pos (by rw [Nat.sub_self]; simpa using hp), List.filter_cons_of_pos (by simpa using hp), List.map_cons, e, ih]
    | false =>
      rw [List.filter_cons_of_neg (by rw [Nat.sub_self]; simpa using hp), List.filter_cons_of_neg (by simpa using hp), e, ih]
theorem idx_range {α : Type} (p : α → Bool) (l : List α) : (List.range l.length).filter (fun r => (l[r]?.map p).getD false) = idx p l := by
  have := idx_range' p l 0
  rw [List.range_eq_range']
  exact this
theorem idx_lt {α : Type} {p : α → Bool} {l : List α} {k : Nat} (h : k ∈ idx p l) : k < l.length := by
  rw [← idx_range] at h
  exact List.mem_range.mp (List.mem_filter.mp h).1
theorem idx_len {α : Type} {p : α → Bool} {l : List α} : (idx p l).length ≤ l.length := by
  rw [← idx_range]
  refine Nat.le_trans (List.length_filter_le _ _) ?_
  rw [List.length_range]
  exact Nat.le_refl _
theorem numd_zip {α : Type} {f : α → IV} : ∀ (l : List α) (k : Nat), numd k (l.map f) = (l.zipIdx k).map fun x => IV.tup [.int (x.2 : Nat), f x.1]
  | [], _ => rfl
  | x :: l, k => by
    rw [List.map_cons, List.zipIdx_cons, List.map_cons]
    unfold numd
    rw [numd_zip l (k + 1)]
theorem rgI_natIV (n : Nat) : rgI 0 (n : Nat) = (List.range n).map natIV := by
  have := rgI_nat 0 n
  rw [Nat.sub_zero] at this
  refine Eq.trans this ?_
  rw [List.map_map]
  apply List.map_congr_left
  intro i _
  show IV.int (((0 + i : Nat) : Nat) : Int) = IV.int ((i : Nat) : Int)
  rw [Nat.zero_add]
/-! ### loads, loaded gift by gift -/
def bump (ls : List Nat) : List (Option Nat) → List Nat
  | [] => ls
  | none :: gs => bump ls gs
  | some k :: gs => bump (ls.set k (ls.getD k 0 + 1)) gs
theorem bump_get : ∀ (gs : List (Option Nat)) (ls : List Nat), (∀ k, some k ∈ gs → k < ls.length) → (bump ls gs).length = ls.length ∧ ∀ j, j < ls.length → (bump ls gs)[j]? = some (ls.getD j 0 + gs.count (some j))
  | [], ls, _ => ⟨rfl, fun j hj => by
    show ls[j]? = some (ls.getD j 0 + 0)
    rw [List.getD_eq_getElem?_getD, List.getElem?_eq_getElem hj]
    rfl⟩
  | none :: gs, ls, h => by
    obtain ⟨a, b⟩ := bump_get gs ls fun k hk => h k (List.mem_cons_of_mem _ hk)
    refine ⟨a, fun j hj => ?_⟩
    rw [List.count_cons_of_ne (by simp)]
    exact b j hj
  | some k :: gs, ls, h => by
    have hk := h k List.mem_cons_self
    obtain ⟨a, b⟩ := bump_get gs (ls.set k (ls.getD k 0 + 1)) fun q hq => by
      rw [List.length_set]
      exact h q (List.mem_cons_of_mem _ hq)
    rw [List.length_set] at a b
    refine ⟨a, fun j hj => ?_⟩
    have bj := b j hj
    show (bump (ls.set k (ls.getD k 0 + 1)) gs)[j]? = _
    rw [bj]
    by_cases hjk : j = k
    · subst hjk
      rw [List.count_cons_self, List.getD_eq_getElem?_getD, List.getElem?_set_self hj]
      show some (ls.getD j 0 + 1 + _) = _
      congr 1
      omega
    · rw [List.count_cons_of_ne (fun z => hjk (Option.some.inj z).symm), List.getD_eq_getElem?_getD, List.getElem?_set_ne (Ne.symm hjk), List.getD_eq_getElem?_getD]
theorem bump_lds {n : Nat} {gs : List (Option Nat)} (h : ∀ k, some k ∈ gs → k < n) : bump (List.replicate n 0) gs = ldsOf n gs := by
  obtain ⟨a, b⟩ := bump_get gs (List.replicate n 0) (by rw [List.length_replicate]; exact h)
  rw [List.length_replicate] at a b
  apply List.ext_getElem?
  intro j
  by_cases hj : j < n
  · rw [b j hj]
    unfold ldsOf
    rw [List.getElem?_map, List.getElem?_range hj, List.getD_eq_getElem?_getD, List.getElem?_replicate, if_pos hj]
    show some (0 + _) = some _
    rw [Nat.zero_add]
  · rw [List.getElem?_eq_none (by omega), List.getElem?_eq_none (by unfold ldsOf; rw [List.length_map, List.length_range]; omega)]
section
variable {h : Mem}
theorem end_at {o : IO} {ext : Mem} : (h ++ o :: ext)[h.length]? = some o := by
  rw [List.getElem?_append_right (Nat.le_refl _), Nat.sub_self]
  rfl
theorem end_set {o p : IO} {ext : Mem} : (h ++ o :: ext).set h.length p = h ++ p :: ext := by
  rw [List.set_append_right _ _ (Nat.le_refl _), Nat.sub_self]
  rfl
theorem end_seq {xs : List IV} {ext : Mem} : seqOf (h ++ .lst xs :: ext) (.loc h.length) = some xs := by
  show (match (h ++ IO.lst xs :: ext)[h.length]? with
    | some (.lst xs) => some xs
    | _ => none) = _
  rw [end_at]
theorem end_get {ls : List Nat} {q l : Nat} (hl : ls[q]? = some l) : getF (.loc h.length) (.int (q : Nat)) (h ++ [.lst (ls.map natIV)]) = .ok (.int (l : Nat)) (h ++ [.lst (ls.map natIV)]) := by
  have e : atI (ls.map natIV) ((q : Nat) : Int) = some (.int (l : Nat)) := atI_nat (by rw [List.getElem?_map, hl]; rfl)
  unfold getF
  simp only [end_at, e]
  rw [decide_eq_true (by omega)]
  rfl
theorem end_put {ls : List Nat} {q l : Nat} (hq : q < ls.length) : putF (.loc h.length) (.int (q : Nat)) (.int (l : Nat)) (h ++ [.lst (ls.map natIV)]) = .ok () (h ++ [.lst ((ls.set q l).map natIV)]) := by
  have e2 : ixN (ls.map natIV).length ((q : Nat) : Int) = some q := ixN_nat (by rw [List.length_map]; exact hq)
  unfold putF
  simp only [end_at, e2, end_set]
  rw [List.map_set]
  rfl
theorem gift_notN (g : Option Nat) : notNF (giftIV g) .non h = .ok (.bl g.isSome) h := by cases g <;> rfl
theorem gift_isN (g : Option Nat) : isNF (giftIV g) .non h = .ok (.bl g.isNone) h := by cases g <;> rfl
theorem gift_eq (g : Option Nat) (j : Nat) (hg : ∀ k, g = some k → k < 1000) (hj : j < 1000) : eqF (giftIV g) (natIV j) h = .ok (.bl (g == some j)) h := by
  cases g with
  | some k =>
    show Ret.ok (IV.bl (decide (((k : Nat) : Int) = ((j : Nat) : Int)))) h = _
    congr 2
    by_cases e : k = j
    · subst e
      simp
    · rw [decide_eq_false (by omega)]
      symm
      simpa using e
  | none =>
    have := data_ok (h := h) (g := fun d e => PyData.eqv d e) Sz.non (Sz.int (i := ((j : Nat) : Int)) (by rw [big12]; omega)) (by decide) (by decide)
    refine Eq.trans this ?_
    rfl
end
end VI
end

section
namespace Vi_k11
open PySem PySem.Spec PyProof.Rows L2 VI
/-- odd things, and what may stand in gifts -/
inductive Fv (R : Mem) : IV → Prop
  | non : Fv R .non
  | bl (b : Bool) : Fv R (.bl b)
  | int (i : Int) (h : i.natAbs < 10 ^ 31) : Fv R (.int i)
  | str0 : Fv R (.str "0")
  | stre : Fv R (.str "")
  | t0 : Fv R (.tup [])
  | l0 : Fv R (.fl [])
  | t1 : Fv R (.tup [.int 0])
  | dct (j : Nat) (h : R[j]? = some (.dK [])) : Fv R (.loc (j + 2))
def fdat : IV → PyData
  | .non => .none
  | .bl b => .bool b
  | .int i => .int i
  | .str s => .str s
  | .tup [] => .tuple []
  | .tup _ => .tuple [.int 0]
  | .fl _ => .list []
  | _ => .dict []
theorem Fv.ext {R X : Mem} {v : IV} (f : Fv R v) : Fv (R ++ X) v := by
  cases f with
  | non => exact .non
  | bl b => exact .bl b
  | int i h => exact .int i h
  | str0 => exact .str0
  | stre => exact .stre
  | t0 => exact .t0
  | l0 => exact .l0
  | t1 => exact .t1
  | dct j h => exact .dct j (by rw [List.getElem?_append_left (List.getElem?_eq_some_iff.mp h).1]; exact h)
theorem big31 : (10 : Nat) ^ 31 = 10000000000000000000000000000000 := by decide
theorem Fv.se {R : Mem} {v : IV} (f : Fv R v) (s : Src) : Se (mem s R) v (fdat v) 2 130 := by
  cases f with
  | non => exact Se.non.mono (by decide) (by decide)
  | bl b => exact (Se.bl b).mono (by decide) (by decide)
  | int i h => exact (Se.int h).mono (by decide) (by decide)
  | str0 => exact (Se.str (by unfold PyData.weight; decide) (by unfold PyData.leavesShort; decide)).mono (by decide) (by decide)
  | stre => exact (Se.str (by unfold PyData.weight; decide) (by unfold PyData.leavesShort; decide)).mono (by decide) (by decide)
  | t0 => exact (Se.tup (SeL.nil (k := 1))).mono (by decide) (by decide)
  | l0 => exact (Se.fl (SeL.nil (k := 1))).mono (by decide) (by decide)
  | t1 => exact (Se.tup (SeL.cons (Se.int (by rw [big31]; decide)) SeL.nil)).mono (by decide) (by decide)
  | dct j h =>
    have e : (mem s R)[j + 2]? = some (.dK []) := h
    exact (Se.dct e).mono (by decide) (by decide)
inductive Vv (R : Mem) : IV → Prop
  | one {v : IV} (h : Fv R v) : Vv R v
  | tup {xs : List IV} (h : ∀ x ∈ xs, Fv R x) (l : xs.length ≤ 60) : Vv R (.tup xs)
  | fl {xs : List IV} (h : ∀ x ∈ xs, Fv R x) (l : xs.length ≤ 60) : Vv R (.fl xs)
def vdat : IV → PyData
  | .tup xs => .tuple (xs.map fdat)
  | .fl xs => .list (xs.map fdat)
  | v => fdat v
theorem Vv.ext {R X : Mem} {v : IV} (f : Vv R v) : Vv (R ++ X) v := by
  cases f with
  | one h => exact .one h.ext
  | tup h l => exact .tup (fun x hx => (h x hx).ext) l
  | fl h l => exact .fl (fun x hx => (h x hx).ext) l
theorem seqs_se {R : Mem} {xs : List IV} (h : ∀ x ∈ xs, Fv R x) (l : xs.length ≤ 60) (s : Src) : SeL (mem s R) xs (xs.map fdat) 2 8000 := by
  have := SeL.map (h := mem s R) (f := fun x => x) (g := fdat) (k := 2) (w := 130) (l := xs) fun x hx => (h x hx).se s
  rw [List.map_id'] at this
  exact this.mono (by decide) (by omega)
theorem Vv.se {R : Mem} {v : IV} (f : Vv R v) (s : Src) : Se (mem s R) v (vdat v) 3 8500 := by
  cases f with
  | one h =>
    cases h with
    | t0 => exact (Se.tup (SeL.nil (k := 1))).mono (by decide) (by decide)
    | l0 => exact (Se.fl (SeL.nil (k := 1))).mono (by decide) (by decide)
    | t1 => exact (Se.tup (SeL.cons (Se.int (by rw [big31]; decide)) SeL.nil)).mono (by decide) (by decide)
    | non => exact ((Fv.non (R := R)).se s).mono (by decide) (by decide)
    | bl b => exact ((Fv.bl (R := R) b).se s).mono (by decide) (by decide)
    | int i h => exact ((Fv.int (R := R) i h).se s).mono (by decide) (by decide)
    | str0 => exact ((Fv.str0 (R := R)).se s).mono (by decide) (by decide)
    | stre => exact ((Fv.stre (R := R)).se s).mono (by decide) (by decide)
    | dct j h => exact ((Fv.dct (R := R) j h).se s).mono (by decide) (by decide)
  | tup h l => exact (Se.tup (seqs_se h l s)).mono (by decide) (by decide)
  | fl h l => exact (Se.fl (seqs_se h l s)).mono (by decide) (by decide)
/-! ### numbers -/
def numI : IV → Bool
  | .int i => decide (0 ≤ i)
  | _ => false
def nonI : IV → Bool
  | .non => true
  | _ => false
theorem geF_i {i j : Int} {h : Mem} : geF (.int i) (.int j) h = .ok (.bl (decide (j ≤ i))) h := id rfl
theorem isi_at {v : IV} {h : Mem} {t T : Ty} (e : tyN h v = some t) : isiF T v h = .ok (.bl (t.isi T)) h := by
  unfold isiF
  rw [e]
theorem ty_Fv {R : Mem} {v : IV} (f : Fv R v) (s : Src) : ∃ t, tyN (mem s R) v = some t ∧ (t = .int ↔ ∃ i, v = .int i) ∧ (t = .tup ↔ ∃ xs, v = .tup xs) := by
  cases f with
  | dct j h =>
    refine ⟨.dct, ?_, by simp, by simp⟩
    show (match R[j]? with
      | some (.lst _) => some Ty.lst
      | some (.dK _) => some Ty.dct
      | some (.oth _) => none
      | none => none) = _
    rw [h]
  | _ => exact ⟨_, rfl, by simp, by simp⟩
theorem num_den {v : IV} {h : Mem} {t : Ty} (e : tyN h v = some t) (hi : t = .int ↔ ∃ i, v = .int i) : (dAnd (dUn (isiF .int) (dVar 0)) (dAnd (dNot (dUn (isiF .bl) (dVar 0))) (dBin geF (dVar 0) (dC (.int 0))))) [some v] h = .ok (.bl (numI v)) h := by
  have e1 := isi_at (T := .int) e
  have e2 := isi_at (T := .bl) e
  by_cases hv : ∃ i, v = .int i
  · obtain ⟨i, rfl⟩ := hv
    have ht : t = .int := hi.mpr ⟨i, rfl⟩
    subst ht
    have q1 : Ty.isi .int .int = true := rfl
    have q2 : Ty.isi .int .bl = false := rfl
    rw [q1] at e1
    rw [q2] at e2
    simp only [sSeq, sAsg, sIf, sRet, sExp, dArg, dBin, dUn, dTst, dAndT, dOrT, dNotT, dIf, dAnd, dOr, dTup_eq, gateL_ok, gateT_ok, dFl, fLst_eq, fArg, aCons, aNil, dVar, dC, tgN, Sh.tg, Shs.tgs, tgT, tgsCons, tgsNil, Shs.len, bindO, List.getElem?_cons_zero, List.getElem?_cons_succ, List.set_cons_zero, List.set_cons_succ, List.length_cons, List.length_nil, List.map_cons, List.map_nil, List.cons_append, List.nil_append, List.replicate_succ, List.replicate_zero, Nat.reduceAdd, Nat.reduceSub, Nat.reduceEqDiff, if_true, Nat.reduceLeDiff, eqF_i, neF_i, addF_i, subF_i, gtF_i, ltF_i, ixF_seq, nox, wipeI, isN_non, isN_int, notN_non, notN_int, cond_true, cond_false, if_false, Bool.false_eq_true, e1, dNot, e2, Bool.not_false, geF_i, numI]
  · have hn : numI v = false := by
      cases v with
      | int i => exact absurd ⟨i, rfl⟩ hv
      | _ => rfl
    have ht : t ≠ .int := fun z => hv (hi.mp z)
    rw [hn]
    cases hb : t.isi .int with
    | false =>
      rw [hb] at e1
      simp only [sSeq, sAsg, sIf, sRet, sExp, dArg, dBin, dUn, dTst, dAndT, dOrT, dNotT, dIf, dAnd, dOr, dTup_eq, gateL_ok, gateT_ok, dFl, fLst_eq, fArg, aCons, aNil, dVar, dC, tgN, Sh.tg, Shs.tgs, tgT, tgsCons, tgsNil, Shs.len, bindO, List.getElem?_cons_zero, List.getElem?_cons_succ, List.set_cons_zero, List.set_cons_succ, List.length_cons, List.length_nil, List.map_cons, List.map_nil, List.cons_append, List.nil_append, List.replicate_succ, List.replicate_zero, Nat.reduceAdd, Nat.reduceSub, Nat.reduceEqDiff, if_true, Nat.reduceLeDiff, eqF_i, neF_i, addF_i, subF_i, gtF_i, ltF_i, ixF_seq, nox, wipeI, isN_non, isN_int, notN_non, notN_int, cond_true, cond_false, if_false, Bool.false_eq_true, e1]
    | true =>
      rw [hb] at e1
      have hbl : t = .bl := by
        cases t <;> first | rfl | (exact absurd rfl ht) | (cases hb)
      subst hbl
      have q2 : Ty.isi .bl .bl = true := rfl
      rw [q2] at e2
      simp only [sSeq, sAsg, sIf, sRet, sExp, dArg, dBin, dUn, dTst, dAndT, dOrT, dNotT, dIf, dAnd, dOr, dTup_eq, gateL_ok, gateT_ok, dFl, fLst_eq, fArg, aCons, aNil, dVar, dC, tgN, Sh.tg, Shs.tgs, tgT, tgsCons, tgsNil, Shs.len, bindO, List.getElem?_cons_zero, List.getElem?_cons_succ, List.set_cons_zero, List.set_cons_succ, List.length_cons, List.length_nil, List.map_cons, List.map_nil, List.cons_append, List.nil_append, List.replicate_succ, List.replicate_zero, Nat.reduceAdd, Nat.reduceSub, Nat.reduceEqDiff, if_true, Nat.reduceLeDiff, eqF_i, neF_i, addF_i, subF_i, gtF_i, ltF_i, ixF_seq, nox, wipeI, isN_non, isN_int, notN_non, notN_int, cond_true, cond_false, if_false, Bool.false_eq_true, e1, dNot, e2, Bool.not_true]
theorem e_num {v : IV} {h : Mem} {t : Ty} (e : tyN h v = some t) (hi : t = .int ↔ ∃ i, v = .int i) : fn_is_number [v] h = .ok (.bl (numI v)) h := by
  unfold fn_is_number
  refine fn_eq (ρ := [some v]) rfl ?_
  unfold d_is_number
  exact v_ret (num_den e hi)
theorem e_numL {v : IV} {h : Mem} {t : Ty} (e : tyN h v = some t) (hi : t = .int ↔ ∃ i, v = .int i) : fn__law_is_number [v] h = .ok (.bl (numI v)) h := by
  unfold fn__law_is_number
  refine fn_eq (ρ := [some v]) rfl ?_
  unfold d__law_is_number
  exact v_ret (num_den e hi)
end Vi_k11
end

section
namespace Vi_k11
open PySem PySem.Spec PyProof.Rows L2 VI
def okI (v : IV) : Bool := nonI v || numI v
def viol1 (rows : List (List Nat)) (xs : List IV) (r : Nat) : Bool := match xs[r]? with
  | some (.int i) => (match rows[r]? with
    | some hs => !((hs.map natIV).any fun y => eqI y (.int i))
    | none => false)
  | _ => false
def cntI (xs : List IV) (i : Int) : Nat := xs.countP fun y => eqI y (.int i)
def viol2 (c : Nat) (xs : List IV) (r : Nat) : Bool := match xs[r]? with
  | some (.int i) => decide (c ≤ cntI (xs.take r) i)
  | _ => false
def told (w : String) (ps : List Nat) : Option IV := match ps with
  | r :: _ => some (.tup [.str w, natIV r])
  | [] => none
def formI : IV := .tup [.str "form"]
def placesI (c : Nat) (rows : List (List Nat)) (xs : List IV) : IV := match told "gift" ((List.range rows.length).filter (viol1 rows xs)) with
  | some v => v
  | none => match told "room" ((List.range rows.length).filter (viol2 c xs)) with
    | some v => v
    | none => .non
def faultI (c : Nat) (rows : List (List Nat)) : IV → IV
  | .tup xs => if xs.length = rows.length then (if xs.all okI then placesI c rows xs else formI) else formI
  | _ => formI
/-- the sorts of things that may stand -/
def Tys (h : Mem) (xs : List IV) : Prop := ∀ x ∈ xs, ∃ t, tyN h x = some t ∧ (t = .int ↔ ∃ i, x = .int i)
theorem Vi_rg (n : Nat) : rgI 0 (n : Nat) = (List.range n).map natIV := by
  have := rgI_nat 0 n
  rw [Nat.sub_zero] at this
  refine Eq.trans this ?_
  rw [List.map_map]
  apply List.map_congr_left
  intro i _
  show IV.int (((0 + i : Nat) : Nat) : Int) = IV.int ((i : Nat) : Int)
  rw [Nat.zero_add]
section
variable {h : Mem} {c : Nat} {ws : List Int} {v : IV} {rows : List (List Nat)} {xs : List IV} {Y : IV}
theorem len_t {xs : List IV} : lenF [.tup xs] h = .ok (.int (xs.length : Nat)) h := id rfl
theorem ix_t {xs : List IV} {r : Nat} {y : IV} (e : xs[r]? = some y) : ixF (.tup xs) (.int (r : Nat)) h = .ok y h := ix_seq' (xs := xs) rfl e
theorem notN_of (x : IV) : notNF x .non h = .ok (.bl (!nonI x)) h := by cases x <;> rfl
theorem isN_of (x : IV) : isNF x .non h = .ok (.bl (nonI x)) h := by cases x <;> rfl
theorem ne_len {a b : Nat} : neF (.int (a : Nat)) (.int (b : Nat)) h = .ok (.bl (!decide (a = b))) h := by
  show Ret.ok (IV.bl (!decide (((a : Nat) : Int) = ((b : Nat) : Int)))) h = _
  congr 3
  by_cases e : a = b
  · rw [decide_eq_true e, decide_eq_true (by omega)]
  · rw [decide_eq_false e, decide_eq_false (by omega)]
theorem emp_fl {ys : List IV} : empF true (.fl ys) (.fl []) h = .ok (.bl (!ys.isEmpty)) h := id rfl
theorem in_req {i : Int} {hs : List Nat} : inA true (.int i) (reqIV hs) h = .ok (.bl (!((hs.map natIV).any fun y => eqI y (.int i)))) h := by
  have e1 : lookI h (reqIV hs) (.int i) = none := rfl
  have e2 : seqOf h (reqIV hs) = some (hs.map natIV) := rfl
  have e3 : (hs.map natIV).all flatI = true := by
    rw [List.all_eq_true]
    intro x hx
    obtain ⟨k, _, rfl⟩ := List.mem_map.mp hx
    rfl
  have e4 : flatI (.int i) = true := rfl
  unfold inA
  rw [e1]
  unfold inG
  simp only [e2, e3, e4, Bool.and_self, cond_true, if_true]
theorem okI_int {x : IV} (o : okI x = true) (n : nonI x = false) : ∃ q : Nat, x = .int (q : Nat) := by
  cases x with
  | int i =>
    have : decide (0 ≤ i) = true := o
    have := of_decide_eq_true this
    exact ⟨i.toNat, by rw [Int.toNat_of_nonneg this]⟩
  | non => cases n
  | _ => cases o
theorem ok_at (o : xs.all okI = true) {r : Nat} {y : IV} (e : xs[r]? = some y) : okI y = true := List.all_eq_true.mp o y (List.mem_of_getElem? e)
theorem flat_of {x : IV} (o : okI x = true) : flatI x = true := by
  cases x with
  | int _ => rfl
  | non => rfl
  | _ => cases o
theorem flats (o : xs.all okI = true) (r : Nat) : (xs.take r).all flatI = true := by
  rw [List.all_eq_true] at o ⊢
  exact fun x hx => flat_of (o x (List.mem_of_mem_take hx))
theorem told_fl {w : String} {ps : List Nat} : (∃ v, told w ps = some v ∧ ps.isEmpty = false ∧ ∃ r, ps[0]? = some r ∧ v = .tup [.str w, natIV r]) ∨ (told w ps = none ∧ ps = []) := by
  cases ps with
  | nil => exact .inr ⟨rfl, rfl⟩
  | cons r t => exact .inl ⟨_, rfl, rfl, r, rfl, rfl⟩
theorem e_lawF (hl : rows.length ≤ 50) (hx : ∀ xs, v = IV.tup xs → Tys h xs) (hv : ∃ t, tyN h v = some t ∧ (t = .tup ↔ ∃ xs, v = .tup xs)) : fn__law_gifts_fault [yardIV c ws, .tup (rows.map reqIV), v] h = .ok (faultI c rows v) h := by
  obtain ⟨t, et, ht⟩ := hv
  have ei := isi_at (T := .tup) et
  by_cases hvt : ∃ xs, v = .tup xs
  · obtain ⟨xs, rfl⟩ := hvt
    have q : t = .tup := ht.mpr ⟨xs, rfl⟩
    subst q
    have q1 : Ty.isi .tup .tup = true := rfl
    rw [q1] at ei
    have tys := hx xs rfl
    have fx : faultI c rows (.tup xs) = if xs.length = rows.length then (if xs.all okI then placesI c rows xs else formI) else formI := rfl
    rw [fx]
    have lr : lenF [.tup (rows.map reqIV)] h = .ok (.int (rows.length : Nat)) h := by rw [len_t, List.length_map]
    by_cases hlen : xs.length = rows.length
    · rw [if_pos hlen]
      have nl : decide (((xs.length : Nat) : Int) = (((rows.map reqIV).length : Nat) : Int)) = true := decide_eq_true (by rw [List.length_map]; omega)
      have A := lc_typed (t := tgN 5) (tt := dAndT (dTst (dBin notNF (dVar 5) (dC .non))) (dNotT (dTst (dArg fn__law_is_number (aCons (dVar 5) aNil))))) (el := dVar 5) (ρ := [some (yardIV c ws), some (.tup (rows.map reqIV)), some (.tup xs), none, none, none]) (h := h) (emb := fun x : IV => x) (p := fun x => !okI x) (g := fun x => x) xs 0 (by omega) fun x hx => by
        obtain ⟨t, e1, e2⟩ := tys x hx
        refine ⟨[some (yardIV c ws), some (.tup (rows.map reqIV)), some (.tup xs), none, none, some x], rfl, ?_, fun _ => rfl⟩
        have en := e_numL e1 e2
        have nn := notN_of (h := h) x
        have oo : okI x = (nonI x || numI x) := rfl
        generalize fn__law_is_number = z at en ⊢
        rw [oo]
        cases hn : nonI x with
        | true =>
          rw [hn] at nn
          simp only [sSeq, sAsg, sIf, sRet, sExp, dArg, dBin, dUn, dTst, dAndT, dOrT, dNotT, dIf, dAnd, dOr, dTup_eq, gateL_ok, gateT_ok, dFl, fLst_eq, fArg, aCons, aNil, dVar, dC, tgN, Sh.tg, Shs.tgs, tgT, tgsCons, tgsNil, Shs.len, bindO, List.getElem?_cons_zero, List.getElem?_cons_succ, List.set_cons_zero, List.set_cons_succ, List.length_cons, List.length_nil, List.map_cons, List.map_nil, List.cons_append, List.nil_append, List.replicate_succ, List.replicate_zero, Nat.reduceAdd, Nat.reduceSub, Nat.reduceEqDiff, if_true, Nat.reduceLeDiff, eqF_i, neF_i, addF_i, subF_i, gtF_i, ltF_i, ixF_seq, nox, wipeI, isN_non, isN_int, notN_non, notN_int, cond_true, cond_false, if_false, Bool.false_eq_true, nn, Bool.not_true, Bool.true_or]
        | false =>
          rw [hn] at nn
          simp only [sSeq, sAsg, sIf, sRet, sExp, dArg, dBin, dUn, dTst, dAndT, dOrT, dNotT, dIf, dAnd, dOr, dTup_eq, gateL_ok, gateT_ok, dFl, fLst_eq, fArg, aCons, aNil, dVar, dC, tgN, Sh.tg, Shs.tgs, tgT, tgsCons, tgsNil, Shs.len, bindO, List.getElem?_cons_zero, List.getElem?_cons_succ, List.set_cons_zero, List.set_cons_succ, List.length_cons, List.length_nil, List.map_cons, List.map_nil, List.cons_append, List.nil_append, List.replicate_succ, List.replicate_zero, Nat.reduceAdd, Nat.reduceSub, Nat.reduceEqDiff, if_true, Nat.reduceLeDiff, eqF_i, neF_i, addF_i, subF_i, gtF_i, ltF_i, ixF_seq, nox, wipeI, isN_non, isN_int, notN_non, notN_int, cond_true, cond_false, if_false, Bool.false_eq_true, nn, Bool.not_false, dNotT, en, Bool.false_or]
      rw [List.map_id', List.map_id'] at A
      by_cases ho : xs.all okI = true
      · rw [if_pos ho]
        have fe : xs.filter (fun x => !okI x) = [] := by
          rw [List.filter_eq_nil_iff]
          intro x hx
          rw [List.all_eq_true.mp ho x hx]
          simp
        rw [fe] at A
        have at_r : ∀ r, r < rows.length → ∃ y, xs[r]? = some y := fun r hr => ⟨xs[r]'(by omega), List.getElem?_eq_getElem _⟩
        have rg : wRng1 (aCons (dArg lenF (aCons (dVar 1) aNil)) aNil) [some (yardIV c ws), some (.tup (rows.map reqIV)), some (.tup xs), none, none, none] h = .ok ((List.range rows.length).map natIV) h := by
          rw [← Vi_rg]
          refine rng1 ?_ (by omega)
          simp only [sSeq, sAsg, sIf, sRet, sExp, dArg, dBin, dUn, dTst, dAndT, dOrT, dNotT, dIf, dAnd, dOr, dTup_eq, gateL_ok, gateT_ok, dFl, fLst_eq, fArg, aCons, aNil, dVar, dC, tgN, Sh.tg, Shs.tgs, tgT, tgsCons, tgsNil, Shs.len, bindO, List.getElem?_cons_zero, List.getElem?_cons_succ, List.set_cons_zero, List.set_cons_succ, List.length_cons, List.length_nil, List.map_cons, List.map_nil, List.cons_append, List.nil_append, List.replicate_succ, List.replicate_zero, Nat.reduceAdd, Nat.reduceSub, Nat.reduceEqDiff, if_true, Nat.reduceLeDiff, eqF_i, neF_i, addF_i, subF_i, gtF_i, ltF_i, ixF_seq, nox, wipeI, isN_non, isN_int, notN_non, notN_int, cond_true, cond_false, if_false, Bool.false_eq_true, lr]
        have rg' : ∀ w, wRng1 (aCons (dArg lenF (aCons (dVar 1) aNil)) aNil) [some (yardIV c ws), some (.tup (rows.map reqIV)), some (.tup xs), some w, none, none] h = .ok ((List.range rows.length).map natIV) h := fun w => by
          rw [← Vi_rg]
          refine rng1 ?_ (by omega)
          simp only [sSeq, sAsg, sIf, sRet, sExp, dArg, dBin, dUn, dTst, dAndT, dOrT, dNotT, dIf, dAnd, dOr, dTup_eq, gateL_ok, gateT_ok, dFl, fLst_eq, fArg, aCons, aNil, dVar, dC, tgN, Sh.tg, Shs.tgs, tgT, tgsCons, tgsNil, Shs.len, bindO, List.getElem?_cons_zero, List.getElem?_cons_succ, List.set_cons_zero, List.set_cons_succ, List.length_cons, List.length_nil, List.map_cons, List.map_nil, List.cons_append, List.nil_append, List.replicate_succ, List.replicate_zero, Nat.reduceAdd, Nat.reduceSub, Nat.reduceEqDiff, if_true, Nat.reduceLeDiff, eqF_i, neF_i, addF_i, subF_i, gtF_i, ltF_i, ixF_seq, nox, wipeI, isN_non, isN_int, notN_non, notN_int, cond_true, cond_false, if_false, Bool.false_eq_true, lr]
        have B := lc_typed (t := tgN 4) (tt := (dAndT (dTst (dBin notNF (dBin ixF (dVar 2) (dVar 4)) (dC .non))) (dTst (dBin (inA true) (dBin ixF (dVar 2) (dVar 4)) (dBin ixF (dVar 1) (dVar 4)))))) (el := dVar 4) (ρ := [some (yardIV c ws), some (.tup (rows.map reqIV)), some (.tup xs), none, none, none]) (h := h) (emb := natIV) (p := viol1 rows xs) (g := natIV) (List.range rows.length) 0 (by rw [List.length_range]; omega) fun r hr => by
          have hr := List.mem_range.mp hr
          obtain ⟨y, ey⟩ := at_r r hr
          refine ⟨[some (yardIV c ws), some (.tup (rows.map reqIV)), some (.tup xs), none, some (natIV r), none], rfl, ?_, fun _ => rfl⟩
          have i1 := ix_t (h := h) ey
          have er : rows[r]? = some rows[r] := List.getElem?_eq_getElem hr
          have i2 : ixF (.tup (rows.map reqIV)) (.int (r : Nat)) h = .ok (reqIV rows[r]) h := ix_t (by rw [List.getElem?_map, er]; rfl)
          have nn := notN_of (h := h) y
          have oy := ok_at ho ey
          cases hn : nonI y with
          | true =>
            have v1 : viol1 rows xs r = false := by
              unfold viol1
              rw [ey]
              cases y <;> first | rfl | cases hn
            rw [v1]
            rw [hn] at nn
            simp only [sSeq, sAsg, sIf, sRet, sExp, dArg, dBin, dUn, dTst, dAndT, dOrT, dNotT, dIf, dAnd, dOr, dTup_eq, gateL_ok, gateT_ok, dFl, fLst_eq, fArg, aCons, aNil, dVar, dC, tgN, Sh.tg, Shs.tgs, tgT, tgsCons, tgsNil, Shs.len, bindO, List.getElem?_cons_zero, List.getElem?_cons_succ, List.set_cons_zero, List.set_cons_succ, List.length_cons, List.length_nil, List.map_cons, List.map_nil, List.cons_append, List.nil_append, List.replicate_succ, List.replicate_zero, Nat.reduceAdd, Nat.reduceSub, Nat.reduceEqDiff, if_true, Nat.reduceLeDiff, eqF_i, neF_i, addF_i, subF_i, gtF_i, ltF_i, ixF_seq, nox, wipeI, isN_non, isN_int, notN_non, notN_int, cond_true, cond_false, if_false, Bool.false_eq_true, natIV, i1, nn, Bool.not_true]
          | false =>
            obtain ⟨q, rfl⟩ := okI_int oy hn
            have v1 : viol1 rows xs r = !((rows[r].map natIV).any fun y => eqI y (.int (q : Nat))) := by
              unfold viol1
              rw [ey, er]
            rw [v1]
            rw [hn] at nn
            have iq := in_req (h := h) (i := ((q : Nat) : Int)) (hs := rows[r])
            simp only [sSeq, sAsg, sIf, sRet, sExp, dArg, dBin, dUn, dTst, dAndT, dOrT, dNotT, dIf, dAnd, dOr, dTup_eq, gateL_ok, gateT_ok, dFl, fLst_eq, fArg, aCons, aNil, dVar, dC, tgN, Sh.tg, Shs.tgs, tgT, tgsCons, tgsNil, Shs.len, bindO, List.getElem?_cons_zero, List.getElem?_cons_succ, List.set_cons_zero, List.set_cons_succ, List.length_cons, List.length_nil, List.map_cons, List.map_nil, List.cons_append, List.nil_append, List.replicate_succ, List.replicate_zero, Nat.reduceAdd, Nat.reduceSub, Nat.reduceEqDiff, if_true, Nat.reduceLeDiff, eqF_i, neF_i, addF_i, subF_i, gtF_i, ltF_i, ixF_seq, nox, wipeI, isN_non, isN_int, notN_non, notN_int, cond_true, cond_false, if_false, Bool.false_eq_true, natIV, i1, nn, Bool.not_false, i2, iq]
        have C := fun w => lc_typed (t := tgN 4) (tt := (dAndT (dTst (dBin notNF (dBin ixF (dVar 2) (dVar 4)) (dC .non))) (dTst (dBin geF (dML countF (dFl (fArg listF (aCons (dCut (dVar 2) oNone (oSome (dVar 4))) aNil))) (aCons (dBin ixF (dVar 2) (dVar 4)) aNil)) (dBin ixF (dVar 0) (dC (.int 0))))))) (el := dVar 4) (ρ := [some (yardIV c ws), some (.tup (rows.map reqIV)), some (.tup xs), some w, none, none]) (h := h) (emb := natIV) (p := viol2 c xs) (g := natIV) (List.range rows.length) 0 (by rw [List.length_range]; omega) fun r hr => by
          have hr := List.mem_range.mp hr
          obtain ⟨y, ey⟩ := at_r r hr
          refine ⟨[some (yardIV c ws), some (.tup (rows.map reqIV)), some (.tup xs), some w, some (natIV r), none], rfl, ?_, fun _ => rfl⟩
          have i1 := ix_t (h := h) ey
          have nn := notN_of (h := h) y
          have oy := ok_at ho ey
          cases hn : nonI y with
          | true =>
            have v1 : viol2 c xs r = false := by
              unfold viol2
              rw [ey]
              cases y <;> first | rfl | cases hn
            rw [v1]
            rw [hn] at nn
            simp only [sSeq, sAsg, sIf, sRet, sExp, dArg, dBin, dUn, dTst, dAndT, dOrT, dNotT, dIf, dAnd, dOr, dTup_eq, gateL_ok, gateT_ok, dFl, fLst_eq, fArg, aCons, aNil, dVar, dC, tgN, Sh.tg, Shs.tgs, tgT, tgsCons, tgsNil, Shs.len, bindO, List.getElem?_cons_zero, List.getElem?_cons_succ, List.set_cons_zero, List.set_cons_succ, List.length_cons, List.length_nil, List.map_cons, List.map_nil, List.cons_append, List.nil_append, List.replicate_succ, List.replicate_zero, Nat.reduceAdd, Nat.reduceSub, Nat.reduceEqDiff, if_true, Nat.reduceLeDiff, eqF_i, neF_i, addF_i, subF_i, gtF_i, ltF_i, ixF_seq, nox, wipeI, isN_non, isN_int, notN_non, notN_int, cond_true, cond_false, if_false, Bool.false_eq_true, natIV, i1, nn, Bool.not_true]
          | false =>
            obtain ⟨q, rfl⟩ := okI_int oy hn
            have v1 : viol2 c xs r = decide (c ≤ cntI (xs.take r) (q : Nat)) := by
              unfold viol2
              rw [ey]
            rw [v1]
            rw [hn] at nn
            have iy : ixF (yardIV c ws) (.int 0) h = .ok (.int (c : Nat)) h := rfl
            have ct : cutF (.tup xs) none (some ((r : Nat) : Int)) h = .ok (.tup (xs.take r)) h := by
              show Ret.ok (IV.tup (cutI xs none (some ((r : Nat) : Int)))) h = _
              rw [cut_to]
            have lf : listF [.tup (xs.take r)] h = .ok (xs.take r) h := rfl
            have il : isL h (.fl (xs.take r)) = true := rfl
            have fl := flats ho r
            have cf : countF (.fl (xs.take r)) [.int (q : Nat)] h = .ok (.int (cntI (xs.take r) (q : Nat) : Nat)) h := by
              have l1 : lsq h (.fl (xs.take r)) = some (xs.take r) := rfl
              have f1 : flatI (.int (q : Nat)) = true := rfl
              unfold countF
              simp only [l1, f1, fl, Bool.and_self, cond_true]
              rfl
            have dd : decide (((c : Nat) : Int) ≤ ((cntI (xs.take r) (q : Nat) : Nat) : Int)) = decide (c ≤ cntI (xs.take r) (q : Nat)) := by
              by_cases z : c ≤ cntI (xs.take r) (q : Nat)
              · rw [decide_eq_true z, decide_eq_true (by omega)]
              · rw [decide_eq_false z, decide_eq_false (by omega)]
            simp only [sSeq, sAsg, sIf, sRet, sExp, dArg, dBin, dUn, dTst, dAndT, dOrT, dNotT, dIf, dAnd, dOr, dTup_eq, gateL_ok, gateT_ok, dFl, fLst_eq, fArg, aCons, aNil, dVar, dC, tgN, Sh.tg, Shs.tgs, tgT, tgsCons, tgsNil, Shs.len, bindO, List.getElem?_cons_zero, List.getElem?_cons_succ, List.set_cons_zero, List.set_cons_succ, List.length_cons, List.length_nil, List.map_cons, List.map_nil, List.cons_append, List.nil_append, List.replicate_succ, List.replicate_zero, Nat.reduceAdd, Nat.reduceSub, Nat.reduceEqDiff, if_true, Nat.reduceLeDiff, eqF_i, neF_i, addF_i, subF_i, gtF_i, ltF_i, ixF_seq, nox, wipeI, isN_non, isN_int, notN_non, notN_int, cond_true, cond_false, if_false, Bool.false_eq_true, natIV, i1, nn, Bool.not_false, dML, dCut, oNone, oSome, ct, lf, il, cf, iy, geF_i, dd]
        have emp1 : (((List.range rows.length).filter (viol1 rows xs)).map natIV).isEmpty = ((List.range rows.length).filter (viol1 rows xs)).isEmpty := by cases (List.range rows.length).filter (viol1 rows xs) <;> rfl
        have emp2 : (((List.range rows.length).filter (viol2 c xs)).map natIV).isEmpty = ((List.range rows.length).filter (viol2 c xs)).isEmpty := by cases (List.range rows.length).filter (viol2 c xs) <;> rfl
        have pl : placesI c rows xs = match told "gift" ((List.range rows.length).filter (viol1 rows xs)) with
            | some v => v
            | none => match told "room" ((List.range rows.length).filter (viol2 c xs)) with
              | some v => v
              | none => .non := rfl
        generalize hp1 : (List.range rows.length).filter (viol1 rows xs) = ps1 at B emp1 pl
        generalize hp2 : (List.range rows.length).filter (viol2 c xs) = ps2 at C emp2 pl
        have sk1 : isiF .tup (.tup xs) h = .ok (.bl true) h := ei
        have ixl : ∀ {ps : List Nat} {r : Nat}, ps[0]? = some r → ixF (.fl (ps.map natIV)) (.int 0) h = .ok (natIV r) h := fun {ps r} e => ix_seq' (k := 0) (xs := ps.map natIV) rfl (by rw [List.getElem?_map, e]; rfl)
        rw [pl]
        unfold fn__law_gifts_fault
        rcases told_fl (w := "gift") (ps := ps1) with ⟨v, e1, e2, r, e3, e4⟩ | ⟨e1, e2⟩
        · rw [e1]
          subst e4
          have m1 := emp_fl (h := h) (ys := ps1.map natIV)
          rw [emp1, e2] at m1
          have m0 := emp_fl (h := h) (ys := [])
          have ix0 := ixl e3
          refine fn_eq (ρ := [some (yardIV c ws), some (.tup (rows.map reqIV)), some (.tup xs), some (.fl (ps1.map natIV)), none, none]) rfl ?_
          unfold d__law_gifts_fault
          generalize fn__law_is_number = z at A ⊢
          generalize wRng1 (aCons (dArg lenF (aCons (dVar 1) aNil)) aNil) = rgg at rg rg' ⊢
          simp only [sSeq, sAsg, sIf, sRet, sExp, dArg, dBin, dUn, dTst, dAndT, dOrT, dNotT, dIf, dAnd, dOr, dTup_eq, gateL_ok, gateT_ok, dFl, fLst_eq, fArg, aCons, aNil, dVar, dC, tgN, Sh.tg, Shs.tgs, tgT, tgsCons, tgsNil, Shs.len, bindO, List.getElem?_cons_zero, List.getElem?_cons_succ, List.set_cons_zero, List.set_cons_succ, List.length_cons, List.length_nil, List.map_cons, List.map_nil, List.cons_append, List.nil_append, List.replicate_succ, List.replicate_zero, Nat.reduceAdd, Nat.reduceSub, Nat.reduceEqDiff, if_true, Nat.reduceLeDiff, eqF_i, neF_i, addF_i, subF_i, gtF_i, ltF_i, ixF_seq, nox, wipeI, isN_non, isN_int, notN_non, notN_int, cond_true, cond_false, if_false, Bool.false_eq_true, sk1, dNotT, len_t, nl, Bool.not_true, Bool.not_false, sNx, fLc, wSeq, A, m0, List.isEmpty_nil, rg, B, m1, ix0]
        · rw [e1]
          have m1 := emp_fl (h := h) (ys := ps1.map natIV)
          rw [emp1, e2] at m1
          have m0 := emp_fl (h := h) (ys := [])
          have C' := C (.fl (ps1.map natIV))
          have rg2 := rg' (.fl (ps1.map natIV))
          have m2 := emp_fl (h := h) (ys := ps2.map natIV)
          rw [emp2] at m2
          refine fn_eq (ρ := [some (yardIV c ws), some (.tup (rows.map reqIV)), some (.tup xs), some (.fl (ps2.map natIV)), none, none]) rfl ?_
          unfold d__law_gifts_fault
          subst e2
          rcases told_fl (w := "room") (ps := ps2) with ⟨v, f1, f2, r, f3, f4⟩ | ⟨f1, f2⟩
          · rw [f1]
            subst f4
            rw [f2] at m2
            have ix0 := ixl f3
            generalize fn__law_is_number = z at A ⊢
            generalize wRng1 (aCons (dArg lenF (aCons (dVar 1) aNil)) aNil) = rgg at rg rg' rg2 ⊢
            have m1' : empF true (.fl (([] : List Nat).map natIV)) (.fl []) h = .ok (.bl false) h := rfl
            simp only [List.map_nil] at B m1' C' rg2
            simp only [sSeq, sAsg, sIf, sRet, sExp, dArg, dBin, dUn, dTst, dAndT, dOrT, dNotT, dIf, dAnd, dOr, dTup_eq, gateL_ok, gateT_ok, dFl, fLst_eq, fArg, aCons, aNil, dVar, dC, tgN, Sh.tg, Shs.tgs, tgT, tgsCons, tgsNil, Shs.len, bindO, List.getElem?_cons_zero, List.getElem?_cons_succ, List.set_cons_zero, List.set_cons_succ, List.length_cons, List.length_nil, List.map_cons, List.map_nil, List.cons_append, List.nil_append, List.replicate_succ, List.replicate_zero, Nat.reduceAdd, Nat.reduceSub, Nat.reduceEqDiff, if_true, Nat.reduceLeDiff, eqF_i, neF_i, addF_i, subF_i, gtF_i, ltF_i, ixF_seq, nox, wipeI, isN_non, isN_int, notN_non, notN_int, cond_true, cond_false, if_false, Bool.false_eq_true, sk1, dNotT, len_t, nl, Bool.not_true, Bool.not_false, sNx, fLc, wSeq, A, m0, List.isEmpty_nil, rg, B, m1', rg2, C', m2, ix0]
          · rw [f1]
            have m2 : empF true (.fl (ps2.map natIV)) (.fl []) h = .ok (.bl false) h := by rw [f2]; rfl
            generalize fn__law_is_number = z at A ⊢
            generalize wRng1 (aCons (dArg lenF (aCons (dVar 1) aNil)) aNil) = rgg at rg rg' rg2 ⊢
            have m1' : empF true (.fl (([] : List Nat).map natIV)) (.fl []) h = .ok (.bl false) h := rfl
            simp only [List.map_nil] at B m1' C' rg2
            simp only [sSeq, sAsg, sIf, sRet, sExp, dArg, dBin, dUn, dTst, dAndT, dOrT, dNotT, dIf, dAnd, dOr, dTup_eq, gateL_ok, gateT_ok, dFl, fLst_eq, fArg, aCons, aNil, dVar, dC, tgN, Sh.tg, Shs.tgs, tgT, tgsCons, tgsNil, Shs.len, bindO, List.getElem?_cons_zero, List.getElem?_cons_succ, List.set_cons_zero, List.set_cons_succ, List.length_cons, List.length_nil, List.map_cons, List.map_nil, List.cons_append, List.nil_append, List.replicate_succ, List.replicate_zero, Nat.reduceAdd, Nat.reduceSub, Nat.reduceEqDiff, if_true, Nat.reduceLeDiff, eqF_i, neF_i, addF_i, subF_i, gtF_i, ltF_i, ixF_seq, nox, wipeI, isN_non, isN_int, notN_non, notN_int, cond_true, cond_false, if_false, Bool.false_eq_true, sk1, dNotT, len_t, nl, Bool.not_true, Bool.not_false, sNx, fLc, wSeq, A, m0, List.isEmpty_nil, rg, B, m1', rg2, C', m2]
      · rw [if_neg ho]
        have fe : (xs.filter (fun x => !okI x)).isEmpty = false := by
          cases hf : xs.filter (fun x => !okI x) with
          | cons _ _ => rfl
          | nil =>
            refine absurd ?_ ho
            rw [List.all_eq_true]
            intro x hx
            have := List.filter_eq_nil_iff.mp hf x hx
            simpa using this
        have m0 := emp_fl (h := h) (ys := xs.filter (fun x => !okI x))
        rw [fe] at m0
        have sk1 : isiF .tup (.tup xs) h = .ok (.bl true) h := ei
        unfold fn__law_gifts_fault
        refine fn_eq (ρ := [some (yardIV c ws), some (.tup (rows.map reqIV)), some (.tup xs), none, none, none]) rfl ?_
        unfold d__law_gifts_fault
        generalize fn__law_is_number = z at A ⊢
        simp only [sSeq, sAsg, sIf, sRet, sExp, dArg, dBin, dUn, dTst, dAndT, dOrT, dNotT, dIf, dAnd, dOr, dTup_eq, gateL_ok, gateT_ok, dFl, fLst_eq, fArg, aCons, aNil, dVar, dC, tgN, Sh.tg, Shs.tgs, tgT, tgsCons, tgsNil, Shs.len, bindO, List.getElem?_cons_zero, List.getElem?_cons_succ, List.set_cons_zero, List.set_cons_succ, List.length_cons, List.length_nil, List.map_cons, List.map_nil, List.cons_append, List.nil_append, List.replicate_succ, List.replicate_zero, Nat.reduceAdd, Nat.reduceSub, Nat.reduceEqDiff, if_true, Nat.reduceLeDiff, eqF_i, neF_i, addF_i, subF_i, gtF_i, ltF_i, ixF_seq, nox, wipeI, isN_non, isN_int, notN_non, notN_int, cond_true, cond_false, if_false, Bool.false_eq_true, sk1, dNotT, len_t, nl, Bool.not_true, Bool.not_false, sNx, fLc, wSeq, A, m0]
        rfl
    · rw [if_neg hlen]
      have nl : decide (((xs.length : Nat) : Int) = (((rows.map reqIV).length : Nat) : Int)) = false := decide_eq_false (by rw [List.length_map]; omega)
      unfold fn__law_gifts_fault
      refine fn_eq (ρ := [some (yardIV c ws), some (.tup (rows.map reqIV)), some (.tup xs), none, none, none]) rfl ?_
      unfold d__law_gifts_fault
      simp only [sSeq, sAsg, sIf, sRet, sExp, dArg, dBin, dUn, dTst, dAndT, dOrT, dNotT, dIf, dAnd, dOr, dTup_eq, gateL_ok, gateT_ok, dFl, fLst_eq, fArg, aCons, aNil, dVar, dC, tgN, Sh.tg, Shs.tgs, tgT, tgsCons, tgsNil, Shs.len, bindO, List.getElem?_cons_zero, List.getElem?_cons_succ, List.set_cons_zero, List.set_cons_succ, List.length_cons, List.length_nil, List.map_cons, List.map_nil, List.cons_append, List.nil_append, List.replicate_succ, List.replicate_zero, Nat.reduceAdd, Nat.reduceSub, Nat.reduceEqDiff, if_true, Nat.reduceLeDiff, eqF_i, neF_i, addF_i, subF_i, gtF_i, ltF_i, ixF_seq, nox, wipeI, isN_non, isN_int, notN_non, notN_int, cond_true, cond_false, if_false, Bool.false_eq_true, ei, dNotT, len_t, nl, Bool.not_true, Bool.not_false, sNx]
      rfl
  · have q : t ≠ .tup := fun z => hvt (ht.mp z)
    have q1 : t.isi .tup = false := by
      cases t <;> first | rfl | (exact absurd rfl q)
    rw [q1] at ei
    have fx : faultI c rows v = formI := by
      cases v with
      | tup xs => exact absurd ⟨xs, rfl⟩ hvt
      | _ => rfl
    rw [fx]
    unfold fn__law_gifts_fault
    refine fn_eq (ρ := [some (yardIV c ws), some (.tup (rows.map reqIV)), some v, none, none, none]) rfl ?_
    unfold d__law_gifts_fault
    simp only [sSeq, sAsg, sIf, sRet, sExp, dArg, dBin, dUn, dTst, dAndT, dOrT, dNotT, dIf, dAnd, dOr, dTup_eq, gateL_ok, gateT_ok, dFl, fLst_eq, fArg, aCons, aNil, dVar, dC, tgN, Sh.tg, Shs.tgs, tgT, tgsCons, tgsNil, Shs.len, bindO, List.getElem?_cons_zero, List.getElem?_cons_succ, List.set_cons_zero, List.set_cons_succ, List.length_cons, List.length_nil, List.map_cons, List.map_nil, List.cons_append, List.nil_append, List.replicate_succ, List.replicate_zero, Nat.reduceAdd, Nat.reduceSub, Nat.reduceEqDiff, if_true, Nat.reduceLeDiff, eqF_i, neF_i, addF_i, subF_i, gtF_i, ltF_i, ixF_seq, nox, wipeI, isN_non, isN_int, notN_non, notN_int, cond_true, cond_false, if_false, Bool.false_eq_true, ei, dNotT, Bool.not_false]
    rfl
end
end Vi_k11
end

section
namespace Vi_k11
open PySem PySem.Spec PyProof.Rows L2 VI
theorem allS_bls : ∀ bs : List Bool, allS ((bs.map IV.bl).map asB) = some bs
  | [] => rfl
  | n :: ns => by
    rw [List.map_cons, List.map_cons, show asB (.bl n) = some n from rfl]
    unfold allS
    rw [allS_bls ns]
section
variable {h : Mem} {c n : Nat} {ws : List Int} {v : IV} {rows : List (List Nat)} {xs : List IV} {Y : IV}
def formB (rows : List (List Nat)) : IV → Bool
  | .tup xs => decide (xs.length = rows.length) && xs.all okI
  | _ => false
theorem all_ok {bs : List Bool} : allF [.fl (bs.map .bl)] h = .ok (.bl (bs.all id)) h := by
  unfold allF boolsF
  show (match allS ((bs.map IV.bl).map asB) with
    | some ns => Ret.ok (IV.bl (ns.all id)) h
    | none => .bad) = _
  rw [allS_bls]
theorem e_itoT {k : Int} {xs : List IV} : fn_is_tuple_of [.int k, .tup xs] h = .ok (.bl (decide ((xs.length : Int) = k))) h := by
  unfold fn_is_tuple_of
  refine fn_eq (ρ := [some (.int k), some (.tup xs)]) rfl ?_
  unfold d_is_tuple_of
  have ei : isiF .tup (.tup xs) h = .ok (.bl true) h := isi_at (t := .tup) rfl
  simp only [sSeq, sAsg, sIf, sRet, sExp, dArg, dBin, dUn, dTst, dAndT, dOrT, dNotT, dIf, dAnd, dOr, dTup_eq, gateL_ok, gateT_ok, dFl, fLst_eq, fArg, aCons, aNil, dVar, dC, tgN, Sh.tg, Shs.tgs, tgT, tgsCons, tgsNil, Shs.len, bindO, List.getElem?_cons_zero, List.getElem?_cons_succ, List.set_cons_zero, List.set_cons_succ, List.length_cons, List.length_nil, List.map_cons, List.map_nil, List.cons_append, List.nil_append, List.replicate_succ, List.replicate_zero, Nat.reduceAdd, Nat.reduceSub, Nat.reduceEqDiff, if_true, Nat.reduceLeDiff, eqF_i, neF_i, addF_i, subF_i, gtF_i, ltF_i, ixF_seq, nox, wipeI, isN_non, isN_int, notN_non, notN_int, cond_true, cond_false, if_false, Bool.false_eq_true, ei, len_t]
theorem e_itoN {k : Int} {v : IV} {t : Ty} (et : tyN h v = some t) (ht : t.isi .tup = false) : fn_is_tuple_of [.int k, v] h = .ok (.bl false) h := by
  unfold fn_is_tuple_of
  refine fn_eq (ρ := [some (.int k), some v]) rfl ?_
  unfold d_is_tuple_of
  have ei := isi_at (T := .tup) et
  rw [ht] at ei
  simp only [sSeq, sAsg, sIf, sRet, sExp, dArg, dBin, dUn, dTst, dAndT, dOrT, dNotT, dIf, dAnd, dOr, dTup_eq, gateL_ok, gateT_ok, dFl, fLst_eq, fArg, aCons, aNil, dVar, dC, tgN, Sh.tg, Shs.tgs, tgT, tgsCons, tgsNil, Shs.len, bindO, List.getElem?_cons_zero, List.getElem?_cons_succ, List.set_cons_zero, List.set_cons_succ, List.length_cons, List.length_nil, List.map_cons, List.map_nil, List.cons_append, List.nil_append, List.replicate_succ, List.replicate_zero, Nat.reduceAdd, Nat.reduceSub, Nat.reduceEqDiff, if_true, Nat.reduceLeDiff, eqF_i, neF_i, addF_i, subF_i, gtF_i, ltF_i, ixF_seq, nox, wipeI, isN_non, isN_int, notN_non, notN_int, cond_true, cond_false, if_false, Bool.false_eq_true, ei]
theorem e_form (hl : rows.length ≤ 50) (hx : ∀ xs, v = IV.tup xs → Tys h xs) (hv : ∃ t, tyN h v = some t ∧ (t = .tup ↔ ∃ xs, v = .tup xs)) : fn__is_form [.tup (rows.map reqIV), v] h = .ok (.bl (formB rows v)) h := by
  obtain ⟨t, et, ht⟩ := hv
  have ei := isi_at (T := .tup) et
  unfold fn__is_form
  refine fn_eq (ρ := [some (.tup (rows.map reqIV)), some v, none]) rfl ?_
  unfold d__is_form
  by_cases hvt : ∃ xs, v = .tup xs
  · obtain ⟨xs, rfl⟩ := hvt
    have q : t = .tup := ht.mpr ⟨xs, rfl⟩
    subst q
    have q1 : Ty.isi .tup .tup = true := rfl
    rw [q1] at ei
    have tys := hx xs rfl
    have fb : formB rows (.tup xs) = (decide (xs.length = rows.length) && xs.all okI) := rfl
    rw [fb]
    by_cases hlen : xs.length = rows.length
    · have nl : decide (((xs.length : Nat) : Int) = (((rows.map reqIV).length : Nat) : Int)) = true := decide_eq_true (by rw [List.length_map]; omega)
      have A := lc_typed (t := tgN 2) (tt := dYes) (el := (dOr (dBin isNF (dVar 2) (dC .non)) (dArg fn_is_number (aCons (dVar 2) aNil)))) (ρ := [some (.tup (rows.map reqIV)), some (.tup xs), none]) (h := h) (emb := fun x : IV => x) (p := fun _ => true) (g := fun x => IV.bl (okI x)) xs 0 (by omega) fun x hx => by
        obtain ⟨t, e1, e2⟩ := tys x hx
        refine ⟨[some (.tup (rows.map reqIV)), some (.tup xs), some x], rfl, rfl, fun _ => ?_⟩
        have en := e_num e1 e2
        have nn := isN_of (h := h) x
        have oo : okI x = (nonI x || numI x) := rfl
        generalize fn_is_number = z at en ⊢
        rw [oo]
        cases hn : nonI x with
        | true =>
          rw [hn] at nn
          simp only [sSeq, sAsg, sIf, sRet, sExp, dArg, dBin, dUn, dTst, dAndT, dOrT, dNotT, dIf, dAnd, dOr, dTup_eq, gateL_ok, gateT_ok, dFl, fLst_eq, fArg, aCons, aNil, dVar, dC, tgN, Sh.tg, Shs.tgs, tgT, tgsCons, tgsNil, Shs.len, bindO, List.getElem?_cons_zero, List.getElem?_cons_succ, List.set_cons_zero, List.set_cons_succ, List.length_cons, List.length_nil, List.map_cons, List.map_nil, List.cons_append, List.nil_append, List.replicate_succ, List.replicate_zero, Nat.reduceAdd, Nat.reduceSub, Nat.reduceEqDiff, if_true, Nat.reduceLeDiff, eqF_i, neF_i, addF_i, subF_i, gtF_i, ltF_i, ixF_seq, nox, wipeI, isN_non, isN_int, notN_non, notN_int, cond_true, cond_false, if_false, Bool.false_eq_true, nn, Bool.true_or]
        | false =>
          rw [hn] at nn
          simp only [sSeq, sAsg, sIf, sRet, sExp, dArg, dBin, dUn, dTst, dAndT, dOrT, dNotT, dIf, dAnd, dOr, dTup_eq, gateL_ok, gateT_ok, dFl, fLst_eq, fArg, aCons, aNil, dVar, dC, tgN, Sh.tg, Shs.tgs, tgT, tgsCons, tgsNil, Shs.len, bindO, List.getElem?_cons_zero, List.getElem?_cons_succ, List.set_cons_zero, List.set_cons_succ, List.length_cons, List.length_nil, List.map_cons, List.map_nil, List.cons_append, List.nil_append, List.replicate_succ, List.replicate_zero, Nat.reduceAdd, Nat.reduceSub, Nat.reduceEqDiff, if_true, Nat.reduceLeDiff, eqF_i, neF_i, addF_i, subF_i, gtF_i, ltF_i, ixF_seq, nox, wipeI, isN_non, isN_int, notN_non, notN_int, cond_true, cond_false, if_false, Bool.false_eq_true, nn, en, Bool.false_or]
      have fl : xs.filter (fun _ => true) = xs := List.filter_eq_self.mpr fun _ _ => rfl
      have mm : xs.map (fun x => IV.bl (okI x)) = (xs.map okI).map IV.bl := by rw [List.map_map]; rfl
      rw [List.map_id', fl, mm] at A
      have ao := all_ok (h := h) (bs := xs.map okI)
      have ae : (xs.map okI).all id = xs.all okI := by rw [List.all_map]; rfl
      rw [ae] at ao
      rw [decide_eq_true hlen, Bool.true_and]
      have et' := e_itoT (h := h) (k := (((rows.map reqIV).length : Nat) : Int)) (xs := xs)
      rw [nl] at et'
      generalize fn_is_number = z at A ⊢
      generalize fn_is_tuple_of = y at et' ⊢
      simp only [sSeq, sAsg, sIf, sRet, sExp, dArg, dBin, dUn, dTst, dAndT, dOrT, dNotT, dIf, dAnd, dOr, dTup_eq, gateL_ok, gateT_ok, dFl, fLst_eq, fArg, aCons, aNil, dVar, dC, tgN, Sh.tg, Shs.tgs, tgT, tgsCons, tgsNil, Shs.len, bindO, List.getElem?_cons_zero, List.getElem?_cons_succ, List.set_cons_zero, List.set_cons_succ, List.length_cons, List.length_nil, List.map_cons, List.map_nil, List.cons_append, List.nil_append, List.replicate_succ, List.replicate_zero, Nat.reduceAdd, Nat.reduceSub, Nat.reduceEqDiff, if_true, Nat.reduceLeDiff, eqF_i, neF_i, addF_i, subF_i, gtF_i, ltF_i, ixF_seq, nox, wipeI, isN_non, isN_int, notN_non, notN_int, cond_true, cond_false, if_false, Bool.false_eq_true, et', dNotT, len_t, nl, Bool.not_true, Bool.not_false, sNx, fLc, wSeq, A, ao]
    · have nl : decide (((xs.length : Nat) : Int) = (((rows.map reqIV).length : Nat) : Int)) = false := decide_eq_false (by rw [List.length_map]; omega)
      rw [decide_eq_false hlen, Bool.false_and]
      have et' : fn_is_tuple_of [.int (((rows.map reqIV).length : Nat) : Int), .tup xs] h = .ok (.bl false) h := by
        rw [e_itoT, nl]
      generalize fn_is_tuple_of = y at et' ⊢
      simp only [sSeq, sAsg, sIf, sRet, sExp, dArg, dBin, dUn, dTst, dAndT, dOrT, dNotT, dIf, dAnd, dOr, dTup_eq, gateL_ok, gateT_ok, dFl, fLst_eq, fArg, aCons, aNil, dVar, dC, tgN, Sh.tg, Shs.tgs, tgT, tgsCons, tgsNil, Shs.len, bindO, List.getElem?_cons_zero, List.getElem?_cons_succ, List.set_cons_zero, List.set_cons_succ, List.length_cons, List.length_nil, List.map_cons, List.map_nil, List.cons_append, List.nil_append, List.replicate_succ, List.replicate_zero, Nat.reduceAdd, Nat.reduceSub, Nat.reduceEqDiff, if_true, Nat.reduceLeDiff, eqF_i, neF_i, addF_i, subF_i, gtF_i, ltF_i, ixF_seq, nox, wipeI, isN_non, isN_int, notN_non, notN_int, cond_true, cond_false, if_false, Bool.false_eq_true, et', dNotT, len_t, nl, Bool.not_true, Bool.not_false]
  · have q : t ≠ .tup := fun z => hvt (ht.mp z)
    have q1 : t.isi .tup = false := by
      cases t <;> first | rfl | (exact absurd rfl q)
    rw [q1] at ei
    have fx : formB rows v = false := by
      cases v with
      | tup xs => exact absurd ⟨xs, rfl⟩ hvt
      | _ => rfl
    rw [fx]
    have et' := e_itoN (h := h) (k := (((rows.map reqIV).length : Nat) : Int)) et q1
    generalize fn_is_tuple_of = y at et' ⊢
    simp only [sSeq, sAsg, sIf, sRet, sExp, dArg, dBin, dUn, dTst, dAndT, dOrT, dNotT, dIf, dAnd, dOr, dTup_eq, gateL_ok, gateT_ok, dFl, fLst_eq, fArg, aCons, aNil, dVar, dC, tgN, Sh.tg, Shs.tgs, tgT, tgsCons, tgsNil, Shs.len, bindO, List.getElem?_cons_zero, List.getElem?_cons_succ, List.set_cons_zero, List.set_cons_succ, List.length_cons, List.length_nil, List.map_cons, List.map_nil, List.cons_append, List.nil_append, List.replicate_succ, List.replicate_zero, Nat.reduceAdd, Nat.reduceSub, Nat.reduceEqDiff, if_true, Nat.reduceLeDiff, eqF_i, neF_i, addF_i, subF_i, gtF_i, ltF_i, ixF_seq, nox, wipeI, isN_non, isN_int, notN_non, notN_int, cond_true, cond_false, if_false, Bool.false_eq_true, et', len_t, dNotT, Bool.not_false]
def body1 : DenS := (sIf (dAndT (dTst (dBin notNF (dVar 4) (dC .non))) (dTst (dBin (inA true) (dVar 4) (dBin ixF (dVar 1) (dVar 3))))) (sRet (dTup (aCons (dC (.str "gift")) (aCons (dVar 3) aNil)))) sNx)
def tg34 : Tg := Sh.tg (.t (.cons (.n 3) (.cons (.n 4) .nil)))
def outS (o : Option IV) (ρ : Sl) (h : Mem) : Ret (Fl × Sl) := match o with
  | some v => .ok (.rt v, ρ) h
  | none => .ok (.nx, ρ) h
theorem get_mid {α : Type} {pre : List α} {x : α} {rest : List α} : (pre ++ x :: rest)[pre.length]? = some x := by
  rw [List.getElem?_append_right (Nat.le_refl _), Nat.sub_self]
  rfl
theorem loop1 (ho : xs.all okI = true) (hlen : xs.length = rows.length) : ∀ (rest pre : List IV) (a3 a4 : Option IV), xs = pre ++ rest → ∃ a3' a4', forV tg34 body1 (numd pre.length rest) [some Y, some (.tup (rows.map reqIV)), some v, a3, a4] h =
    outS (told "gift" ((List.range' pre.length rest.length).filter (viol1 rows xs))) [some Y, some (.tup (rows.map reqIV)), some v, a3', a4'] h
  | [], pre, a3, a4, _ => ⟨a3, a4, rfl⟩
  | x :: rest, pre, a3, a4, e => by
    have ey : xs[pre.length]? = some x := by rw [e]; exact get_mid
    have hr : pre.length < rows.length := by
      rw [← hlen, e, List.length_append, List.length_cons]
      omega
    have er : rows[pre.length]? = some rows[pre.length] := List.getElem?_eq_getElem hr
    have i2 : ixF (.tup (rows.map reqIV)) (.int (pre.length : Nat)) h = .ok (reqIV rows[pre.length]) h := ix_t (by rw [List.getElem?_map, er]; rfl)
    have nn := notN_of (h := h) x
    have oy := ok_at ho ey
    have st : body1 [some Y, some (.tup (rows.map reqIV)), some v, some (natIV pre.length), some x] h = if viol1 rows xs pre.length then .ok (.rt (.tup [.str "gift", natIV pre.length]), [some Y, some (.tup (rows.map reqIV)), some v, some (natIV pre.length), some x]) h else .ok (.nx, [some Y, some (.tup (rows.map reqIV)), some v, some (natIV pre.length), some x]) h := by
      unfold body1
      cases hn : nonI x with
      | true =>
        have v1 : viol1 rows xs pre.length = false := by
          unfold viol1
          rw [ey]
          cases x <;> first | rfl | cases hn
        rw [v1]
        rw [hn] at nn
        simp only [sSeq, sAsg, sIf, sRet, sExp, dArg, dBin, dUn, dTst, dAndT, dOrT, dNotT, dIf, dAnd, dOr, dTup_eq, gateL_ok, gateT_ok, dFl, fLst_eq, fArg, aCons, aNil, dVar, dC, tgN, Sh.tg, Shs.tgs, tgT, tgsCons, tgsNil, Shs.len, bindO, List.getElem?_cons_zero, List.getElem?_cons_succ, List.set_cons_zero, List.set_cons_succ, List.length_cons, List.length_nil, List.map_cons, List.map_nil, List.cons_append, List.nil_append, List.replicate_succ, List.replicate_zero, Nat.reduceAdd, Nat.reduceSub, Nat.reduceEqDiff, if_true, Nat.reduceLeDiff, eqF_i, neF_i, addF_i, subF_i, gtF_i, ltF_i, ixF_seq, nox, wipeI, isN_non, isN_int, notN_non, notN_int, cond_true, cond_false, if_false, Bool.false_eq_true, nn, Bool.not_true, sNx]
      | false =>
        obtain ⟨q, rfl⟩ := okI_int oy hn
        have v1 : viol1 rows xs pre.length = !((rows[pre.length].map natIV).any fun y => eqI y (.int (q : Nat))) := by
          unfold viol1
          rw [ey, er]
        rw [v1]
        rw [hn] at nn
        have iq := in_req (h := h) (i := ((q : Nat) : Int)) (hs := rows[pre.length])
        generalize (!((rows[pre.length].map natIV).any fun y => eqI y (.int (q : Nat)))) = b at iq
        cases b with
        | true => simp only [sSeq, sAsg, sIf, sRet, sExp, dArg, dBin, dUn, dTst, dAndT, dOrT, dNotT, dIf, dAnd, dOr, dTup_eq, gateL_ok, gateT_ok, dFl, fLst_eq, fArg, aCons, aNil, dVar, dC, tgN, Sh.tg, Shs.tgs, tgT, tgsCons, tgsNil, Shs.len, bindO, List.getElem?_cons_zero, List.getElem?_cons_succ, List.set_cons_zero, List.set_cons_succ, List.length_cons, List.length_nil, List.map_cons, List.map_nil, List.cons_append, List.nil_append, List.replicate_succ, List.replicate_zero, Nat.reduceAdd, Nat.reduceSub, Nat.reduceEqDiff, if_true, Nat.reduceLeDiff, eqF_i, neF_i, addF_i, subF_i, gtF_i, ltF_i, ixF_seq, nox, wipeI, isN_non, isN_int, notN_non, notN_int, cond_true, cond_false, if_false, Bool.false_eq_true, natIV, nn, Bool.not_false, i2, iq]
        | false => simp only [sSeq, sAsg, sIf, sRet, sExp, dArg, dBin, dUn, dTst, dAndT, dOrT, dNotT, dIf, dAnd, dOr, dTup_eq, gateL_ok, gateT_ok, dFl, fLst_eq, fArg, aCons, aNil, dVar, dC, tgN, Sh.tg, Shs.tgs, tgT, tgsCons, tgsNil, Shs.len, bindO, List.getElem?_cons_zero, List.getElem?_cons_succ, List.set_cons_zero, List.set_cons_succ, List.length_cons, List.length_nil, List.map_cons, List.map_nil, List.cons_append, List.nil_append, List.replicate_succ, List.replicate_zero, Nat.reduceAdd, Nat.reduceSub, Nat.reduceEqDiff, if_true, Nat.reduceLeDiff, eqF_i, neF_i, addF_i, subF_i, gtF_i, ltF_i, ixF_seq, nox, wipeI, isN_non, isN_int, notN_non, notN_int, cond_true, cond_false, if_false, Bool.false_eq_true, natIV, nn, Bool.not_false, i2, iq, sNx]
    have go : forV tg34 body1 (numd pre.length (x :: rest)) [some Y, some (.tup (rows.map reqIV)), some v, a3, a4] h = (body1 [some Y, some (.tup (rows.map reqIV)), some v, some (natIV pre.length), some x] h).bind fun r h1 => match r.1 with
        | .nx => forV tg34 body1 (numd (pre.length + 1) rest) r.2 h1
        | .ct => forV tg34 body1 (numd (pre.length + 1) rest) r.2 h1
        | .bk => .ok (.nx, r.2) h1
        | .rt w => .ok (.rt w, r.2) h1 := rfl
    rw [go, st, List.length_cons, List.range'_succ]
    cases hv : viol1 rows xs pre.length with
    | true =>
      rw [List.filter_cons_of_pos hv]
      exact ⟨_, _, rfl⟩
    | false =>
      rw [List.filter_cons_of_neg (by rw [hv]; exact Bool.false_ne_true)]
      obtain ⟨b3, b4, eb⟩ := loop1 ho hlen rest (pre ++ [x]) (some (natIV pre.length)) (some x) (by rw [e, List.append_assoc]; rfl)
      rw [List.length_append] at eb
      exact ⟨b3, b4, eb⟩
def body2 : DenS := (sSeq (sIf (dTst (dBin isNF (dVar 4) (dC .non))) sCt sNx)
    (sSeq (sIf (dTst (dBin eqF (dBin ixF (dVar 2) (dVar 4)) (dBin ixF (dVar 0) (dC (.int 0))))) (sRet (dTup (aCons (dC (.str "room")) (aCons (dVar 3) aNil)))) sNx)
    (sAugL (dVar 2) (dVar 4) (dC (.int 1)) addI)))
structure Lds (n c : Nat) (pre : List IV) (ls : List Nat) : Prop where
  ll : ls.length = n
  cn : ∀ j, j < n → ls[j]? = some (cntI pre (j : Nat))
  le : ∀ j : Nat, cntI pre (j : Nat) ≤ c
theorem cnt_snoc {pre : List IV} {x : IV} {i : Int} : cntI (pre ++ [x]) i = cntI pre i + if eqI x (.int i) then 1 else 0 := by
  unfold cntI
  rw [List.countP_append, List.countP_cons, List.countP_nil, Nat.zero_add]
theorem eqI_nat {a b : Nat} : eqI (.int (a : Nat)) (.int (b : Nat)) = decide (a = b) := by
  show (((a : Nat) : Int) == ((b : Nat) : Int)) = _
  by_cases e : a = b
  · subst e
    simp
  · rw [decide_eq_false e]
    exact beq_eq_false_iff_ne.mpr fun z => e (by omega)
theorem loop2 (ho : xs.all okI = true) (hlen : xs.length = rows.length) (hr : ∀ r ∈ rows, RqOk n r) (h1 : ∀ r, r < rows.length → viol1 rows xs r = false) : ∀ (rest pre : List IV) (ls : List Nat) (a3 a4 : Option IV), xs = pre ++ rest → Lds n c pre ls → ∃ (a3' a4' : Option IV) (ls' : List Nat), forV tg34 body2 (numd pre.length rest) [some (yardIV c ws), some v, some (.loc h.length), a3, a4] (h ++ [.lst (ls.map natIV)]) =
    outS (told "room" ((List.range' pre.length rest.length).filter (viol2 c xs))) [some (yardIV c ws), some v, some (.loc h.length), a3', a4'] (h ++ [.lst (ls'.map natIV)])
  | [], pre, ls, a3, a4, _, _ => ⟨a3, a4, ls, rfl⟩
  | x :: rest, pre, ls, a3, a4, e, L => by
    have ey : xs[pre.length]? = some x := by rw [e]; exact get_mid
    have hrl : pre.length < rows.length := by
      rw [← hlen, e, List.length_append, List.length_cons]
      omega
    have er : rows[pre.length]? = some rows[pre.length] := List.getElem?_eq_getElem hrl
    have tk : xs.take pre.length = pre := by rw [e, List.take_left]
    have nn := isN_of (h := h ++ [.lst (ls.map natIV)]) x
    have oy := ok_at ho ey
    have go : forV tg34 body2 (numd pre.length (x :: rest)) [some (yardIV c ws), some v, some (.loc h.length), a3, a4] (h ++ [.lst (ls.map natIV)]) = (body2 [some (yardIV c ws), some v, some (.loc h.length), some (natIV pre.length), some x] (h ++ [.lst (ls.map natIV)])).bind fun r h1 => match r.1 with
        | .nx => forV tg34 body2 (numd (pre.length + 1) rest) r.2 h1
        | .ct => forV tg34 body2 (numd (pre.length + 1) rest) r.2 h1
        | .bk => .ok (.nx, r.2) h1
        | .rt w => .ok (.rt w, r.2) h1 := rfl
    rw [go, List.length_cons, List.range'_succ]
    cases hn : nonI x with
    | true =>
      have v2 : viol2 c xs pre.length = false := by
        unfold viol2
        rw [ey]
        cases x <;> first | rfl | cases hn
      rw [hn] at nn
      have st : body2 [some (yardIV c ws), some v, some (.loc h.length), some (natIV pre.length), some x] (h ++ [.lst (ls.map natIV)]) = .ok (.ct, [some (yardIV c ws), some v, some (.loc h.length), some (natIV pre.length), some x]) (h ++ [.lst (ls.map natIV)]) := by
        unfold body2
        simp only [sSeq, sAsg, sIf, sRet, sExp, dArg, dBin, dUn, dTst, dAndT, dOrT, dNotT, dIf, dAnd, dOr, dTup_eq, gateL_ok, gateT_ok, dFl, fLst_eq, fArg, aCons, aNil, dVar, dC, tgN, Sh.tg, Shs.tgs, tgT, tgsCons, tgsNil, Shs.len, bindO, List.getElem?_cons_zero, List.getElem?_cons_succ, List.set_cons_zero, List.set_cons_succ, List.length_cons, List.length_nil, List.map_cons, List.map_nil, List.cons_append, List.nil_append, List.replicate_succ, List.replicate_zero, Nat.reduceAdd, Nat.reduceSub, Nat.reduceEqDiff, if_true, Nat.reduceLeDiff, eqF_i, neF_i, addF_i, subF_i, gtF_i, ltF_i, ixF_seq, nox, wipeI, isN_non, isN_int, notN_non, notN_int, cond_true, cond_false, if_false, Bool.false_eq_true, nn, sCt]
      have L2 : Lds n c (pre ++ [x]) ls := by
        have z : ∀ i, cntI (pre ++ [x]) i = cntI pre i := fun i => by
          rw [cnt_snoc]
          cases x <;> first | rfl | cases hn
        exact ⟨L.ll, fun j hj => by rw [z]; exact L.cn j hj, fun j => by rw [z]; exact L.le j⟩
      rw [st, List.filter_cons_of_neg (by rw [v2]; exact Bool.false_ne_true)]
      obtain ⟨b3, b4, ls', eb⟩ := loop2 ho hlen hr h1 rest (pre ++ [x]) ls (some (natIV pre.length)) (some x) (by rw [e, List.append_assoc]; rfl) L2
      rw [List.length_append] at eb
      exact ⟨b3, b4, ls', eb⟩
    | false =>
      obtain ⟨q, rfl⟩ := okI_int oy hn
      rw [hn] at nn
      have hqn : q < n := by
        have z := h1 pre.length hrl
        unfold viol1 at z
        rw [ey, er] at z
        have z2 : ((rows[pre.length].map natIV).any fun y => eqI y (.int (q : Nat))) = true := by simpa using z
        obtain ⟨y, hy, he⟩ := List.any_eq_true.mp z2
        obtain ⟨k, hk, rfl⟩ := List.mem_map.mp hy
        have he' : eqI (.int ((k : Nat) : Int)) (.int ((q : Nat) : Int)) = true := he
        rw [eqI_nat, decide_eq_true_eq] at he'
        subst he'
        exact (hr _ (List.getElem_mem hrl)).2 k hk
      have hls := L.cn q hqn
      have v2 : viol2 c xs pre.length = decide (c ≤ cntI pre (q : Nat)) := by
        unfold viol2
        rw [ey, tk]
      have le := L.le q
      have ix : ixF (.loc h.length) (.int (q : Nat)) (h ++ [.lst (ls.map natIV)]) = .ok (.int (cntI pre (q : Nat) : Nat)) (h ++ [.lst (ls.map natIV)]) := ix_seq' (xs := ls.map natIV) end_seq (by rw [List.getElem?_map, hls]; rfl)
      have iy : ixF (yardIV c ws) (.int 0) (h ++ [.lst (ls.map natIV)]) = .ok (.int (c : Nat)) (h ++ [.lst (ls.map natIV)]) := id rfl
      by_cases hc : cntI pre (q : Nat) = c
      · have dd : decide (((cntI pre (q : Nat) : Nat) : Int) = ((c : Nat) : Int)) = true := decide_eq_true (by omega)
        have v3 : viol2 c xs pre.length = true := by rw [v2]; exact decide_eq_true (by omega)
        have st : body2 [some (yardIV c ws), some v, some (.loc h.length), some (natIV pre.length), some (.int (q : Nat))] (h ++ [.lst (ls.map natIV)]) = .ok (.rt (.tup [.str "room", natIV pre.length]), [some (yardIV c ws), some v, some (.loc h.length), some (natIV pre.length), some (.int (q : Nat))]) (h ++ [.lst (ls.map natIV)]) := by
          unfold body2
          simp only [sSeq, sAsg, sIf, sRet, sExp, dArg, dBin, dUn, dTst, dAndT, dOrT, dNotT, dIf, dAnd, dOr, dTup_eq, gateL_ok, gateT_ok, dFl, fLst_eq, fArg, aCons, aNil, dVar, dC, tgN, Sh.tg, Shs.tgs, tgT, tgsCons, tgsNil, Shs.len, bindO, List.getElem?_cons_zero, List.getElem?_cons_succ, List.set_cons_zero, List.set_cons_succ, List.length_cons, List.length_nil, List.map_cons, List.map_nil, List.cons_append, List.nil_append, List.replicate_succ, List.replicate_zero, Nat.reduceAdd, Nat.reduceSub, Nat.reduceEqDiff, if_true, Nat.reduceLeDiff, eqF_i, neF_i, addF_i, subF_i, gtF_i, ltF_i, ixF_seq, nox, wipeI, isN_non, isN_int, notN_non, notN_int, cond_true, cond_false, if_false, Bool.false_eq_true, nn, sNx, ix, iy, dd]
        rw [st, List.filter_cons_of_pos v3]
        exact ⟨_, _, ls, rfl⟩
      · have dd : decide (((cntI pre (q : Nat) : Nat) : Int) = ((c : Nat) : Int)) = false := decide_eq_false (by omega)
        have v3 : viol2 c xs pre.length = false := by rw [v2]; exact decide_eq_false (by omega)
        have gt := end_get (h := h) (ls := ls) hls
        have pt := end_put (h := h) (ls := ls) (q := q) (l := cntI pre (q : Nat) + 1) (by rw [L.ll]; exact hqn)
        have ca : ((cntI pre (q : Nat) + 1 : Nat) : Int) = (cntI pre (q : Nat) : Nat) + 1 := by omega
        rw [ca] at pt
        have ad : ∀ i j h, addI (.int i) (.int j) h = .ok (.int (i + j)) h := fun _ _ _ => id rfl
        have st : body2 [some (yardIV c ws), some v, some (.loc h.length), some (natIV pre.length), some (.int (q : Nat))] (h ++ [.lst (ls.map natIV)]) = .ok (.nx, [some (yardIV c ws), some v, some (.loc h.length), some (natIV pre.length), some (.int (q : Nat))]) (h ++ [.lst ((ls.set q (cntI pre (q : Nat) + 1)).map natIV)]) := by
          unfold body2
          simp only [sSeq, sAsg, sIf, sRet, sExp, dArg, dBin, dUn, dTst, dAndT, dOrT, dNotT, dIf, dAnd, dOr, dTup_eq, gateL_ok, gateT_ok, dFl, fLst_eq, fArg, aCons, aNil, dVar, dC, tgN, Sh.tg, Shs.tgs, tgT, tgsCons, tgsNil, Shs.len, bindO, List.getElem?_cons_zero, List.getElem?_cons_succ, List.set_cons_zero, List.set_cons_succ, List.length_cons, List.length_nil, List.map_cons, List.map_nil, List.cons_append, List.nil_append, List.replicate_succ, List.replicate_zero, Nat.reduceAdd, Nat.reduceSub, Nat.reduceEqDiff, if_true, Nat.reduceLeDiff, eqF_i, neF_i, addF_i, subF_i, gtF_i, ltF_i, ixF_seq, nox, wipeI, isN_non, isN_int, notN_non, notN_int, cond_true, cond_false, if_false, Bool.false_eq_true, nn, sNx, ix, iy, dd, sAugL, gt, ad, pt]
        have L2 : Lds n c (pre ++ [.int (q : Nat)]) (ls.set q (cntI pre (q : Nat) + 1)) := by
          have z : ∀ j : Nat, cntI (pre ++ [.int (q : Nat)]) (j : Nat) = cntI pre (j : Nat) + if q = j then 1 else 0 := fun j => by
            rw [cnt_snoc, eqI_nat]
            by_cases hj : q = j
            · rw [decide_eq_true hj, if_pos rfl, if_pos hj]
            · rw [decide_eq_false hj, if_neg Bool.false_ne_true, if_neg hj]
          refine ⟨by rw [List.length_set]; exact L.ll, fun j hj => ?_, fun j => ?_⟩
          · rw [z]
            by_cases hjq : q = j
            · subst hjq
              rw [if_pos rfl, List.getElem?_set_self (by rw [L.ll]; exact hj)]
            · rw [if_neg hjq, List.getElem?_set_ne hjq]
              exact L.cn j hj
          · rw [z]
            have := L.le j
            by_cases hjq : q = j
            · subst hjq
              rw [if_pos rfl]
              omega
            · rw [if_neg hjq]
              exact this
        rw [st, List.filter_cons_of_neg (by rw [v3]; exact Bool.false_ne_true)]
        obtain ⟨b3, b4, ls', eb⟩ := loop2 ho hlen hr h1 rest (pre ++ [.int (q : Nat)]) (ls.set q (cntI pre (q : Nat) + 1)) (some (natIV pre.length)) (some (.int (q : Nat))) (by rw [e, List.append_assoc]; rfl) L2
        rw [List.length_append] at eb
        exact ⟨b3, b4, ls', eb⟩
end
end Vi_k11
end

section
namespace Vi_k11
open PySem PySem.Spec PyProof.Rows L2 VI
section
variable {h : Mem} {c n : Nat} {ws : List Int} {v : IV} {rows : List (List Nat)} {xs : List IV} {Y : IV}
def orNon : Option IV → IV
  | some v => v
  | none => .non
theorem e_room (hw : ws.length = n) (hn : n ≤ 1000) (ho : xs.all okI = true) (hlen : xs.length = rows.length) (hr : ∀ r ∈ rows, RqOk n r) (h1 : ∀ r, r < rows.length → viol1 rows xs r = false) : ∃ ls : List Nat, fn__room_fault [yardIV c ws, .tup xs] h = .ok (orNon (told "room" ((List.range rows.length).filter (viol2 c xs)))) (h ++ [.lst (ls.map natIV)]) := by
  have L0 : Lds n c [] (List.replicate n 0) := ⟨by rw [List.length_replicate], fun j hj => by rw [List.getElem?_replicate, if_pos hj]; rfl, fun j => Nat.zero_le _⟩
  obtain ⟨b3, b4, ls', eb⟩ := loop2 (h := h) (c := c) (ws := ws) (v := .tup xs) ho hlen hr h1 xs [] (List.replicate n 0) none none rfl L0
  refine ⟨ls', ?_⟩
  have rp : fRep (dFl (fLst (aCons (dC (.int 0)) aNil))) (dArg lenF (aCons (dBin ixF (dVar 0) (dC (.int 1))) aNil)) [some (yardIV c ws), some (.tup xs), none, none, none] h = .ok ((List.replicate n 0).map natIV) h := by
    have ix : ixF (yardIV c ws) (.int 1) h = .ok (.tup (ws.map .int)) h := id rfl
    have ln : lenF [.tup (ws.map .int)] h = .ok (.int (n : Nat)) h := by
      rw [len_t, List.length_map, hw]
    have c1 : (decide (-9223372036854775808 ≤ ((n : Nat) : Int)) && decide (((n : Nat) : Int) < 9223372036854775808) && decide ((([.int 0] : List IV).length * ((n : Nat) : Int).toNat ≤ sizeLine))) = true := by
      rw [Bool.and_eq_true, Bool.and_eq_true, decide_eq_true_eq, decide_eq_true_eq, decide_eq_true_eq]
      refine ⟨⟨by omega, by omega⟩, sl_le ?_⟩
      show 1 * ((n : Nat) : Int).toNat ≤ 100000
      omega
    have fl : (List.replicate ((n : Nat) : Int).toNat [IV.int 0]).flatten = (List.replicate n 0).map natIV := by
      rw [Int.toNat_natCast, List.map_replicate]
      clear eb c1 ln hw hn L0 hr h1
      induction n with
      | zero => rfl
      | succ n ih => rw [List.replicate_succ, List.flatten_cons, ih]; rfl
    unfold fRep
    simp only [sSeq, sAsg, sIf, sRet, sExp, dArg, dBin, dUn, dTst, dAndT, dOrT, dNotT, dIf, dAnd, dOr, dTup_eq, gateL_ok, gateT_ok, dFl, fLst_eq, fArg, aCons, aNil, dVar, dC, tgN, Sh.tg, Shs.tgs, tgT, tgsCons, tgsNil, Shs.len, bindO, List.getElem?_cons_zero, List.getElem?_cons_succ, List.set_cons_zero, List.set_cons_succ, List.length_cons, List.length_nil, List.map_cons, List.map_nil, List.cons_append, List.nil_append, List.replicate_succ, List.replicate_zero, Nat.reduceAdd, Nat.reduceSub, Nat.reduceEqDiff, if_true, Nat.reduceLeDiff, eqF_i, neF_i, addF_i, subF_i, gtF_i, ltF_i, ixF_seq, nox, wipeI, isN_non, isN_int, notN_non, notN_int, cond_true, cond_false, if_false, Bool.false_eq_true, ix, ln, lstOf]
    generalize ((n : Nat) : Int) = j at c1 fl
    show (bif _ then Ret.ok _ h else .bad) = _
    simp only [List.length_cons, List.length_nil] at c1
    rw [c1, cond_true, fl]
  have un : d__room_fault = sSeq (sAsg (tgN 2) (dAl (fRep (dFl (fLst (aCons (dC (.int 0)) aNil))) (dArg lenF (aCons (dBin ixF (dVar 0) (dC (.int 1))) aNil))))) (sSeq (sFor (wEnum (aCons (dVar 1) aNil)) tg34 body2) (sRet (dC .non))) := rfl
  have er : List.range' ([] : List IV).length xs.length = List.range rows.length := by
    rw [hlen, List.range_eq_range']
    rfl
  rw [er] at eb
  unfold fn__room_fault
  have dn : ∀ (r : Ret (Fl × Sl)) (b : DenS), r = r := fun _ _ => rfl
  generalize told "room" ((List.range rows.length).filter (viol2 c xs)) = o at eb
  have fin : d__room_fault [some (yardIV c ws), some (.tup xs), none, none, none] h = .ok (.rt (orNon o), [some (yardIV c ws), some (.tup xs), some (.loc h.length), b3, b4]) (h ++ [.lst (ls'.map natIV)]) := by
    rw [un]
    generalize fRep (dFl (fLst (aCons (dC (.int 0)) aNil))) (dArg lenF (aCons (dBin ixF (dVar 0) (dC (.int 1))) aNil)) = rpp at rp ⊢
    have eb' : forV tg34 body2 (numd 0 xs) [some (yardIV c ws), some (.tup xs), some (.loc h.length), none, none] (h ++ [.lst ((List.replicate n 0).map natIV)]) = _ := eb
    generalize body2 = bb at eb' ⊢
    generalize tg34 = tt at eb' ⊢
    cases o with
    | some w => simp only [sSeq, sAsg, sIf, sRet, sExp, dArg, dBin, dUn, dTst, dAndT, dOrT, dNotT, dIf, dAnd, dOr, dTup_eq, gateL_ok, gateT_ok, dFl, fLst_eq, fArg, aCons, aNil, dVar, dC, tgN, Sh.tg, Shs.tgs, tgT, tgsCons, tgsNil, Shs.len, bindO, List.getElem?_cons_zero, List.getElem?_cons_succ, List.set_cons_zero, List.set_cons_succ, List.length_cons, List.length_nil, List.map_cons, List.map_nil, List.cons_append, List.nil_append, List.replicate_succ, List.replicate_zero, Nat.reduceAdd, Nat.reduceSub, Nat.reduceEqDiff, if_true, Nat.reduceLeDiff, eqF_i, neF_i, addF_i, subF_i, gtF_i, ltF_i, ixF_seq, nox, wipeI, isN_non, isN_int, notN_non, notN_int, cond_true, cond_false, if_false, Bool.false_eq_true, dAl, rp, sFor, wEnum, eb', outS, orNon]
    | none => simp only [sSeq, sAsg, sIf, sRet, sExp, dArg, dBin, dUn, dTst, dAndT, dOrT, dNotT, dIf, dAnd, dOr, dTup_eq, gateL_ok, gateT_ok, dFl, fLst_eq, fArg, aCons, aNil, dVar, dC, tgN, Sh.tg, Shs.tgs, tgT, tgsCons, tgsNil, Shs.len, bindO, List.getElem?_cons_zero, List.getElem?_cons_succ, List.set_cons_zero, List.set_cons_succ, List.length_cons, List.length_nil, List.map_cons, List.map_nil, List.cons_append, List.nil_append, List.replicate_succ, List.replicate_zero, Nat.reduceAdd, Nat.reduceSub, Nat.reduceEqDiff, if_true, Nat.reduceLeDiff, eqF_i, neF_i, addF_i, subF_i, gtF_i, ltF_i, ixF_seq, nox, wipeI, isN_non, isN_int, notN_non, notN_int, cond_true, cond_false, if_false, Bool.false_eq_true, dAl, rp, sFor, wEnum, eb', outS, orNon]
  exact fn_eq (ρ := [some (yardIV c ws), some (.tup xs), some (.loc h.length), b3, b4]) rfl fin
theorem filter_none {p : Nat → Bool} {m : Nat} (e : (List.range m).filter p = []) : ∀ r, r < m → p r = false := fun r hr => by
  have := List.filter_eq_nil_iff.mp e r (List.mem_range.mpr hr)
  simpa using this
theorem e_prog (hw : ws.length = n) (hn : n ≤ 1000) (hl : rows.length ≤ 50) (hr : ∀ r ∈ rows, RqOk n r) (hx : ∀ xs, v = IV.tup xs → Tys h xs) (hv : ∃ t, tyN h v = some t ∧ (t = .tup ↔ ∃ xs, v = .tup xs)) : ∃ ext : Mem, fn_gifts_fault [yardIV c ws, .tup (rows.map reqIV), v] h = .ok (faultI c rows v) (h ++ ext) := by
  have ef := e_form (h := h) (rows := rows) hl hx hv
  have un : d_gifts_fault = sSeq (sIf (dNotT (dTst (dArg fn__is_form (aCons (dVar 1) (aCons (dVar 2) aNil))))) (sRet (dTup (aCons (dC (.str "form")) aNil))) sNx) (sSeq (sFor (wEnum (aCons (dVar 2) aNil)) tg34 body1) (sRet (dArg fn__room_fault (aCons (dVar 0) (aCons (dVar 2) aNil))))) := rfl
  cases hf : formB rows v with
  | false =>
    rw [hf] at ef
    have ff : faultI c rows v = formI := by
      cases v with
      | tup xs =>
        have : (decide (xs.length = rows.length) && xs.all okI) = false := hf
        show (if xs.length = rows.length then (if xs.all okI then placesI c rows xs else formI) else formI) = formI
        by_cases e1 : xs.length = rows.length
        · rw [if_pos e1]
          rw [decide_eq_true e1, Bool.true_and] at this
          rw [this]
          rfl
        · rw [if_neg e1]
      | _ => rfl
    refine ⟨[], ?_⟩
    rw [ff, List.append_nil]
    unfold fn_gifts_fault
    refine fn_eq (ρ := [some (yardIV c ws), some (.tup (rows.map reqIV)), some v, none, none]) rfl ?_
    rw [un]
    generalize fn__is_form = z1 at ef ⊢
    generalize fn__room_fault = z2
    generalize body1 = bb
    simp only [sSeq, sAsg, sIf, sRet, sExp, dArg, dBin, dUn, dTst, dAndT, dOrT, dNotT, dIf, dAnd, dOr, dTup_eq, gateL_ok, gateT_ok, dFl, fLst_eq, fArg, aCons, aNil, dVar, dC, tgN, Sh.tg, Shs.tgs, tgT, tgsCons, tgsNil, Shs.len, bindO, List.getElem?_cons_zero, List.getElem?_cons_succ, List.set_cons_zero, List.set_cons_succ, List.length_cons, List.length_nil, List.map_cons, List.map_nil, List.cons_append, List.nil_append, List.replicate_succ, List.replicate_zero, Nat.reduceAdd, Nat.reduceSub, Nat.reduceEqDiff, if_true, Nat.reduceLeDiff, eqF_i, neF_i, addF_i, subF_i, gtF_i, ltF_i, ixF_seq, nox, wipeI, isN_non, isN_int, notN_non, notN_int, cond_true, cond_false, if_false, Bool.false_eq_true, ef, dNotT, Bool.not_false]
    rfl
  | true =>
    obtain ⟨xs, rfl⟩ : ∃ xs, v = .tup xs := by
      cases v with
      | tup xs => exact ⟨xs, rfl⟩
      | _ => cases hf
    have hf2 : (decide (xs.length = rows.length) && xs.all okI) = true := hf
    rw [Bool.and_eq_true, decide_eq_true_eq] at hf2
    obtain ⟨hlen, ho⟩ := hf2
    rw [hf] at ef
    have ff : faultI c rows (.tup xs) = placesI c rows xs := by
      show (if xs.length = rows.length then (if xs.all okI then placesI c rows xs else formI) else formI) = _
      rw [if_pos hlen, if_pos ho]
    rw [ff]
    obtain ⟨b3, b4, e1⟩ := loop1 (h := h) (Y := yardIV c ws) (v := .tup xs) ho hlen xs [] none none rfl
    have er : List.range' ([] : List IV).length xs.length = List.range rows.length := by
      rw [hlen, List.range_eq_range']
      rfl
    rw [er] at e1
    have e1' : forV tg34 body1 (numd 0 xs) [some (yardIV c ws), some (.tup (rows.map reqIV)), some (.tup xs), none, none] h = _ := e1
    rcases told_fl (w := "gift") (ps := (List.range rows.length).filter (viol1 rows xs)) with ⟨v, f1, _, _⟩ | ⟨f1, f2⟩
    · have pl : placesI c rows xs = v := by
        unfold placesI
        rw [f1]
      rw [pl]
      rw [f1] at e1'
      refine ⟨[], ?_⟩
      rw [List.append_nil]
      unfold fn_gifts_fault
      refine fn_eq (ρ := [some (yardIV c ws), some (.tup (rows.map reqIV)), some (.tup xs), b3, b4]) rfl ?_
      rw [un]
      generalize fn__is_form = z1 at ef ⊢
      generalize fn__room_fault = z2
      generalize body1 = bb at e1' ⊢
      generalize tg34 = tt at e1' ⊢
      simp only [sSeq, sAsg, sIf, sRet, sExp, dArg, dBin, dUn, dTst, dAndT, dOrT, dNotT, dIf, dAnd, dOr, dTup_eq, gateL_ok, gateT_ok, dFl, fLst_eq, fArg, aCons, aNil, dVar, dC, tgN, Sh.tg, Shs.tgs, tgT, tgsCons, tgsNil, Shs.len, bindO, List.getElem?_cons_zero, List.getElem?_cons_succ, List.set_cons_zero, List.set_cons_succ, List.length_cons, List.length_nil, List.map_cons, List.map_nil, List.cons_append, List.nil_append, List.replicate_succ, List.replicate_zero, Nat.reduceAdd, Nat.reduceSub, Nat.reduceEqDiff, if_true, Nat.reduceLeDiff, eqF_i, neF_i, addF_i, subF_i, gtF_i, ltF_i, ixF_seq, nox, wipeI, isN_non, isN_int, notN_non, notN_int, cond_true, cond_false, if_false, Bool.false_eq_true, ef, dNotT, Bool.not_true, sNx, sFor, wEnum, e1', outS]
    · have pl : placesI c rows xs = orNon (told "room" ((List.range rows.length).filter (viol2 c xs))) := by
        unfold placesI
        rw [f1]
        rfl
      rw [pl]
      rw [f1] at e1'
      obtain ⟨ls, e2⟩ := e_room (h := h) (c := c) hw hn ho hlen hr (filter_none f2)
      refine ⟨[.lst (ls.map natIV)], ?_⟩
      generalize orNon (told "room" ((List.range rows.length).filter (viol2 c xs))) = res at e2 ⊢
      unfold fn_gifts_fault
      refine fn_eq (ρ := [some (yardIV c ws), some (.tup (rows.map reqIV)), some (.tup xs), b3, b4]) rfl ?_
      rw [un]
      generalize fn__is_form = z1 at ef ⊢
      generalize fn__room_fault = z2 at e2 ⊢
      generalize body1 = bb at e1' ⊢
      generalize tg34 = tt at e1' ⊢
      simp only [sSeq, sAsg, sIf, sRet, sExp, dArg, dBin, dUn, dTst, dAndT, dOrT, dNotT, dIf, dAnd, dOr, dTup_eq, gateL_ok, gateT_ok, dFl, fLst_eq, fArg, aCons, aNil, dVar, dC, tgN, Sh.tg, Shs.tgs, tgT, tgsCons, tgsNil, Shs.len, bindO, List.getElem?_cons_zero, List.getElem?_cons_succ, List.set_cons_zero, List.set_cons_succ, List.length_cons, List.length_nil, List.map_cons, List.map_nil, List.cons_append, List.nil_append, List.replicate_succ, List.replicate_zero, Nat.reduceAdd, Nat.reduceSub, Nat.reduceEqDiff, if_true, Nat.reduceLeDiff, eqF_i, neF_i, addF_i, subF_i, gtF_i, ltF_i, ixF_seq, nox, wipeI, isN_non, isN_int, notN_non, notN_int, cond_true, cond_false, if_false, Bool.false_eq_true, ef, dNotT, Bool.not_true, sNx, sFor, wEnum, e1', outS, e2]
end
end Vi_k11
end

section
namespace Vi_k11
open PySem PySem.Spec PyProof.Rows L2 VI
section
variable {c n : Nat} {ws : List Int} {rows : List (List Nat)} {xs : List IV} {s : Src} {R : Mem}
def odds (R : Mem) (n : Nat) : List IV := [.non, .bl true, .bl false, .int (-1), .int 0, .int 1, .int (10 ^ 30), .str "0", .tup [], .fl [], .loc (R.length + 2), .tup [.int 0], .int (n : Nat)]
theorem odds_Fv (hn : n ≤ 1000) : ∀ v ∈ odds R n, Fv (R ++ [.dK []]) v := by
  intro v hv
  have e : (R ++ [IO.dK []])[R.length]? = some (.dK []) := by
    rw [List.getElem?_append_right (Nat.le_refl _), Nat.sub_self]
    rfl
  simp only [odds, List.mem_cons, List.not_mem_nil, or_false] at hv
  rcases hv with h | h | h | h | h | h | h | h | h | h | h | h | h
  · rw [h]; exact .non
  · rw [h]; exact .bl _
  · rw [h]; exact .bl _
  · rw [h]; exact .int _ (by rw [big31]; decide)
  · rw [h]; exact .int _ (by rw [big31]; decide)
  · rw [h]; exact .int _ (by rw [big31]; decide)
  · rw [h]; exact .int _ (by decide)
  · rw [h]; exact .str0
  · rw [h]; exact .t0
  · rw [h]; exact .l0
  · rw [h]; exact .dct _ e
  · rw [h]; exact .t1
  · rw [h]; exact .int _ (by rw [big31]; omega)
theorem mem_cut {l u : Option Int} {y : IV} (h : y ∈ cutI xs l u) : y ∈ xs := List.mem_of_mem_drop (List.mem_of_mem_take h)
theorem len_cut {l u : Option Int} : (cutI xs l u).length ≤ xs.length := by
  unfold cutI
  rw [List.length_take, List.length_drop]
  omega
theorem add_tup {xs ys : List IV} {h : Mem} (hl : xs.length + ys.length ≤ 100000) : addF (.tup xs) (.tup ys) h = .ok (.tup (xs ++ ys)) h := by
  show (bif decide (xs.length + ys.length ≤ sizeLine) then Ret.ok (IV.tup (xs ++ ys)) h else .bad) = _
  rw [decide_eq_true (sl_le hl)]
  rfl
theorem add_fl {xs ys : List IV} {h : Mem} (hl : xs.length + ys.length ≤ 100000) : addF (.fl xs) (.fl ys) h = .ok (.fl (xs ++ ys)) h := by
  show (bif decide (xs.length + ys.length ≤ sizeLine) then Ret.ok (IV.fl (xs ++ ys)) h else .bad) = _
  rw [decide_eq_true (sl_le hl)]
  rfl
theorem cut_tup {xs : List IV} {l u : Option Int} {h : Mem} : cutF (.tup xs) l u h = .ok (.tup (cutI xs l u)) h := id rfl
theorem neg_i {i : Int} {h : Mem} : negF (.int i) h = .ok (.int (-i)) h := id rfl
theorem list_tup {xs : List IV} {h : Mem} : listF [.tup xs] h = .ok xs h := id rfl
theorem emp_tup {xs : List IV} {h : Mem} : empF false (.tup xs) (.tup []) h = .ok (.bl xs.isEmpty) h := id rfl
def revG : IV → Mem → Ret IV := fun v h => match v with
  | .tup xs => .ok (.tup xs.reverse) h
  | _ => .bad
theorem dRevT_eq {d : Den} : dRevT d = dUn revG d := rfl
theorem rev_tup {xs : List IV} {h : Mem} : revG (.tup xs) h = .ok (.tup xs.reverse) h := id rfl
theorem bent (g : s.Good) (hw : ws.length = n) (hn0 : 0 < n) (hn : n ≤ 1000) (hr : ∀ r ∈ rows, RqOk n r) (hx : ∀ x ∈ xs, Fv R x) (hl : xs.length = rows.length) (h25 : xs.length ≤ 25) :
    ∃ (s' : Src) (v : IV), s'.Good ∧ Vv (R ++ [.dK []]) v ∧ fn__law_bent_gifts [.loc 1, yardIV c ws, .tup (rows.map reqIV), .tup xs] (mem s R) = .ok v (mem s' (R ++ [.dK []])) := by
  have hx1 : ∀ x ∈ xs, Fv (R ++ [.dK []]) x := fun x h => (hx x h).ext
  obtain ⟨s1, j, odd, g1, ej, e1⟩ := of (rest := R ++ [.dK []]) (v := .fl (odds R n)) (xs := odds R n) g (fun _ => rfl) (by simp [odds]) (by simp [odds])
  have ho := odds_Fv (R := R) hn odd (List.mem_of_getElem? ej)
  have iy : ∀ h, ixF (yardIV c ws) (.int 1) h = .ok (.tup (ws.map .int)) h := fun _ => id rfl
  have lw : ∀ h, lenF [.tup (ws.map .int)] h = .ok (.int (n : Nat)) h := fun h => by rw [len_t, List.length_map, hw]
  have pw : ∀ h, powF (.int 10) (.int 30) h = .ok (.int (10 ^ 30)) h := fun h => rfl
  have pw' : ∀ h, powF (.int 10) (.int 30) h = .ok (.int (10 ^ 30)) h := fun h => id (pw h)
  have oddsE : (IV.fl [.non, .bl true, .bl false, .int (-1), .int 0, .int 1, .int (10 ^ 30), .str "0", .tup [], .fl [], .loc (R.length + 2), .tup [.int 0], .int (n : Nat)]) = .fl (odds R n) := rfl
  have olist : ∀ ρ : Sl, ρ[1]? = some (some (yardIV c ws)) → dFl (fLst (aCons (dC .non) (aCons (dC (.bl true)) (aCons (dC (.bl false)) (aCons (dUn negF (dC (.int 1))) (aCons (dC (.int 0)) (aCons (dC (.int 1)) (aCons (dBin powF (dC (.int 10)) (dC (.int 30))) (aCons (dC (.str "0")) (aCons (dTup aNil) (aCons (dFl (fLst aNil)) (aCons dNew (aCons (dTup (aCons (dC (.int 0)) aNil)) (aCons (dArg lenF (aCons (dBin ixF (dVar 1) (dC (.int 1))) aNil)) aNil)))))))))))))) ρ (mem s R) = .ok (.fl (odds R n)) (mem s (R ++ [.dK []])) := fun ρ e => by
    have dv : ∀ h, dVar 1 ρ h = .ok (yardIV c ws) h := fun h => e_var e
    have dn : ∀ ρ, dNew ρ (mem s R) = .ok (.loc (R.length + 2)) (mem s (R ++ [.dK []])) := fun _ => rfl
    have dn' : ∀ ρ, dNew ρ (mem s R) = .ok (.loc (R.length + 2)) (mem s (R ++ [.dK []])) := fun ρ => id (dn ρ)
    rw [← oddsE]
    generalize hd : dVar 1 = d1 at dv ⊢
    generalize dNew = d2 at dn' ⊢
    clear dn pw
    simp only [dFl, fLst_eq, aCons, aNil, dC, dUn, dBin, dArg, dTup_eq, bindO, neg_i, pw', gateL_ok, gateT_ok, dv, dn', iy, lw, List.length_cons, List.length_nil, Nat.reduceAdd, Nat.reduceLeDiff]
  have opts : ∀ (s2 : Src), s2.Good → ∃ (s3 : Src) (v : IV), s3.Good ∧ Vv (R ++ [.dK []]) v ∧ fn__law_of [.loc 1, .fl [.fl xs, .tup (xs ++ [.non]), .tup (cutI xs none (some (-1))), .tup xs.reverse, odd, .tup (xs ++ [odd])]] (mem s2 (R ++ [.dK []])) = .ok v (mem s3 (R ++ [.dK []])) := fun s2 g2 => by
    obtain ⟨s3, j, v, g3, ej, e3⟩ := of (rest := R ++ [.dK []]) (v := .fl [.fl xs, .tup (xs ++ [.non]), .tup (cutI xs none (some (-1))), .tup xs.reverse, odd, .tup (xs ++ [odd])]) (xs := [.fl xs, .tup (xs ++ [.non]), .tup (cutI xs none (some (-1))), .tup xs.reverse, odd, .tup (xs ++ [odd])]) g2 (fun _ => rfl) (by simp) (by simp)
    refine ⟨s3, v, g3, ?_, e3⟩
    have hv := List.mem_of_getElem? ej
    simp only [List.mem_cons, List.not_mem_nil, or_false] at hv
    have snoc : ∀ y, Fv (R ++ [.dK []]) y → ∀ x ∈ xs ++ [y], Fv (R ++ [.dK []]) x := fun y hy x hx => by
      rcases List.mem_append.mp hx with q | q
      · exact hx1 x q
      · rw [List.mem_singleton.mp q]; exact hy
    rcases hv with h | h | h | h | h | h
    · rw [h]; exact .fl hx1 (by omega)
    · rw [h]; exact .tup (snoc _ .non) (by rw [List.length_append]; simp; omega)
    · rw [h]; exact .tup (fun x hx => hx1 x (mem_cut hx)) (by have := len_cut (xs := xs) (l := none) (u := some (-1)); omega)
    · rw [h]; exact .tup (fun x hx => hx1 x (List.mem_reverse.mp hx)) (by rw [List.length_reverse]; omega)
    · rw [h]; exact .one ho
    · rw [h]; exact .tup (snoc _ ho) (by rw [List.length_append]; simp; omega)
  have a1 : ∀ h, addF (.tup xs) (.tup [.non]) h = .ok (.tup (xs ++ [.non])) h := fun h => add_tup (by simp; omega)
  have a2 : ∀ h, addF (.tup xs) (.tup [odd]) h = .ok (.tup (xs ++ [odd])) h := fun h => add_tup (by simp; omega)
  generalize hol : dFl (fLst (aCons (dC .non) (aCons (dC (.bl true)) (aCons (dC (.bl false)) (aCons (dUn negF (dC (.int 1))) (aCons (dC (.int 0)) (aCons (dC (.int 1)) (aCons (dBin powF (dC (.int 10)) (dC (.int 30))) (aCons (dC (.str "0")) (aCons (dTup aNil) (aCons (dFl (fLst aNil)) (aCons dNew (aCons (dTup (aCons (dC (.int 0)) aNil)) (aCons (dArg lenF (aCons (dBin ixF (dVar 1) (dC (.int 1))) aNil)) aNil)))))))))))))) = ol at olist
  have ol1 := olist [some (.loc 1), some (yardIV c ws), some (.tup (rows.map reqIV)), some (.tup xs), none, none, none] rfl
  have et := fun h => emp_tup (xs := xs) (h := h)
  by_cases h0 : xs = []
  · have ee : xs.isEmpty = true := by rw [h0]; rfl
    rw [ee] at et
    obtain ⟨s3, v, g3, hv, e3⟩ := opts s1 g1
    refine ⟨s3, v, g3, hv, ?_⟩
    unfold fn__law_bent_gifts
    refine fn_eq (ρ := [some (.loc 1), some (yardIV c ws), some (.tup (rows.map reqIV)), some (.tup xs), some odd, none, none]) rfl ?_
    unfold d__law_bent_gifts
    rw [hol]
    generalize fn__law_of = z1 at e1 e3 ⊢
    generalize fn__law_pick = z2
    simp only [dRevT_eq]
    simp only [sSeq, sAsg, sIf, sRet, sExp, dArg, dBin, dUn, dTst, dAndT, dOrT, dNotT, dIf, dAnd, dOr, dTup_eq, gateL_ok, gateT_ok, dFl, fLst_eq, fArg, aCons, aNil, dVar, dC, tgN, Sh.tg, Shs.tgs, tgT, tgsCons, tgsNil, Shs.len, bindO, List.getElem?_cons_zero, List.getElem?_cons_succ, List.set_cons_zero, List.set_cons_succ, List.length_cons, List.length_nil, List.map_cons, List.map_nil, List.cons_append, List.nil_append, List.replicate_succ, List.replicate_zero, Nat.reduceAdd, Nat.reduceSub, Nat.reduceEqDiff, if_true, Nat.reduceLeDiff, eqF_i, neF_i, addF_i, subF_i, gtF_i, ltF_i, ixF_seq, nox, wipeI, isN_non, isN_int, notN_non, notN_int, cond_true, cond_false, if_false, Bool.false_eq_true, ol1, e1, et, dCut, oNone, oSome, neg_i, cut_tup, list_tup, rev_tup, a1, a2, e3]
  · have ee : xs.isEmpty = false := by
      cases xs with
      | nil => exact absurd rfl h0
      | cons _ _ => rfl
    rw [ee] at et
    obtain ⟨s2, p, g2, ep, hp⟩ := pickG (rest := R ++ [.dK []]) (m := 5) g1 (by decide)
    by_cases hp0 : p = 0
    · have dd : decide (((p : Nat) : Int) = 0) = true := decide_eq_true (by omega)
      obtain ⟨s3, v, g3, hv, e3⟩ := opts s2 g2
      refine ⟨s3, v, g3, hv, ?_⟩
      unfold fn__law_bent_gifts
      refine fn_eq (ρ := [some (.loc 1), some (yardIV c ws), some (.tup (rows.map reqIV)), some (.tup xs), some odd, none, none]) rfl ?_
      unfold d__law_bent_gifts
      rw [hol]
      generalize fn__law_of = z1 at e1 e3 ⊢
      generalize fn__law_pick = z2 at ep ⊢
      simp only [dRevT_eq]
      simp only [sSeq, sAsg, sIf, sRet, sExp, dArg, dBin, dUn, dTst, dAndT, dOrT, dNotT, dIf, dAnd, dOr, dTup_eq, gateL_ok, gateT_ok, dFl, fLst_eq, fArg, aCons, aNil, dVar, dC, tgN, Sh.tg, Shs.tgs, tgT, tgsCons, tgsNil, Shs.len, bindO, List.getElem?_cons_zero, List.getElem?_cons_succ, List.set_cons_zero, List.set_cons_succ, List.length_cons, List.length_nil, List.map_cons, List.map_nil, List.cons_append, List.nil_append, List.replicate_succ, List.replicate_zero, Nat.reduceAdd, Nat.reduceSub, Nat.reduceEqDiff, if_true, Nat.reduceLeDiff, eqF_i, neF_i, addF_i, subF_i, gtF_i, ltF_i, ixF_seq, nox, wipeI, isN_non, isN_int, notN_non, notN_int, cond_true, cond_false, if_false, Bool.false_eq_true, ol1, e1, et, ep, dd, dCut, oNone, oSome, neg_i, cut_tup, list_tup, rev_tup, a1, a2, e3]
    · have dd : decide (((p : Nat) : Int) = 0) = false := decide_eq_false (by omega)
      obtain ⟨s3, k, g3, ek, hk⟩ := pickG (rest := R ++ [.dK []]) (m := (xs.length : Nat)) g2 (by omega)
      have hkl : k < xs.length := by
        have : 0 < xs.length := List.length_pos_iff.mpr h0
        omega
      obtain ⟨s4, q, g4, eq, hq⟩ := pickG (rest := R ++ [.dK []]) (m := (n : Nat)) g3 (by omega)
      have er : rows[k]? = some (rows[k]'(by omega)) := List.getElem?_eq_getElem (by omega)
      generalize hrk : rows[k]'(by omega) = hs at er
      have hro : RqOk n hs := hr hs (List.mem_of_getElem? er)
      have ir : ∀ h, ixF (.tup (rows.map reqIV)) (.int (k : Nat)) h = .ok (.tup (hs.map natIV)) h := fun h => ix_t (by rw [List.getElem?_map, er]; rfl)
      have hsl := hro.len
      have a3 : ∀ h, addF (.fl [odd, .int (q : Nat)]) (.fl (hs.map natIV)) h = .ok (.fl ([odd, .int (q : Nat)] ++ hs.map natIV)) h := fun h => add_fl (by rw [List.length_map]; simp; omega)
      obtain ⟨s5, j, y, g5, ej, e5⟩ := of (rest := R ++ [.dK []]) (v := .fl ([odd, .int (q : Nat)] ++ hs.map natIV)) (xs := [odd, .int (q : Nat)] ++ hs.map natIV) g4 (fun _ => rfl) (by simp) (by simp; omega)
      have hy : Fv (R ++ [.dK []]) y := by
        rcases List.mem_append.mp (List.mem_of_getElem? ej) with z | z
        · rcases List.mem_cons.mp z with z | z
          · rw [z]; exact ho
          · rw [List.mem_singleton.mp z]; exact .int _ (by rw [big31]; omega)
        · obtain ⟨w, hw2, rfl⟩ := List.mem_map.mp z
          have := hro.2 w hw2
          exact .int _ (by rw [big31]; omega)
      have l1 := len_cut (xs := xs) (l := none) (u := some (k : Nat))
      have l2 := len_cut (xs := xs) (l := some ((k : Nat) + 1)) (u := none)
      have a4 : ∀ h, addF (.tup (cutI xs none (some (k : Nat)))) (.tup [y]) h = .ok (.tup (cutI xs none (some (k : Nat)) ++ [y])) h := fun h => add_tup (by simp; omega)
      have a5 : ∀ h, addF (.tup (cutI xs none (some (k : Nat)) ++ [y])) (.tup (cutI xs (some ((k : Nat) + 1)) none)) h = .ok (.tup (cutI xs none (some (k : Nat)) ++ [y] ++ cutI xs (some ((k : Nat) + 1)) none)) h := fun h => add_tup (by rw [List.length_append]; simp; omega)
      refine ⟨s5, .tup (cutI xs none (some (k : Nat)) ++ [y] ++ cutI xs (some ((k : Nat) + 1)) none), g5, .tup (fun x hx => ?_) (by rw [List.length_append, List.length_append]; simp; omega), ?_⟩
      · rcases List.mem_append.mp hx with z | z
        · rcases List.mem_append.mp z with z | z
          · exact hx1 x (mem_cut z)
          · rw [List.mem_singleton.mp z]; exact hy
        · exact hx1 x (mem_cut z)
      · unfold fn__law_bent_gifts
        refine fn_eq (ρ := [some (.loc 1), some (yardIV c ws), some (.tup (rows.map reqIV)), some (.tup xs), some odd, some (.int (k : Nat)), some (.fl ([odd, .int (q : Nat)] ++ hs.map natIV))]) rfl ?_
        unfold d__law_bent_gifts
        rw [hol]
        generalize fn__law_of = z1 at e1 e5 ⊢
        generalize fn__law_pick = z2 at ep ek eq ⊢
        simp only [dRevT_eq]
        rw [List.cons_append, List.cons_append, List.nil_append] at a3 e5 ⊢
        simp only [sSeq, sAsg, sIf, sRet, sExp, dArg, dBin, dUn, dTst, dAndT, dOrT, dNotT, dIf, dAnd, dOr, dTup_eq, gateL_ok, gateT_ok, dFl, fLst_eq, fArg, aCons, aNil, dVar, dC, tgN, Sh.tg, Shs.tgs, tgT, tgsCons, tgsNil, Shs.len, bindO, List.getElem?_cons_zero, List.getElem?_cons_succ, List.set_cons_zero, List.set_cons_succ, List.length_cons, List.length_nil, List.map_cons, List.map_nil, List.cons_append, List.nil_append, List.replicate_succ, List.replicate_zero, Nat.reduceAdd, Nat.reduceSub, Nat.reduceEqDiff, if_true, Nat.reduceLeDiff, eqF_i, neF_i, addF_i, subF_i, gtF_i, ltF_i, ixF_seq, nox, wipeI, isN_non, isN_int, notN_non, notN_int, cond_true, cond_false, if_false, Bool.false_eq_true, ol1, e1, et, ep, dd, sNx, len_t, ek, iy, lw, eq, ir, list_tup, a3, dCut, oNone, oSome, cut_tup, e5, a4, a5]
end
end Vi_k11
end

section
namespace Vi_k11
open PySem PySem.Spec PyProof.Rows L2 VI
/-- a comprehension that draws and lays -/
theorem lc_grow {t : Tg} {el : Den} {ρ : Sl} {P Q : Mem → IV → Prop} (mP : ∀ R X v, P R v → P (R ++ X) v) (mQ : ∀ R X v, Q R v → Q (R ++ X) v)
    (hs : ∀ x s R, s.Good → P R x → ∃ ρ1 s' X y, t x ρ = some ρ1 ∧ s'.Good ∧ Q (R ++ X) y ∧ el ρ1 (mem s R) = .ok y (mem s' (R ++ X))) : ∀ (items : List IV) (n : Nat) (s : Src) (R : Mem), s.Good → (∀ x ∈ items, P R x) → n + items.length ≤ 100000 →
    ∃ (s' : Src) (X : Mem) (ys : List IV), s'.Good ∧ ys.length = items.length ∧ (∀ y ∈ ys, Q (R ++ X) y) ∧ lcV t dYes el ρ items n (mem s R) = .ok ys (mem s' (R ++ X))
  | [], n, s, R, g, _, _ => ⟨s, [], [], g, rfl, by simp, by rw [List.append_nil]; rfl⟩
  | x :: r, n, s, R, g, hp, hn => by
    rw [List.length_cons] at hn
    obtain ⟨ρ1, s1, X, y, e1, g1, q1, e2⟩ := hs x s R g (hp x List.mem_cons_self)
    obtain ⟨s2, X2, ys, g2, l2, q2, e3⟩ := lc_grow mP mQ hs r (n + 1) s1 (R ++ X) g1 (fun z hz => mP _ _ _ (hp z (List.mem_cons_of_mem _ hz))) (by omega)
    rw [List.append_assoc] at q2 e3
    refine ⟨s2, X ++ X2, y :: ys, g2, by rw [List.length_cons, List.length_cons, l2], fun z hz => ?_, ?_⟩
    · rcases List.mem_cons.mp hz with e | hz
      · rw [e, ← List.append_assoc]; exact mQ _ _ _ q1
      · exact q2 z hz
    · unfold lcV
      rw [e1]
      simp only [dYes, nox, bindO, if_true, e2, if_pos (sl_lt (show n ≤ 100000 by omega))]
      rw [e3]
      rfl
theorem Vv.tys {R : Mem} {xs : List IV} (f : Vv R (.tup xs)) (s : Src) : Tys (mem s R) xs := by
  have fx : ∀ x ∈ xs, Fv R x := by
    cases f with
    | one h =>
      cases h with
      | t0 => exact fun x hx => by cases hx
      | t1 => exact fun x hx => by rw [List.mem_singleton.mp hx]; exact .int _ (by rw [big31]; decide)
    | tup h l => exact h
  exact fun x hx => let ⟨t, a, b, _⟩ := ty_Fv (fx x hx) s; ⟨t, a, b⟩
theorem Vv.ty {R : Mem} {v : IV} (f : Vv R v) (s : Src) : ∃ t, tyN (mem s R) v = some t ∧ (t = .tup ↔ ∃ xs, v = .tup xs) := by
  cases f with
  | one h => exact let ⟨t, a, _, b⟩ := ty_Fv h s; ⟨t, a, b⟩
  | tup h l => exact ⟨.tup, rfl, by simp⟩
  | fl h l => exact ⟨.lst, rfl, by simp⟩
/-! ### faults as data -/
theorem Sz.str {h : Mem} {x : Str} (a : (PyData.str x).canLay0 = true) (b : (PyData.str x).weight ≤ 100) : Sz h (.str x) (.str x) 1 100 := by
  refine ⟨fun n hn => ?_, a, ?_, ?_, b, ?_⟩
  · obtain ⟨m, rfl⟩ : ∃ m, n = m + 1 := ⟨n - 1, by omega⟩
    rfl
  · unfold PyData.showable; rfl
  · unfold PyData.depth
    omega
  · unfold PyData.intsShort; rfl
def datF : IV → PyData
  | .tup [.str w] => .tuple [.str w]
  | .tup [.str w, .int i] => .tuple [.str w, .int i]
  | _ => .none
theorem told_of {w : String} {m : Nat} {p : Nat → Bool} {v : IV} (e : told w ((List.range m).filter p) = some v) : ∃ r, r < m ∧ v = .tup [.str w, natIV r] := by
  cases hf : (List.range m).filter p with
  | nil => rw [hf] at e; cases e
  | cons r t =>
    rw [hf] at e
    have hr : r ∈ (List.range m).filter p := by rw [hf]; exact List.mem_cons_self
    exact ⟨r, List.mem_range.mp (List.mem_filter.mp hr).1, (Option.some.inj e).symm⟩
theorem fault_is {c : Nat} {rows : List (List Nat)} {v : IV} : faultI c rows v = .non ∨ faultI c rows v = formI ∨ (∃ r, r < rows.length ∧ faultI c rows v = .tup [.str "gift", natIV r]) ∨ ∃ r, r < rows.length ∧ faultI c rows v = .tup [.str "room", natIV r] := by
  cases v with
  | tup xs =>
    show (if xs.length = rows.length then (if xs.all okI then placesI c rows xs else formI) else formI) = .non ∨ _
    have fx : faultI c rows (.tup xs) = if xs.length = rows.length then (if xs.all okI then placesI c rows xs else formI) else formI := rfl
    rw [fx]
    by_cases e1 : xs.length = rows.length
    · rw [if_pos e1]
      by_cases e2 : xs.all okI = true
      · rw [if_pos e2]
        unfold placesI
        cases e3 : told "gift" ((List.range rows.length).filter (viol1 rows xs)) with
        | some v =>
          obtain ⟨r, hr, rfl⟩ := told_of e3
          exact .inr (.inr (.inl ⟨r, hr, rfl⟩))
        | none =>
          cases e4 : told "room" ((List.range rows.length).filter (viol2 c xs)) with
          | some v =>
            obtain ⟨r, hr, rfl⟩ := told_of e4
            exact .inr (.inr (.inr ⟨r, hr, rfl⟩))
          | none => exact .inl rfl
      · rw [if_neg e2]
        exact .inr (.inl rfl)
    · rw [if_neg e1]
      exact .inr (.inl rfl)
  | _ => exact .inr (.inl rfl)
theorem fault_sz {h : Mem} {c : Nat} {rows : List (List Nat)} {v : IV} (hl : rows.length ≤ 50) : Sz h (faultI c rows v) (datF (faultI c rows v)) 2 300 := by
  have st : ∀ w : String, (PyData.str w).canLay0 = true → (PyData.str w).weight ≤ 100 → ∀ r, r < rows.length → Sz h (.tup [.str w, natIV r]) (datF (.tup [.str w, natIV r])) 2 300 := fun w a b r hr =>
    (Sz.tup (SzL.cons (Sz.str a b) (SzL.cons (Sz.int (i := ((r : Nat) : Int)) (by rw [big12]; omega)) SzL.nil))).mono (by decide) (by decide)
  rcases fault_is (c := c) (rows := rows) (v := v) with e | e | ⟨r, hr, e⟩ | ⟨r, hr, e⟩
  · rw [e]; exact Sz.non.mono (by decide) (by decide)
  · rw [e]; exact (Sz.tup (SzL.cons (Sz.str (by unfold PyData.canLay0; decide +kernel) (by unfold PyData.weight; decide +kernel)) SzL.nil)).mono (by decide) (by decide)
  · rw [e]; exact st "gift" (by unfold PyData.canLay0; decide +kernel) (by unfold PyData.weight; decide +kernel) r hr
  · rw [e]; exact st "room" (by unfold PyData.canLay0; decide +kernel) (by unfold PyData.weight; decide +kernel) r hr
theorem repr_fault {h : Mem} {c : Nat} {rows : List (List Nat)} {v : IV} (hl : rows.length ≤ 50) : reprF [faultI c rows v] h = .ok (.str (datF (faultI c rows v)).shown) h := repr_ok (fault_sz hl) (by decide) (by decide)
/-! ### repr([yard, row, value]) -/
theorem Se.nat {h : Mem} {k : Nat} (hk : k < 10000000) : Se h (.int (k : Nat)) (.int (k : Nat)) 1 120 := Se.int (by rw [big31]; omega)
def keptD (c : Nat) (ws : List Int) (rows : List (List Nat)) (v : IV) : PyData := .list [.tuple [.int (c : Nat), .tuple (ws.map .int)], .tuple (rows.map fun hs => .tuple (hs.map fun k => .int (k : Nat))), vdat v]
theorem e_kept {s : Src} {R : Mem} {c n : Nat} {ws : List Int} {rows : List (List Nat)} {v : IV} (hw : ws.length = n) (hn : n ≤ 30) (hc : c ≤ 1000) (hb : ∀ w ∈ ws, 1 ≤ w ∧ w ≤ 1000000) (hl : rows.length ≤ 50) (hr : ∀ r ∈ rows, RqOk n r) (hv : Vv R v) :
    reprDF [.fl [yardIV c ws, .tup (rows.map reqIV), v]] (mem s R) = .ok (.str (keptD c ws rows v).shown) (mem s R) := by
  have a : Se (mem s R) (.tup (ws.map .int)) (.tuple (ws.map .int)) 2 5000 := (Se.tup (SeL.map (f := IV.int) (g := PyData.int) (k := 1) (w := 120) fun w hw => Se.int (by have := hb w hw; rw [big31]; omega))).mono (by decide) (by omega)
  have y : Se (mem s R) (yardIV c ws) (.tuple [.int (c : Nat), .tuple (ws.map .int)]) 4 6000 := (Se.tup (SeL.cons ((Se.nat (by omega)).mono (by decide) (Nat.le_refl _)) (SeL.cons a SeL.nil))).mono (by decide) (by decide)
  have rw1 : Se (mem s R) (.tup (rows.map reqIV)) (.tuple (rows.map fun hs => .tuple (hs.map fun k => .int (k : Nat)))) 4 200000 := by
    refine (Se.tup (SeL.map (f := reqIV) (g := fun hs => .tuple (hs.map fun k => .int (k : Nat))) (k := 2) (w := 3630) fun hs hh => ?_)).mono (by decide) (by omega)
    have ro := hr hs hh
    have := ro.len
    exact (Se.tup (SeL.map (f := natIV) (g := fun k => .int (k : Nat)) (k := 1) (w := 120) (l := hs) fun k hk => Se.nat (by have := ro.2 k hk; omega))).mono (by decide) (by omega)
  have vv := (hv.se s).mono (k' := 4) (by decide) (Nat.le_refl _)
  exact reprD_ok (Se.fl (SeL.cons y (SeL.cons rw1 (SeL.cons vv SeL.nil)))) (by decide) (by decide) rfl
/-! ### drawn gifts are right -/
theorem drawn_ok {n c : Nat} {rows : List (List Nat)} {gs : List (Option Nat)} {ls : List Nat} (iv : GInv n c rows gs ls) : faultI c rows (.tup (gs.map giftIV)) = .non := by
  have fx : faultI c rows (.tup (gs.map giftIV)) = if (gs.map giftIV).length = rows.length then (if (gs.map giftIV).all okI then placesI c rows (gs.map giftIV) else formI) else formI := rfl
  have ho : (gs.map giftIV).all okI = true := by
    rw [List.all_eq_true]
    intro x hx
    obtain ⟨g, _, rfl⟩ := List.mem_map.mp hx
    cases g with
    | none => rfl
    | some k => exact decide_eq_true (show (0 : Int) ≤ ((k : Nat) : Int) by omega)
  rw [fx, if_pos (by rw [List.length_map, iv.len]), if_pos ho]
  have f1 : (List.range rows.length).filter (viol1 rows (gs.map giftIV)) = [] := by
    rw [List.filter_eq_nil_iff]
    intro r hr
    have hr := List.mem_range.mp hr
    have hg : gs[r]? = some (gs[r]'(by rw [iv.len]; exact hr)) := List.getElem?_eq_getElem _
    unfold viol1
    rw [List.getElem?_map, hg]
    cases hgr : gs[r]'(by rw [iv.len]; exact hr) with
    | none => simp [giftIV]
    | some k =>
      rw [hgr] at hg
      obtain ⟨hs, e1, e2⟩ := iv.inn r k hg
      have an : ((hs.map natIV).any fun y => eqI y (.int (k : Nat))) = true := by
        rw [List.any_eq_true]
        refine ⟨natIV k, List.mem_map_of_mem e2, ?_⟩
        show eqI (.int ((k : Nat) : Int)) (.int ((k : Nat) : Int)) = true
        rw [eqI_nat]
        exact decide_eq_true rfl
      simp only [Option.map_some, giftIV, e1, an]
      simp
  have cnt : ∀ (l : List (Option Nat)) (k : Nat), cntI (l.map giftIV) (k : Nat) = l.count (some k) := fun l k => by
    induction l with
    | nil => rfl
    | cons g l ih =>
      have e : cntI ((g :: l).map giftIV) (k : Nat) = cntI (l.map giftIV) (k : Nat) + if eqI (giftIV g) (.int (k : Nat)) then 1 else 0 := by
        unfold cntI
        rw [List.map_cons, List.countP_cons]
      rw [e, ih]
      cases g with
      | none =>
        rw [List.count_cons_of_ne (by simp)]
        rfl
      | some j =>
        have e2 : eqI (giftIV (some j)) (.int (k : Nat)) = decide (j = k) := eqI_nat
        rw [e2]
        by_cases hj : j = k
        · subst hj
          rw [List.count_cons_self, decide_eq_true rfl, if_pos rfl]
        · rw [List.count_cons_of_ne (fun z => hj (Option.some.inj z)), decide_eq_false hj, if_neg Bool.false_ne_true]
          rfl
  have f2 : (List.range rows.length).filter (viol2 c (gs.map giftIV)) = [] := by
    rw [List.filter_eq_nil_iff]
    intro r hr
    have hr := List.mem_range.mp hr
    have hg : gs[r]? = some (gs[r]'(by rw [iv.len]; exact hr)) := List.getElem?_eq_getElem _
    unfold viol2
    rw [List.getElem?_map, hg]
    cases hgr : gs[r]'(by rw [iv.len]; exact hr) with
    | none => simp [giftIV]
    | some k =>
      have le := iv.le k
      have sp : gs = gs.take r ++ (some k :: gs.drop (r + 1)) := by
        have := List.take_append_drop r gs
        rw [List.drop_eq_getElem_cons (by rw [iv.len]; exact hr), hgr] at this
        exact this.symm
      have ct : gs.count (some k) = (gs.take r).count (some k) + ((gs.drop (r + 1)).count (some k) + 1) := by
        conv => lhs; rw [sp]
        rw [List.count_append, List.count_cons_self]
      have e3 : cntI ((gs.map giftIV).take r) (k : Nat) = (gs.take r).count (some k) := by rw [← List.map_take, cnt]
      simp only [Option.map_some, giftIV, e3]
      simp
      omega
  unfold placesI
  rw [f1, f2]
  rfl
end Vi_k11
end

section
namespace Vi_k11
open PySem PySem.Spec PyProof.Rows L2 VI
def someD : Den := dBin addF (dFl (fLst (aCons (dVar 5) aNil))) (dFl (fLc (wRng1 (aCons (dC (.int 6)) aNil)) (Sh.tg (.n 11)) dYes (dArg fn__law_bent_gifts (aCons (dVar 1) (aCons (dVar 3) (aCons (dVar 4) (aCons (dVar 5) aNil))))) [11]))
def lateD : Den := dFl (fLc (wSeq (dVar 6)) (Sh.tg (.n 7)) (dAndT (dTst (dUn (isiF .tup) (dVar 7))) (dTst (dBin eqF (dArg lenF (aCons (dVar 7) aNil)) (dArg lenF (aCons (dVar 4) aNil))))) (dVar 7) [7])
def valsD : Den := dBin addF (dBin addF (dVar 6) (dFl (fLc (wSeq (dCut (dVar 8) oNone (oSome (dC (.int 4))))) (Sh.tg (.n 12)) dYes (dArg fn__law_bent_gifts (aCons (dVar 1) (aCons (dVar 3) (aCons (dVar 4) (aCons (dVar 12) aNil))))) [12]))) (dFl (fLst (aCons (dC .non) (aCons (dTup aNil) (aCons (dC (.str "")) (aCons (dC (.int 0)) aNil))))))
def chkB : DenS := (sSeq (sPar 9 10 (aCons (dArg fn__law_gifts_fault (aCons (dVar 3) (aCons (dVar 4) (aCons (dVar 7) aNil)))) (aCons (dArg reprDF (aCons (dFl (fLst (aCons (dVar 3) (aCons (dVar 4) (aCons (dVar 7) aNil))))) aNil)) aNil)))
    (sIf (dOrT (dTst (dBin neF (dArg reprF (aCons (dArg fn_gifts_fault (aCons (dVar 3) (aCons (dVar 4) (aCons (dVar 7) aNil)))) aNil)) (dArg reprF (aCons (dVar 9) aNil)))) (dTst (dBin neF (dArg reprDF (aCons (dFl (fLst (aCons (dVar 3) (aCons (dVar 4) (aCons (dVar 7) aNil))))) aNil)) (dVar 10)))) (sRet (dC (.bl false))) sNx))
def lastS : DenS := (sIf (dTst (dBin notNF (dArg fn_gifts_fault (aCons (dVar 3) (aCons (dVar 4) (aCons (dVar 5) aNil)))) (dC .non))) (sRet (dC (.bl false))) sNx)
structure Row (n c : Nat) (ws : List Int) (rows : List (List Nat)) (gs : List (Option Nat)) : Prop where
  wl : ws.length = n
  n0 : 0 < n
  nn : n ≤ 30
  cc : c ≤ 1000
  wb : ∀ w ∈ ws, 1 ≤ w ∧ w ≤ 1000000
  rl : rows.length ≤ 20
  ro : ∀ r ∈ rows, RqOk n r
  gl : gs.length = rows.length
  gn : ∀ k, some k ∈ gs → k < n
section
variable {n c : Nat} {ws : List Int} {rows : List (List Nat)} {gs : List (Option Nat)} {s : Src} {R : Mem}
theorem gs_Fv (W : Row n c ws rows gs) : ∀ x ∈ gs.map giftIV, Fv R x := fun x hx => by
  obtain ⟨g, hg, rfl⟩ := List.mem_map.mp hx
  cases g with
  | none => exact .non
  | some k =>
    have := W.gn k hg
    have := W.nn
    exact .int _ (by rw [big31]; omega)
theorem Vv.mems {xs : List IV} (f : Vv R (.tup xs)) : ∀ x ∈ xs, Fv R x := by
  cases f with
  | one h =>
    cases h with
    | t0 => exact fun x hx => by cases hx
    | t1 => exact fun x hx => by rw [List.mem_singleton.mp hx]; exact .int _ (by rw [big31]; decide)
  | tup h l => exact h
theorem e_some {a0 a2 a6 a7 a8 a9 a10 a12 : Option IV} (W : Row n c ws rows gs) (g : s.Good) : ∃ (s' : Src) (X : Mem) (ys : List IV), s'.Good ∧ ys.length = 7 ∧ (∀ y ∈ ys, Vv (R ++ X) y) ∧
    someD [a0, some (.loc 1), a2, some (yardIV c ws), some (.tup (rows.map reqIV)), some (.tup (gs.map giftIV)), a6, a7, a8, a9, a10, none, a12] (mem s R) = .ok (.fl ys) (mem s' (R ++ X)) := by
  have rl := W.rl
  have gl := W.gl
  have nn := W.nn
  have n0 := W.n0
  obtain ⟨s1, X, ys, g1, l1, v1, e1⟩ := lc_grow (t := tgN 11) (el := dArg fn__law_bent_gifts (aCons (dVar 1) (aCons (dVar 3) (aCons (dVar 4) (aCons (dVar 5) aNil))))) (ρ := [a0, some (.loc 1), a2, some (yardIV c ws), some (.tup (rows.map reqIV)), some (.tup (gs.map giftIV)), a6, a7, a8, a9, a10, none, a12])
    (P := fun _ _ => True) (Q := Vv) (fun _ _ _ _ => trivial) (fun R X v h => h.ext) (fun x s R g _ => by
      obtain ⟨s', v, g', hv, e⟩ := bent (s := s) (R := R) (c := c) (xs := gs.map giftIV) g W.wl n0 (by omega) W.ro (gs_Fv W) (by rw [List.length_map, gl]) (by rw [List.length_map]; omega)
      refine ⟨_, s', [.dK []], v, rfl, g', hv, ?_⟩
      generalize fn__law_bent_gifts = z at e ⊢
      simp only [sSeq, sAsg, sIf, sRet, sExp, dArg, dBin, dUn, dTst, dAndT, dOrT, dNotT, dIf, dAnd, dOr, dTup_eq, gateL_ok, gateT_ok, dFl, fLst_eq, fArg, aCons, aNil, dVar, dC, tgN, Sh.tg, Shs.tgs, tgT, tgsCons, tgsNil, Shs.len, bindO, List.getElem?_cons_zero, List.getElem?_cons_succ, List.set_cons_zero, List.set_cons_succ, List.length_cons, List.length_nil, List.map_cons, List.map_nil, List.cons_append, List.nil_append, List.replicate_succ, List.replicate_zero, Nat.reduceAdd, Nat.reduceSub, Nat.reduceEqDiff, if_true, Nat.reduceLeDiff, eqF_i, neF_i, addF_i, subF_i, gtF_i, ltF_i, ixF_seq, nox, wipeI, isN_non, isN_int, notN_non, notN_int, cond_true, cond_false, if_false, Bool.false_eq_true, e]) (rgI 0 ((6 : Nat) : Int)) 0 s R g (fun _ _ => trivial) (by rw [rgI_len]; omega)
  refine ⟨s1, X, .tup (gs.map giftIV) :: ys, g1, by rw [List.length_cons, l1, rgI_len]; rfl, fun y hy => ?_, ?_⟩
  · rcases List.mem_cons.mp hy with h | h
    · rw [h]; exact .tup (gs_Fv W) (by rw [List.length_map]; omega)
    · exact v1 y h
  · have rg : ∀ ρ h, wRng1 (aCons (dC (.int 6)) aNil) ρ h = .ok (rgI 0 ((6 : Nat) : Int)) h := fun ρ h => rng1 (n := 6) v_c (by decide)
    have ad : ∀ h, addF (.fl [.tup (gs.map giftIV)]) (.fl ys) h = .ok (.fl ([.tup (gs.map giftIV)] ++ ys)) h := fun h => add_fl (by rw [l1, rgI_len]; simp)
    unfold someD
    generalize wRng1 (aCons (dC (.int 6)) aNil) = rgg at rg ⊢
    generalize fn__law_bent_gifts = z at e1 ⊢
    rw [List.cons_append, List.nil_append] at ad
    simp only [sSeq, sAsg, sIf, sRet, sExp, dArg, dBin, dUn, dTst, dAndT, dOrT, dNotT, dIf, dAnd, dOr, dTup_eq, gateL_ok, gateT_ok, dFl, fLst_eq, fArg, aCons, aNil, dVar, dC, tgN, Sh.tg, Shs.tgs, tgT, tgsCons, tgsNil, Shs.len, bindO, List.getElem?_cons_zero, List.getElem?_cons_succ, List.set_cons_zero, List.set_cons_succ, List.length_cons, List.length_nil, List.map_cons, List.map_nil, List.cons_append, List.nil_append, List.replicate_succ, List.replicate_zero, Nat.reduceAdd, Nat.reduceSub, Nat.reduceEqDiff, if_true, Nat.reduceLeDiff, eqF_i, neF_i, addF_i, subF_i, gtF_i, ltF_i, ixF_seq, nox, wipeI, isN_non, isN_int, notN_non, notN_int, cond_true, cond_false, if_false, Bool.false_eq_true, fLc, rg, e1, ad]
def isLate (m : Nat) : IV → Bool
  | .tup xs => decide (xs.length = m)
  | _ => false
theorem e_late {ys : List IV} {a0 a1 a2 a3 a5 a7 a8 a9 a10 a11 a12 : Option IV} (hl : ys.length ≤ 100) (hy : ∀ y ∈ ys, Vv R y) :
    lateD [a0, a1, a2, a3, some (.tup (rows.map reqIV)), a5, some (.fl ys), a7, a8, a9, a10, a11, a12] (mem s R) = .ok (.fl (ys.filter (isLate rows.length))) (mem s R) := by
  have A := lc_typed (t := tgN 7) (tt := (dAndT (dTst (dUn (isiF .tup) (dVar 7))) (dTst (dBin eqF (dArg lenF (aCons (dVar 7) aNil)) (dArg lenF (aCons (dVar 4) aNil)))))) (el := dVar 7) (ρ := [a0, a1, a2, a3, some (.tup (rows.map reqIV)), a5, some (.fl ys), none, a8, a9, a10, a11, a12]) (h := mem s R) (emb := fun x : IV => x) (p := isLate rows.length) (g := fun x => x) ys 0 (by omega) fun x hx => by
    refine ⟨[a0, a1, a2, a3, some (.tup (rows.map reqIV)), a5, some (.fl ys), some x, a8, a9, a10, a11, a12], rfl, ?_, fun _ => rfl⟩
    obtain ⟨t, et, ht⟩ := (hy x hx).ty s
    have ei := isi_at (T := .tup) et
    by_cases hvt : ∃ xs, x = .tup xs
    · obtain ⟨xs, rfl⟩ := hvt
      have q : t = .tup := ht.mpr ⟨xs, rfl⟩
      subst q
      have q1 : Ty.isi .tup .tup = true := rfl
      rw [q1] at ei
      have dd : decide (((xs.length : Nat) : Int) = (((rows.map reqIV).length : Nat) : Int)) = isLate rows.length (.tup xs) := by
        show _ = decide (xs.length = rows.length)
        rw [List.length_map]
        by_cases e : xs.length = rows.length
        · rw [decide_eq_true e, decide_eq_true (by omega)]
        · rw [decide_eq_false e, decide_eq_false (by omega)]
      generalize isLate rows.length (.tup xs) = b at dd
      simp only [sSeq, sAsg, sIf, sRet, sExp, dArg, dBin, dUn, dTst, dAndT, dOrT, dNotT, dIf, dAnd, dOr, dTup_eq, gateL_ok, gateT_ok, dFl, fLst_eq, fArg, aCons, aNil, dVar, dC, tgN, Sh.tg, Shs.tgs, tgT, tgsCons, tgsNil, Shs.len, bindO, List.getElem?_cons_zero, List.getElem?_cons_succ, List.set_cons_zero, List.set_cons_succ, List.length_cons, List.length_nil, List.map_cons, List.map_nil, List.cons_append, List.nil_append, List.replicate_succ, List.replicate_zero, Nat.reduceAdd, Nat.reduceSub, Nat.reduceEqDiff, if_true, Nat.reduceLeDiff, eqF_i, neF_i, addF_i, subF_i, gtF_i, ltF_i, ixF_seq, nox, wipeI, isN_non, isN_int, notN_non, notN_int, cond_true, cond_false, if_false, Bool.false_eq_true, ei, len_t, dd]
    · have q : t ≠ .tup := fun z => hvt (ht.mp z)
      have q1 : t.isi .tup = false := by
        cases t <;> first | rfl | (exact absurd rfl q)
      rw [q1] at ei
      have fx : isLate rows.length x = false := by
        cases x with
        | tup xs => exact absurd ⟨xs, rfl⟩ hvt
        | _ => rfl
      rw [fx]
      simp only [sSeq, sAsg, sIf, sRet, sExp, dArg, dBin, dUn, dTst, dAndT, dOrT, dNotT, dIf, dAnd, dOr, dTup_eq, gateL_ok, gateT_ok, dFl, fLst_eq, fArg, aCons, aNil, dVar, dC, tgN, Sh.tg, Shs.tgs, tgT, tgsCons, tgsNil, Shs.len, bindO, List.getElem?_cons_zero, List.getElem?_cons_succ, List.set_cons_zero, List.set_cons_succ, List.length_cons, List.length_nil, List.map_cons, List.map_nil, List.cons_append, List.nil_append, List.replicate_succ, List.replicate_zero, Nat.reduceAdd, Nat.reduceSub, Nat.reduceEqDiff, if_true, Nat.reduceLeDiff, eqF_i, neF_i, addF_i, subF_i, gtF_i, ltF_i, ixF_seq, nox, wipeI, isN_non, isN_int, notN_non, notN_int, cond_true, cond_false, if_false, Bool.false_eq_true, ei]
  rw [List.map_id', List.map_id'] at A
  unfold lateD
  simp only [sSeq, sAsg, sIf, sRet, sExp, dArg, dBin, dUn, dTst, dAndT, dOrT, dNotT, dIf, dAnd, dOr, dTup_eq, gateL_ok, gateT_ok, dFl, fLst_eq, fArg, aCons, aNil, dVar, dC, tgN, Sh.tg, Shs.tgs, tgT, tgsCons, tgsNil, Shs.len, bindO, List.getElem?_cons_zero, List.getElem?_cons_succ, List.set_cons_zero, List.set_cons_succ, List.length_cons, List.length_nil, List.map_cons, List.map_nil, List.cons_append, List.nil_append, List.replicate_succ, List.replicate_zero, Nat.reduceAdd, Nat.reduceSub, Nat.reduceEqDiff, if_true, Nat.reduceLeDiff, eqF_i, neF_i, addF_i, subF_i, gtF_i, ltF_i, ixF_seq, nox, wipeI, isN_non, isN_int, notN_non, notN_int, cond_true, cond_false, if_false, Bool.false_eq_true, fLc, wSeq, A]
theorem late_of {m : Nat} {v : IV} (h : isLate m v = true) : ∃ xs, v = .tup xs ∧ xs.length = m := by
  cases v with
  | tup xs => exact ⟨xs, rfl, of_decide_eq_true h⟩
  | _ => cases h
theorem e_vals {ys zs : List IV} {a0 a2 a5 a7 a9 a10 a11 : Option IV} (W : Row n c ws rows gs) (g : s.Good) (hl : ys.length = 7) (hy : ∀ y ∈ ys, Vv R y) (hz : ∀ z ∈ zs, Vv R z ∧ ∃ xs, z = .tup xs ∧ xs.length = rows.length) (lz : zs.length ≤ 7) :
    ∃ (s' : Src) (X : Mem) (us : List IV), s'.Good ∧ us.length ≤ 100 ∧ (∀ y ∈ us, Vv (R ++ X) y) ∧
    valsD [a0, some (.loc 1), a2, some (yardIV c ws), some (.tup (rows.map reqIV)), a5, some (.fl ys), a7, some (.fl zs), a9, a10, a11, none] (mem s R) = .ok (.fl us) (mem s' (R ++ X)) := by
  have rl := W.rl
  have nn := W.nn
  have lc := len_cut (xs := zs) (l := none) (u := some 4)
  obtain ⟨s1, X, us, g1, l1, v1, e1⟩ := lc_grow (t := tgN 12) (el := dArg fn__law_bent_gifts (aCons (dVar 1) (aCons (dVar 3) (aCons (dVar 4) (aCons (dVar 12) aNil))))) (ρ := [a0, some (.loc 1), a2, some (yardIV c ws), some (.tup (rows.map reqIV)), a5, some (.fl ys), a7, some (.fl zs), a9, a10, a11, none])
    (P := fun R z => Vv R z ∧ ∃ xs, z = .tup xs ∧ xs.length = rows.length) (Q := Vv) (fun R X v h => ⟨h.1.ext, h.2⟩) (fun R X v h => h.ext) (fun x s R g hp => by
      obtain ⟨hv, xs, rfl, hx⟩ := hp
      obtain ⟨s', v, g', hv', e⟩ := bent (s := s) (R := R) (c := c) (xs := xs) g W.wl W.n0 (by omega) W.ro hv.mems hx (by omega)
      refine ⟨_, s', [.dK []], v, rfl, g', hv', ?_⟩
      generalize fn__law_bent_gifts = z at e ⊢
      simp only [sSeq, sAsg, sIf, sRet, sExp, dArg, dBin, dUn, dTst, dAndT, dOrT, dNotT, dIf, dAnd, dOr, dTup_eq, gateL_ok, gateT_ok, dFl, fLst_eq, fArg, aCons, aNil, dVar, dC, tgN, Sh.tg, Shs.tgs, tgT, tgsCons, tgsNil, Shs.len, bindO, List.getElem?_cons_zero, List.getElem?_cons_succ, List.set_cons_zero, List.set_cons_succ, List.length_cons, List.length_nil, List.map_cons, List.map_nil, List.cons_append, List.nil_append, List.replicate_succ, List.replicate_zero, Nat.reduceAdd, Nat.reduceSub, Nat.reduceEqDiff, if_true, Nat.reduceLeDiff, eqF_i, neF_i, addF_i, subF_i, gtF_i, ltF_i, ixF_seq, nox, wipeI, isN_non, isN_int, notN_non, notN_int, cond_true, cond_false, if_false, Bool.false_eq_true, e]) (cutI zs none (some 4)) 0 s R g (fun z h => hz z (mem_cut h)) (by omega)
  have a1 : ∀ h, addF (.fl ys) (.fl us) h = .ok (.fl (ys ++ us)) h := fun h => add_fl (by omega)
  have a2 : ∀ h, addF (.fl (ys ++ us)) (.fl [.non, .tup [], .str "", .int 0]) h = .ok (.fl (ys ++ us ++ [.non, .tup [], .str "", .int 0])) h := fun h => add_fl (by rw [List.length_append]; simp; omega)
  refine ⟨s1, X, ys ++ us ++ [.non, .tup [], .str "", .int 0], g1, by rw [List.length_append, List.length_append]; simp; omega, fun y hy' => ?_, ?_⟩
  · rcases List.mem_append.mp hy' with q | q
    · rcases List.mem_append.mp q with q | q
      · exact (hy y q).ext
      · exact v1 y q
    · simp only [List.mem_cons, List.not_mem_nil, or_false] at q
      rcases q with q | q | q | q
      · rw [q]; exact .one .non
      · rw [q]; exact .one .t0
      · rw [q]; exact .one .stre
      · rw [q]; exact .one (.int _ (by rw [big31]; decide))
  · have ct : ∀ h, cutF (.fl zs) none (some 4) h = .ok (.fl (cutI zs none (some 4))) h := fun _ => id rfl
    unfold valsD
    generalize fn__law_bent_gifts = z at e1 ⊢
    simp only [sSeq, sAsg, sIf, sRet, sExp, dArg, dBin, dUn, dTst, dAndT, dOrT, dNotT, dIf, dAnd, dOr, dTup_eq, gateL_ok, gateT_ok, dFl, fLst_eq, fArg, aCons, aNil, dVar, dC, tgN, Sh.tg, Shs.tgs, tgT, tgsCons, tgsNil, Shs.len, bindO, List.getElem?_cons_zero, List.getElem?_cons_succ, List.set_cons_zero, List.set_cons_succ, List.length_cons, List.length_nil, List.map_cons, List.map_nil, List.cons_append, List.nil_append, List.replicate_succ, List.replicate_zero, Nat.reduceAdd, Nat.reduceSub, Nat.reduceEqDiff, if_true, Nat.reduceLeDiff, eqF_i, neF_i, addF_i, subF_i, gtF_i, ltF_i, ixF_seq, nox, wipeI, isN_non, isN_int, notN_non, notN_int, cond_true, cond_false, if_false, Bool.false_eq_true, fLc, dCut, oNone, oSome, ct, wSeq, e1, a1, a2]
theorem e_chk {v : IV} {a0 a1 a2 a5 a6 a8 a9 a10 a11 a12 : Option IV} (W : Row n c ws rows gs) (hv : Vv R v) : ∃ (X : Mem) (b9 b10 : IV),
    chkB [a0, a1, a2, some (yardIV c ws), some (.tup (rows.map reqIV)), a5, a6, some v, a8, a9, a10, a11, a12] (mem s R) = .ok (.nx, [a0, a1, a2, some (yardIV c ws), some (.tup (rows.map reqIV)), a5, a6, some v, a8, some b9, some b10, a11, a12]) (mem s (R ++ X)) := by
  have rl := W.rl
  have nn := W.nn
  have ty := hv.ty s
  have tys : ∀ xs, v = IV.tup xs → Tys (mem s R) xs := fun xs e => by
    subst e
    exact hv.tys s
  have e1 := e_lawF (h := mem s R) (c := c) (ws := ws) (rows := rows) (v := v) (by omega) tys ty
  obtain ⟨X, e2⟩ := e_prog (h := mem s R) (c := c) (ws := ws) (rows := rows) (v := v) W.wl (by omega) (by omega) W.ro tys ty
  rw [mem_app] at e2
  have k1 := e_kept (s := s) (R := R) (c := c) W.wl nn W.cc W.wb (show rows.length ≤ 50 by omega) W.ro hv
  have k2 := e_kept (s := s) (R := R ++ X) (c := c) W.wl nn W.cc W.wb (show rows.length ≤ 50 by omega) W.ro hv.ext
  have r1 := repr_fault (h := mem s (R ++ X)) (c := c) (rows := rows) (v := v) (by omega)
  refine ⟨X, faultI c rows v, .str (keptD c ws rows v).shown, ?_⟩
  have ns : ∀ (x : Str) h, neF (.str x) (.str x) h = .ok (.bl false) h := fun x h => by
    show Ret.ok (IV.bl (!decide (x = x))) h = _
    rw [decide_eq_true rfl]
    rfl
  generalize (keptD c ws rows v).shown = kk at k1 k2 ⊢
  generalize (datF (faultI c rows v)).shown = ff at r1
  generalize faultI c rows v = fv at e1 e2 r1 ⊢
  unfold chkB
  generalize fn__law_gifts_fault = z1 at e1 ⊢
  generalize fn_gifts_fault = z2 at e2 ⊢
  generalize reprDF = z3 at k1 k2 ⊢
  generalize reprF = z4 at r1 ⊢
  simp only [sSeq, sAsg, sIf, sRet, sExp, dArg, dBin, dUn, dTst, dAndT, dOrT, dNotT, dIf, dAnd, dOr, dTup_eq, gateL_ok, gateT_ok, dFl, fLst_eq, fArg, aCons, aNil, dVar, dC, tgN, Sh.tg, Shs.tgs, tgT, tgsCons, tgsNil, Shs.len, bindO, List.getElem?_cons_zero, List.getElem?_cons_succ, List.set_cons_zero, List.set_cons_succ, List.length_cons, List.length_nil, List.map_cons, List.map_nil, List.cons_append, List.nil_append, List.replicate_succ, List.replicate_zero, Nat.reduceAdd, Nat.reduceSub, Nat.reduceEqDiff, if_true, Nat.reduceLeDiff, eqF_i, neF_i, addF_i, subF_i, gtF_i, ltF_i, ixF_seq, nox, wipeI, isN_non, isN_int, notN_non, notN_int, cond_true, cond_false, if_false, Bool.false_eq_true, sPar, e1, k1, e2, r1, ns, k2, sNx]
theorem chk_loop {a0 a1 a2 a5 a6 a8 a11 a12 : Option IV} (W : Row n c ws rows gs) : ∀ (us : List IV) (R : Mem) (a7 a9 a10 : Option IV), (∀ u ∈ us, Vv R u) → ∃ (X : Mem) (b7 b9 b10 : Option IV),
    forV (Sh.tg (.n 7)) chkB us [a0, a1, a2, some (yardIV c ws), some (.tup (rows.map reqIV)), a5, a6, a7, a8, a9, a10, a11, a12] (mem s R) = .ok (.nx, [a0, a1, a2, some (yardIV c ws), some (.tup (rows.map reqIV)), a5, a6, b7, a8, b9, b10, a11, a12]) (mem s (R ++ X))
  | [], R, a7, a9, a10, _ => ⟨[], a7, a9, a10, by rw [List.append_nil]; rfl⟩
  | u :: us, R, a7, a9, a10, hu => by
    obtain ⟨X, b9, b10, e1⟩ := e_chk (s := s) (a0 := a0) (a1 := a1) (a2 := a2) (a5 := a5) (a6 := a6) (a8 := a8) (a9 := a9) (a10 := a10) (a11 := a11) (a12 := a12) W (hu u List.mem_cons_self)
    obtain ⟨X2, b7, c9, c10, e2⟩ := chk_loop (a0 := a0) (a1 := a1) (a2 := a2) (a5 := a5) (a6 := a6) (a8 := a8) (a11 := a11) (a12 := a12) W us (R ++ X) (some u) (some b9) (some b10) fun w hw => (hu w (List.mem_cons_of_mem _ hw)).ext
    rw [List.append_assoc] at e2
    refine ⟨X ++ X2, b7, c9, c10, ?_⟩
    unfold forV
    show (chkB [a0, a1, a2, some (yardIV c ws), some (.tup (rows.map reqIV)), a5, a6, some u, a8, a9, a10, a11, a12] (mem s R)).bind _ = _
    rw [e1, Ret.bind_ok]
    exact e2
theorem e_last {a0 a1 a2 a6 a7 a8 a9 a10 a11 a12 : Option IV} {ls : List Nat} (W : Row n c ws rows gs) (iv : GInv n c rows gs ls) : ∃ X : Mem,
    lastS [a0, a1, a2, some (yardIV c ws), some (.tup (rows.map reqIV)), some (.tup (gs.map giftIV)), a6, a7, a8, a9, a10, a11, a12] (mem s R) = .ok (.nx, [a0, a1, a2, some (yardIV c ws), some (.tup (rows.map reqIV)), some (.tup (gs.map giftIV)), a6, a7, a8, a9, a10, a11, a12]) (mem s (R ++ X)) := by
  have rl := W.rl
  have nn := W.nn
  have gl := W.gl
  have hv : Vv R (.tup (gs.map giftIV)) := .tup (gs_Fv W) (by rw [List.length_map]; omega)
  obtain ⟨X, e2⟩ := e_prog (h := mem s R) (c := c) (ws := ws) (rows := rows) (v := .tup (gs.map giftIV)) W.wl (by omega) (by omega) W.ro (fun xs e => by cases e; exact hv.tys s) (hv.ty s)
  rw [mem_app, drawn_ok iv] at e2
  refine ⟨X, ?_⟩
  unfold lastS
  generalize fn_gifts_fault = z2 at e2 ⊢
  simp only [sSeq, sAsg, sIf, sRet, sExp, dArg, dBin, dUn, dTst, dAndT, dOrT, dNotT, dIf, dAnd, dOr, dTup_eq, gateL_ok, gateT_ok, dFl, fLst_eq, fArg, aCons, aNil, dVar, dC, tgN, Sh.tg, Shs.tgs, tgT, tgsCons, tgsNil, Shs.len, bindO, List.getElem?_cons_zero, List.getElem?_cons_succ, List.set_cons_zero, List.set_cons_succ, List.length_cons, List.length_nil, List.map_cons, List.map_nil, List.cons_append, List.nil_append, List.replicate_succ, List.replicate_zero, Nat.reduceAdd, Nat.reduceSub, Nat.reduceEqDiff, if_true, Nat.reduceLeDiff, eqF_i, neF_i, addF_i, subF_i, gtF_i, ltF_i, ixF_seq, nox, wipeI, isN_non, isN_int, notN_non, notN_int, cond_true, cond_false, if_false, Bool.false_eq_true, e2, sNx]
end
end Vi_k11
end

section
namespace Vi_k11
open PySem PySem.Spec PyProof.Rows L2 VI
def lapBody : DenS := sSeq (sAsg (tgN 3) (dArg fn__law_draw_yard (aCons (dVar 1) (aCons (dBin ixF (dFl (fLst (aCons (dC (.int 1)) (aCons (dC (.int 2)) (aCons (dC (.int 4)) (aCons (dC (.int 7)) (aCons (dC (.int 3)) (aCons (dC (.int 5)) aNil)))))))) (dVar 2)) (aCons (dC (.int 3)) aNil)))))
    (sSeq (sAsg (tgN 4) (dArg fn__law_draw_row (aCons (dVar 1) (aCons (dArg lenF (aCons (dBin ixF (dVar 3) (dC (.int 1))) aNil)) (aCons (dBin ixF (dFl (fLst (aCons (dC (.int 3)) (aCons (dC (.int 8)) (aCons (dC (.int 12)) (aCons (dC (.int 20)) (aCons (dC (.int 6)) (aCons (dC (.int 9)) aNil)))))))) (dVar 2)) aNil)))))
    (sSeq (sAsg (tgN 5) (dArg fn__law_draw_gifts (aCons (dVar 1) (aCons (dVar 3) (aCons (dVar 4) aNil)))))
    (sSeq (sAsg (tgN 6) someD)
    (sSeq (sAsg (tgN 8) lateD)
    (sSeq (sFor (wSeq valsD) (Sh.tg (.n 7)) chkB) lastS)))))
def tailS : DenS := (sSeq (sAsg (Sh.tg (.t (.cons (.n 3) (.cons (.n 4) .nil)))) (dTup (aCons (dTup (aCons (dC (.int 1)) (aCons (dTup (aCons (dC (.int 3)) (aCons (dC (.int 1)) (aCons (dC (.int 1)) aNil)))) aNil))) (aCons (dTup (aCons (dTup (aCons (dC (.int 0)) (aCons (dC (.int 1)) aNil))) (aCons (dTup (aCons (dC (.int 0)) (aCons (dC (.int 2)) aNil))) (aCons (dTup (aCons (dC (.int 0)) aNil)) aNil)))) aNil))))
    (sSeq (sAsg (tgN 6) (dFl (fLst (aCons (dTup (aCons (dC (.int 0)) (aCons (dC (.int 2)) (aCons (dC .non) aNil)))) (aCons (dTup (aCons (dC (.int 1)) (aCons (dC (.int 2)) (aCons (dC (.int 0)) aNil)))) (aCons (dTup (aCons (dC (.int 0)) (aCons (dC (.int 0)) (aCons (dC .non) aNil)))) (aCons (dTup (aCons (dC (.int 0)) (aCons (dC (.int 1)) (aCons (dC .non) aNil)))) (aCons (dTup (aCons (dC (.int 2)) (aCons (dC (.int 0)) (aCons (dC (.int 0)) aNil)))) (aCons (dTup (aCons (dC (.int 0)) (aCons (dC (.int 2)) aNil))) (aCons (dTup (aCons (dC (.int 0)) (aCons (dC (.bl true)) (aCons (dC .non) aNil)))) (aCons (dTup (aCons (dC .non) (aCons (dC (.int 0)) (aCons (dC (.int 0)) aNil)))) aNil)))))))))))
    (sSeq (sAsg (tgN 9) (dFl (fLst (aCons (dC .non) (aCons (dC .non) (aCons (dTup (aCons (dC (.str "room")) (aCons (dC (.int 1)) aNil))) (aCons (dTup (aCons (dC (.str "gift")) (aCons (dC (.int 1)) aNil))) (aCons (dTup (aCons (dC (.str "gift")) (aCons (dC (.int 0)) aNil))) (aCons (dTup (aCons (dC (.str "form")) aNil)) (aCons (dTup (aCons (dC (.str "form")) aNil)) (aCons (dTup (aCons (dC (.str "room")) (aCons (dC (.int 2)) aNil))) aNil)))))))))))
    (sRet (dBin eqF (dFl (fLc (wSeq (dVar 6)) (Sh.tg (.n 7)) dYes (dArg fn_gifts_fault (aCons (dVar 3) (aCons (dVar 4) (aCons (dVar 7) aNil)))) [7])) (dVar 9))))))
theorem d_law_eq : d_law = sSeq (sAsg (tgN 1) (dArg fn__law_source (aCons (dVar 0) aNil))) (sSeq (sFor (wRng1 (aCons (dC (.int 6)) aNil)) (Sh.tg (.n 2)) lapBody) tailS) := rfl
def menu1 : List Nat := [1, 2, 4, 7, 3, 5]
def menu2 : List Nat := [3, 8, 12, 20, 6, 9]
theorem menu_ix {M : List Nat} {k : Nat} {h : Mem} (hk : k < M.length) : ixF (.fl (M.map natIV)) (.int (k : Nat)) h = .ok (.int (M[k] : Nat)) h :=
  ix_seq' (xs := M.map natIV) rfl (by rw [List.getElem?_map, List.getElem?_eq_getElem hk]; rfl)
theorem lap_ok {s : Src} {R : Mem} {scr : IV} {k : Nat} {a3 a4 a5 a6 a7 a8 a9 a10 : Option IV} (hk : k < 6) (g : s.Good) :
    ∃ (s' : Src) (R' : Mem) (b3 b4 b5 b6 b7 b8 b9 b10 : Option IV), s'.Good ∧ lapBody [some scr, some (.loc 1), some (.int (k : Nat)), a3, a4, a5, a6, a7, a8, a9, a10, none, none] (mem s R) =
      .ok (.nx, [some scr, some (.loc 1), some (.int (k : Nat)), b3, b4, b5, b6, b7, b8, b9, b10, none, none]) (mem s' R') := by
  have m1 : ∀ h, ixF (.fl [.int 1, .int 2, .int 4, .int 7, .int 3, .int 5]) (.int (k : Nat)) h = .ok (.int (menu1[k] : Nat)) h := fun h => menu_ix (M := menu1) hk
  have m2 : ∀ h, ixF (.fl [.int 3, .int 8, .int 12, .int 20, .int 6, .int 9]) (.int (k : Nat)) h = .ok (.int (menu2[k] : Nat)) h := fun h => menu_ix (M := menu2) hk
  have b1 : 0 < menu1[k] ∧ menu1[k] ≤ 30 := by
    have all : ∀ m ∈ menu1, 0 < m ∧ m ≤ 30 := by decide
    exact all _ (List.getElem_mem _)
  have b2 : menu2[k] ≤ 20 := by
    have all : ∀ m ∈ menu2, m ≤ 20 := by decide
    exact all _ (List.getElem_mem _)
  generalize menu1[k] = hs at m1 b1
  generalize menu2[k] = most at m2 b2
  obtain ⟨s2, v, g2, ⟨c, ws, rfl, c0, c1, w0, w1, wb⟩, e2⟩ := yard (s := s) (rest := R) (n := hs) (r := 3) g b1.1 (by omega) (by decide) (by decide)
  have e2 : fn__law_draw_yard [.loc 1, .int (hs : Nat), .int 3] (mem s R) = .ok (yardIV c ws) (mem s2 R) := e2
  obtain ⟨s3, ext3, rows, g3, rl, ro, e3⟩ := row (rest := R) (n := ws.length) (most := most) g2 (by omega) (by omega) (by omega)
  obtain ⟨s4, ext4, gs, ls, g4, iv, e4⟩ := gifts (rest := R ++ ext3) (c := c) (ws := ws) g3 rfl (by omega) ro (by omega)
  have W : Row ws.length c ws rows gs := ⟨rfl, by omega, by omega, by omega, wb, by omega, ro, iv.len, fun k hk => by
    obtain ⟨i, hi⟩ := List.mem_iff_getElem?.mp hk
    obtain ⟨q, hq, hkq⟩ := iv.inn i k hi
    exact (ro q (List.mem_of_getElem? hq)).2 k hkq⟩
  have lt : ∀ h, lenF [.tup (ws.map .int)] h = .ok (.int (ws.length : Nat)) h := fun h => by rw [len_t, List.length_map]
  have iy : ∀ h, ixF (yardIV c ws) (.int 1) h = .ok (.tup (ws.map .int)) h := fun _ => id rfl
  obtain ⟨s5, X5, ys, g5, l5, v5, e5⟩ := e_some (s := s4) (R := R ++ ext3 ++ ext4) (a0 := some scr) (a2 := some (.int (k : Nat))) (a6 := a6) (a7 := a7) (a8 := a8) (a9 := a9) (a10 := a10) (a12 := none) W g4
  have e6 := e_late (s := s5) (R := R ++ ext3 ++ ext4 ++ X5) (rows := rows) (ys := ys) (a0 := some scr) (a1 := some (.loc 1)) (a2 := some (.int (k : Nat))) (a3 := some (yardIV c ws)) (a5 := some (.tup (gs.map giftIV))) (a7 := a7) (a8 := a8) (a9 := a9) (a10 := a10) (a11 := none) (a12 := none) (by omega) v5
  obtain ⟨s7, X7, us, g7, l7, v7, e7⟩ := e_vals (s := s5) (R := R ++ ext3 ++ ext4 ++ X5) (ys := ys) (zs := ys.filter (isLate rows.length)) (a0 := some scr) (a2 := some (.int (k : Nat))) (a5 := some (.tup (gs.map giftIV))) (a7 := a7) (a9 := a9) (a10 := a10) (a11 := none) W g5 l5 v5 (fun z hz => ⟨v5 z (List.mem_filter.mp hz).1, late_of (List.mem_filter.mp hz).2⟩) (by rw [← l5]; exact List.length_filter_le _ _)
  obtain ⟨X8, d7, d9, d10, e8⟩ := chk_loop (s := s7) (a0 := some scr) (a1 := some (.loc 1)) (a2 := some (.int (k : Nat))) (a5 := some (.tup (gs.map giftIV))) (a6 := some (.fl ys)) (a8 := some (.fl (ys.filter (isLate rows.length)))) (a11 := none) (a12 := none) W us (R ++ ext3 ++ ext4 ++ X5 ++ X7) a7 a9 a10 v7
  obtain ⟨X9, e9⟩ := e_last (s := s7) (R := R ++ ext3 ++ ext4 ++ X5 ++ X7 ++ X8) (a0 := some scr) (a1 := some (.loc 1)) (a2 := some (.int (k : Nat))) (a6 := some (.fl ys)) (a7 := d7) (a8 := some (.fl (ys.filter (isLate rows.length)))) (a9 := d9) (a10 := d10) (a11 := none) (a12 := none) W iv
  refine ⟨s7, R ++ ext3 ++ ext4 ++ X5 ++ X7 ++ X8 ++ X9, some (yardIV c ws), some (.tup (rows.map reqIV)), some (.tup (gs.map giftIV)), some (.fl ys), d7, some (.fl (ys.filter (isLate rows.length))), d9, d10, g7, ?_⟩
  unfold lapBody
  generalize fn__law_draw_yard = z1 at e2 ⊢
  generalize fn__law_draw_row = z3 at e3 ⊢
  generalize fn__law_draw_gifts = z4 at e4 ⊢
  generalize someD = z5 at e5 ⊢
  generalize lateD = z6 at e6 ⊢
  generalize valsD = z7 at e7 ⊢
  generalize chkB = z8 at e8 ⊢
  generalize lastS = z9 at e9 ⊢
  generalize Sh.tg (.n 7) = tg7 at e8 ⊢
  simp only [sSeq, sAsg, sIf, sRet, sExp, dArg, dBin, dUn, dTst, dAndT, dOrT, dNotT, dIf, dAnd, dOr, dTup_eq, gateL_ok, gateT_ok, dFl, fLst_eq, fArg, aCons, aNil, dVar, dC, tgN, Sh.tg, Shs.tgs, tgT, tgsCons, tgsNil, Shs.len, bindO, List.getElem?_cons_zero, List.getElem?_cons_succ, List.set_cons_zero, List.set_cons_succ, List.length_cons, List.length_nil, List.map_cons, List.map_nil, List.cons_append, List.nil_append, List.replicate_succ, List.replicate_zero, Nat.reduceAdd, Nat.reduceSub, Nat.reduceEqDiff, if_true, Nat.reduceLeDiff, eqF_i, neF_i, addF_i, subF_i, gtF_i, ltF_i, ixF_seq, nox, wipeI, isN_non, isN_int, notN_non, notN_int, cond_true, cond_false, if_false, Bool.false_eq_true, m1, e2, iy, lt, m2, e3, e4, e5, e6, sFor, wSeq, e7, e8, e9]
theorem laps {scr : IV} : ∀ (ks : List Nat) (s : Src) (R : Mem) (a2 a3 a4 a5 a6 a7 a8 a9 a10 : Option IV), (∀ k ∈ ks, k < 6) → s.Good →
    ∃ (s' : Src) (R' : Mem) (b2 b3 b4 b5 b6 b7 b8 b9 b10 : Option IV), s'.Good ∧ forV (Sh.tg (.n 2)) lapBody (ks.map natIV) [some scr, some (.loc 1), a2, a3, a4, a5, a6, a7, a8, a9, a10, none, none] (mem s R) =
      .ok (.nx, [some scr, some (.loc 1), b2, b3, b4, b5, b6, b7, b8, b9, b10, none, none]) (mem s' R')
  | [], s, R, a2, a3, a4, a5, a6, a7, a8, a9, a10, _, g => ⟨s, R, a2, a3, a4, a5, a6, a7, a8, a9, a10, g, rfl⟩
  | k :: ks, s, R, a2, a3, a4, a5, a6, a7, a8, a9, a10, hk, g => by
    obtain ⟨s1, R1, c3, c4, c5, c6, c7, c8, c9, c10, g1, e1⟩ := lap_ok (R := R) (scr := scr) (a3 := a3) (a4 := a4) (a5 := a5) (a6 := a6) (a7 := a7) (a8 := a8) (a9 := a9) (a10 := a10) (hk k List.mem_cons_self) g
    obtain ⟨s2, R2, b2, b3, b4, b5, b6, b7, b8, b9, b10, g2, e2⟩ := laps ks s1 R1 (some (.int (k : Nat))) c3 c4 c5 c6 c7 c8 c9 c10 (fun q hq => hk q (List.mem_cons_of_mem _ hq)) g1
    refine ⟨s2, R2, b2, b3, b4, b5, b6, b7, b8, b9, b10, g2, ?_⟩
    rw [List.map_cons]
    unfold forV
    show (lapBody [some scr, some (.loc 1), some (.int (k : Nat)), a3, a4, a5, a6, a7, a8, a9, a10, none, none] _).bind _ = _
    rw [e1, Ret.bind_ok]
    exact e2
/-- a comprehension of values that lays -/
theorem lc_lay {t : Tg} {el : Den} {ρ : Sl} {f : IV → IV} : ∀ (items : List IV) (n : Nat) (h : Mem), (∀ x ∈ items, ∀ h, ∃ ρ1 X, t x ρ = some ρ1 ∧ el ρ1 h = .ok (f x) (h ++ X)) → n + items.length ≤ 100000 → ∃ X : Mem, lcV t dYes el ρ items n h = .ok (items.map f) (h ++ X)
  | [], n, h, _, _ => ⟨[], by rw [List.append_nil]; rfl⟩
  | x :: r, n, h, hs, hn => by
    rw [List.length_cons] at hn
    obtain ⟨ρ1, X, e1, e2⟩ := hs x List.mem_cons_self h
    obtain ⟨X2, e3⟩ := lc_lay r (n + 1) (h ++ X) (fun y hy => hs y (List.mem_cons_of_mem _ hy)) (by omega)
    rw [List.append_assoc] at e3
    refine ⟨X ++ X2, ?_⟩
    unfold lcV
    rw [e1]
    simp only [dYes, nox, bindO, if_true, e2, if_pos (sl_lt (show n ≤ 100000 by omega))]
    rw [e3]
    rfl
def some8 : List IV := [.tup [.int 0, .int 2, .non], .tup [.int 1, .int 2, .int 0], .tup [.int 0, .int 0, .non], .tup [.int 0, .int 1, .non], .tup [.int 2, .int 0, .int 0], .tup [.int 0, .int 2], .tup [.int 0, .bl true, .non], .tup [.non, .int 0, .int 0]]
def due8 : List IV := [.non, .non, .tup [.str "room", .int 1], .tup [.str "gift", .int 1], .tup [.str "gift", .int 0], .tup [.str "form"], .tup [.str "form"], .tup [.str "room", .int 2]]
def rows3 : List (List Nat) := [[0, 1], [0, 2], [0]]
theorem due_is : some8.map (faultI 1 rows3) = due8 := by rfl
theorem tail_ok {s : Src} {R : Mem} {scr : IV} {a2 a3 a4 a5 a6 a7 a8 a9 a10 : Option IV} :
    ∃ (ρ : Sl) (h : Mem), tailS [some scr, some (.loc 1), a2, a3, a4, a5, a6, a7, a8, a9, a10, none, none] (mem s R) = .ok (.rt (.bl true), ρ) h := by
  have tyI : ∀ x ∈ some8, ∃ xs, x = .tup xs ∧ ∀ h, Tys h xs := by
    intro x hx
    have flat : ∀ y : IV, y = .non ∨ y = .bl true ∨ (∃ i, y = .int i) → ∀ h, ∃ t, tyN h y = some t ∧ (t = .int ↔ ∃ i, y = .int i) := fun y hy h => by
      rcases hy with e | e | ⟨i, e⟩
      · rw [e]; exact ⟨.non, rfl, by simp⟩
      · rw [e]; exact ⟨.bl, rfl, by simp⟩
      · rw [e]; exact ⟨.int, rfl, by simp⟩
    simp only [some8, List.mem_cons, List.not_mem_nil, or_false] at hx
    rcases hx with e | e | e | e | e | e | e | e <;> refine ⟨_, e, fun h y hy => flat y ?_ h⟩ <;> simp only [List.mem_cons, List.not_mem_nil, or_false] at hy <;> first
      | (rcases hy with q | q | q <;> rw [q] <;> simp)
      | (rcases hy with q | q <;> rw [q] <;> simp)
  have ro : ∀ r ∈ rows3, RqOk 3 r := by
    intro r hr
    simp only [rows3, List.mem_cons, List.not_mem_nil, or_false] at hr
    rcases hr with e | e | e <;> rw [e] <;> exact ⟨by decide, by decide⟩
  obtain ⟨X, e1⟩ := lc_lay (t := tgN 7) (el := dArg fn_gifts_fault (aCons (dVar 3) (aCons (dVar 4) (aCons (dVar 7) aNil)))) (ρ := [some scr, some (.loc 1), a2, some (yardIV 1 [3, 1, 1]), some (.tup (rows3.map reqIV)), a5, some (.fl some8), none, a8, some (.fl due8), a10, none, none]) (f := faultI 1 rows3) some8 0 (mem s R) (fun x hx h => by
    obtain ⟨xs, rfl, ty⟩ := tyI x hx
    obtain ⟨X, e⟩ := e_prog (h := h) (c := 1) (ws := [3, 1, 1]) (n := 3) (rows := rows3) (v := .tup xs) rfl (by decide) (by decide) ro (fun xs' e => by cases e; exact ty h) ⟨.tup, rfl, by simp⟩
    refine ⟨_, X, rfl, ?_⟩
    generalize fn_gifts_fault = z at e ⊢
    simp only [sSeq, sAsg, sIf, sRet, sExp, dArg, dBin, dUn, dTst, dAndT, dOrT, dNotT, dIf, dAnd, dOr, dTup_eq, gateL_ok, gateT_ok, dFl, fLst_eq, fArg, aCons, aNil, dVar, dC, tgN, Sh.tg, Shs.tgs, tgT, tgsCons, tgsNil, Shs.len, bindO, List.getElem?_cons_zero, List.getElem?_cons_succ, List.set_cons_zero, List.set_cons_succ, List.length_cons, List.length_nil, List.map_cons, List.map_nil, List.cons_append, List.nil_append, List.replicate_succ, List.replicate_zero, Nat.reduceAdd, Nat.reduceSub, Nat.reduceEqDiff, if_true, Nat.reduceLeDiff, eqF_i, neF_i, addF_i, subF_i, gtF_i, ltF_i, ixF_seq, nox, wipeI, isN_non, isN_int, notN_non, notN_int, cond_true, cond_false, if_false, Bool.false_eq_true, e]) (by decide)
  rw [due_is] at e1
  have sz : ∀ h, Sz h (.fl due8) (.list (some8.map fun v => datF (faultI 1 rows3 v))) 3 5000 := fun h => by
    rw [← due_is]
    exact (Sz.fl (SzL.map (f := faultI 1 rows3) (g := fun v => datF (faultI 1 rows3 v)) (k := 2) (w := 300) fun v _ => fault_sz (by decide))).mono (by decide) (by decide)
  have eq : ∀ h, eqF (.fl due8) (.fl due8) h = .ok (.bl true) h := fun h => by
    have : eqF (.fl due8) (.fl due8) h = dataF (fun d e => PyData.eqv d e) (.fl due8) (.fl due8) h := rfl
    rw [this, data_ok (sz h) (sz h) (by decide) (by decide), SeqAt.eqv_refl _ (sz h).lay]
  refine ⟨[some scr, some (.loc 1), a2, some (yardIV 1 [3, 1, 1]), some (.tup (rows3.map reqIV)), a5, some (.fl some8), a7, a8, some (.fl due8), a10, none, none], mem s R ++ X, ?_⟩
  have yy : (.tup [.int 1, .tup [.int 3, .int 1, .int 1]] : IV) = yardIV 1 [3, 1, 1] := rfl
  have rr : (.tup [.tup [.int 0, .int 1], .tup [.int 0, .int 2], .tup [.int 0]] : IV) = .tup (rows3.map reqIV) := rfl
  have ss : (.fl [.tup [.int 0, .int 2, .non], .tup [.int 1, .int 2, .int 0], .tup [.int 0, .int 0, .non], .tup [.int 0, .int 1, .non], .tup [.int 2, .int 0, .int 0], .tup [.int 0, .int 2], .tup [.int 0, .bl true, .non], .tup [.non, .int 0, .int 0]] : IV) = .fl some8 := rfl
  have dd : (.fl [.non, .non, .tup [.str "room", .int 1], .tup [.str "gift", .int 1], .tup [.str "gift", .int 0], .tup [.str "form"], .tup [.str "form"], .tup [.str "room", .int 2]] : IV) = .fl due8 := rfl
  have wsd : ∀ ρ h, ρ[6]? = some (some (.fl some8)) → wSeq (dVar 6) ρ h = .ok some8 h := fun ρ h e => by
    unfold wSeq
    rw [e_var e]
    rfl
  have ws6 := fun h => wsd [some scr, some (.loc 1), a2, some (yardIV 1 [3, 1, 1]), some (.tup (rows3.map reqIV)), a5, some (.fl some8), a7, a8, some (.fl due8), a10, none, none] h rfl
  have e1' : lcV (Sh.tg (.n 7)) dYes (dArg fn_gifts_fault (aCons (dVar 3) (aCons (dVar 4) (aCons (dVar 7) aNil)))) _ some8 0 (mem s R) = _ := e1
  unfold tailS
  generalize dArg fn_gifts_fault (aCons (dVar 3) (aCons (dVar 4) (aCons (dVar 7) aNil))) = el at e1' ⊢
  generalize wSeq (dVar 6) = ww at ws6 ⊢
  generalize Sh.tg (.n 7) = tg7 at e1' ⊢
  generalize hY : yardIV 1 [3, 1, 1] = vY at *
  generalize hR : (IV.tup (rows3.map reqIV)) = vR at *
  generalize hS : (IV.fl some8) = vS at *
  generalize hD : (IV.fl due8) = vD at *
  clear sz tyI ro hY hR hS e1 wsd
  simp only [sSeq, sAsg, sIf, sRet, sExp, dArg, dBin, dUn, dTst, dAndT, dOrT, dNotT, dIf, dAnd, dOr, dTup_eq, gateL_ok, gateT_ok, dFl, fLst_eq, fArg, aCons, aNil, dVar, dC, tgN, Sh.tg, Shs.tgs, tgT, tgsCons, tgsNil, Shs.len, bindO, List.getElem?_cons_zero, List.getElem?_cons_succ, List.set_cons_zero, List.set_cons_succ, List.length_cons, List.length_nil, List.map_cons, List.map_nil, List.cons_append, List.nil_append, List.replicate_succ, List.replicate_zero, Nat.reduceAdd, Nat.reduceSub, Nat.reduceEqDiff, if_true, Nat.reduceLeDiff, eqF_i, neF_i, addF_i, subF_i, gtF_i, ltF_i, ixF_seq, nox, wipeI, isN_non, isN_int, notN_non, notN_int, cond_true, cond_false, if_false, Bool.false_eq_true, Option.bind_some, yy, rr, ss, dd, fLc, ws6, e1', hD, eq]
theorem law_true : ∀ ns : List Int, ns.length ≤ 63 → ∃ h, fn_law [.fz (ns.map IV.int)] [] = .ok (.bl true) h := fun ns hl => by
  obtain ⟨s, g, e⟩ := source hl
  obtain ⟨s2, R2, b2, b3, b4, b5, b6, b7, b8, b9, b10, g2, e2⟩ := laps (scr := .fz (ns.map .int)) (List.range 6) s [] none none none none none none none none none (fun k hk => List.mem_range.mp hk) g
  obtain ⟨ρ, h, e3⟩ := tail_ok (s := s2) (R := R2) (scr := .fz (ns.map .int)) (a2 := b2) (a3 := b3) (a4 := b4) (a5 := b5) (a6 := b6) (a7 := b7) (a8 := b8) (a9 := b9) (a10 := b10)
  refine ⟨h, ?_⟩
  unfold fn_law
  refine fn_eq (ρ := ρ) rfl ?_
  rw [d_law_eq]
  have wr : ∀ ρ h, wRng1 (aCons (dC (.int 6)) aNil) ρ h = .ok ((List.range 6).map natIV) h := fun ρ h => by
    rw [← Vi_rg]
    exact rng1 (n := 6) v_c (by decide)
  generalize wRng1 (aCons (dC (.int 6)) aNil) = rgg at wr ⊢
  generalize fn__law_source = z1 at e ⊢
  generalize lapBody = bd at e2 ⊢
  generalize tailS = tl at e3 ⊢
  generalize Sh.tg (.n 2) = tgg at e2 ⊢
  simp only [sSeq, sAsg, sIf, sRet, sExp, dArg, dBin, dUn, dTst, dAndT, dOrT, dNotT, dIf, dAnd, dOr, dTup_eq, gateL_ok, gateT_ok, dFl, fLst_eq, fArg, aCons, aNil, dVar, dC, tgN, Sh.tg, Shs.tgs, tgT, tgsCons, tgsNil, Shs.len, bindO, List.getElem?_cons_zero, List.getElem?_cons_succ, List.set_cons_zero, List.set_cons_succ, List.length_cons, List.length_nil, List.map_cons, List.map_nil, List.cons_append, List.nil_append, List.replicate_succ, List.replicate_zero, Nat.reduceAdd, Nat.reduceSub, Nat.reduceEqDiff, if_true, Nat.reduceLeDiff, eqF_i, neF_i, addF_i, subF_i, gtF_i, ltF_i, ixF_seq, nox, wipeI, isN_non, isN_int, notN_non, notN_int, cond_true, cond_false, if_false, Bool.false_eq_true, e, sFor, wr, e2, e3]
end Vi_k11
end

section
namespace Vi_k11
open PySem PySem.Spec PyProof.Rows L2 VI
def topS (i : Nat) : Stmt := PySem.Challenge.pw_shareforsure_k11_gifts_judged.main.body.getD i (.Pass ⟨0, 0, 0, 0⟩)
abbrev s_is_number : Stmt := topS 1
abbrev N_is_number : List Str := ["value"]
theorem sc_is_number : FnScope N_is_number ["value"] (defScope s_is_number) := ⟨rfl, rfl, rfl, by decide +kernel, rfl, by decide +kernel, by decide +kernel⟩
abbrev s_is_tuple_of : Stmt := topS 2
abbrev N_is_tuple_of : List Str := ["many", "value"]
theorem sc_is_tuple_of : FnScope N_is_tuple_of ["many", "value"] (defScope s_is_tuple_of) := ⟨rfl, rfl, rfl, by decide +kernel, rfl, by decide +kernel, by decide +kernel⟩
abbrev s__room_fault : Stmt := topS 6
abbrev N__room_fault : List Str := ["yard", "gifts", "loads", "request", "gift"]
theorem sc__room_fault : FnScope N__room_fault ["yard", "gifts"] (defScope s__room_fault) := ⟨rfl, rfl, rfl, by decide +kernel, rfl, by decide +kernel, by decide +kernel⟩
abbrev s__law_source : Stmt := topS 8
abbrev N__law_source : List Str := ["script", "mixed", "cell"]
theorem sc__law_source : FnScope N__law_source ["script"] (defScope s__law_source) := ⟨rfl, rfl, rfl, by decide +kernel, rfl, by decide +kernel, by decide +kernel⟩
abbrev s__law_pick : Stmt := topS 9
abbrev N__law_pick : List Str := ["source", "many", "left", "mixed"]
theorem sc__law_pick : FnScope N__law_pick ["source", "many"] (defScope s__law_pick) := ⟨rfl, rfl, rfl, by decide +kernel, rfl, by decide +kernel, by decide +kernel⟩
abbrev s__law_is_number : Stmt := topS 16
abbrev N__law_is_number : List Str := ["value"]
theorem sc__law_is_number : FnScope N__law_is_number ["value"] (defScope s__law_is_number) := ⟨rfl, rfl, rfl, by decide +kernel, rfl, by decide +kernel, by decide +kernel⟩
abbrev s__is_form : Stmt := topS 5
abbrev N__is_form : List Str := ["row", "value", "gift"]
theorem sc__is_form : FnScope N__is_form ["row", "value"] (defScope s__is_form) := ⟨rfl, rfl, rfl, by decide +kernel, rfl, by decide +kernel, by decide +kernel⟩
abbrev s__law_of : Stmt := topS 10
abbrev N__law_of : List Str := ["source", "some"]
theorem sc__law_of : FnScope N__law_of ["source", "some"] (defScope s__law_of) := ⟨rfl, rfl, rfl, by decide +kernel, rfl, by decide +kernel, by decide +kernel⟩
abbrev s__law_mixed : Stmt := topS 11
abbrev N__law_mixed : List Str := ["source", "things", "rest", "lap"]
theorem sc__law_mixed : FnScope N__law_mixed ["source", "things"] (defScope s__law_mixed) := ⟨rfl, rfl, rfl, by decide +kernel, rfl, by decide +kernel, by decide +kernel⟩
abbrev s__law_gifts_fault : Stmt := topS 17
abbrev N__law_gifts_fault : List Str := ["yard", "row", "value", "wrong", "r", "gift"]
theorem sc__law_gifts_fault : FnScope N__law_gifts_fault ["yard", "row", "value"] (defScope s__law_gifts_fault) := ⟨rfl, rfl, rfl, by decide +kernel, rfl, by decide +kernel, by decide +kernel⟩
abbrev s_gifts_fault : Stmt := topS 4
abbrev N_gifts_fault : List Str := ["yard", "row", "value", "request", "gift"]
theorem sc_gifts_fault : FnScope N_gifts_fault ["yard", "row", "value"] (defScope s_gifts_fault) := ⟨rfl, rfl, rfl, by decide +kernel, rfl, by decide +kernel, by decide +kernel⟩
abbrev s__law_draw_request : Stmt := topS 12
abbrev N__law_draw_request : List Str := ["source", "houses", "way", "first", "many"]
theorem sc__law_draw_request : FnScope N__law_draw_request ["source", "houses"] (defScope s__law_draw_request) := ⟨rfl, rfl, rfl, by decide +kernel, rfl, by decide +kernel, by decide +kernel⟩
abbrev s__law_draw_yard : Stmt := topS 13
abbrev N__law_draw_yard : List Str := ["source", "houses", "room", "many", "worths", "house"]
theorem sc__law_draw_yard : FnScope N__law_draw_yard ["source", "houses", "room"] (defScope s__law_draw_yard) := ⟨rfl, rfl, rfl, by decide +kernel, rfl, by decide +kernel, by decide +kernel⟩
abbrev s__law_draw_gifts : Stmt := topS 15
abbrev N__law_draw_gifts : List Str := ["source", "yard", "row", "loads", "found", "request", "open_ones", "gift", "house"]
theorem sc__law_draw_gifts : FnScope N__law_draw_gifts ["source", "yard", "row"] (defScope s__law_draw_gifts) := ⟨rfl, rfl, rfl, by decide +kernel, rfl, by decide +kernel, by decide +kernel⟩
abbrev s__law_bent_gifts : Stmt := topS 18
abbrev N__law_bent_gifts : List Str := ["source", "yard", "row", "gifts", "odd", "k", "some"]
theorem sc__law_bent_gifts : FnScope N__law_bent_gifts ["source", "yard", "row", "gifts"] (defScope s__law_bent_gifts) := ⟨rfl, rfl, rfl, by decide +kernel, rfl, by decide +kernel, by decide +kernel⟩
abbrev s__law_draw_row : Stmt := topS 14
abbrev N__law_draw_row : List Str := ["source", "houses", "most", "found", "lap", "again"]
theorem sc__law_draw_row : FnScope N__law_draw_row ["source", "houses", "most"] (defScope s__law_draw_row) := ⟨rfl, rfl, rfl, by decide +kernel, rfl, by decide +kernel, by decide +kernel⟩
abbrev s_law : Stmt := topS 19
abbrev N_law : List Str := ["script", "source", "lap", "yard", "row", "gifts", "some", "value", "late", "due", "kept", "look", "one"]
theorem sc_law : FnScope N_law ["script"] (defScope s_law) := ⟨rfl, rfl, rfl, by decide +kernel, rfl, by decide +kernel, by decide +kernel⟩
structure Txt (K : PySem.W.Frag) (mg : Str → Option Value) where
  f_is_number : Addr
  fd_is_number : FuncData
  F_is_number : Fun K "is_number" "is_number" s_is_number f_is_number fd_is_number
  b_is_number : Binds K fd_is_number ["value"] []
  g_is_number : mg "is_number" = some (.ref f_is_number)
  f_is_tuple_of : Addr
  fd_is_tuple_of : FuncData
  F_is_tuple_of : Fun K "is_tuple_of" "is_tuple_of" s_is_tuple_of f_is_tuple_of fd_is_tuple_of
  b_is_tuple_of : Binds K fd_is_tuple_of ["many", "value"] []
  g_is_tuple_of : mg "is_tuple_of" = some (.ref f_is_tuple_of)
  f__room_fault : Addr
  fd__room_fault : FuncData
  F__room_fault : Fun K "_room_fault" "_room_fault" s__room_fault f__room_fault fd__room_fault
  b__room_fault : Binds K fd__room_fault ["yard", "gifts"] []
  g__room_fault : mg "_room_fault" = some (.ref f__room_fault)
  f__law_source : Addr
  fd__law_source : FuncData
  F__law_source : Fun K "_law_source" "_law_source" s__law_source f__law_source fd__law_source
  b__law_source : Binds K fd__law_source ["script"] []
  g__law_source : mg "_law_source" = some (.ref f__law_source)
  f__law_pick : Addr
  fd__law_pick : FuncData
  F__law_pick : Fun K "_law_pick" "_law_pick" s__law_pick f__law_pick fd__law_pick
  b__law_pick : Binds K fd__law_pick ["source", "many"] []
  g__law_pick : mg "_law_pick" = some (.ref f__law_pick)
  f__law_is_number : Addr
  fd__law_is_number : FuncData
  F__law_is_number : Fun K "_law_is_number" "_law_is_number" s__law_is_number f__law_is_number fd__law_is_number
  b__law_is_number : Binds K fd__law_is_number ["value"] []
  g__law_is_number : mg "_law_is_number" = some (.ref f__law_is_number)
  f__is_form : Addr
  fd__is_form : FuncData
  F__is_form : Fun K "_is_form" "_is_form" s__is_form f__is_form fd__is_form
  b__is_form : Binds K fd__is_form ["row", "value"] []
  g__is_form : mg "_is_form" = some (.ref f__is_form)
  f__law_of : Addr
  fd__law_of : FuncData
  F__law_of : Fun K "_law_of" "_law_of" s__law_of f__law_of fd__law_of
  b__law_of : Binds K fd__law_of ["source", "some"] []
  g__law_of : mg "_law_of" = some (.ref f__law_of)
  f__law_mixed : Addr
  fd__law_mixed : FuncData
  F__law_mixed : Fun K "_law_mixed" "_law_mixed" s__law_mixed f__law_mixed fd__law_mixed
  b__law_mixed : Binds K fd__law_mixed ["source", "things"] []
  g__law_mixed : mg "_law_mixed" = some (.ref f__law_mixed)
  f__law_gifts_fault : Addr
  fd__law_gifts_fault : FuncData
  F__law_gifts_fault : Fun K "_law_gifts_fault" "_law_gifts_fault" s__law_gifts_fault f__law_gifts_fault fd__law_gifts_fault
  b__law_gifts_fault : Binds K fd__law_gifts_fault ["yard", "row", "value"] []
  g__law_gifts_fault : mg "_law_gifts_fault" = some (.ref f__law_gifts_fault)
  f_gifts_fault : Addr
  fd_gifts_fault : FuncData
  F_gifts_fault : Fun K "gifts_fault" "gifts_fault" s_gifts_fault f_gifts_fault fd_gifts_fault
  b_gifts_fault : Binds K fd_gifts_fault ["yard", "row", "value"] []
  g_gifts_fault : mg "gifts_fault" = some (.ref f_gifts_fault)
  f__law_draw_request : Addr
  fd__law_draw_request : FuncData
  F__law_draw_request : Fun K "_law_draw_request" "_law_draw_request" s__law_draw_request f__law_draw_request fd__law_draw_request
  b__law_draw_request : Binds K fd__law_draw_request ["source", "houses"] []
  g__law_draw_request : mg "_law_draw_request" = some (.ref f__law_draw_request)
  f__law_draw_yard : Addr
  fd__law_draw_yard : FuncData
  F__law_draw_yard : Fun K "_law_draw_yard" "_law_draw_yard" s__law_draw_yard f__law_draw_yard fd__law_draw_yard
  b__law_draw_yard : Binds K fd__law_draw_yard ["source", "houses", "room"] []
  g__law_draw_yard : mg "_law_draw_yard" = some (.ref f__law_draw_yard)
  f__law_draw_gifts : Addr
  fd__law_draw_gifts : FuncData
  F__law_draw_gifts : Fun K "_law_draw_gifts" "_law_draw_gifts" s__law_draw_gifts f__law_draw_gifts fd__law_draw_gifts
  b__law_draw_gifts : Binds K fd__law_draw_gifts ["source", "yard", "row"] []
  g__law_draw_gifts : mg "_law_draw_gifts" = some (.ref f__law_draw_gifts)
  f__law_bent_gifts : Addr
  fd__law_bent_gifts : FuncData
  F__law_bent_gifts : Fun K "_law_bent_gifts" "_law_bent_gifts" s__law_bent_gifts f__law_bent_gifts fd__law_bent_gifts
  b__law_bent_gifts : Binds K fd__law_bent_gifts ["source", "yard", "row", "gifts"] []
  g__law_bent_gifts : mg "_law_bent_gifts" = some (.ref f__law_bent_gifts)
  f__law_draw_row : Addr
  fd__law_draw_row : FuncData
  F__law_draw_row : Fun K "_law_draw_row" "_law_draw_row" s__law_draw_row f__law_draw_row fd__law_draw_row
  b__law_draw_row : Binds K fd__law_draw_row ["source", "houses", "most"] []
  g__law_draw_row : mg "_law_draw_row" = some (.ref f__law_draw_row)
  f_law : Addr
  fd_law : FuncData
  F_law : Fun K "law" "law" s_law f_law fd_law
  b_law : Binds K fd_law ["script"] []
  g_law : mg "law" = some (.ref f_law)
  m_abs : mg "abs" = none
  m_all : mg "all" = none
  m_bool : mg "bool" = none
  m_enumerate : mg "enumerate" = none
  m_int : mg "int" = none
  m_isinstance : mg "isinstance" = none
  m_len : mg "len" = none
  m_list : mg "list" = none
  m_max : mg "max" = none
  m_min : mg "min" = none
  m_range : mg "range" = none
  m_repr : mg "repr" = none
  m_sorted : mg "sorted" = none
  m_tuple : mg "tuple" = none
section
variable {P : Program} {w : World} {K : PySem.W.Frag} {mg : Str → Option Value} {base : Heap} (T : Txt K mg) (SB : SysB base)
include SB
theorem ok_is_number : FnG P w K mg base CX0 (0 + 1) T.f_is_number T.fd_is_number ["value"] (spI K fn_is_number) := by
  refine fn_okG (b := d_is_number) T.F_is_number sc_is_number rfl rfl fun cdv A outer s H E hr hg => ?_
  exact (r_one (r_ret (r_andV (r_isi .int (by rfl) T.m_isinstance (by rfl) T.m_int bt_int (r_var 0)) (r_andV (r_notV (r_isi .bl (by rfl) T.m_isinstance (by rfl) T.m_bool bt_bool (r_var 0))) (r_oneV (r_cmp op_ge rb_ge (r_var 0) r_int))))))
theorem ok_is_tuple_of : FnG P w K mg base CX0 (0 + 1) T.f_is_tuple_of T.fd_is_tuple_of ["many", "value"] (spI K fn_is_tuple_of) := by
  refine fn_okG (b := d_is_tuple_of) T.F_is_tuple_of sc_is_tuple_of rfl rfl fun cdv A outer s H E hr hg => ?_
  exact (r_one (r_ret (r_andV (r_isi .tup (by rfl) T.m_isinstance (by rfl) T.m_tuple bt_tuple (r_var 1)) (r_oneV (r_cmp (op_eqA hr.units) rb_eq (r_blt call_lenA rc_len (by rfl) T.m_len bt_len (r_cons (r_var 1) r_nil)) (r_var 0))))))
theorem ok__room_fault : FnG P w K mg base CX0 (0 + 1) T.f__room_fault T.fd__room_fault ["yard", "gifts"] (spI K fn__room_fault) := by
  refine fn_okG (b := d__room_fault) T.F__room_fault sc__room_fault rfl rfl fun cdv A outer s H E hr hg => ?_
  exact (r_seq (r_set (i := 2) sc__room_fault.nd rfl (by first | exact .inl rfl | exact .inr rfl) (r_al (r_rep (r_fl (r_lst (r_cons r_int r_nil))) (r_blt call_lenA rc_len (by rfl) T.m_len bt_len (r_cons (r_ix (r_var 0) r_int) r_nil)))))
    (r_seq (r_for PassesOwn.never rfl (r_wEnum (by rfl) T.m_enumerate (r_cons (r_var 1) r_nil)) (r_sh (s := (.t (.cons (.n 3) (.cons (.n 4) .nil)))) (r_rawT rfl (r_rawsC (r_rawN (i := 3) sc__room_fault.nd rfl (by first | exact .inl rfl | exact .inr rfl)) (r_rawsC (r_rawN (i := 4) sc__room_fault.nd rfl (by first | exact .inl rfl | exact .inr rfl)) r_rawsN)))) (r_seq (r_if (r_cmpT op_isN rb_isN (r_var 4) r_non) (r_one r_cont) r_snil)
    (r_seq (r_if (r_cmpT (op_eqA hr.units) rb_eq (r_ix (r_var 2) (r_var 4)) (r_ix (r_var 0) r_int)) (r_one (r_ret (r_tup (r_cons r_str (r_cons (r_var 3) r_nil))))) r_snil)
    (r_one (r_augL (r_var 2) (r_var 4) r_int ip_add rip_int)))))
    (r_one (r_ret r_non))))
theorem ok__law_source : FnG P w K mg base CX0 (0 + 1) T.f__law_source T.fd__law_source ["script"] (spI K fn__law_source) := by
  refine fn_okG (b := d__law_source) T.F__law_source sc__law_source rfl rfl fun cdv A outer s H E hr hg => ?_
  exact (r_seq (r_set (i := 1) sc__law_source.nd rfl (by first | exact .inl rfl | exact .inr rfl) r_int)
    (r_seq (r_for PassesOwn.never rfl (r_wSeq (r_var 0)) (r_sh (s := (.n 2)) (r_rawN (i := 2) sc__law_source.nd rfl (by first | exact .inl rfl | exact .inr rfl))) (r_one (r_set (i := 1) sc__law_source.nd rfl (by first | exact .inl rfl | exact .inr rfl) (r_mod (r_ty call_int1 rc_toInt (by rfl) T.m_int bt_int (r_cons (r_add (r_add (r_mul (r_var 1) r_int) (r_mul (r_var 2) r_int)) r_int) r_nil)) r_int))))
    (r_one (r_ret (r_disp (r_pd (r_al (r_rev (r_fl (r_lc (own := [("cell", 2)]) (s := (.n 2)) rfl sc__law_source.nd (r_wSeq (r_var 0)) (blkOk_by (N := N__law_source) (sc := defScope s__law_source) (by decide +kernel)) (by rfl) (fun _ _ _ _ _ => (r_rawN (i := 2) sc__law_source.nd rfl (by first | exact .inl rfl | exact .inr rfl))) (fun _ _ _ _ _ => r_ifs0) (fun _ _ _ _ _ => (r_blt call_abs rc_abs (by rfl) T.m_abs bt_abs (r_cons (r_var 2) r_nil))))))) (r_pd r_int (r_pd (r_var 1) (r_pd r_int r_pd0)))) (by decide) (by rfl) (by rfl) (by simp) (by decide))))))
theorem ok__law_pick : FnG P w K mg base CX0 (0 + 1) T.f__law_pick T.fd__law_pick ["source", "many"] (spI K fn__law_pick) := by
  refine fn_okG (b := d__law_pick) T.F__law_pick sc__law_pick rfl rfl fun cdv A outer s H E hr hg => ?_
  exact (r_seq (r_while PassesOwn.never (PW.pt (r_and (r_cmpT op_gt rb_gt (r_var 1) r_int) (r_and (r_cmpT op_lt rb_lt (r_dget (hu_of hr) (r_var 0) r_str) r_int) (r_and1 (r_cmpT op_gt rb_gt (r_blt call_lenA rc_len (by rfl) T.m_len bt_len (r_cons (r_dget (hu_of hr) (r_var 0) r_str) r_nil)) r_int))))) (r_one (r_dput (hu_of hr) (r_var 0) r_str (PE_imp (pe_bm0 PySem.F.plainAttrs_list PySem.F.slot_list_pop PySem.F.type_list_pop mt_pop (r_dget (hu_of hr) (r_var 0) r_str)) (i_ml0 rm_pop)))))
    (r_seq (r_set (i := 2) sc__law_pick.nd rfl (by first | exact .inl rfl | exact .inr rfl) (r_dget (hu_of hr) (r_var 0) r_str))
    (r_seq (r_if (PW.pt (r_or (r_cmpT op_lt rb_lt (r_var 1) r_int) (r_or1 (r_cmpT op_gt rb_gt (r_var 2) r_int)))) (r_seq (r_dput (hu_of hr) (r_var 0) r_str (r_div (r_var 2) (r_blt (call_max2 rfl) rc_max (by rfl) T.m_max bt_max (r_cons r_int (r_cons (r_var 1) r_nil)))))
    (r_one (r_ret (r_mod (r_ty call_int1 rc_toInt (by rfl) T.m_int bt_int (r_cons (r_var 2) r_nil)) (r_blt (call_max2 rfl) rc_max (by rfl) T.m_max bt_max (r_cons r_int (r_cons (r_var 1) r_nil))))))) r_snil)
    (r_seq (r_dput (hu_of hr) (r_var 0) r_str (r_add (r_dget (hu_of hr) (r_var 0) r_str) r_int))
    (r_seq (r_set (i := 3) sc__law_pick.nd rfl (by first | exact .inl rfl | exact .inr rfl) (r_mod (r_ty call_int1 rc_toInt (by rfl) T.m_int bt_int (r_cons (r_add (r_dget (hu_of hr) (r_var 0) r_str) (r_mul (r_dget (hu_of hr) (r_var 0) r_str) r_int)) r_nil)) r_int))
    (r_seq (r_set (i := 3) sc__law_pick.nd rfl (by first | exact .inl rfl | exact .inr rfl) (r_mod (r_ty call_int1 rc_toInt (by rfl) T.m_int bt_int (r_cons (r_add (r_mul (r_var 3) (r_var 3)) (r_mul (r_dget (hu_of hr) (r_var 0) r_str) r_int)) r_nil)) r_int))
    (r_seq (r_dput (hu_of hr) (r_var 0) r_str (r_var 3))
    (r_one (r_ret (r_mod (r_ty call_int1 rc_toInt (by rfl) T.m_int bt_int (r_cons (r_div (r_var 3) r_int) r_nil)) (r_var 1)))))))))))
theorem ok__law_is_number : FnG P w K mg base CX0 (0 + 1) T.f__law_is_number T.fd__law_is_number ["value"] (spI K fn__law_is_number) := by
  refine fn_okG (b := d__law_is_number) T.F__law_is_number sc__law_is_number rfl rfl fun cdv A outer s H E hr hg => ?_
  exact (r_one (r_ret (r_andV (r_isi .int (by rfl) T.m_isinstance (by rfl) T.m_int bt_int (r_var 0)) (r_andV (r_notV (r_isi .bl (by rfl) T.m_isinstance (by rfl) T.m_bool bt_bool (r_var 0))) (r_oneV (r_cmp op_ge rb_ge (r_var 0) r_int))))))
theorem ok__is_form : FnG P w K mg base CX0 (1 + 1) T.f__is_form T.fd__is_form ["row", "value"] (spI K fn__is_form) := by
  refine fn_okG (b := d__is_form) T.F__is_form sc__is_form rfl rfl fun cdv A outer s H E hr hg => ?_
  exact (r_seq (r_if (r_not (r_tst (r_callG (ok_is_tuple_of T SB) hr (by decide) hg (by rfl) T.g_is_tuple_of T.F_is_tuple_of.kp T.b_is_tuple_of (r_cons (r_blt call_lenA rc_len (by rfl) T.m_len bt_len (r_cons (r_var 0) r_nil)) (r_cons (r_var 1) r_nil))))) (r_one (r_ret r_bl)) r_snil)
    (r_one (r_ret (r_blt (cr_all rfl) rc_all (by rfl) T.m_all bt_all (r_cons (r_fl (r_lc (own := [("gift", 2)]) (s := (.n 2)) rfl sc__is_form.nd (r_wSeq (r_var 1)) (blkOk_by (N := N__is_form) (sc := defScope s__is_form) (by decide +kernel)) (by rfl) (fun _ _ _ _ _ => (r_rawN (i := 2) sc__is_form.nd rfl (by first | exact .inl rfl | exact .inr rfl))) (fun _ _ _ _ _ => r_ifs0) (fun _ _ _ _ _ => (r_orV (r_cmp op_isN rb_isN (r_var 2) r_non) (r_oneV (r_callG (ok_is_number T SB) hr (by decide) hg (by rfl) T.g_is_number T.F_is_number.kp T.b_is_number (r_cons (r_var 2) r_nil))))))) r_nil)))))
theorem ok__law_of : FnG P w K mg base CX0 (1 + 1) T.f__law_of T.fd__law_of ["source", "some"] (spI K fn__law_of) := by
  refine fn_okG (b := d__law_of) T.F__law_of sc__law_of rfl rfl fun cdv A outer s H E hr hg => ?_
  exact (r_one (r_ret (r_ix (r_var 1) (r_callG (ok__law_pick T SB) hr (by decide) hg (by rfl) T.g__law_pick T.F__law_pick.kp T.b__law_pick (r_cons (r_var 0) (r_cons (r_blt call_lenA rc_len (by rfl) T.m_len bt_len (r_cons (r_var 1) r_nil)) r_nil))))))
theorem ok__law_mixed : FnG P w K mg base CX0 (1 + 1) T.f__law_mixed T.fd__law_mixed ["source", "things"] (spI K fn__law_mixed) := by
  refine fn_okG (b := d__law_mixed) T.F__law_mixed sc__law_mixed rfl rfl fun cdv A outer s H E hr hg => ?_
  exact (r_seq (r_set (i := 2) sc__law_mixed.nd rfl (by first | exact .inl rfl | exact .inr rfl) (r_al (r_tyF call_list_of rc_list (by rfl) T.m_list bt_list (r_cons (r_var 1) r_nil))))
    (r_one (r_ret (r_fl (r_lc (own := [("lap", 3)]) (s := (.n 3)) rfl sc__law_mixed.nd (r_wRng1 (by rfl) T.m_range (r_cons (r_blt call_lenA rc_len (by rfl) T.m_len bt_len (r_cons (r_var 2) r_nil)) r_nil)) (blkOk_by (N := N__law_mixed) (sc := defScope s__law_mixed) (by decide +kernel)) (by rfl) (fun _ _ _ _ _ => (r_rawN (i := 3) sc__law_mixed.nd rfl (by first | exact .inl rfl | exact .inr rfl))) (fun _ _ _ _ _ => r_ifs0) (fun _ _ _ _ _ => (PE_imp (pe_bm PySem.F.plainAttrs_list PySem.F.slot_list_pop PySem.F.type_list_pop mt_popAt (r_var 2) (r_cons (r_callG (ok__law_pick T SB) hr (by decide) hg (by rfl) T.g__law_pick T.F__law_pick.kp T.b__law_pick (r_cons (r_var 0) (r_cons (r_blt call_lenA rc_len (by rfl) T.m_len bt_len (r_cons (r_var 2) r_nil)) r_nil))) r_nil)) (i_ml rm_popAt))))))))
theorem ok__law_gifts_fault : FnG P w K mg base CX0 (1 + 1) T.f__law_gifts_fault T.fd__law_gifts_fault ["yard", "row", "value"] (spI K fn__law_gifts_fault) := by
  refine fn_okG (b := d__law_gifts_fault) T.F__law_gifts_fault sc__law_gifts_fault rfl rfl fun cdv A outer s H E hr hg => ?_
  exact (r_seq (r_if (PW.pt (r_or (r_not (r_tst (r_isi .tup (by rfl) T.m_isinstance (by rfl) T.m_tuple bt_tuple (r_var 2)))) (r_or1 (r_cmpT (op_neA hr.units) rb_ne (r_blt call_lenA rc_len (by rfl) T.m_len bt_len (r_cons (r_var 2) r_nil)) (r_blt call_lenA rc_len (by rfl) T.m_len bt_len (r_cons (r_var 1) r_nil)))))) (r_one (r_ret (r_tup (r_cons r_str r_nil)))) r_snil)
    (r_seq (r_if (r_cmpT (op_neE (Nat.lt_of_succ_lt (hu_of hr))) rb_emp (r_fl (r_lc (own := [("gift", 5)]) (s := (.n 5)) rfl sc__law_gifts_fault.nd (r_wSeq (r_var 2)) (blkOk_by (N := N__law_gifts_fault) (sc := defScope s__law_gifts_fault) (by decide +kernel)) (by rfl) (fun _ _ _ _ _ => (r_rawN (i := 5) sc__law_gifts_fault.nd rfl (by first | exact .inl rfl | exact .inr rfl))) (fun _ _ _ _ _ => (r_ifs1 (PW.pt (r_and (r_cmpT op_notN rb_notN (r_var 5) r_non) (r_and1 (r_not (r_tst (r_callG (ok__law_is_number T SB) hr (by decide) hg (by rfl) T.g__law_is_number T.F__law_is_number.kp T.b__law_is_number (r_cons (r_var 5) r_nil))))))))) (fun _ _ _ _ _ => (r_var 5)))) (r_fl (r_lst r_nil))) (r_one (r_ret (r_tup (r_cons r_str r_nil)))) r_snil)
    (r_seq (r_setLcF (i := 3) (own := [("r", 4)]) (s := (.n 4)) rfl sc__law_gifts_fault.nd rfl rfl (sw_true rfl rfl rfl (by decide +kernel)) (r_wRng1 (by rfl) T.m_range (r_cons (r_blt call_lenA rc_len (by rfl) T.m_len bt_len (r_cons (r_var 1) r_nil)) r_nil)) (blkOk_by (N := N__law_gifts_fault) (sc := defScope s__law_gifts_fault) (by decide +kernel)) (by rfl) (fun _ _ _ _ _ => (r_rawN (i := 4) sc__law_gifts_fault.nd rfl (by first | exact .inl rfl | exact .inr rfl))) (fun _ _ _ _ _ => (r_ifs1 (PW.pt (r_and (r_cmpT op_notN rb_notN (r_ix (r_var 2) (r_var 4)) r_non) (r_and1 (r_cmpT (op_notInA (hu_of hr)) rb_inA (r_ix (r_var 2) (r_var 4)) (r_ix (r_var 1) (r_var 4)))))))) (fun _ _ _ _ _ => (r_var 4)))
    (r_seq (r_if (r_cmpT (op_neE (Nat.lt_of_succ_lt (hu_of hr))) rb_emp (r_var 3) (r_fl (r_lst r_nil))) (r_one (r_ret (r_tup (r_cons r_str (r_cons (r_ix (r_var 3) r_int) r_nil))))) r_snil)
    (r_seq (r_setLcF (i := 3) (own := [("r", 4)]) (s := (.n 4)) rfl sc__law_gifts_fault.nd rfl rfl (sw_true rfl rfl rfl (by decide +kernel)) (r_wRng1 (by rfl) T.m_range (r_cons (r_blt call_lenA rc_len (by rfl) T.m_len bt_len (r_cons (r_var 1) r_nil)) r_nil)) (blkOk_by (N := N__law_gifts_fault) (sc := defScope s__law_gifts_fault) (by decide +kernel)) (by rfl) (fun _ _ _ _ _ => (r_rawN (i := 4) sc__law_gifts_fault.nd rfl (by first | exact .inl rfl | exact .inr rfl))) (fun _ _ _ _ _ => (r_ifs1 (PW.pt (r_and (r_cmpT op_notN rb_notN (r_ix (r_var 2) (r_var 4)) r_non) (r_and1 (r_cmpT op_ge rb_ge (PE_imp (pe_bm PySem.F.plainAttrs_list PySem.F.slot_list_count PySem.F.type_list_count mt_cntF (r_fl (r_tyF call_list_of rc_list (by rfl) T.m_list bt_list (r_cons (r_cut (r_var 2) r_oNone (r_oSome (r_var 4))) r_nil))) (r_cons (r_ix (r_var 2) (r_var 4)) r_nil)) (i_ml rm_count)) (r_ix (r_var 0) r_int))))))) (fun _ _ _ _ _ => (r_var 4)))
    (r_one (r_ret (r_ifE (r_cmpT (op_neE (Nat.lt_of_succ_lt (hu_of hr))) rb_emp (r_var 3) (r_fl (r_lst r_nil))) (r_tup (r_cons r_str (r_cons (r_ix (r_var 3) r_int) r_nil))) r_non))))))))
theorem ok_gifts_fault : FnG P w K mg base CX0 (2 + 1) T.f_gifts_fault T.fd_gifts_fault ["yard", "row", "value"] (spI K fn_gifts_fault) := by
  refine fn_okG (b := d_gifts_fault) T.F_gifts_fault sc_gifts_fault rfl rfl fun cdv A outer s H E hr hg => ?_
  exact (r_seq (r_if (r_not (r_tst (r_callG (ok__is_form T SB) hr (by decide) hg (by rfl) T.g__is_form T.F__is_form.kp T.b__is_form (r_cons (r_var 1) (r_cons (r_var 2) r_nil))))) (r_one (r_ret (r_tup (r_cons r_str r_nil)))) r_snil)
    (r_seq (r_for PassesOwn.never rfl (r_wEnum (by rfl) T.m_enumerate (r_cons (r_var 2) r_nil)) (r_sh (s := (.t (.cons (.n 3) (.cons (.n 4) .nil)))) (r_rawT rfl (r_rawsC (r_rawN (i := 3) sc_gifts_fault.nd rfl (by first | exact .inl rfl | exact .inr rfl)) (r_rawsC (r_rawN (i := 4) sc_gifts_fault.nd rfl (by first | exact .inl rfl | exact .inr rfl)) r_rawsN)))) (r_one (r_if (PW.pt (r_and (r_cmpT op_notN rb_notN (r_var 4) r_non) (r_and1 (r_cmpT (op_notInA (hu_of hr)) rb_inA (r_var 4) (r_ix (r_var 1) (r_var 3)))))) (r_one (r_ret (r_tup (r_cons r_str (r_cons (r_var 3) r_nil))))) r_snil)))
    (r_one (r_ret (r_callG (ok__room_fault T SB) hr (by decide) hg (by rfl) T.g__room_fault T.F__room_fault.kp T.b__room_fault (r_cons (r_var 0) (r_cons (r_var 2) r_nil)))))))
theorem ok__law_draw_request : FnG P w K mg base CX0 (2 + 1) T.f__law_draw_request T.fd__law_draw_request ["source", "houses"] (spI K fn__law_draw_request) := by
  refine fn_okG (b := d__law_draw_request) T.F__law_draw_request sc__law_draw_request rfl rfl fun cdv A outer s H E hr hg => ?_
  exact (r_seq (r_set (i := 2) sc__law_draw_request.nd rfl (by first | exact .inl rfl | exact .inr rfl) (r_callG (ok__law_pick T SB) hr (by decide) hg (by rfl) T.g__law_pick T.F__law_pick.kp T.b__law_pick (r_cons (r_var 0) (r_cons r_int r_nil))))
    (r_seq (r_if (r_cmpT (op_eqA hr.units) rb_eq (r_var 2) r_int) (r_one (r_ret (r_tup r_nil))) r_snil)
    (r_seq (r_if (r_cmpT (op_eqA hr.units) rb_eq (r_var 2) r_int) (r_seq (r_set (i := 3) sc__law_draw_request.nd rfl (by first | exact .inl rfl | exact .inr rfl) (r_callG (ok__law_pick T SB) hr (by decide) hg (by rfl) T.g__law_pick T.F__law_pick.kp T.b__law_pick (r_cons (r_var 0) (r_cons (r_var 1) r_nil))))
    (r_one (r_ret (r_ty call_tuple_of rc_tuple (by rfl) T.m_tuple bt_tuple (r_cons (r_fl (r_listRg2 rfl (by rfl) T.m_list (by rfl) T.m_range (r_var 3) (r_blt (call_min2 rfl) rc_min (by rfl) T.m_min bt_min (r_cons (r_var 1) (r_cons (r_add (r_var 3) r_int) r_nil))))) r_nil))))) r_snil)
    (r_seq (r_set (i := 4) sc__law_draw_request.nd rfl (by first | exact .inl rfl | exact .inr rfl) (r_ix (r_fl (r_lst (r_cons r_int (r_cons r_int (r_cons r_int (r_cons r_int (r_cons r_int (r_cons (r_add r_int (r_callG (ok__law_pick T SB) hr (by decide) hg (by rfl) T.g__law_pick T.F__law_pick.kp T.b__law_pick (r_cons (r_var 0) (r_cons (r_var 1) r_nil)))) r_nil)))))))) (r_sub (r_var 2) r_int)))
    (r_one (r_ret (r_ty call_tuple_of rc_tuple (by rfl) T.m_tuple bt_tuple (r_cons (r_fl (r_bltF cr_sortedI rc_sort (by rfl) T.m_sorted bt_sorted (r_cons (r_cut (r_callG (ok__law_mixed T SB) hr (by decide) hg (by rfl) T.g__law_mixed T.F__law_mixed.kp T.b__law_mixed (r_cons (r_var 0) (r_cons (r_fl (r_listRg1 rfl (by rfl) T.m_list (by rfl) T.m_range (r_var 1))) r_nil))) r_oNone (r_oSome (r_var 4))) r_nil))) r_nil))))))))
theorem ok__law_draw_yard : FnG P w K mg base CX0 (2 + 1) T.f__law_draw_yard T.fd__law_draw_yard ["source", "houses", "room"] (spI K fn__law_draw_yard) := by
  refine fn_okG (b := d__law_draw_yard) T.F__law_draw_yard sc__law_draw_yard rfl rfl fun cdv A outer s H E hr hg => ?_
  exact (r_seq (r_asg (r_tup (r_cons (r_add r_int (r_callG (ok__law_pick T SB) hr (by decide) hg (by rfl) T.g__law_pick T.F__law_pick.kp T.b__law_pick (r_cons (r_var 0) (r_cons (r_var 1) r_nil)))) (r_cons (r_callG (ok__law_of T SB) hr (by decide) hg (by rfl) T.g__law_of T.F__law_of.kp T.b__law_of (r_cons (r_var 0) (r_cons (r_fl (r_lst (r_cons (r_fl (r_lst (r_cons r_int r_nil))) (r_cons (r_fl (r_lst (r_cons r_int (r_cons r_int r_nil)))) (r_cons (r_fl (r_lst (r_cons r_int (r_cons r_int (r_cons r_int (r_cons r_int r_nil)))))) (r_cons (r_fl (r_lst (r_cons r_int (r_cons r_int (r_cons r_int (r_cons r_int (r_cons (r_pow r_int r_int) r_nil))))))) r_nil)))))) r_nil))) r_nil))) (r_sh (s := (.t (.cons (.n 3) (.cons (.n 4) .nil)))) (r_rawT rfl (r_rawsC (r_rawN (i := 3) sc__law_draw_yard.nd rfl (by first | exact .inl rfl | exact .inr rfl)) (r_rawsC (r_rawN (i := 4) sc__law_draw_yard.nd rfl (by first | exact .inl rfl | exact .inr rfl)) r_rawsN)))))
    (r_one (r_ret (r_tup (r_cons (r_add r_int (r_callG (ok__law_pick T SB) hr (by decide) hg (by rfl) T.g__law_pick T.F__law_pick.kp T.b__law_pick (r_cons (r_var 0) (r_cons (r_var 2) r_nil)))) (r_cons (r_ty call_tuple_of rc_tuple (by rfl) T.m_tuple bt_tuple (r_cons (r_fl (r_lc (own := [("house", 5)]) (s := (.n 5)) rfl sc__law_draw_yard.nd (r_wRng1 (by rfl) T.m_range (r_cons (r_var 3) r_nil)) (blkOk_by (N := N__law_draw_yard) (sc := defScope s__law_draw_yard) (by decide +kernel)) (by rfl) (fun _ _ _ _ _ => (r_rawN (i := 5) sc__law_draw_yard.nd rfl (by first | exact .inl rfl | exact .inr rfl))) (fun _ _ _ _ _ => r_ifs0) (fun _ _ _ _ _ => (r_callG (ok__law_of T SB) hr (by decide) hg (by rfl) T.g__law_of T.F__law_of.kp T.b__law_of (r_cons (r_var 0) (r_cons (r_var 4) r_nil)))))) r_nil)) r_nil))))))
theorem ok__law_draw_gifts : FnG P w K mg base CX0 (2 + 1) T.f__law_draw_gifts T.fd__law_draw_gifts ["source", "yard", "row"] (spI K fn__law_draw_gifts) := by
  refine fn_okG (b := d__law_draw_gifts) T.F__law_draw_gifts sc__law_draw_gifts rfl rfl fun cdv A outer s H E hr hg => ?_
  exact (r_seq (r_asg (r_tup (r_cons (r_al (r_rep (r_fl (r_lst (r_cons r_int r_nil))) (r_blt call_lenA rc_len (by rfl) T.m_len bt_len (r_cons (r_ix (r_var 1) r_int) r_nil)))) (r_cons (r_al (r_lst r_nil)) r_nil))) (r_sh (s := (.t (.cons (.n 3) (.cons (.n 4) .nil)))) (r_rawT rfl (r_rawsC (r_rawN (i := 3) sc__law_draw_gifts.nd rfl (by first | exact .inl rfl | exact .inr rfl)) (r_rawsC (r_rawN (i := 4) sc__law_draw_gifts.nd rfl (by first | exact .inl rfl | exact .inr rfl)) r_rawsN)))))
    (r_seq (r_for PassesOwn.never rfl (r_wSeq (r_var 2)) (r_sh (s := (.n 5)) (r_rawN (i := 5) sc__law_draw_gifts.nd rfl (by first | exact .inl rfl | exact .inr rfl))) (r_seq (r_setLcF (i := 6) (own := [("house", 8)]) (s := (.n 8)) rfl sc__law_draw_gifts.nd rfl rfl (sw_true rfl rfl rfl (by decide +kernel)) (r_wSeq (r_var 5)) (blkOk_by (N := N__law_draw_gifts) (sc := defScope s__law_draw_gifts) (by decide +kernel)) (by rfl) (fun _ _ _ _ _ => (r_rawN (i := 8) sc__law_draw_gifts.nd rfl (by first | exact .inl rfl | exact .inr rfl))) (fun _ _ _ _ _ => (r_ifs1 (r_cmpT op_lt rb_lt (r_ix (r_var 3) (r_var 8)) (r_ix (r_var 1) r_int)))) (fun _ _ _ _ _ => (r_var 8)))
    (r_seq (r_set (i := 7) sc__law_draw_gifts.nd rfl (by first | exact .inl rfl | exact .inr rfl) (r_ifE (PW.pt (r_and (r_cmpT (op_neA hr.units) rb_ne (r_var 6) (r_fl (r_lst r_nil))) (r_and1 (r_cmpT op_gt rb_gt (r_callG (ok__law_pick T SB) hr (by decide) hg (by rfl) T.g__law_pick T.F__law_pick.kp T.b__law_pick (r_cons (r_var 0) (r_cons r_int r_nil))) r_int)))) (r_callG (ok__law_of T SB) hr (by decide) hg (by rfl) T.g__law_of T.F__law_of.kp T.b__law_of (r_cons (r_var 0) (r_cons (r_var 6) r_nil))) r_non))
    (r_seq (r_exp (PE_imp (pe_bm PySem.F.plainAttrs_list PySem.F.slot_list_append PySem.F.type_list_append mt_append (r_var 4) (r_cons (r_var 7) r_nil)) (i_ml rm_app)))
    (r_one (r_if (r_cmpT op_notN rb_notN (r_var 7) r_non) (r_one (r_put (r_var 3) (r_var 7) (r_add (r_ix (r_var 3) (r_var 7)) r_int))) r_snil))))))
    (r_one (r_ret (r_ty call_tuple_of rc_tuple (by rfl) T.m_tuple bt_tuple (r_cons (r_var 4) r_nil))))))
theorem ok__law_bent_gifts : FnG P w K mg base CX0 (2 + 1) T.f__law_bent_gifts T.fd__law_bent_gifts ["source", "yard", "row", "gifts"] (spI K fn__law_bent_gifts) := by
  refine fn_okG (b := d__law_bent_gifts) T.F__law_bent_gifts sc__law_bent_gifts rfl rfl fun cdv A outer s H E hr hg => ?_
  exact (r_seq (r_set (i := 4) sc__law_bent_gifts.nd rfl (by first | exact .inl rfl | exact .inr rfl) (r_callG (ok__law_of T SB) hr (by decide) hg (by rfl) T.g__law_of T.F__law_of.kp T.b__law_of (r_cons (r_var 0) (r_cons (r_fl (r_lst (r_cons r_non (r_cons r_bl (r_cons r_bl (r_cons (r_neg r_int) (r_cons r_int (r_cons r_int (r_cons (r_pow r_int r_int) (r_cons r_str (r_cons (r_tup r_nil) (r_cons (r_fl (r_lst r_nil)) (r_cons r_dnew (r_cons (r_tup (r_cons r_int r_nil)) (r_cons (r_blt call_lenA rc_len (by rfl) T.m_len bt_len (r_cons (r_ix (r_var 1) r_int) r_nil)) r_nil))))))))))))))) r_nil))))
    (r_seq (r_if (PW.pt (r_or (r_cmpT (op_eqE (Nat.lt_of_succ_lt (hu_of hr))) rb_emp (r_var 3) (r_tup r_nil)) (r_or1 (r_cmpT (op_eqA hr.units) rb_eq (r_callG (ok__law_pick T SB) hr (by decide) hg (by rfl) T.g__law_pick T.F__law_pick.kp T.b__law_pick (r_cons (r_var 0) (r_cons r_int r_nil))) r_int)))) (r_one (r_ret (r_callG (ok__law_of T SB) hr (by decide) hg (by rfl) T.g__law_of T.F__law_of.kp T.b__law_of (r_cons (r_var 0) (r_cons (r_fl (r_lst (r_cons (r_fl (r_tyF call_list_of rc_list (by rfl) T.m_list bt_list (r_cons (r_var 3) r_nil))) (r_cons (r_add (r_var 3) (r_tup (r_cons r_non r_nil))) (r_cons (r_cut (r_var 3) r_oNone (r_oSome (r_neg r_int))) (r_cons (r_revT (r_var 3)) (r_cons (r_var 4) (r_cons (r_add (r_var 3) (r_tup (r_cons (r_var 4) r_nil))) r_nil)))))))) r_nil))))) r_snil)
    (r_seq (r_set (i := 5) sc__law_bent_gifts.nd rfl (by first | exact .inl rfl | exact .inr rfl) (r_callG (ok__law_pick T SB) hr (by decide) hg (by rfl) T.g__law_pick T.F__law_pick.kp T.b__law_pick (r_cons (r_var 0) (r_cons (r_blt call_lenA rc_len (by rfl) T.m_len bt_len (r_cons (r_var 3) r_nil)) r_nil))))
    (r_seq (r_set (i := 6) sc__law_bent_gifts.nd rfl (by first | exact .inl rfl | exact .inr rfl) (r_add (r_fl (r_lst (r_cons (r_var 4) (r_cons (r_callG (ok__law_pick T SB) hr (by decide) hg (by rfl) T.g__law_pick T.F__law_pick.kp T.b__law_pick (r_cons (r_var 0) (r_cons (r_blt call_lenA rc_len (by rfl) T.m_len bt_len (r_cons (r_ix (r_var 1) r_int) r_nil)) r_nil))) r_nil)))) (r_fl (r_tyF call_list_of rc_list (by rfl) T.m_list bt_list (r_cons (r_ix (r_var 2) (r_var 5)) r_nil)))))
    (r_one (r_ret (r_add (r_add (r_cut (r_var 3) r_oNone (r_oSome (r_var 5))) (r_tup (r_cons (r_callG (ok__law_of T SB) hr (by decide) hg (by rfl) T.g__law_of T.F__law_of.kp T.b__law_of (r_cons (r_var 0) (r_cons (r_var 6) r_nil))) r_nil))) (r_cut (r_var 3) (r_oSome (r_add (r_var 5) r_int)) r_oNone))))))))
theorem ok__law_draw_row : FnG P w K mg base CX0 (3 + 1) T.f__law_draw_row T.fd__law_draw_row ["source", "houses", "most"] (spI K fn__law_draw_row) := by
  refine fn_okG (b := d__law_draw_row) T.F__law_draw_row sc__law_draw_row rfl rfl fun cdv A outer s H E hr hg => ?_
  exact (r_seq (r_set (i := 3) sc__law_draw_row.nd rfl (by first | exact .inl rfl | exact .inr rfl) (r_al (r_lst r_nil)))
    (r_seq (r_for PassesOwn.never rfl (r_wRng1 (by rfl) T.m_range (r_cons (r_callG (ok__law_pick T SB) hr (by decide) hg (by rfl) T.g__law_pick T.F__law_pick.kp T.b__law_pick (r_cons (r_var 0) (r_cons (r_add (r_var 2) r_int) r_nil))) r_nil)) (r_sh (s := (.n 4)) (r_rawN (i := 4) sc__law_draw_row.nd rfl (by first | exact .inl rfl | exact .inr rfl))) (r_seq (r_set (i := 5) sc__law_draw_row.nd rfl (by first | exact .inl rfl | exact .inr rfl) (r_andV (r_cmp (op_neA hr.units) rb_ne (r_var 3) (r_fl (r_lst r_nil))) (r_oneV (r_cmp (op_eqA hr.units) rb_eq (r_callG (ok__law_pick T SB) hr (by decide) hg (by rfl) T.g__law_pick T.F__law_pick.kp T.b__law_pick (r_cons (r_var 0) (r_cons r_int r_nil))) r_int))))
    (r_one (r_exp (PE_imp (pe_bm PySem.F.plainAttrs_list PySem.F.slot_list_append PySem.F.type_list_append mt_append (r_var 3) (r_cons (r_ifE (r_tst (r_var 5)) (r_callG (ok__law_of T SB) hr (by decide) hg (by rfl) T.g__law_of T.F__law_of.kp T.b__law_of (r_cons (r_var 0) (r_cons (r_var 3) r_nil))) (r_callG (ok__law_draw_request T SB) hr (by decide) hg (by rfl) T.g__law_draw_request T.F__law_draw_request.kp T.b__law_draw_request (r_cons (r_var 0) (r_cons (r_var 1) r_nil)))) r_nil)) (i_ml rm_app))))))
    (r_one (r_ret (r_ty call_tuple_of rc_tuple (by rfl) T.m_tuple bt_tuple (r_cons (r_var 3) r_nil))))))
theorem ok_law : FnG P w K mg base CX0 (4 + 1) T.f_law T.fd_law ["script"] (spI K fn_law) := by
  refine fn_okG (b := d_law) T.F_law sc_law rfl rfl fun cdv A outer s H E hr hg => ?_
  exact (r_seq (r_set (i := 1) sc_law.nd rfl (by first | exact .inl rfl | exact .inr rfl) (r_callG (ok__law_source T SB) hr (by decide) hg (by rfl) T.g__law_source T.F__law_source.kp T.b__law_source (r_cons (r_var 0) r_nil)))
    (r_seq (r_for PassesOwn.never rfl (r_wRng1 (by rfl) T.m_range (r_cons r_int r_nil)) (r_sh (s := (.n 2)) (r_rawN (i := 2) sc_law.nd rfl (by first | exact .inl rfl | exact .inr rfl))) (r_seq (r_set (i := 3) sc_law.nd rfl (by first | exact .inl rfl | exact .inr rfl) (r_callG (ok__law_draw_yard T SB) hr (by decide) hg (by rfl) T.g__law_draw_yard T.F__law_draw_yard.kp T.b__law_draw_yard (r_cons (r_var 1) (r_cons (r_ix (r_fl (r_lst (r_cons r_int (r_cons r_int (r_cons r_int (r_cons r_int (r_cons r_int (r_cons r_int r_nil)))))))) (r_var 2)) (r_cons r_int r_nil)))))
    (r_seq (r_set (i := 4) sc_law.nd rfl (by first | exact .inl rfl | exact .inr rfl) (r_callG (ok__law_draw_row T SB) hr (by decide) hg (by rfl) T.g__law_draw_row T.F__law_draw_row.kp T.b__law_draw_row (r_cons (r_var 1) (r_cons (r_blt call_lenA rc_len (by rfl) T.m_len bt_len (r_cons (r_ix (r_var 3) r_int) r_nil)) (r_cons (r_ix (r_fl (r_lst (r_cons r_int (r_cons r_int (r_cons r_int (r_cons r_int (r_cons r_int (r_cons r_int r_nil)))))))) (r_var 2)) r_nil)))))
    (r_seq (r_set (i := 5) sc_law.nd rfl (by first | exact .inl rfl | exact .inr rfl) (r_callG (ok__law_draw_gifts T SB) hr (by decide) hg (by rfl) T.g__law_draw_gifts T.F__law_draw_gifts.kp T.b__law_draw_gifts (r_cons (r_var 1) (r_cons (r_var 3) (r_cons (r_var 4) r_nil)))))
    (r_seq (r_set (i := 6) sc_law.nd rfl (by first | exact .inl rfl | exact .inr rfl) (r_add (r_fl (r_lst (r_cons (r_var 5) r_nil))) (r_fl (r_lc (own := [("look", 11)]) (s := (.n 11)) rfl sc_law.nd (r_wRng1 (by rfl) T.m_range (r_cons r_int r_nil)) (blkOk_by (N := N_law) (sc := defScope s_law) (by decide +kernel)) (by rfl) (fun _ _ _ _ _ => (r_rawN (i := 11) sc_law.nd rfl (by first | exact .inl rfl | exact .inr rfl))) (fun _ _ _ _ _ => r_ifs0) (fun _ _ _ _ _ => (r_callG (ok__law_bent_gifts T SB) hr (by decide) hg (by rfl) T.g__law_bent_gifts T.F__law_bent_gifts.kp T.b__law_bent_gifts (r_cons (r_var 1) (r_cons (r_var 3) (r_cons (r_var 4) (r_cons (r_var 5) r_nil))))))))))
    (r_seq (r_setLcF (i := 8) (own := [("value", 7)]) (s := (.n 7)) rfl sc_law.nd rfl rfl (sw_true rfl rfl rfl (by decide +kernel)) (r_wSeq (r_var 6)) (blkOk_by (N := N_law) (sc := defScope s_law) (by decide +kernel)) (by rfl) (fun _ _ _ _ _ => (r_rawN (i := 7) sc_law.nd rfl (by first | exact .inl rfl | exact .inr rfl))) (fun _ _ _ _ _ => (r_ifs1 (PW.pt (r_and (r_tst (r_isi .tup (by rfl) T.m_isinstance (by rfl) T.m_tuple bt_tuple (r_var 7))) (r_and1 (r_cmpT (op_eqA hr.units) rb_eq (r_blt call_lenA rc_len (by rfl) T.m_len bt_len (r_cons (r_var 7) r_nil)) (r_blt call_lenA rc_len (by rfl) T.m_len bt_len (r_cons (r_var 4) r_nil)))))))) (fun _ _ _ _ _ => (r_var 7)))
    (r_seq (r_for PassesOwn.never rfl (r_wSeq (r_add (r_add (r_var 6) (r_fl (r_lc (own := [("one", 12)]) (s := (.n 12)) rfl sc_law.nd (r_wSeq (r_cut (r_var 8) r_oNone (r_oSome r_int))) (blkOk_by (N := N_law) (sc := defScope s_law) (by decide +kernel)) (by rfl) (fun _ _ _ _ _ => (r_rawN (i := 12) sc_law.nd rfl (by first | exact .inl rfl | exact .inr rfl))) (fun _ _ _ _ _ => r_ifs0) (fun _ _ _ _ _ => (r_callG (ok__law_bent_gifts T SB) hr (by decide) hg (by rfl) T.g__law_bent_gifts T.F__law_bent_gifts.kp T.b__law_bent_gifts (r_cons (r_var 1) (r_cons (r_var 3) (r_cons (r_var 4) (r_cons (r_var 12) r_nil))))))))) (r_fl (r_lst (r_cons r_non (r_cons (r_tup r_nil) (r_cons r_str (r_cons r_int r_nil)))))))) (r_sh (s := (.n 7)) (r_rawN (i := 7) sc_law.nd rfl (by first | exact .inl rfl | exact .inr rfl))) (r_seq (r_par (i := 9) (j := 10) rfl sc_law.nd rfl rfl (by decide) rfl rfl (r_cons (r_callG (ok__law_gifts_fault T SB) hr (by decide) hg (by rfl) T.g__law_gifts_fault T.F__law_gifts_fault.kp T.b__law_gifts_fault (r_cons (r_var 3) (r_cons (r_var 4) (r_cons (r_var 7) r_nil)))) (r_cons (r_blt (call_reprD SB hg hr.units) rc_reprD (by rfl) T.m_repr bt_repr (r_cons (r_fl (r_lst (r_cons (r_var 3) (r_cons (r_var 4) (r_cons (r_var 7) r_nil))))) r_nil)) r_nil)) rfl)
    (r_one (r_if (PW.pt (r_or (r_cmpT (op_neA hr.units) rb_ne (r_blt (call_repr hg hr.units) rc_repr (by rfl) T.m_repr bt_repr (r_cons (r_callG (ok_gifts_fault T SB) hr (by decide) hg (by rfl) T.g_gifts_fault T.F_gifts_fault.kp T.b_gifts_fault (r_cons (r_var 3) (r_cons (r_var 4) (r_cons (r_var 7) r_nil)))) r_nil)) (r_blt (call_repr hg hr.units) rc_repr (by rfl) T.m_repr bt_repr (r_cons (r_var 9) r_nil))) (r_or1 (r_cmpT (op_neA hr.units) rb_ne (r_blt (call_reprD SB hg hr.units) rc_reprD (by rfl) T.m_repr bt_repr (r_cons (r_fl (r_lst (r_cons (r_var 3) (r_cons (r_var 4) (r_cons (r_var 7) r_nil))))) r_nil)) (r_var 10))))) (r_one (r_ret r_bl)) r_snil))))
    (r_one (r_if (r_cmpT op_notN rb_notN (r_callG (ok_gifts_fault T SB) hr (by decide) hg (by rfl) T.g_gifts_fault T.F_gifts_fault.kp T.b_gifts_fault (r_cons (r_var 3) (r_cons (r_var 4) (r_cons (r_var 5) r_nil)))) r_non) (r_one (r_ret r_bl)) r_snil)))))))))
    (r_seq (r_asg (r_tup (r_cons (r_tup (r_cons r_int (r_cons (r_tup (r_cons r_int (r_cons r_int (r_cons r_int r_nil)))) r_nil))) (r_cons (r_tup (r_cons (r_tup (r_cons r_int (r_cons r_int r_nil))) (r_cons (r_tup (r_cons r_int (r_cons r_int r_nil))) (r_cons (r_tup (r_cons r_int r_nil)) r_nil)))) r_nil))) (r_sh (s := (.t (.cons (.n 3) (.cons (.n 4) .nil)))) (r_rawT rfl (r_rawsC (r_rawN (i := 3) sc_law.nd rfl (by first | exact .inl rfl | exact .inr rfl)) (r_rawsC (r_rawN (i := 4) sc_law.nd rfl (by first | exact .inl rfl | exact .inr rfl)) r_rawsN)))))
    (r_seq (r_set (i := 6) sc_law.nd rfl (by first | exact .inl rfl | exact .inr rfl) (r_fl (r_lst (r_cons (r_tup (r_cons r_int (r_cons r_int (r_cons r_non r_nil)))) (r_cons (r_tup (r_cons r_int (r_cons r_int (r_cons r_int r_nil)))) (r_cons (r_tup (r_cons r_int (r_cons r_int (r_cons r_non r_nil)))) (r_cons (r_tup (r_cons r_int (r_cons r_int (r_cons r_non r_nil)))) (r_cons (r_tup (r_cons r_int (r_cons r_int (r_cons r_int r_nil)))) (r_cons (r_tup (r_cons r_int (r_cons r_int r_nil))) (r_cons (r_tup (r_cons r_int (r_cons r_bl (r_cons r_non r_nil)))) (r_cons (r_tup (r_cons r_non (r_cons r_int (r_cons r_int r_nil)))) r_nil)))))))))))
    (r_seq (r_set (i := 9) sc_law.nd rfl (by first | exact .inl rfl | exact .inr rfl) (r_fl (r_lst (r_cons r_non (r_cons r_non (r_cons (r_tup (r_cons r_str (r_cons r_int r_nil))) (r_cons (r_tup (r_cons r_str (r_cons r_int r_nil))) (r_cons (r_tup (r_cons r_str (r_cons r_int r_nil))) (r_cons (r_tup (r_cons r_str r_nil)) (r_cons (r_tup (r_cons r_str r_nil)) (r_cons (r_tup (r_cons r_str (r_cons r_int r_nil))) r_nil)))))))))))
    (r_one (r_ret (r_cmp (op_eqA hr.units) rb_eq (r_fl (r_lc (own := [("value", 7)]) (s := (.n 7)) rfl sc_law.nd (r_wSeq (r_var 6)) (blkOk_by (N := N_law) (sc := defScope s_law) (by decide +kernel)) (by rfl) (fun _ _ _ _ _ => (r_rawN (i := 7) sc_law.nd rfl (by first | exact .inl rfl | exact .inr rfl))) (fun _ _ _ _ _ => r_ifs0) (fun _ _ _ _ _ => (r_callG (ok_gifts_fault T SB) hr (by decide) hg (by rfl) T.g_gifts_fault T.F_gifts_fault.kp T.b_gifts_fault (r_cons (r_var 3) (r_cons (r_var 4) (r_cons (r_var 7) r_nil))))))) (r_var 9)))))))))
end
theorem all_mk {l : PySem.W.OpenLaw} {w : World} {K : PySem.W.Frag} {h : Heap} {mg : Str → Option Value} {fa : Addr} (X : K.In h) (G : h.Ns mainGlobals mg) (hfa : mg "law" = some (.ref fa))
    {f0 : Addr} {od0 an0 : Option Addr} {sl0 : Array (Option Value)} {oc0 kV0 dc0 pm0 cd0 ct0 : Value}
    (a0 : PySem.W.nsIn K mainGlobals "is_number" = some (some (.ref f0))) (l0 : K.lookup f0 = some ⟨oc0, od0, .func (PySem.W.fnOf "is_number" "is_number" (defArgs s_is_number) (defBody s_is_number) (defScope s_is_number) .none kV0 dc0 pm0 an0 cd0 ct0), sl0⟩) (c0 : PySem.W.codeIn K cd0 "is_number" = true) (k0 : PySem.W.keepIn K (.ref f0) = true)
    {f1 : Addr} {od1 an1 : Option Addr} {sl1 : Array (Option Value)} {oc1 kV1 dc1 pm1 cd1 ct1 : Value}
    (a1 : PySem.W.nsIn K mainGlobals "is_tuple_of" = some (some (.ref f1))) (l1 : K.lookup f1 = some ⟨oc1, od1, .func (PySem.W.fnOf "is_tuple_of" "is_tuple_of" (defArgs s_is_tuple_of) (defBody s_is_tuple_of) (defScope s_is_tuple_of) .none kV1 dc1 pm1 an1 cd1 ct1), sl1⟩) (c1 : PySem.W.codeIn K cd1 "is_tuple_of" = true) (k1 : PySem.W.keepIn K (.ref f1) = true)
    {f2 : Addr} {od2 an2 : Option Addr} {sl2 : Array (Option Value)} {oc2 kV2 dc2 pm2 cd2 ct2 : Value}
    (a2 : PySem.W.nsIn K mainGlobals "_room_fault" = some (some (.ref f2))) (l2 : K.lookup f2 = some ⟨oc2, od2, .func (PySem.W.fnOf "_room_fault" "_room_fault" (defArgs s__room_fault) (defBody s__room_fault) (defScope s__room_fault) .none kV2 dc2 pm2 an2 cd2 ct2), sl2⟩) (c2 : PySem.W.codeIn K cd2 "_room_fault" = true) (k2 : PySem.W.keepIn K (.ref f2) = true)
    {f3 : Addr} {od3 an3 : Option Addr} {sl3 : Array (Option Value)} {oc3 kV3 dc3 pm3 cd3 ct3 : Value}
    (a3 : PySem.W.nsIn K mainGlobals "_law_source" = some (some (.ref f3))) (l3 : K.lookup f3 = some ⟨oc3, od3, .func (PySem.W.fnOf "_law_source" "_law_source" (defArgs s__law_source) (defBody s__law_source) (defScope s__law_source) .none kV3 dc3 pm3 an3 cd3 ct3), sl3⟩) (c3 : PySem.W.codeIn K cd3 "_law_source" = true) (k3 : PySem.W.keepIn K (.ref f3) = true)
    {f4 : Addr} {od4 an4 : Option Addr} {sl4 : Array (Option Value)} {oc4 kV4 dc4 pm4 cd4 ct4 : Value}
    (a4 : PySem.W.nsIn K mainGlobals "_law_pick" = some (some (.ref f4))) (l4 : K.lookup f4 = some ⟨oc4, od4, .func (PySem.W.fnOf "_law_pick" "_law_pick" (defArgs s__law_pick) (defBody s__law_pick) (defScope s__law_pick) .none kV4 dc4 pm4 an4 cd4 ct4), sl4⟩) (c4 : PySem.W.codeIn K cd4 "_law_pick" = true) (k4 : PySem.W.keepIn K (.ref f4) = true)
    {f5 : Addr} {od5 an5 : Option Addr} {sl5 : Array (Option Value)} {oc5 kV5 dc5 pm5 cd5 ct5 : Value}
    (a5 : PySem.W.nsIn K mainGlobals "_law_is_number" = some (some (.ref f5))) (l5 : K.lookup f5 = some ⟨oc5, od5, .func (PySem.W.fnOf "_law_is_number" "_law_is_number" (defArgs s__law_is_number) (defBody s__law_is_number) (defScope s__law_is_number) .none kV5 dc5 pm5 an5 cd5 ct5), sl5⟩) (c5 : PySem.W.codeIn K cd5 "_law_is_number" = true) (k5 : PySem.W.keepIn K (.ref f5) = true)
    {f6 : Addr} {od6 an6 : Option Addr} {sl6 : Array (Option Value)} {oc6 kV6 dc6 pm6 cd6 ct6 : Value}
    (a6 : PySem.W.nsIn K mainGlobals "_is_form" = some (some (.ref f6))) (l6 : K.lookup f6 = some ⟨oc6, od6, .func (PySem.W.fnOf "_is_form" "_is_form" (defArgs s__is_form) (defBody s__is_form) (defScope s__is_form) .none kV6 dc6 pm6 an6 cd6 ct6), sl6⟩) (c6 : PySem.W.codeIn K cd6 "_is_form" = true) (k6 : PySem.W.keepIn K (.ref f6) = true)
    {f7 : Addr} {od7 an7 : Option Addr} {sl7 : Array (Option Value)} {oc7 kV7 dc7 pm7 cd7 ct7 : Value}
    (a7 : PySem.W.nsIn K mainGlobals "_law_of" = some (some (.ref f7))) (l7 : K.lookup f7 = some ⟨oc7, od7, .func (PySem.W.fnOf "_law_of" "_law_of" (defArgs s__law_of) (defBody s__law_of) (defScope s__law_of) .none kV7 dc7 pm7 an7 cd7 ct7), sl7⟩) (c7 : PySem.W.codeIn K cd7 "_law_of" = true) (k7 : PySem.W.keepIn K (.ref f7) = true)
    {f8 : Addr} {od8 an8 : Option Addr} {sl8 : Array (Option Value)} {oc8 kV8 dc8 pm8 cd8 ct8 : Value}
    (a8 : PySem.W.nsIn K mainGlobals "_law_mixed" = some (some (.ref f8))) (l8 : K.lookup f8 = some ⟨oc8, od8, .func (PySem.W.fnOf "_law_mixed" "_law_mixed" (defArgs s__law_mixed) (defBody s__law_mixed) (defScope s__law_mixed) .none kV8 dc8 pm8 an8 cd8 ct8), sl8⟩) (c8 : PySem.W.codeIn K cd8 "_law_mixed" = true) (k8 : PySem.W.keepIn K (.ref f8) = true)
    {f9 : Addr} {od9 an9 : Option Addr} {sl9 : Array (Option Value)} {oc9 kV9 dc9 pm9 cd9 ct9 : Value}
    (a9 : PySem.W.nsIn K mainGlobals "_law_gifts_fault" = some (some (.ref f9))) (l9 : K.lookup f9 = some ⟨oc9, od9, .func (PySem.W.fnOf "_law_gifts_fault" "_law_gifts_fault" (defArgs s__law_gifts_fault) (defBody s__law_gifts_fault) (defScope s__law_gifts_fault) .none kV9 dc9 pm9 an9 cd9 ct9), sl9⟩) (c9 : PySem.W.codeIn K cd9 "_law_gifts_fault" = true) (k9 : PySem.W.keepIn K (.ref f9) = true)
    {f10 : Addr} {od10 an10 : Option Addr} {sl10 : Array (Option Value)} {oc10 kV10 dc10 pm10 cd10 ct10 : Value}
    (a10 : PySem.W.nsIn K mainGlobals "gifts_fault" = some (some (.ref f10))) (l10 : K.lookup f10 = some ⟨oc10, od10, .func (PySem.W.fnOf "gifts_fault" "gifts_fault" (defArgs s_gifts_fault) (defBody s_gifts_fault) (defScope s_gifts_fault) .none kV10 dc10 pm10 an10 cd10 ct10), sl10⟩) (c10 : PySem.W.codeIn K cd10 "gifts_fault" = true) (k10 : PySem.W.keepIn K (.ref f10) = true)
    {f11 : Addr} {od11 an11 : Option Addr} {sl11 : Array (Option Value)} {oc11 kV11 dc11 pm11 cd11 ct11 : Value}
    (a11 : PySem.W.nsIn K mainGlobals "_law_draw_request" = some (some (.ref f11))) (l11 : K.lookup f11 = some ⟨oc11, od11, .func (PySem.W.fnOf "_law_draw_request" "_law_draw_request" (defArgs s__law_draw_request) (defBody s__law_draw_request) (defScope s__law_draw_request) .none kV11 dc11 pm11 an11 cd11 ct11), sl11⟩) (c11 : PySem.W.codeIn K cd11 "_law_draw_request" = true) (k11 : PySem.W.keepIn K (.ref f11) = true)
    {f12 : Addr} {od12 an12 : Option Addr} {sl12 : Array (Option Value)} {oc12 kV12 dc12 pm12 cd12 ct12 : Value}
    (a12 : PySem.W.nsIn K mainGlobals "_law_draw_yard" = some (some (.ref f12))) (l12 : K.lookup f12 = some ⟨oc12, od12, .func (PySem.W.fnOf "_law_draw_yard" "_law_draw_yard" (defArgs s__law_draw_yard) (defBody s__law_draw_yard) (defScope s__law_draw_yard) .none kV12 dc12 pm12 an12 cd12 ct12), sl12⟩) (c12 : PySem.W.codeIn K cd12 "_law_draw_yard" = true) (k12 : PySem.W.keepIn K (.ref f12) = true)
    {f13 : Addr} {od13 an13 : Option Addr} {sl13 : Array (Option Value)} {oc13 kV13 dc13 pm13 cd13 ct13 : Value}
    (a13 : PySem.W.nsIn K mainGlobals "_law_draw_gifts" = some (some (.ref f13))) (l13 : K.lookup f13 = some ⟨oc13, od13, .func (PySem.W.fnOf "_law_draw_gifts" "_law_draw_gifts" (defArgs s__law_draw_gifts) (defBody s__law_draw_gifts) (defScope s__law_draw_gifts) .none kV13 dc13 pm13 an13 cd13 ct13), sl13⟩) (c13 : PySem.W.codeIn K cd13 "_law_draw_gifts" = true) (k13 : PySem.W.keepIn K (.ref f13) = true)
    {f14 : Addr} {od14 an14 : Option Addr} {sl14 : Array (Option Value)} {oc14 kV14 dc14 pm14 cd14 ct14 : Value}
    (a14 : PySem.W.nsIn K mainGlobals "_law_bent_gifts" = some (some (.ref f14))) (l14 : K.lookup f14 = some ⟨oc14, od14, .func (PySem.W.fnOf "_law_bent_gifts" "_law_bent_gifts" (defArgs s__law_bent_gifts) (defBody s__law_bent_gifts) (defScope s__law_bent_gifts) .none kV14 dc14 pm14 an14 cd14 ct14), sl14⟩) (c14 : PySem.W.codeIn K cd14 "_law_bent_gifts" = true) (k14 : PySem.W.keepIn K (.ref f14) = true)
    {f15 : Addr} {od15 an15 : Option Addr} {sl15 : Array (Option Value)} {oc15 kV15 dc15 pm15 cd15 ct15 : Value}
    (a15 : PySem.W.nsIn K mainGlobals "_law_draw_row" = some (some (.ref f15))) (l15 : K.lookup f15 = some ⟨oc15, od15, .func (PySem.W.fnOf "_law_draw_row" "_law_draw_row" (defArgs s__law_draw_row) (defBody s__law_draw_row) (defScope s__law_draw_row) .none kV15 dc15 pm15 an15 cd15 ct15), sl15⟩) (c15 : PySem.W.codeIn K cd15 "_law_draw_row" = true) (k15 : PySem.W.keepIn K (.ref f15) = true)
    {f16 : Addr} {od16 an16 : Option Addr} {sl16 : Array (Option Value)} {oc16 kV16 dc16 pm16 cd16 ct16 : Value}
    (a16 : PySem.W.nsIn K mainGlobals "law" = some (some (.ref f16))) (l16 : K.lookup f16 = some ⟨oc16, od16, .func (PySem.W.fnOf "law" "law" (defArgs s_law) (defBody s_law) (defScope s_law) .none kV16 dc16 pm16 an16 cd16 ct16), sl16⟩) (c16 : PySem.W.codeIn K cd16 "law" = true) (k16 : PySem.W.keepIn K (.ref f16) = true)
    (z_abs : PySem.W.nsIn K mainGlobals "abs" = some none)
    (z_all : PySem.W.nsIn K mainGlobals "all" = some none)
    (z_bool : PySem.W.nsIn K mainGlobals "bool" = some none)
    (z_enumerate : PySem.W.nsIn K mainGlobals "enumerate" = some none)
    (z_int : PySem.W.nsIn K mainGlobals "int" = some none)
    (z_isinstance : PySem.W.nsIn K mainGlobals "isinstance" = some none)
    (z_len : PySem.W.nsIn K mainGlobals "len" = some none)
    (z_list : PySem.W.nsIn K mainGlobals "list" = some none)
    (z_max : PySem.W.nsIn K mainGlobals "max" = some none)
    (z_min : PySem.W.nsIn K mainGlobals "min" = some none)
    (z_range : PySem.W.nsIn K mainGlobals "range" = some none)
    (z_repr : PySem.W.nsIn K mainGlobals "repr" = some none)
    (z_sorted : PySem.W.nsIn K mainGlobals "sorted" = some none)
    (z_tuple : PySem.W.nsIn K mainGlobals "tuple" = some none) :
    ∃ fd : FuncData, (∀ (s : Shared) (v : Value), BindsTo s fd ⟨[v], []⟩ [("script", v)]) ∧ ∀ base : Heap, K.In base → base.Ns mainGlobals mg → SysB base → FnG l.prog w K mg base CX0 (4 + 1) fa fd ["script"] (spI K fn_law) := by
  have e := hfa.symm.trans (PySem.W.mg_of X G a16)
  cases e
  let T : Txt K mg := { f_is_number := _, fd_is_number := _, F_is_number := fun_mk (st := s_is_number) l0 c0 k0, b_is_number := (fun_mk (st := s_is_number) l0 c0 k0).binds (ps := ["value"]) (fun _ _ _ _ _ _ us hl => match us, hl with | [_], _ => rfl), g_is_number := PySem.W.mg_of X G a0, f_is_tuple_of := _, fd_is_tuple_of := _, F_is_tuple_of := fun_mk (st := s_is_tuple_of) l1 c1 k1, b_is_tuple_of := (fun_mk (st := s_is_tuple_of) l1 c1 k1).binds (ps := ["many", "value"]) (fun _ _ _ _ _ _ us hl => match us, hl with | [_, _], _ => rfl), g_is_tuple_of := PySem.W.mg_of X G a1, f__room_fault := _, fd__room_fault := _, F__room_fault := fun_mk (st := s__room_fault) l2 c2 k2, b__room_fault := (fun_mk (st := s__room_fault) l2 c2 k2).binds (ps := ["yard", "gifts"]) (fun _ _ _ _ _ _ us hl => match us, hl with | [_, _], _ => rfl), g__room_fault := PySem.W.mg_of X G a2, f__law_source := _, fd__law_source := _, F__law_source := fun_mk (st := s__law_source) l3 c3 k3, b__law_source := (fun_mk (st := s__law_source) l3 c3 k3).binds (ps := ["script"]) (fun _ _ _ _ _ _ us hl => match us, hl with | [_], _ => rfl), g__law_source := PySem.W.mg_of X G a3, f__law_pick := _, fd__law_pick := _, F__law_pick := fun_mk (st := s__law_pick) l4 c4 k4, b__law_pick := (fun_mk (st := s__law_pick) l4 c4 k4).binds (ps := ["source", "many"]) (fun _ _ _ _ _ _ us hl => match us, hl with | [_, _], _ => rfl), g__law_pick := PySem.W.mg_of X G a4, f__law_is_number := _, fd__law_is_number := _, F__law_is_number := fun_mk (st := s__law_is_number) l5 c5 k5, b__law_is_number := (fun_mk (st := s__law_is_number) l5 c5 k5).binds (ps := ["value"]) (fun _ _ _ _ _ _ us hl => match us, hl with | [_], _ => rfl), g__law_is_number := PySem.W.mg_of X G a5, f__is_form := _, fd__is_form := _, F__is_form := fun_mk (st := s__is_form) l6 c6 k6, b__is_form := (fun_mk (st := s__is_form) l6 c6 k6).binds (ps := ["row", "value"]) (fun _ _ _ _ _ _ us hl => match us, hl with | [_, _], _ => rfl), g__is_form := PySem.W.mg_of X G a6, f__law_of := _, fd__law_of := _, F__law_of := fun_mk (st := s__law_of) l7 c7 k7, b__law_of := (fun_mk (st := s__law_of) l7 c7 k7).binds (ps := ["source", "some"]) (fun _ _ _ _ _ _ us hl => match us, hl with | [_, _], _ => rfl), g__law_of := PySem.W.mg_of X G a7, f__law_mixed := _, fd__law_mixed := _, F__law_mixed := fun_mk (st := s__law_mixed) l8 c8 k8, b__law_mixed := (fun_mk (st := s__law_mixed) l8 c8 k8).binds (ps := ["source", "things"]) (fun _ _ _ _ _ _ us hl => match us, hl with | [_, _], _ => rfl), g__law_mixed := PySem.W.mg_of X G a8, f__law_gifts_fault := _, fd__law_gifts_fault := _, F__law_gifts_fault := fun_mk (st := s__law_gifts_fault) l9 c9 k9, b__law_gifts_fault := (fun_mk (st := s__law_gifts_fault) l9 c9 k9).binds (ps := ["yard", "row", "value"]) (fun _ _ _ _ _ _ us hl => match us, hl with | [_, _, _], _ => rfl), g__law_gifts_fault := PySem.W.mg_of X G a9, f_gifts_fault := _, fd_gifts_fault := _, F_gifts_fault := fun_mk (st := s_gifts_fault) l10 c10 k10, b_gifts_fault := (fun_mk (st := s_gifts_fault) l10 c10 k10).binds (ps := ["yard", "row", "value"]) (fun _ _ _ _ _ _ us hl => match us, hl with | [_, _, _], _ => rfl), g_gifts_fault := PySem.W.mg_of X G a10, f__law_draw_request := _, fd__law_draw_request := _, F__law_draw_request := fun_mk (st := s__law_draw_request) l11 c11 k11, b__law_draw_request := (fun_mk (st := s__law_draw_request) l11 c11 k11).binds (ps := ["source", "houses"]) (fun _ _ _ _ _ _ us hl => match us, hl with | [_, _], _ => rfl), g__law_draw_request := PySem.W.mg_of X G a11, f__law_draw_yard := _, fd__law_draw_yard := _, F__law_draw_yard := fun_mk (st := s__law_draw_yard) l12 c12 k12, b__law_draw_yard := (fun_mk (st := s__law_draw_yard) l12 c12 k12).binds (ps := ["source", "houses", "room"]) (fun _ _ _ _ _ _ us hl => match us, hl with | [_, _, _], _ => rfl), g__law_draw_yard := PySem.W.mg_of X G a12, f__law_draw_gifts := _, fd__law_draw_gifts := _, F__law_draw_gifts := fun_mk (st := s__law_draw_gifts) l13 c13 k13, b__law_draw_gifts := (fun_mk (st := s__law_draw_gifts) l13 c13 k13).binds (ps := ["source", "yard", "row"]) (fun _ _ _ _ _ _ us hl => match us, hl with | [_, _, _], _ => rfl), g__law_draw_gifts := PySem.W.mg_of X G a13, f__law_bent_gifts := _, fd__law_bent_gifts := _, F__law_bent_gifts := fun_mk (st := s__law_bent_gifts) l14 c14 k14, b__law_bent_gifts := (fun_mk (st := s__law_bent_gifts) l14 c14 k14).binds (ps := ["source", "yard", "row", "gifts"]) (fun _ _ _ _ _ _ us hl => match us, hl with | [_, _, _, _], _ => rfl), g__law_bent_gifts := PySem.W.mg_of X G a14, f__law_draw_row := _, fd__law_draw_row := _, F__law_draw_row := fun_mk (st := s__law_draw_row) l15 c15 k15, b__law_draw_row := (fun_mk (st := s__law_draw_row) l15 c15 k15).binds (ps := ["source", "houses", "most"]) (fun _ _ _ _ _ _ us hl => match us, hl with | [_, _, _], _ => rfl), g__law_draw_row := PySem.W.mg_of X G a15, f_law := _, fd_law := _, F_law := fun_mk (st := s_law) l16 c16 k16, b_law := (fun_mk (st := s_law) l16 c16 k16).binds (ps := ["script"]) (fun _ _ _ _ _ _ us hl => match us, hl with | [_], _ => rfl), g_law := PySem.W.mg_of X G a16, m_abs := PySem.W.mg_none_of X G z_abs, m_all := PySem.W.mg_none_of X G z_all, m_bool := PySem.W.mg_none_of X G z_bool, m_enumerate := PySem.W.mg_none_of X G z_enumerate, m_int := PySem.W.mg_none_of X G z_int, m_isinstance := PySem.W.mg_none_of X G z_isinstance, m_len := PySem.W.mg_none_of X G z_len, m_list := PySem.W.mg_none_of X G z_list, m_max := PySem.W.mg_none_of X G z_max, m_min := PySem.W.mg_none_of X G z_min, m_range := PySem.W.mg_none_of X G z_range, m_repr := PySem.W.mg_none_of X G z_repr, m_sorted := PySem.W.mg_none_of X G z_sorted, m_tuple := PySem.W.mg_none_of X G z_tuple }
  exact ⟨T.fd_law, fun s v => .of_eq rfl, fun base _ _ sb => ok_law T sb⟩
end Vi_k11
end

section
open PySem PySem.W PyProof.Rows
set_option maxHeartbeats 0 in
theorem PySem.Challenge.cw_shareforsure_k11_gifts_judged_holds : PySem.Challenge.rw_shareforsure_k11_gifts_judged.Holds := by
  w_on; o_law; k_head; (case hw => w_witness2)
  k_fill
  refine VI.walkS (l := PySem.Challenge.rw_shareforsure_k11_gifts_judged) (n := 63) (k := 5) (x := "script") (g := Vi_k11.fn_law) rfl (by decide) rfl ⟨rfl, by decide, by decide⟩ (by rfl) (fun w h Y => PySem.W.kIn_of Y) ?F Vi_k11.law_true
  case F =>
    intro w mg fa h KX G hmg
    refine' Vi_k11.all_mk KX G hmg ?a0 ?l0 ?c0 ?k0 ?a1 ?l1 ?c1 ?k1 ?a2 ?l2 ?c2 ?k2 ?a3 ?l3 ?c3 ?k3 ?a4 ?l4 ?c4 ?k4 ?a5 ?l5 ?c5 ?k5 ?a6 ?l6 ?c6 ?k6 ?a7 ?l7 ?c7 ?k7 ?a8 ?l8 ?c8 ?k8 ?a9 ?l9 ?c9 ?k9 ?a10 ?l10 ?c10 ?k10 ?a11 ?l11 ?c11 ?k11 ?a12 ?l12 ?c12 ?k12 ?a13 ?l13 ?c13 ?k13 ?a14 ?l14 ?c14 ?k14 ?a15 ?l15 ?c15 ?k15 ?a16 ?l16 ?c16 ?k16 ?z_abs ?z_all ?z_bool ?z_enumerate ?z_int ?z_isinstance ?z_len ?z_list ?z_max ?z_min ?z_range ?z_repr ?z_sorted ?z_tuple
    (case a0 => k_is); (case l0 => k_is); (case c0 => k_is); (case k0 => k_is); (case a1 => k_is); (case l1 => k_is); (case c1 => k_is); (case k1 => k_is); (case a2 => k_is); (case l2 => k_is); (case c2 => k_is); (case k2 => k_is); (case a3 => k_is); (case l3 => k_is); (case c3 => k_is); (case k3 => k_is); (case a4 => k_is); (case l4 => k_is); (case c4 => k_is); (case k4 => k_is); (case a5 => k_is); (case l5 => k_is); (case c5 => k_is); (case k5 => k_is); (case a6 => k_is); (case l6 => k_is); (case c6 => k_is); (case k6 => k_is); (case a7 => k_is); (case l7 => k_is); (case c7 => k_is); (case k7 => k_is); (case a8 => k_is); (case l8 => k_is); (case c8 => k_is); (case k8 => k_is); (case a9 => k_is); (case l9 => k_is); (case c9 => k_is); (case k9 => k_is); (case a10 => k_is); (case l10 => k_is); (case c10 => k_is); (case k10 => k_is); (case a11 => k_is); (case l11 => k_is); (case c11 => k_is); (case k11 => k_is); (case a12 => k_is); (case l12 => k_is); (case c12 => k_is); (case k12 => k_is); (case a13 => k_is); (case l13 => k_is); (case c13 => k_is); (case k13 => k_is); (case a14 => k_is); (case l14 => k_is); (case c14 => k_is); (case k14 => k_is); (case a15 => k_is); (case l15 => k_is); (case c15 => k_is); (case k15 => k_is); (case a16 => k_is); (case l16 => k_is); (case c16 => k_is); (case k16 => k_is); (case z_abs => k_is); (case z_all => k_is); (case z_bool => k_is); (case z_enumerate => k_is); (case z_int => k_is); (case z_isinstance => k_is); (case z_len => k_is); (case z_list => k_is); (case z_max => k_is); (case z_min => k_is); (case z_range => k_is); (case z_repr => k_is); (case z_sorted => k_is); (case z_tuple => k_is)
end
