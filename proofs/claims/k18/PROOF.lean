import PyProof.Rows.All
import Wide.All
import OpenK.AllK
import Wide.FinOn
import PySem.Challenge.RW_starclocks_k18_any_parts_tell_the_same
import HandS.ForMost
import HandS.Dict
import HandS.SetKeys
import KE.KDictKeyed
import HandS.TupAny
import HandS.TupMul
import HandS.IsInst
import HandS.Deep
import HandS.TupLen
import KE.SortData
import HandS.Zip
import KE.GoesEnum
import HandS.Defaults
import HandS.SetBool
import HandS.Strs
import KE.KDictCopyH
import KE.KDictPairs
import KE.KDictSum
import HandS.Ends
import HandS.TupLe
import HandS.ExcInit
import HandS.ExcField
import HandS.TryMany
import HandS.ForExc
import PyProof.RulesAs
import HandS.CallLocal
import HandS.Conv
import KE.DataMinMax
import HandS.Style
import HandS.DictComp
import PyProof.DictCompW
import KE.KTupSum
set_option Elab.async false
set_option linter.all false
set_option maxRecDepth 100000
/-! DX1: dicts whose keys are nested tuples, tracked by what their one object holds; the keys' own tuples are tracked as tuples -/
namespace DX
open PySem PySem.Spec PyProof.Rows L2
mutual
/-- v is the nested key k, by the tracked tuples -/
inductive HKey (H : Hp) : NestedKey → V → Prop
  | non : HKey H .none .non
  | bl (b : Bool) : HKey H (.num (if b = true then 1 else 0)) (.bl b)
  | int (i : Int) : HKey H (.num i) (.int i)
  | str (x : Str) : HKey H (.text x) (.str x)
  | tup {a : Addr} {vs : List V} {ks : List NestedKey} : H a = some (.tup vs) → HKeys H ks vs → HKey H (.tup ks) (.ref a)
inductive HKeys (H : Hp) : List NestedKey → List V → Prop
  | nil : HKeys H [] []
  | cons {k : NestedKey} {v : V} {ks : List NestedKey} {vs : List V} : HKey H k v → HKeys H ks vs → HKeys H (k :: ks) (v :: vs)
end
section
variable {P : Program} {w : World} {H H' : Hp} {h : Heap}
mutual
theorem HKey.is (ok : HOk P w H h) : ∀ (k : NestedKey) (v : V) (u : Value), HKey H k v → RelV v u → NestedIs h k u
  | .none, _, u, x, r => by
    cases x
    obtain rfl : u = Value.none := r
    exact .none
  | .num i, v, u, x, r => by
    cases x with
    | bl b =>
      obtain rfl : u = Value.bool b := r
      exact .bool rfl
    | int =>
      obtain ⟨t, rfl⟩ : ∃ t, u = Value.int i t := r
      exact .int i t
  | .text x, _, u, y, r => by
    cases y
    obtain ⟨t, rfl⟩ : ∃ t, u = Value.str x t := r
    exact .text x t
  | .tup ks, v, u, x, r => by
    cases x with
    | @tup a vs _ e y =>
      obtain rfl : u = Value.ref a := r
      obtain ⟨_, its, rel, o, h1, h2, n, h3⟩ := (show ObjOk P w H h a (.tup vs) from ok a _ e)
      exact .tup h1 h2 h3 (by simpa using HKeys.is ok ks vs its y rel)
theorem HKeys.is (ok : HOk P w H h) : ∀ (ks : List NestedKey) (vs : List V) (us : List Value), HKeys H ks vs → Vals vs us → NestedAll h ks us
  | [], _, us, x, r => by
    cases x
    cases r
    exact .nil
  | k :: ks, _, us, x, r => by
    cases x with
    | cons x xs =>
      cases r with
      | cons r rs => exact .cons (HKey.is ok k _ _ x r) (HKeys.is ok ks _ _ xs rs)
end
mutual
theorem HKey.keeps (ht : ∀ b ys, H b = some (.tup ys) → H' b = some (.tup ys)) : ∀ (k : NestedKey) (v : V), HKey H k v → HKey H' k v
  | .none, _, x => by cases x; exact .non
  | .num i, v, x => by
    cases x with
    | bl b => exact .bl b
    | int => exact .int i
  | .text x, _, y => by cases y; exact .str x
  | .tup ks, v, x => by
    cases x with
    | tup e y => exact .tup (ht _ _ e) (HKeys.keeps ht ks _ y)
theorem HKeys.keeps (ht : ∀ b ys, H b = some (.tup ys) → H' b = some (.tup ys)) : ∀ (ks : List NestedKey) (vs : List V), HKeys H ks vs → HKeys H' ks vs
  | [], _, x => by cases x; exact .nil
  | k :: ks, _, x => by
    cases x with
    | cons x xs => exact .cons (HKey.keeps ht k _ x) (HKeys.keeps ht ks _ xs)
end
end
/-- y is a key that a dict may have: a tracked tuple, nested to depth 8 at most -/
def KeyAt (H : Hp) (k : NestedKey) (y : V) : Prop := ∃ b, y = .ref b ∧ HKey H k (.ref b) ∧ k.depth ≤ 8
theorem KeyAt.keeps {H H' : Hp} {k : NestedKey} {y : V} (x : KeyAt H k y) (ht : ∀ b ys, H b = some (.tup ys) → H' b = some (.tup ys)) : KeyAt H' k y := let ⟨b, e, q, d⟩ := x; ⟨b, e, q.keeps ht, d⟩
abbrev KX (H : Hp) : List (NestedKey × V) → List (NestedKey × Addr × Value) → Prop := Paired fun p q => p.1 = q.1 ∧ KeyAt H p.1 (.ref q.2.1) ∧ RelV p.2 q.2.2
theorem KX.val {H : Hp} {kvs : List (NestedKey × V)} {xs : List (NestedKey × Addr × Value)} (r : KX H kvs xs) (k : NestedKey) : RelO (valV kvs k) ((atKey xs k).map (·.2)) := by
  induction r with
  | nil => exact True.intro
  | @cons p q ps qs h t ih =>
    obtain ⟨h1, _, h2⟩ := h
    by_cases e : p.1 = k
    · have e' : q.1 = k := h1.symm.trans e
      have b : atKey (q :: qs) k = some q.2 := by simp [atKey, List.find?_cons, e']
      rw [valV_pos e, b]; exact h2
    · have e' : ¬ q.1 = k := fun z => e (h1.trans z)
      have b : atKey (q :: qs) k = atKey qs k := by simp [atKey, List.find?_cons, e']
      rw [valV_neg e, b]; exact ih
theorem KX.repl {H : Hp} {kvs : List (NestedKey × V)} {xs : List (NestedKey × Addr × Value)} (r : KX H kvs xs) (k : NestedKey) {y : V} {u : Value} (ry : RelV y u) :
    KX H (kvs.map fun kv => if kv.1 = k then (kv.1, y) else kv) (xs.map (putAt k u)) := by
  induction r with
  | nil => exact .nil
  | @cons p q ps qs h t ih =>
    rw [List.map_cons, List.map_cons]
    refine .cons ?_ ih
    obtain ⟨h1, h2, h3⟩ := h
    unfold putAt
    by_cases e : p.1 = k
    · rw [if_pos e, if_pos (h1.symm.trans e)]; exact ⟨h1, h2, ry⟩
    · rw [if_neg e, if_neg (fun z => e (h1.trans z))]; exact ⟨h1, h2, h3⟩
theorem KX.put {H : Hp} {kvs : List (NestedKey × V)} {xs : List (NestedKey × Addr × Value)} (r : KX H kvs xs) (k : NestedKey) {b : Addr} {y : V} {u : Value} (hb : KeyAt H k (.ref b)) (ry : RelV y u) :
    KX H (putK kvs k y) (storedH xs k b u) := by
  have e : (kvs.any fun kv => decide (kv.1 = k)) = (atKey xs k).isSome := by
    rw [valV_any, (r.val k).isSome_eq, Option.isSome_map]
  unfold putK storedH
  rw [e]
  by_cases q : (atKey xs k).isSome = true
  · rw [if_pos q, if_pos q]; exact r.repl k ry
  · rw [if_neg q, if_neg q]; exact Paired.snoc r ⟨rfl, hb, ry⟩
theorem KX.keeps {H H' : Hp} {kvs : List (NestedKey × V)} {xs : List (NestedKey × Addr × Value)} (r : KX H kvs xs) (ht : ∀ b ys, H b = some (.tup ys) → H' b = some (.tup ys)) : KX H' kvs xs :=
  Paired.mapP r fun _ _ z => ⟨z.1, z.2.1.keeps ht, z.2.2⟩
/-! ### the object -/
/-- an entry as it stands in the dict -/
def enX (w : World) (x : NestedKey × Addr × Value) : DictEntry := ⟨x.1.hash w, .ref x.2.1, x.2.2⟩
def dxP (w : World) (a : Addr) (xs : List (NestedKey × Addr × Value)) (h : Heap) : Prop :=
  (a == sysModules) = false ∧ xs.length ≤ sizeLine ∧ ∃ o es ep, h.get? a = some o ∧ o.ExactDict ∧ o.data = .dict es ep ∧ es.toList = xs.map (enX w) ∧ (xs.map (·.1)).Nodup
def dxO (w : World) (a : Addr) (xs : List (NestedKey × Addr × Value)) : HO := .ext (dxP w a xs)
end DX
set_option Elab.async false
set_option linter.all false
set_option maxRecDepth 100000
/-! DL1: data D and stores over the hand layer: what a heap bears of them, readings by functions -/
namespace DL
open PySem PySem.Spec PyProof.Rows L2
open Classical
inductive D where
  | non | bl (b : Bool) | int (i : Int) | str (x : Str) | tup (ds : List D) | loc (n : Nat) | rol (ds : List D) | ty (n : String) | fn (n : Str)
inductive MO where
  | lst (ds : List D) | dik (kvs : List (Key × D)) | dit (kvs : List (List Key × D)) | ins (c : Nat) (fs : List (Str × D)) | lkd (kvs : List (Key × D)) | lkt (kvs : List (List Key × D)) | dix (w : World) (kvs : List (NestedKey × D))
abbrev Store := List MO
inductive Res (α : Type) where
  | ok (a : α) (S : Store) | exc (c : Nat) (w : D) (S : Store) | stuck
abbrev M (α : Type) := Store → Res α
def bnd {α β : Type} (f : M α) (g : α → M β) : M β := fun S => match f S with
  | .ok a S' => g a S'
  | .exc c w S' => .exc c w S'
  | .stuck => .stuck
def ret {α : Type} (a : α) : M α := fun S => .ok a S
def stuck {α : Type} : M α := fun _ => .stuck
abbrev Env := List (Option D)
abbrev SE := Env → M D
abbrev ST := Env → M Bool
abbrev SA := Env → M (List D)
inductive Out where
  | nx (δ : Env) | rt (d : D) | bk (δ : Env) | ct (δ : Env)
abbrev SS := Env → M Out
abbrev SG := D → Env → M Env
/-! ### what a heap bears -/
/-- a list that is read, never written: it stays whatever is done -/
def Rol (K : PySem.W.Frag) (H : Hp) (a : Addr) (xs : List V) : Prop := ∀ H' : Hp, (∀ o u, H a = some (.frz o u) → H' a = some (.frz o u)) → SqL K H' a xs
mutual
def Rep (K : PySem.W.Frag) (ρ : List Addr) (H : Hp) : D → V → Prop
  | .non, v => v = .non
  | .bl b, v => v = .bl b
  | .int i, v => v = .int i
  | .str x, v => v = .str x
  | .ty n, v => v = .ty n
  | .fn n, v => ∃ a, v = .ref a ∧ PySem.W.nsIn K mainGlobals n = some (some (.ref a))
  | .tup ds, v => ∃ a xs, v = .ref a ∧ H a = some (.tup xs) ∧ Reps K ρ H ds xs
  | .loc n, v => ∃ a, v = .ref a ∧ ρ[n]? = some a
  | .rol ds, v => ∃ a xs, v = .ref a ∧ Rol K H a xs ∧ Reps K ρ H ds xs
def Reps (K : PySem.W.Frag) (ρ : List Addr) (H : Hp) : List D → List V → Prop
  | [], xs => xs = []
  | d :: ds, xs => ∃ y ys, xs = y :: ys ∧ Rep K ρ H d y ∧ Reps K ρ H ds ys
end
def RepKV {κ : Type} (K : PySem.W.Frag) (ρ : List Addr) (H : Hp) : List (κ × D) → List (κ × V) → Prop
  | [], xs => xs = []
  | p :: r, xs => ∃ v ys, xs = (p.1, v) :: ys ∧ Rep K ρ H p.2 v ∧ RepKV K ρ H r ys
def ObjRep (K : PySem.W.Frag) (cls : Nat → Addr) (ρ : List Addr) (H : Hp) (a : Addr) : MO → Prop
  | .lst ds => ∃ xs, H a = some (.lst xs) ∧ Reps K ρ H ds xs
  | .dik kvs => ∃ ks, H a = some (.dK ks) ∧ RepKV K ρ H kvs ks
  | .dit kvs => ∃ ks, H a = some (.dT ks) ∧ RepKV K ρ H kvs ks
  | .ins c fs => ∃ dx gs, H a = some (.ins (cls c) dx gs) ∧ RepKV K ρ H fs gs
  | .lkd kvs => ∃ o ks, H a = some (.frz o (.dK ks)) ∧ RepKV K ρ H kvs ks
  | .lkt kvs => ∃ o ks, H a = some (.frz o (.dT ks)) ∧ RepKV K ρ H kvs ks
  | .dix w kvs => ∃ ks xs, H a = some (DX.dxO w a xs) ∧ DX.KX H ks xs ∧ RepKV K ρ H kvs ks
structure Match (K : PySem.W.Frag) (cls : Nat → Addr) (ρ : List Addr) (S : Store) (H : Hp) : Prop where
  len : ρ.length = S.length
  nd : ρ.Nodup
  obj : ∀ (n : Nat) (a : Addr) (o : MO), ρ[n]? = some a → S[n]? = some o → ObjRep K cls ρ H a o
/-- the tuples and the locked things stay, addresses are added -/
structure Ext (ρ : List Addr) (H : Hp) (ρ' : List Addr) (H' : Hp) : Prop where
  pre : ∃ t, ρ' = ρ ++ t
  tups : ∀ a xs, H a = some (.tup xs) → H' a = some (.tup xs)
  frzs : ∀ a o u, H a = some (.frz o u) → H' a = some (.frz o u)
structure ERep (K : PySem.W.Frag) (ρ : List Addr) (H : Hp) (δ : Env) (σ : L2.St) : Prop where
  len : σ.length = δ.length
  get : ∀ (i : Nat) (d : D), δ[i]? = some (some d) → ∃ v, σ[i]? = some (some v) ∧ Rep K ρ H d v
section
variable {K : PySem.W.Frag} {cls : Nat → Addr} {ρ ρ' ρ1 ρ2 : List Addr} {H H' H1 H2 : Hp} {S S' : Store} {δ : Env} {σ : L2.St} {d : D} {v : V} {ds : List D} {xs : List V}
theorem Ext.refl : Ext ρ H ρ H := ⟨⟨[], by simp⟩, fun _ _ h => h, fun _ _ _ h => h⟩
theorem Ext.trans (a : Ext ρ H ρ1 H1) (b : Ext ρ1 H1 ρ2 H2) : Ext ρ H ρ2 H2 := by
  obtain ⟨t, e⟩ := a.pre
  obtain ⟨u, e'⟩ := b.pre
  exact ⟨⟨t ++ u, by rw [e', e, List.append_assoc]⟩, fun c xs h => b.tups c xs (a.tups c xs h), fun c o u h => b.frzs c o u (a.frzs c o u h)⟩
theorem Ext.get (a : Ext ρ H ρ' H') {n : Nat} {b : Addr} (h : ρ[n]? = some b) : ρ'[n]? = some b := by
  obtain ⟨t, e⟩ := a.pre
  subst e
  have hl : n < ρ.length := (List.getElem?_eq_some_iff.mp h).1
  rw [List.getElem?_append_left hl]
  exact h
theorem Rol.ext {a : Addr} (h : Rol K H a xs) (f : ∀ a o u, H a = some (.frz o u) → H' a = some (.frz o u)) : Rol K H' a xs := fun H2 q => h H2 fun o u e => q o u (f a o u e)
theorem Rol.seq {a : Addr} (h : Rol K H a xs) : SqL K H a xs := h H fun _ _ e => e
mutual
theorem Rep.ext (x : Ext ρ H ρ' H') : ∀ (d : D) (v : V), Rep K ρ H d v → Rep K ρ' H' d v
  | .non, _, h => h
  | .bl _, _, h => h
  | .int _, _, h => h
  | .str _, _, h => h
  | .ty _, _, h => h
  | .fn _, _, h => h
  | .tup ds, _, ⟨a, xs, e, e1, r⟩ => ⟨a, xs, e, x.tups a xs e1, Reps.ext x ds xs r⟩
  | .loc n, _, ⟨a, e, e1⟩ => ⟨a, e, x.get e1⟩
  | .rol ds, _, ⟨a, xs, e, e1, r⟩ => ⟨a, xs, e, e1.ext x.frzs, Reps.ext x ds xs r⟩
theorem Reps.ext (x : Ext ρ H ρ' H') : ∀ (ds : List D) (xs : List V), Reps K ρ H ds xs → Reps K ρ' H' ds xs
  | [], _, h => h
  | d :: ds, _, ⟨y, ys, e, r, t⟩ => ⟨y, ys, e, Rep.ext x d y r, Reps.ext x ds ys t⟩
end
theorem RepKV.ext {κ : Type} (x : Ext ρ H ρ' H') : ∀ (kvs : List (κ × D)) (ks : List (κ × V)), RepKV K ρ H kvs ks → RepKV K ρ' H' kvs ks
  | [], _, h => h
  | p :: r, _, ⟨v, ys, e, q, t⟩ => ⟨v, ys, e, Rep.ext x _ _ q, RepKV.ext x r ys t⟩
theorem ERep.ext (x : Ext ρ H ρ' H') (e : ERep K ρ H δ σ) : ERep K ρ' H' δ σ := ⟨e.len, fun i d h => let ⟨v, a, b⟩ := e.get i d h; ⟨v, a, Rep.ext x _ _ b⟩⟩
theorem Reps.length : ∀ {ds : List D} {xs : List V}, Reps K ρ H ds xs → xs.length = ds.length
  | [], _, h => by rw [show _ = [] from h]; rfl
  | _ :: ds, _, ⟨_, ys, e, _, t⟩ => by rw [e, List.length_cons, List.length_cons, Reps.length t]
theorem RepKV.length {κ : Type} : ∀ {ds : List (κ × D)} {xs : List (κ × V)}, RepKV K ρ H ds xs → xs.length = ds.length
  | [], _, h => by rw [show _ = [] from h]; rfl
  | _ :: ds, _, ⟨_, ys, e, _, t⟩ => by rw [e, List.length_cons, List.length_cons, RepKV.length t]
theorem Reps.get : ∀ {ds : List D} {xs : List V}, Reps K ρ H ds xs → ∀ {i : Nat} {d : D}, ds[i]? = some d → ∃ v, xs[i]? = some v ∧ Rep K ρ H d v
  | [], _, h, i, d, e => by simp at e
  | a :: ds, _, ⟨y, ys, e, r, t⟩, 0, d, q => by
    rw [e]
    have q' : a = d := by simpa using q
    subst q'
    exact ⟨y, by simp, r⟩
  | a :: ds, _, ⟨y, ys, e, r, t⟩, i + 1, d, q => by
    rw [e]
    obtain ⟨v, h1, h2⟩ := Reps.get t (i := i) (d := d) (by simpa using q)
    exact ⟨v, by simpa using h1, h2⟩
theorem Reps.append : ∀ {ds : List D} {xs : List V} {es : List D} {ys : List V}, Reps K ρ H ds xs → Reps K ρ H es ys → Reps K ρ H (ds ++ es) (xs ++ ys)
  | [], _, _, _, h, q => by rw [show _ = [] from h]; exact q
  | a :: ds, _, es, ys, ⟨y, zs, e, r, t⟩, q => ⟨y, zs ++ ys, by rw [e]; rfl, r, Reps.append t q⟩
theorem Reps.one (r : Rep K ρ H d v) : Reps K ρ H [d] [v] := ⟨v, [], rfl, r, rfl⟩
theorem Reps.set : ∀ {ds : List D} {xs : List V} (i : Nat), Reps K ρ H ds xs → Rep K ρ H d v → Reps K ρ H (ds.set i d) (xs.set i v)
  | [], _, _, h, _ => by rw [show _ = [] from h]; rfl
  | a :: ds, _, 0, ⟨y, ys, e, r, t⟩, q => ⟨v, ys, by rw [e]; rfl, q, t⟩
  | a :: ds, _, i + 1, ⟨y, ys, e, r, t⟩, q => ⟨y, ys.set i v, by rw [e]; rfl, r, Reps.set i t q⟩
theorem Reps.take : ∀ {ds : List D} {xs : List V} (i : Nat), Reps K ρ H ds xs → Reps K ρ H (ds.take i) (xs.take i)
  | _, _, 0, _ => by simp [Reps]
  | [], _, i + 1, h => by rw [show _ = [] from h]; rfl
  | a :: ds, _, i + 1, ⟨y, ys, e, r, t⟩ => ⟨y, ys.take i, by rw [e]; rfl, r, Reps.take i t⟩
theorem Reps.drop : ∀ {ds : List D} {xs : List V} (i : Nat), Reps K ρ H ds xs → Reps K ρ H (ds.drop i) (xs.drop i)
  | _, _, 0, h => by simpa using h
  | [], _, i + 1, h => by rw [show _ = [] from h]; rfl
  | a :: ds, _, i + 1, ⟨y, ys, e, r, t⟩ => by rw [e]; exact Reps.drop i t
theorem Reps.ints : ∀ {ns : List Int} {xs : List V}, Reps K ρ H (ns.map D.int) xs → xs = ns.map V.int
  | [], _, h => h
  | n :: ns, _, ⟨y, ys, e, r, t⟩ => by rw [e, show y = V.int n from r, Reps.ints t]; rfl
theorem Reps.bls : ∀ {ns : List Bool} {xs : List V}, Reps K ρ H (ns.map D.bl) xs → xs = ns.map V.bl
  | [], _, h => h
  | n :: ns, _, ⟨y, ys, e, r, t⟩ => by rw [e, show y = V.bl n from r, Reps.bls t]; rfl
theorem ERep.set (e : ERep K ρ H δ σ) (i : Nat) (r : Rep K ρ H d v) : ERep K ρ H (δ.set i (some d)) (σ.set i (some v)) := by
  refine ⟨by simp [e.len], fun j d' h => ?_⟩
  by_cases hij : i = j
  · subst hij
    have hl : i < δ.length := by
      have := (List.getElem?_eq_some_iff.mp h).1
      simpa using this
    rw [List.getElem?_set_self hl] at h
    cases h
    exact ⟨v, by rw [List.getElem?_set_self (by rw [e.len]; exact hl)], r⟩
  · rw [List.getElem?_set_ne hij] at h
    obtain ⟨v', h1, h2⟩ := e.get j d' h
    exact ⟨v', by rw [List.getElem?_set_ne hij]; exact h1, h2⟩
/-! ### the store changed -/
theorem Match.there (m : Match K cls ρ S H) {n : Nat} {a : Addr} (h : ρ[n]? = some a) : ∃ o, S[n]? = some o ∧ ObjRep K cls ρ H a o := by
  have hl : n < S.length := by rw [← m.len]; exact (List.getElem?_eq_some_iff.mp h).1
  exact ⟨_, List.getElem?_eq_getElem hl, m.obj n a _ h (List.getElem?_eq_getElem hl)⟩
theorem ObjRep.some {a : Addr} {o : MO} (h : ObjRep K cls ρ H a o) : ∃ u, H a = some u := by
  cases o with
  | lst _ => obtain ⟨_, e, _⟩ := h; exact ⟨_, e⟩
  | dik _ => obtain ⟨_, e, _⟩ := h; exact ⟨_, e⟩
  | dit _ => obtain ⟨_, e, _⟩ := h; exact ⟨_, e⟩
  | ins _ _ => obtain ⟨_, _, e, _⟩ := h; exact ⟨_, e⟩
  | lkd _ => obtain ⟨_, _, e, _⟩ := h; exact ⟨_, e⟩
  | lkt _ => obtain ⟨_, _, e, _⟩ := h; exact ⟨_, e⟩
  | dix _ _ => obtain ⟨_, _, e, _⟩ := h; exact ⟨_, e⟩
/-- what an object says is carried where its own place is kept -/
theorem ObjRep.keep {a : Addr} {o : MO} (h : ObjRep K cls ρ H a o) (x : Ext ρ H ρ' H') (e : H' a = H a) : ObjRep K cls ρ' H' a o := by
  cases o with
  | lst _ => obtain ⟨xs, e1, r⟩ := h; exact ⟨xs, by rw [e]; exact e1, r.ext x⟩
  | dik _ => obtain ⟨xs, e1, r⟩ := h; exact ⟨xs, by rw [e]; exact e1, r.ext x⟩
  | dit _ => obtain ⟨xs, e1, r⟩ := h; exact ⟨xs, by rw [e]; exact e1, r.ext x⟩
  | ins _ _ => obtain ⟨dx, xs, e1, r⟩ := h; exact ⟨dx, xs, by rw [e]; exact e1, r.ext x⟩
  | lkd _ => obtain ⟨dx, xs, e1, r⟩ := h; exact ⟨dx, xs, by rw [e]; exact e1, r.ext x⟩
  | lkt _ => obtain ⟨dx, xs, e1, r⟩ := h; exact ⟨dx, xs, by rw [e]; exact e1, r.ext x⟩
  | dix _ _ => obtain ⟨ks, xs, e1, kx, r⟩ := h; exact ⟨ks, xs, by rw [e]; exact e1, kx.keeps x.tups, r.ext x⟩
/-- something new that is no store's object -/
theorem ext_new {p : Addr} {o : HO} (hp : H p = none) : Ext ρ H ρ (upd H p o) := ⟨⟨[], by simp⟩, fun a xs h => by rw [upd_ne (ne_of_none h hp)]; exact h, fun a q u h => by rw [upd_ne (ne_of_none h hp)]; exact h⟩
theorem Match.new (m : Match K cls ρ S H) {p : Addr} {o : HO} (hp : H p = none) : Match K cls ρ S (upd H p o) := ⟨m.len, m.nd, fun n a q h1 h2 => by
  have r := m.obj n a q h1 h2
  obtain ⟨u, e⟩ := r.some
  exact r.keep (ext_new hp) (upd_ne (ne_of_none e hp))⟩
/-- a new object of the store -/
theorem ext_push {p : Addr} {o : HO} (hp : H p = none) : Ext ρ H (ρ ++ [p]) (upd H p o) := ⟨⟨[p], rfl⟩, (ext_new (ρ := ρ) hp).tups, (ext_new (ρ := ρ) hp).frzs⟩
theorem Match.push (m : Match K cls ρ S H) {p : Addr} {o : HO} {q : MO} (hp : H p = none) (r : ObjRep K cls (ρ ++ [p]) (upd H p o) p q) : Match K cls (ρ ++ [p]) (S ++ [q]) (upd H p o) := by
  have np : p ∉ ρ := fun hm => by
    obtain ⟨n, hn, e⟩ := List.mem_iff_getElem.mp hm
    obtain ⟨_, _, r'⟩ := m.there (n := n) (a := p) (by rw [List.getElem?_eq_getElem hn, e])
    obtain ⟨u, e'⟩ := r'.some
    rw [hp] at e'; cases e'
  refine ⟨by simp [m.len], ?_, fun n a o' h1 h2 => ?_⟩
  · rw [List.nodup_append]
    refine ⟨m.nd, by simp, fun x hx y hy => ?_⟩
    have : y = p := by simpa using hy
    subst this
    rintro rfl
    exact np hx
  · by_cases hn : n < ρ.length
    · rw [List.getElem?_append_left hn] at h1
      rw [List.getElem?_append_left (by rw [← m.len]; exact hn)] at h2
      have r' := m.obj n a o' h1 h2
      obtain ⟨u, e⟩ := r'.some
      exact r'.keep (ext_push hp) (upd_ne (ne_of_none e hp))
    · have hn' : n = ρ.length := by
        have := (List.getElem?_eq_some_iff.mp h1).1
        simp at this
        omega
      subst hn'
      rw [List.getElem?_append_right (Nat.le_refl _)] at h1
      rw [m.len, List.getElem?_append_right (Nat.le_refl _)] at h2
      simp at h1 h2
      subst h1 h2
      exact r
/-- an object of the store is written -/
theorem ext_write {a : Addr} {o : HO} (mu : Mut (H a)) : Ext ρ H ρ (upd H a o) := ⟨⟨[], by simp⟩, fun b xs h => by
    have : b ≠ a := by rintro rfl; rw [h] at mu; exact mu
    rw [upd_ne this]; exact h, fun b q u h => by
    have : b ≠ a := by rintro rfl; rw [h] at mu; exact mu
    rw [upd_ne this]; exact h⟩
theorem nd_get {n k : Nat} {a : Addr} (h : ρ.Nodup) (h1 : ρ[n]? = some a) (h2 : ρ[k]? = some a) : n = k := by
  obtain ⟨l1, e1⟩ := List.getElem?_eq_some_iff.mp h1
  obtain ⟨l2, e2⟩ := List.getElem?_eq_some_iff.mp h2
  exact (List.getElem_inj h).mp (e1.trans e2.symm)
theorem Match.write (m : Match K cls ρ S H) {n : Nat} {a : Addr} {o : HO} {q : MO} (ha : ρ[n]? = some a) (mu : Mut (H a)) (r : ObjRep K cls ρ (upd H a o) a q) : Match K cls ρ (S.set n q) (upd H a o) := by
  obtain ⟨q0, h0, r0⟩ := m.there ha
  refine ⟨by simp [m.len], m.nd, fun k b o' h1 h2 => ?_⟩
  by_cases hk : n = k
  · subst hk
    rw [ha] at h1; cases h1
    rw [List.getElem?_set_self (List.getElem?_eq_some_iff.mp h0).1] at h2
    cases h2
    exact r
  · rw [List.getElem?_set_ne hk] at h2
    have r' := m.obj k b o' h1 h2
    have hb : b ≠ a := by rintro rfl; exact hk (nd_get m.nd ha h1)
    exact r'.keep (ext_write mu) (upd_ne hb)
end
/-! ### a computation's end -/
section
variable (K : PySem.W.Frag) (cls : Nat → Addr) (E : XK)
def Fin {α : Type} (ρ : List Addr) (H : Hp) (r : Res α) (k : α → List Addr → Store → Hp → Prop) : Prop := match r with
  | .ok a S' => ∀ ρ' H', Ext ρ H ρ' H' → Match K cls ρ' S' H' → k a ρ' S' H'
  | .exc c w S' => ∀ ρ' H' dd v, Ext ρ H ρ' H' → Match K cls ρ' S' H' → H' dd = some (.xd [("what", v)]) → Rep K ρ' H' w v → E (.ref (cls c)) (some dd) H'
  | .stuck => False
end
section
variable {K : PySem.W.Frag} {cls : Nat → Addr} {E : XK} {α β : Type} {ρ ρ1 : List Addr} {H H1 : Hp} {r : Res α} {k k' : α → List Addr → Store → Hp → Prop}
theorem Fin.imp (h : Fin K cls E ρ H r k) (q : ∀ a ρ' S' H', Ext ρ H ρ' H' → Match K cls ρ' S' H' → k a ρ' S' H' → k' a ρ' S' H') : Fin K cls E ρ H r k' := by
  cases r with
  | ok a S' => exact fun ρ' H' x m => q a ρ' S' H' x m (h ρ' H' x m)
  | exc c w S' => exact h
  | stuck => exact h
theorem Fin.ext (h : Fin K cls E ρ H r k) (x : Ext ρ H ρ1 H1) : Fin K cls E ρ1 H1 r k := by
  cases r with
  | ok a S' => exact fun ρ' H' x' m => h ρ' H' (x.trans x') m
  | exc c w S' => exact fun ρ' H' dd v x' m e q => h ρ' H' dd v (x.trans x') m e q
  | stuck => exact h
/-- the first step apart -/
theorem Fin.bnd {f : M α} {g : α → M β} {S : Store} {k : β → List Addr → Store → Hp → Prop} (h : Fin K cls E ρ H (DL.bnd f g S) k) :
    Fin K cls E ρ H (f S) fun a ρ1 S1 H1 => Fin K cls E ρ1 H1 (g a S1) k := by
  unfold DL.bnd at h
  cases hf : f S with
  | ok a S' => rw [hf] at h; exact fun ρ' H' x m => Fin.ext h x
  | exc c w S' => rw [hf] at h; exact h
  | stuck => rw [hf] at h; exact h
theorem Fin.ret {a : α} {S : Store} (h : Fin K cls E ρ H (DL.ret a S) k) (m : Match K cls ρ S H) : k a ρ S H := h ρ H .refl m
end
/-! ### readings by functions -/
section
variable (K : PySem.W.Frag) (cls : Nat → Addr) (E : XK)
def TJ (f : SE) : TE := fun σ H Q => ∃ ρ S δ, ERep K ρ H δ σ ∧ Match K cls ρ S H ∧ Fin K cls E ρ H (f δ S) fun d ρ' _ H' => ∀ v, Rep K ρ' H' d v → Q v H'
def TJT (f : ST) : TT := fun σ H Q => ∃ ρ S δ, ERep K ρ H δ σ ∧ Match K cls ρ S H ∧ Fin K cls E ρ H (f δ S) fun b _ _ H' => Q b H'
def TJA (f : SA) : TA := fun σ H Q => ∃ ρ S δ, ERep K ρ H δ σ ∧ Match K cls ρ S H ∧ Fin K cls E ρ H (f δ S) fun ds ρ' _ H' => ∀ vs, Reps K ρ' H' ds vs → Q vs H'
def OutOk (Dn : Ends) (o : Out) (ρ : List Addr) (H : Hp) : Prop := match o with
  | .nx δ => ∀ σ, ERep K ρ H δ σ → Dn.nx σ H
  | .rt d => ∀ v, Rep K ρ H d v → Dn.rt v H
  | .bk δ => ∀ σ, ERep K ρ H δ σ → Dn.bk σ H
  | .ct δ => ∀ σ, ERep K ρ H δ σ → Dn.ct σ H
def TJS (g : SS) : TS := fun Dn σ H => ∃ ρ S δ, ERep K ρ H δ σ ∧ Match K cls ρ S H ∧ Fin K cls E ρ H (g δ S) fun o ρ' _ H' => OutOk K Dn o ρ' H'
def TJG (g : SG) : TG := fun v σ H Q => ∃ ρ S δ d, ERep K ρ H δ σ ∧ Match K cls ρ S H ∧ Rep K ρ H d v ∧ Fin K cls E ρ H (g d δ S) fun δ' ρ' _ H' => ∀ σ', ERep K ρ' H' δ' σ' → Q σ' H'
end
abbrev JE (X : Cx) (cls : Nat → Addr) (E : XK) (e : Expr) (f : SE) : Prop := PE X e (TJ X.K cls E f)
abbrev JT (X : Cx) (cls : Nat → Addr) (E : XK) (e : Expr) (f : ST) : Prop := PT X e (TJT X.K cls E f)
abbrev JW (X : Cx) (cls : Nat → Addr) (E : XK) (e : Expr) (f : ST) : Prop := PW X e (TJT X.K cls E f)
abbrev JA (X : Cx) (cls : Nat → Addr) (E : XK) (es : List Expr) (f : SA) : Prop := PA X es (TJA X.K cls E f)
abbrev JS (X : Cx) (cls : Nat → Addr) (E : XK) (st : Stmt) (g : SS) : Prop := PS X st (TJS X.K cls E g)
abbrev JSs (X : Cx) (cls : Nat → Addr) (E : XK) (st : List Stmt) (g : SS) : Prop := PSs X st (TJS X.K cls E g)
abbrev JG (X : Cx) (cls : Nat → Addr) (E : XK) (e : Expr) (g : SG) : Prop := PG X e (TJG X.K cls E g)
section
variable {X : Cx}
theorem PE.wk {e : Expr} {t t' : TE} (h : PE X e t) (w : ∀ pins s σ H Q, Inv X pins σ H s → t' σ H Q → t σ H Q) : PE X e t' := ⟨fun pins s σ H Q I q => h.run pins s σ H Q I (w pins s σ H Q I q)⟩
theorem PT.wk {e : Expr} {t t' : TT} (h : PT X e t) (w : ∀ pins s σ H Q, Inv X pins σ H s → t' σ H Q → t σ H Q) : PT X e t' := ⟨fun pins s σ H Q I q => h.run pins s σ H Q I (w pins s σ H Q I q)⟩
theorem PW.wk {e : Expr} {t t' : TT} (h : PW X e t) (w : ∀ pins s σ H Q, Inv X pins σ H s → t' σ H Q → t σ H Q) : PW X e t' := ⟨fun wh pins s σ H Q I q => h.run wh pins s σ H Q I (w pins s σ H Q I q)⟩
theorem PA.wk {e : List Expr} {t t' : TA} (h : PA X e t) (w : ∀ pins s σ H Q, Inv X pins σ H s → t' σ H Q → t σ H Q) : PA X e t' := ⟨fun pos pins s σ H Q I q => h.run pos pins s σ H Q I (w pins s σ H Q I q)⟩
theorem PS.wk {e : Stmt} {t t' : TS} (h : PS X e t) (w : ∀ pins s σ H Q, Inv X pins σ H s → t' Q σ H → t Q σ H) : PS X e t' := ⟨fun pins s σ H Q I q => h.run pins s σ H Q I (w pins s σ H Q I q)⟩
theorem PSs.wk {e : List Stmt} {t t' : TS} (h : PSs X e t) (w : ∀ pins s σ H Q, Inv X pins σ H s → t' Q σ H → t Q σ H) : PSs X e t' := ⟨fun pins s σ H Q I q => h.run pins s σ H Q I (w pins s σ H Q I q)⟩
end
end DL
set_option Elab.async false
set_option linter.all false
set_option maxRecDepth 100000
/-! DL2: expressions -/
namespace DL
open PySem PySem.Spec PyProof.Rows L2
open Classical
section
variable {X : Cx} {cls : Nat → Addr} {E : XK} {a b c e : Expr} {f g h : SE} {p q r : ST} {pos : Pos}
/-! ### names, constants -/
def eVar (i : Nat) : SE := fun δ S => match δ[i]? with
  | some (some d) => .ok d S
  | _ => .stuck
def eC (d : D) : SE := fun _ => ret d
theorem je_var {i : Nat} (hp : PE X e (tVar i)) : JE X cls E e (eVar i) := PE.wk hp fun pins s σ H Q I hh => by
  obtain ⟨ρ, S, δ, er, m, fi⟩ := hh
  unfold eVar at fi
  split at fi
  · rename_i d hd
    obtain ⟨v, h1, h2⟩ := er.get i d hd
    exact ⟨v, h1, fi ρ H .refl m v h2⟩
  · exact fi.elim
theorem je_c {v : V} {d : D} (hp : PE X e (tC v)) (hr : ∀ ρ H, Rep X.K ρ H d v) : JE X cls E e (eC d) := PE.wk hp fun pins s σ H Q I hh => by
  obtain ⟨ρ, S, δ, er, m, fi⟩ := hh
  exact fi ρ H .refl m v (hr ρ H)
/-! ### two parts -/
abbrev Op2 := D → D → M D
def eBin (op : Op2) (f g : SE) : SE := fun δ => bnd (f δ) fun x => bnd (g δ) fun y => op x y
/-- an operator's reading by a function -/
def rJ (K : PySem.W.Frag) (cls : Nat → Addr) (E : XK) (op : Op2) : R2 := fun v w H Q => ∃ ρ S x y, Match K cls ρ S H ∧ Rep K ρ H x v ∧ Rep K ρ H y w ∧ Fin K cls E ρ H (op x y S) fun d ρ' _ H' => ∀ u, Rep K ρ' H' d u → Q u H'
theorem tj_bin {K : PySem.W.Frag} {op : Op2} {σ : L2.St} {H : Hp} {Q : VK} (hh : TJ K cls E (eBin op f g) σ H Q) : tOp (rJ K cls E op) (TJ K cls E f) (TJ K cls E g) σ H Q := by
  obtain ⟨ρ, S, δ, er, m, fi⟩ := hh
  refine ⟨ρ, S, δ, er, m, Fin.imp (Fin.bnd fi) fun x ρ1 S1 H1 x1 m1 k1 v1 r1 => ?_⟩
  refine ⟨ρ1, S1, δ, er.ext x1, m1, Fin.imp (Fin.bnd k1) fun y ρ2 S2 H2 x2 m2 k2 v2 r2 => ?_⟩
  exact ⟨ρ2, S2, x, y, m2, Rep.ext x2 _ _ r1, r2, k2⟩
theorem OpR.wk {F : Value → Value → Sem Value} {r r' : R2} (ho : OpR X F r) (w : ∀ pins s σ H x y Q, Inv X pins σ H s → r' x y H Q → r x y H Q) : OpR X F r' := fun pins s σ H x y v u Q I rx ry hr => ho pins s σ H x y v u Q I rx ry (w pins s σ H x y Q I hr)
theorem je_bin {o : Operator} {op : Op2} (ho : OpR X (binaryOp o) (rJ X.K cls E op)) (ha : JE X cls E a f) (hb : JE X cls E b g) : JE X cls E (.BinOp a o b pos) (eBin op f g) := PE.wk (pe_op ho ha hb) fun _ _ _ _ _ _ => tj_bin
theorem je_cmp {o : CmpOp} {op : Op2} (ho : OpR X (compareOp o) (rJ X.K cls E op)) (ha : JE X cls E a f) (hb : JE X cls E b g) (hm : behindInMarks o b = false) : JE X cls E (.Compare a [o] [b] pos) (eBin op f g) := PE.wk (pe_cmpR ho ha hb hm) fun _ _ _ _ _ _ => tj_bin
/-- a value that is a bool -/
def asB : D → M Bool
  | .bl b => ret b
  | _ => stuck
def tOf (f : SE) : ST := fun δ => bnd (f δ) asB
theorem tj_of {K : PySem.W.Frag} {σ : L2.St} {H : Hp} {Q : Bool → Hp → Prop} (hh : TJT K cls E (tOf f) σ H Q) : TJ K cls E f σ H fun x H' => ∃ k, x = .bl k ∧ Q k H' := by
  obtain ⟨ρ, S, δ, er, m, fi⟩ := hh
  refine ⟨ρ, S, δ, er, m, Fin.imp (Fin.bnd fi) fun x ρ1 S1 H1 x1 m1 k1 v1 r1 => ?_⟩
  cases x with
  | bl b => exact ⟨b, r1, k1 ρ1 H1 .refl m1⟩
  | non => exact k1.elim
  | int _ => exact k1.elim
  | str _ => exact k1.elim
  | tup _ => exact k1.elim
  | loc _ => exact k1.elim
  | rol _ => exact k1.elim
  | ty _ => exact k1.elim
  | fn _ => exact k1.elim
theorem jt_cmp {o : CmpOp} {op : Op2} (ho : OpR X (compareOp o) (rJ X.K cls E op)) (ha : JE X cls E a f) (hb : JE X cls E b g) (hm : behindInMarks o b = false) : JT X cls E (.Compare a [o] [b] pos) (tOf (eBin op f g)) :=
  PT.wk (pt_cmpR ho ha hb hm) fun _ _ _ _ _ _ hh => tj_bin (tj_of hh)
def eChain (op op' : Op2) (f g h : SE) : SE := fun δ => bnd (f δ) fun x => bnd (g δ) fun y => bnd (op x y) fun z => bnd (asB z) fun k => if k = true then bnd (h δ) fun w => op' y w else ret (.bl false)
theorem tj_chain {K : PySem.W.Frag} {op op' : Op2} {σ : L2.St} {H : Hp} {Q : VK} (hh : TJ K cls E (eChain op op' f g h) σ H Q) : tChain (rJ K cls E op) (rJ K cls E op') (TJ K cls E f) (TJ K cls E g) (TJ K cls E h) σ H Q := by
  obtain ⟨ρ, S, δ, er, m, fi⟩ := hh
  refine ⟨ρ, S, δ, er, m, Fin.imp (Fin.bnd fi) fun x ρ1 S1 H1 x1 m1 k1 v1 r1 => ?_⟩
  refine ⟨ρ1, S1, δ, er.ext x1, m1, Fin.imp (Fin.bnd k1) fun y ρ2 S2 H2 x2 m2 k2 v2 r2 => ?_⟩
  refine ⟨ρ2, S2, x, y, m2, Rep.ext x2 _ _ r1, r2, Fin.imp (Fin.bnd k2) fun z ρ3 S3 H3 x3 m3 k3 v3 r3 => ?_⟩
  have k3 := Fin.bnd k3
  cases z with
  | bl k =>
    refine ⟨k, r3, ?_⟩
    have k4 := k3 ρ3 H3 .refl m3
    cases k with
    | true =>
      rw [if_pos rfl] at k4 ⊢
      refine ⟨ρ3, S3, δ, ((er.ext x1).ext x2).ext x3, m3, Fin.imp (Fin.bnd k4) fun w ρ4 S4 H4 x4 m4 k5 v4 r4 => ?_⟩
      exact ⟨ρ4, S4, y, w, m4, Rep.ext x4 _ _ (Rep.ext x3 _ _ r2), r4, k5⟩
    | false =>
      rw [if_neg Bool.false_ne_true] at k4 ⊢
      exact k4 ρ3 H3 .refl m3 _ rfl
  | non => exact k3.elim
  | int _ => exact k3.elim
  | str _ => exact k3.elim
  | tup _ => exact k3.elim
  | loc _ => exact k3.elim
  | rol _ => exact k3.elim
  | ty _ => exact k3.elim
  | fn _ => exact k3.elim
theorem je_chain {op op' : Op2} (hp : PE X e (tChain (rJ X.K cls E op) (rJ X.K cls E op') (TJ X.K cls E f) (TJ X.K cls E g) (TJ X.K cls E h))) : JE X cls E e (eChain op op' f g h) := PE.wk hp fun _ _ _ _ _ _ => tj_chain
/-! ### tests -/
/-- truth of any value -/
def dTru : D → M Bool
  | .non => ret false
  | .bl b => ret b
  | .int i => ret (i != 0)
  | .str _ => stuck
  | .ty _ => stuck
  | .fn _ => stuck
  | .tup ds => ret (!ds.isEmpty)
  | .rol ds => ret (!ds.isEmpty)
  | .loc n => fun S => match S[n]? with
    | some (.lst ds) => .ok (!ds.isEmpty) S
    | some (.dik ds) => .ok (!ds.isEmpty) S
    | _ => .stuck
def tTru (f : SE) : ST := fun δ => bnd (f δ) dTru
theorem emp_reps {K : PySem.W.Frag} {ρ : List Addr} {H : Hp} {ds : List D} {xs : List V} (r : Reps K ρ H ds xs) : xs.isEmpty = ds.isEmpty := by
  have := r.length
  cases xs <;> cases ds <;> simp_all
theorem emp_kv {κ : Type} {K : PySem.W.Frag} {ρ : List Addr} {H : Hp} {ds : List (κ × D)} {xs : List (κ × V)} (r : RepKV K ρ H ds xs) : xs.isEmpty = ds.isEmpty := by
  have := r.length
  cases xs <;> cases ds <;> simp_all
theorem jt_tru (ha : JE X cls E a f) (he : ∀ whole, isTrue a X.env whole = (do let v ← whole; standAt a.pos; holding [v] (truthy v)) := by intro _; rfl) : JT X cls E a (tTru f) := PT.wk (pt_truth ha he) fun pins s σ H Q I hh => by
  obtain ⟨ρ, S, δ, er, m, fi⟩ := hh
  refine ⟨ρ, S, δ, er, m, Fin.imp (Fin.bnd fi) fun x ρ1 S1 H1 x1 m1 k1 v1 r1 => ?_⟩
  cases x with
  | bl b => obtain rfl : v1 = .bl b := r1; exact ⟨b, rfl, k1 ρ1 H1 .refl m1⟩
  | non => obtain rfl : v1 = .non := r1; exact ⟨false, rfl, k1 ρ1 H1 .refl m1⟩
  | int i => obtain rfl : v1 = .int i := r1; exact ⟨_, rfl, k1 ρ1 H1 .refl m1⟩
  | str _ => exact k1.elim
  | ty _ => exact k1.elim
  | fn _ => exact k1.elim
  | tup ds =>
    obtain ⟨p, xs, rfl, e1, rr⟩ := r1
    exact ⟨_, .inr (.inl ⟨xs, SqT.of e1, rfl⟩), by rw [emp_reps rr]; exact k1 ρ1 H1 .refl m1⟩
  | rol ds =>
    obtain ⟨p, xs, rfl, e1, rr⟩ := r1
    exact ⟨_, .inl ⟨xs, e1.seq, rfl⟩, by rw [emp_reps rr]; exact k1 ρ1 H1 .refl m1⟩
  | loc n =>
    obtain ⟨p, rfl, e1⟩ := r1
    obtain ⟨o, ho, hr⟩ := m1.there e1
    simp only [dTru, ho] at k1
    cases o with
    | lst ds =>
      obtain ⟨xs, e2, rr⟩ := hr
      exact ⟨_, .inl ⟨xs, SqL.of e2, rfl⟩, by rw [emp_reps rr]; exact k1 ρ1 H1 .refl m1⟩
    | dik ds =>
      obtain ⟨xs, e2, rr⟩ := hr
      exact ⟨_, .inr (.inr ⟨xs, e2, rfl⟩), by rw [emp_kv rr]; exact k1 ρ1 H1 .refl m1⟩
    | dit _ => exact k1.elim
    | ins _ _ => exact k1.elim
    | lkd _ => exact k1.elim
    | lkt _ => exact k1.elim
    | dix _ _ => exact k1.elim
def tAndT (p q : ST) : ST := fun δ => bnd (p δ) fun k => if k = true then q δ else ret false
def tOrT (p q : ST) : ST := fun δ => bnd (p δ) fun k => if k = true then ret true else q δ
def tNotT (p : ST) : ST := fun δ => bnd (p δ) fun k => ret (!k)
variable {rest : List Expr}
theorem jw_and1 (ha : JT X cls E a p) : JW X cls E (.BoolOp .And [a] pos) p := pw_and1 ha
theorem jw_or1 (ha : JT X cls E a p) : JW X cls E (.BoolOp .Or [a] pos) p := pw_or1 ha
theorem jw_and (ha : JT X cls E a p) (hb : JW X cls E (.BoolOp .And (b :: rest) pos) q) : JW X cls E (.BoolOp .And (a :: b :: rest) pos) (tAndT p q) := PW.wk (pw_and ha hb) fun pins s σ H Q I hh => by
  obtain ⟨ρ, S, δ, er, m, fi⟩ := hh
  refine ⟨ρ, S, δ, er, m, Fin.imp (Fin.bnd fi) fun x ρ1 S1 H1 x1 m1 k1 => ?_⟩
  cases x with
  | true => rw [if_pos rfl] at k1 ⊢; exact ⟨ρ1, S1, δ, er.ext x1, m1, k1⟩
  | false => rw [if_neg Bool.false_ne_true] at k1 ⊢; exact k1 ρ1 H1 .refl m1
theorem jw_or (ha : JT X cls E a p) (hb : JW X cls E (.BoolOp .Or (b :: rest) pos) q) : JW X cls E (.BoolOp .Or (a :: b :: rest) pos) (tOrT p q) := PW.wk (pw_or ha hb) fun pins s σ H Q I hh => by
  obtain ⟨ρ, S, δ, er, m, fi⟩ := hh
  refine ⟨ρ, S, δ, er, m, Fin.imp (Fin.bnd fi) fun x ρ1 S1 H1 x1 m1 k1 => ?_⟩
  cases x with
  | false => rw [if_neg Bool.false_ne_true] at k1 ⊢; exact ⟨ρ1, S1, δ, er.ext x1, m1, k1⟩
  | true => rw [if_pos rfl] at k1 ⊢; exact k1 ρ1 H1 .refl m1
theorem JW.pt (h : JW X cls E a p) : JT X cls E a p := ⟨h.run _⟩
theorem jt_not (ha : JT X cls E a p) : JT X cls E (.UnaryOp .Not a pos) (tNotT p) := PT.wk (pt_not ha) fun pins s σ H Q I hh => by
  obtain ⟨ρ, S, δ, er, m, fi⟩ := hh
  exact ⟨ρ, S, δ, er, m, Fin.imp (Fin.bnd fi) fun x ρ1 S1 H1 x1 m1 k1 => k1 ρ1 H1 .refl m1⟩
/-! .. as values that are bools -/
def eAnd (f g : SE) : SE := fun δ => bnd (f δ) fun x => bnd (asB x) fun k => if k = true then g δ else ret (.bl false)
def eOr (f g : SE) : SE := fun δ => bnd (f δ) fun x => bnd (asB x) fun k => if k = true then ret (.bl true) else g δ
def eNot (f : SE) : SE := fun δ => bnd (f δ) fun x => bnd (asB x) fun k => ret (.bl (!k))
theorem je_one {op} (h : JE X cls E a f) : JE X cls E (.BoolOp op [a] pos) f := pe_one h
theorem asB_fin {K : PySem.W.Frag} {α : Type} {x : D} {k : Bool → M α} {ρ : List Addr} {S : Store} {H : Hp} {Z : α → List Addr → Store → Hp → Prop} {v : V} (r : Rep K ρ H x v) (fi : Fin K cls E ρ H (bnd (asB x) k S) Z) : ∃ b, v = .bl b ∧ Fin K cls E ρ H (k b S) Z := by
  cases x with
  | bl b => exact ⟨b, r, fi⟩
  | non => exact fi.elim
  | int _ => exact fi.elim
  | str _ => exact fi.elim
  | tup _ => exact fi.elim
  | loc _ => exact fi.elim
  | rol _ => exact fi.elim
  | ty _ => exact fi.elim
  | fn _ => exact fi.elim
theorem je_and (ha : JE X cls E a f) (hb : JE X cls E (.BoolOp .And (b :: rest) pos) g) : JE X cls E (.BoolOp .And (a :: b :: rest) pos) (eAnd f g) := PE.wk (pe_and ha hb) fun pins s σ H Q I hh => by
  obtain ⟨ρ, S, δ, er, m, fi⟩ := hh
  refine ⟨ρ, S, δ, er, m, Fin.imp (Fin.bnd fi) fun x ρ1 S1 H1 x1 m1 k1 v1 r1 => ?_⟩
  obtain ⟨b, rfl, k2⟩ := asB_fin r1 k1
  refine ⟨b, rfl, ?_⟩
  cases b with
  | true => rw [if_pos rfl] at k2 ⊢; exact ⟨ρ1, S1, δ, er.ext x1, m1, k2⟩
  | false => rw [if_neg Bool.false_ne_true] at k2 ⊢; exact k2 ρ1 H1 .refl m1 _ rfl
theorem je_or (ha : JE X cls E a f) (hb : JE X cls E (.BoolOp .Or (b :: rest) pos) g) : JE X cls E (.BoolOp .Or (a :: b :: rest) pos) (eOr f g) := PE.wk (pe_or ha hb) fun pins s σ H Q I hh => by
  obtain ⟨ρ, S, δ, er, m, fi⟩ := hh
  refine ⟨ρ, S, δ, er, m, Fin.imp (Fin.bnd fi) fun x ρ1 S1 H1 x1 m1 k1 v1 r1 => ?_⟩
  obtain ⟨b, rfl, k2⟩ := asB_fin r1 k1
  refine ⟨b, rfl, ?_⟩
  cases b with
  | false => rw [if_neg Bool.false_ne_true] at k2 ⊢; exact ⟨ρ1, S1, δ, er.ext x1, m1, k2⟩
  | true => rw [if_pos rfl] at k2 ⊢; exact k2 ρ1 H1 .refl m1 _ rfl
theorem je_not (ha : JE X cls E a f) : JE X cls E (.UnaryOp .Not a pos) (eNot f) := PE.wk (pe_not ha) fun pins s σ H Q I hh => by
  obtain ⟨ρ, S, δ, er, m, fi⟩ := hh
  refine ⟨ρ, S, δ, er, m, Fin.imp (Fin.bnd fi) fun x ρ1 S1 H1 x1 m1 k1 v1 r1 => ?_⟩
  obtain ⟨b, rfl, k2⟩ := asB_fin r1 k1
  exact ⟨b, rfl, k2 ρ1 H1 .refl m1 _ rfl⟩
def eIf (p : ST) (f g : SE) : SE := fun δ => bnd (p δ) fun k => if k = true then f δ else g δ
/-! ### arguments, displays -/
def aNil : SA := fun _ => ret []
def aCons (f : SE) (t : SA) : SA := fun δ => bnd (f δ) fun x => bnd (t δ) fun xs => ret (x :: xs)
variable {es : List Expr} {t : SA}
theorem ja_nil : JA X cls E [] aNil := PA.wk pa_nil fun pins s σ H Q I hh => by
  obtain ⟨ρ, S, δ, er, m, fi⟩ := hh
  exact fi ρ H .refl m [] rfl
theorem ja_cons (ha : JE X cls E e f) (hr : JA X cls E es t) (hs : starEach (e :: es) X.env = (false, eval e X.env) :: starEach es X.env := by rfl) : JA X cls E (e :: es) (aCons f t) := PA.wk (pa_cons ha hr hs) fun pins s σ H Q I hh => by
  obtain ⟨ρ, S, δ, er, m, fi⟩ := hh
  refine ⟨ρ, S, δ, er, m, Fin.imp (Fin.bnd fi) fun x ρ1 S1 H1 x1 m1 k1 v1 r1 => ?_⟩
  refine ⟨ρ1, S1, δ, er.ext x1, m1, Fin.imp (Fin.bnd k1) fun y ρ2 S2 H2 x2 m2 k2 v2 r2 => ?_⟩
  exact k2 ρ2 H2 .refl m2 (v1 :: v2) ⟨v1, v2, rfl, Rep.ext x2 _ _ r1, r2⟩
def eTup (t : SA) : SE := fun δ => bnd (t δ) fun xs => if xs.length ≤ sizeLine then ret (.tup xs) else stuck
def eLst (t : SA) : SE := fun δ => bnd (t δ) fun xs S => if xs.length ≤ sizeLine then .ok (.loc S.length) (S ++ [.lst xs]) else .stuck
/-- a new tuple -/
theorem new_tup {K : PySem.W.Frag} {ρ : List Addr} {H : Hp} {S : Store} {ds : List D} {xs : List V} {Q : VK} {d' : D} (m : Match K cls ρ S H) (r : Reps K ρ H ds xs) (k : Fin K cls E ρ H (.ok (.tup ds) S) fun d ρ' _ H' => ∀ u, Rep K ρ' H' d u → Q u H') :
    ∀ p, H p = none → Q (.ref p) (upd H p (.tup xs)) := fun p hp => k ρ _ (ext_new hp) (m.new hp) (.ref p) ⟨p, xs, rfl, upd_same, r.ext (ext_new hp)⟩
theorem new_lst {K : PySem.W.Frag} {ρ : List Addr} {H : Hp} {S : Store} {ds : List D} {xs : List V} {Q : VK} (m : Match K cls ρ S H) (r : Reps K ρ H ds xs) (k : Fin K cls E ρ H (.ok (.loc S.length) (S ++ [.lst ds])) fun d ρ' _ H' => ∀ u, Rep K ρ' H' d u → Q u H') :
    ∀ p, H p = none → Q (.ref p) (upd H p (.lst xs)) := fun p hp => k (ρ ++ [p]) _ (ext_push hp) (m.push hp ⟨xs, upd_same, r.ext (ext_push hp)⟩) (.ref p) ⟨p, rfl, by rw [← m.len]; simp⟩
theorem je_tup {x1} (h : JA X cls E es t) : JE X cls E (.Tuple es x1 pos) (eTup t) := PE.wk (pe_tup h) fun pins s σ H Q I hh => by
  obtain ⟨ρ, S, δ, er, m, fi⟩ := hh
  refine ⟨ρ, S, δ, er, m, Fin.imp (Fin.bnd fi) fun x ρ1 S1 H1 x1 m1 k1 v1 r1 => ?_⟩
  split at k1
  · rename_i hl
    exact ⟨by rw [r1.length]; exact hl, new_tup (d' := .non) m1 r1 k1⟩
  · exact k1.elim
theorem je_lst (h : JA X cls E es t) : JE X cls E (.List es pos) (eLst t) := PE.wk (pe_lst h) fun pins s σ H Q I hh => by
  obtain ⟨ρ, S, δ, er, m, fi⟩ := hh
  refine ⟨ρ, S, δ, er, m, Fin.imp (Fin.bnd fi) fun x ρ1 S1 H1 x1 m1 k1 v1 r1 => ?_⟩
  split at k1
  · rename_i hl
    exact ⟨by rw [r1.length]; exact hl, new_lst m1 r1 k1⟩
  · exact k1.elim
/-! ### calls of built-ins, methods of built-in types -/
abbrev OpN := List D → M D
def rCJ (K : PySem.W.Frag) (cls : Nat → Addr) (E : XK) (op : OpN) : List V → Hp → VK → Prop := fun vs H Q => ∃ ρ S ds, Match K cls ρ S H ∧ Reps K ρ H ds vs ∧ Fin K cls E ρ H (op ds S) fun d ρ' _ H' => ∀ u, Rep K ρ' H' d u → Q u H'
def eCall (op : OpN) (t : SA) : SE := fun δ => bnd (t δ) op
theorem tj_call {K : PySem.W.Frag} {op : OpN} {σ : L2.St} {H : Hp} {Q : VK} (hh : TJ K cls E (eCall op t) σ H Q) : TJA K cls E t σ H fun vs H1 => rCJ K cls E op vs H1 Q := by
  obtain ⟨ρ, S, δ, er, m, fi⟩ := hh
  refine ⟨ρ, S, δ, er, m, Fin.imp (Fin.bnd fi) fun x ρ1 S1 H1 x1 m1 k1 v1 r1 => ?_⟩
  exact ⟨ρ1, S1, x, m1, r1, k1⟩
theorem CallR.wk {F : Value} {r r' : List V → Hp → VK → Prop} (ho : CallR X F r) (w : ∀ pins s σ H xs Q, Inv X pins σ H s → r' xs H Q → r xs H Q) : CallR X F r' := fun pins s σ H xs us Q I rv hr => ho pins s σ H xs us Q I rv (w pins s σ H xs Q I hr)
theorem je_call {op : OpN} (hp : PE X e (tCB (rCJ X.K cls E op) (TJA X.K cls E t))) : JE X cls E e (eCall op t) := PE.wk hp fun _ _ _ _ _ _ => tj_call
end
end DL
set_option Elab.async false
set_option linter.all false
set_option maxRecDepth 100000
/-! DL3: operations -/
namespace DL
open PySem PySem.Spec PyProof.Rows L2
open Classical
noncomputable section
/-! ### values as plain data -/
mutual
def toPyW (g : Nat → Option PyData) : D → Option PyData
  | .non => some .none
  | .bl b => some (.bool b)
  | .int i => some (.int i)
  | .str x => some (.str x)
  | .ty _ => none
  | .fn _ => none
  | .tup ds => (toPysW g ds).map .tuple
  | .loc n => g n
  | .rol ds => (toPysW g ds).map .list
def toPysW (g : Nat → Option PyData) : List D → Option (List PyData)
  | [] => some []
  | d :: ds => match toPyW g d, toPysW g ds with
    | some p, some ps => some (p :: ps)
    | _, _ => none
end
def locPy (S : Store) : Nat → Nat → Option PyData
  | 0, _ => none
  | k + 1, n => match S[n]? with
    | some (.lst ds) => (toPysW (locPy S k) ds).map .list
    | _ => none
/-- what a value is as plain data (lists within lists three deep) -/
def toPy (S : Store) (d : D) : Option PyData := toPyW (locPy S 3) d
section
variable {K : PySem.W.Frag} {cls : Nat → Addr} {ρ : List Addr} {H : Hp} {S : Store}
mutual
theorem dpW {g : Nat → Option PyData} (hg : ∀ n p a, g n = some p → ρ[n]? = some a → Dp K H (.ref a) p) : ∀ (d : D) (v : V) (p : PyData), toPyW g d = some p → Rep K ρ H d v → Dp K H v p
  | .non, v, p, e, r => by cases e; cases r; exact .non
  | .bl b, v, p, e, r => by cases e; cases r; exact .bl b
  | .int b, v, p, e, r => by cases e; cases r; exact .int b
  | .str b, v, p, e, r => by cases e; cases r; exact .str b
  | .ty b, v, p, e, r => by cases e
  | .fn b, v, p, e, r => by cases e
  | .tup ds, v, p, e, ⟨a, xs, e0, e1, rr⟩ => by
    subst e0
    cases h : toPysW g ds with
    | none => simp [toPyW, h] at e
    | some ps =>
      simp [toPyW, h] at e
      subst e
      exact .tup (SqT.of e1) (dpsW hg ds xs ps h rr)
  | .loc n, v, p, e, ⟨a, e0, e1⟩ => by subst e0; exact hg n p a e e1
  | .rol ds, v, p, e, ⟨a, xs, e0, e1, rr⟩ => by
    subst e0
    cases h : toPysW g ds with
    | none => simp [toPyW, h] at e
    | some ps =>
      simp [toPyW, h] at e
      subst e
      exact .lst e1.seq (dpsW hg ds xs ps h rr)
theorem dpsW {g : Nat → Option PyData} (hg : ∀ n p a, g n = some p → ρ[n]? = some a → Dp K H (.ref a) p) : ∀ (ds : List D) (vs : List V) (ps : List PyData), toPysW g ds = some ps → Reps K ρ H ds vs → DpAll K H vs ps
  | [], vs, ps, e, r => by cases e; rw [show vs = [] from r]; exact .nil
  | d :: ds, vs, ps, e, ⟨y, ys, e0, r, t⟩ => by
    subst e0
    cases h1 : toPyW g d with
    | none => simp [toPysW, h1] at e
    | some p =>
      cases h2 : toPysW g ds with
      | none => simp [toPysW, h1, h2] at e
      | some ps' =>
        simp [toPysW, h1, h2] at e
        subst e
        exact .cons (dpW hg d y p h1 r) (dpsW hg ds ys ps' h2 t)
end
theorem dpL (m : Match K cls ρ S H) : ∀ (k n : Nat) (p : PyData) (a : Addr), locPy S k n = some p → ρ[n]? = some a → Dp K H (.ref a) p
  | 0, n, p, a, e, _ => by cases e
  | k + 1, n, p, a, e, h => by
    obtain ⟨o, ho, r⟩ := m.there h
    unfold locPy at e
    rw [ho] at e
    cases o with
    | lst ds =>
      obtain ⟨xs, e1, rr⟩ := r
      cases h2 : toPysW (locPy S k) ds with
      | none => simp [h2] at e
      | some ps =>
        simp [h2] at e
        subst e
        exact .lst (SqL.of e1) (dpsW (dpL m k) ds xs ps h2 rr)
    | dik _ => cases e
    | dit _ => cases e
    | ins _ _ => cases e
    | lkd _ => cases e
    | lkt _ => cases e
    | dix _ _ => cases e
theorem dp_of (m : Match K cls ρ S H) {d : D} {v : V} {p : PyData} (e : toPy S d = some p) (r : Rep K ρ H d v) : Dp K H v p := dpW (dpL m 3) d v p e r
end
/-! ### operators of two parts -/
section
variable {X : Cx} {cls : Nat → Addr} {E : XK}
def dEqG (neg : Bool) : Op2 := fun x y S => match toPy S x, toPy S y with
  | some p, some q => if SeqAt.shaped p = true ∧ SeqAt.shaped q = true then .ok (.bl (if neg then !PyData.eqv p q else PyData.eqv p q)) S else .stuck
  | _, _ => .stuck
abbrev dEq : Op2 := dEqG false
abbrev dNe : Op2 := dEqG true
theorem dEqG_fin {K : PySem.W.Frag} {neg : Bool} {ρ : List Addr} {H : Hp} {S : Store} {x y : D} {v w : V} {Q : VK} (m : Match K cls ρ S H) (r1 : Rep K ρ H x v) (r2 : Rep K ρ H y w)
    (k : Fin K cls E ρ H (dEqG neg x y S) fun d ρ' _ H' => ∀ u, Rep K ρ' H' d u → Q u H') : ∃ p q, Dp K H v p ∧ Dp K H w q ∧ SeqAt.shaped p = true ∧ SeqAt.shaped q = true ∧ Q (.bl (if neg then !PyData.eqv p q else PyData.eqv p q)) H := by
  unfold dEqG at k
  cases h1 : toPy S x with
  | none => simp [h1, Fin] at k
  | some p =>
    cases h2 : toPy S y with
    | none => simp [h1, h2, Fin] at k
    | some q =>
      simp only [h1, h2] at k
      by_cases hs : SeqAt.shaped p = true ∧ SeqAt.shaped q = true
      · rw [if_pos hs] at k
        exact ⟨p, q, dp_of m h1 r1, dp_of m h2 r2, hs.1, hs.2, k ρ H .refl m _ rfl⟩
      · rw [if_neg hs] at k
        exact k.elim
theorem oj_eq (hu : X.A.units + 64 < cLine) : OpR X (compareOp .Eq) (rJ X.K cls E dEq) := OpR.wk (op_eqD hu) fun pins s σ H v w Q I hh => by
  obtain ⟨ρ, S, x, y, m, r1, r2, k⟩ := hh
  exact dEqG_fin m r1 r2 k
theorem oj_ne (hu : X.A.units + 64 < cLine) : OpR X (compareOp .NotEq) (rJ X.K cls E dNe) := OpR.wk (op_neD hu) fun pins s σ H v w Q I hh => by
  obtain ⟨ρ, S, x, y, m, r1, r2, k⟩ := hh
  exact dEqG_fin m r1 r2 k
/-- x in a list or a tuple -/
def dInG (neg : Bool) : Op2 := fun x y S => match toPy S x, toPy S y with
  | some p, some (.list qs) => if SeqAt.shaped p = true ∧ SeqAt.shaped (.list qs) = true then .ok (.bl (if neg then !(qs.any fun z => PyData.eqv z p) else qs.any fun z => PyData.eqv z p)) S else .stuck
  | some p, some (.tuple qs) => if SeqAt.shaped p = true ∧ SeqAt.shaped (.tuple qs) = true then .ok (.bl (if neg then !(qs.any fun z => PyData.eqv z p) else qs.any fun z => PyData.eqv z p)) S else .stuck
  | _, _ => .stuck
abbrev dIn : Op2 := dInG false
abbrev dNotIn : Op2 := dInG true
theorem oj_inG {neg : Bool} {o : CmpOp} (ho : o = if neg then .NotIn else .In) (hu : X.A.units + 65 < cLine) : OpR X (compareOp o) (rJ X.K cls E (dInG neg)) := by
  intro pins s σ H v w v' w' Q I rx ry hh
  obtain ⟨ρ, S, x, y, m, r1, r2, k⟩ := hh
  unfold dInG at k
  cases h1 : toPy S x with
  | none => simp [h1, Fin] at k
  | some p =>
    cases h2 : toPy S y with
    | none => simp [h1, h2, Fin] at k
    | some q =>
      obtain ⟨as, q1⟩ := Dp.reads I p v v' (dp_of m h1 r1) rx
      obtain ⟨bs, q2⟩ := Dp.reads I q w w' (dp_of m h2 r2) ry
      cases q with
      | list qs =>
        simp only [h1, h2] at k
        by_cases hs : SeqAt.shaped p = true ∧ SeqAt.shaped (.list qs) = true
        · rw [if_pos hs] at k
          have kk := k ρ H .refl m _ rfl
          cases neg with
          | false => subst ho; exact SeqAt.in_list_reads q2 q1 (SeqAt.canLay_of_shaped hs.2) (SeqAt.canLay_of_shaped hs.1) (room_in_shaped hs.1 hu) ⟨.bl _, H, I, rfl, kk⟩
          | true => subst ho; exact SeqAt.notIn_list_reads q2 q1 (SeqAt.canLay_of_shaped hs.2) (SeqAt.canLay_of_shaped hs.1) (room_in_shaped hs.1 hu) ⟨.bl _, H, I, rfl, kk⟩
        · rw [if_neg hs] at k
          exact k.elim
      | tuple qs =>
        simp only [h1, h2] at k
        by_cases hs : SeqAt.shaped p = true ∧ SeqAt.shaped (.tuple qs) = true
        · rw [if_pos hs] at k
          have kk := k ρ H .refl m _ rfl
          cases neg with
          | false => subst ho; exact SeqAt.in_tuple_reads q2 q1 (SeqAt.canLay_of_shaped hs.2) (SeqAt.canLay_of_shaped hs.1) (room_in_shaped hs.1 hu) ⟨.bl _, H, I, rfl, kk⟩
          | true => subst ho; exact SeqAt.notIn_tuple_reads q2 q1 (SeqAt.canLay_of_shaped hs.2) (SeqAt.canLay_of_shaped hs.1) (room_in_shaped hs.1 hu) ⟨.bl _, H, I, rfl, kk⟩
        · rw [if_neg hs] at k
          exact k.elim
      | none => simp [h1, h2, Fin] at k
      | bool _ => simp [h1, h2, Fin] at k
      | int _ => simp [h1, h2, Fin] at k
      | str _ => simp [h1, h2, Fin] at k
      | dict _ => simp [h1, h2, Fin] at k
/-! ints -/
def iOp (c : Int → Int → Prop) (g : Int → Int → D) : Op2 := fun x y => match x, y with
  | .int i, .int j => fun S => if c i j then .ok (g i j) S else .stuck
  | _, _ => stuck
theorem iOp_fin {K : PySem.W.Frag} {c : Int → Int → Prop} {g : Int → Int → D} {ρ : List Addr} {H : Hp} {S : Store} {x y : D} {v w : V} {Q : VK} (m : Match K cls ρ S H) (r1 : Rep K ρ H x v) (r2 : Rep K ρ H y w)
    (k : Fin K cls E ρ H (iOp c g x y S) fun d ρ' _ H' => ∀ u, Rep K ρ' H' d u → Q u H') : ∃ i j, v = .int i ∧ w = .int j ∧ c i j ∧ ∀ u, (∀ ρ H, Rep K ρ H (g i j) u) → Q u H := by
  cases x <;> cases y <;> try (exact False.elim k)
  rename_i i j
  unfold iOp at k
  by_cases hs : c i j
  · dsimp only at k
    rw [if_pos hs] at k
    exact ⟨i, j, r1, r2, hs, fun u hu => k ρ H .refl m u (hu _ _)⟩
  · dsimp only at k
    rw [if_neg hs] at k
    exact k.elim
theorem oj_int {F : Value → Value → Sem Value} {c : Int → Int → Prop} {g : Int → Int → D} {gV : Int → Int → V} (ho : OpR X F (rI c gV)) (hg : ∀ i j ρ H, Rep X.K ρ H (g i j) (gV i j)) : OpR X F (rJ X.K cls E (iOp c g)) := OpR.wk ho fun pins s σ H v w Q I hh => by
  obtain ⟨ρ, S, x, y, m, r1, r2, k⟩ := hh
  obtain ⟨i, j, h1, h2, h3, h4⟩ := iOp_fin m r1 r2 k
  exact ⟨i, j, h1, h2, h3, h4 _ (hg i j)⟩
theorem oj_int0 {F : Value → Value → Sem Value} {g : Int → Int → D} {gV : Int → Int → V} (ho : OpR X F (rI0 gV)) (hg : ∀ i j ρ H, Rep X.K ρ H (g i j) (gV i j)) : OpR X F (rJ X.K cls E (iOp (fun _ _ => True) g)) := OpR.wk ho fun pins s σ H v w Q I hh => by
  obtain ⟨ρ, S, x, y, m, r1, r2, k⟩ := hh
  obtain ⟨i, j, h1, h2, h3, h4⟩ := iOp_fin m r1 r2 k
  exact ⟨i, j, h1, h2, h4 _ (hg i j)⟩
def dSub : Op2 := iOp (fun _ _ => True) fun i j => .int (i - j)
def dFdiv : Op2 := iOp CDiv fun i j => .int (i / j)
def dMod : Op2 := iOp (fun _ j => 0 < j) fun i j => .int (i % j)
def dPow : Op2 := iOp CPow fun i j => .int (i ^ j.toNat)
def dLt : Op2 := iOp (fun _ _ => True) fun i j => .bl (decide (i < j))
def dLe : Op2 := iOp (fun _ _ => True) fun i j => .bl (decide (i ≤ j))
def dGt : Op2 := iOp (fun _ _ => True) fun i j => .bl (decide (j < i))
def dGe : Op2 := iOp (fun _ _ => True) fun i j => .bl (decide (j ≤ i))
theorem oj_sub : OpR X (binaryOp .Sub) (rJ X.K cls E dSub) := oj_int0 op_sub fun _ _ _ _ => rfl
theorem oj_fdiv : OpR X (binaryOp .FloorDiv) (rJ X.K cls E dFdiv) := oj_int op_fdiv fun _ _ _ _ => rfl
theorem oj_mod : OpR X (binaryOp .Mod) (rJ X.K cls E dMod) := oj_int op_mod fun _ _ _ _ => rfl
theorem oj_pow : OpR X (binaryOp .Pow) (rJ X.K cls E dPow) := oj_int op_pow fun _ _ _ _ => rfl
theorem oj_lt : OpR X (compareOp .Lt) (rJ X.K cls E dLt) := oj_int0 op_lt fun _ _ _ _ => rfl
theorem oj_le : OpR X (compareOp .LtE) (rJ X.K cls E dLe) := oj_int0 op_le fun _ _ _ _ => rfl
theorem oj_gt : OpR X (compareOp .Gt) (rJ X.K cls E dGt) := oj_int0 op_gt fun _ _ _ _ => rfl
theorem oj_ge : OpR X (compareOp .GtE) (rJ X.K cls E dGe) := oj_int0 op_ge fun _ _ _ _ => rfl
/-- + of ints, tuples, lists -/
def dAdd : Op2 := fun x y => match x, y with
  | .int i, .int j => ret (.int (i + j))
  | .tup xs, .tup ys => fun S => if xs.length + ys.length ≤ sizeLine then .ok (.tup (xs ++ ys)) S else .stuck
  | .loc m, .loc n => fun S => match S[m]?, S[n]? with
    | some (.lst xs), some (.lst ys) => if xs.length + ys.length ≤ sizeLine then .ok (.loc S.length) (S ++ [.lst (xs ++ ys)]) else .stuck
    | _, _ => .stuck
  | _, _ => stuck
theorem oj_add : OpR X (binaryOp .Add) (rJ X.K cls E dAdd) := OpR.wk ((op_add.or op_catA).or op_cat) fun pins s σ H v w Q I hh => by
  obtain ⟨ρ, S, x, y, m, r1, r2, k⟩ := hh
  cases x <;> cases y <;> try (exact False.elim k)
  · rename_i i j
    exact .inl (.inl ⟨i, j, r1, r2, k ρ H .refl m _ rfl⟩)
  · rename_i ds es
    obtain ⟨a, xs, rfl, ea, ra⟩ := r1
    obtain ⟨b, ys, rfl, eb, rb⟩ := r2
    dsimp only [dAdd] at k
    by_cases hs : ds.length + es.length ≤ sizeLine
    · rw [if_pos hs] at k
      refine .inl (.inr ⟨a, b, xs, ys, rfl, rfl, SqT.of ea, SqT.of eb, by rw [ra.length, rb.length]; exact hs, fun e => ?_, fun _ e => ?_, fun _ _ => new_tup (d' := .non) m (ra.append rb) k⟩)
      · subst e
        have : ds = [] := by have := ra.length; cases ds <;> simp_all
        subst this
        exact k ρ H .refl m _ ⟨b, ys, rfl, eb, rb⟩
      · subst e
        have : es = [] := by have := rb.length; cases es <;> simp_all
        subst this
        rw [List.append_nil] at k
        exact k ρ H .refl m _ ⟨a, xs, rfl, ea, ra⟩
    · rw [if_neg hs] at k
      exact k.elim
  · rename_i n1 n2
    obtain ⟨a, rfl, ea⟩ := r1
    obtain ⟨b, rfl, eb⟩ := r2
    obtain ⟨o1, h1, q1⟩ := m.there ea
    obtain ⟨o2, h2, q2⟩ := m.there eb
    dsimp only [dAdd] at k
    rw [h1, h2] at k
    cases o1 <;> cases o2 <;> try (exact False.elim k)
    rename_i ds es
    obtain ⟨xs, e1, ra⟩ := q1
    obtain ⟨ys, e2, rb⟩ := q2
    dsimp only at k
    by_cases hs : ds.length + es.length ≤ sizeLine
    · rw [if_pos hs] at k
      exact .inr ⟨a, b, xs, ys, rfl, rfl, e1, e2, by rw [ra.length, rb.length]; exact hs, new_lst m (ra.append rb) k⟩
    · rw [if_neg hs] at k
      exact k.elim
theorem Reps.flat : ∀ {K : PySem.W.Frag} {ρ : List Addr} {H : Hp} {ds : List D} {xs : List V} (k : Nat), Reps K ρ H ds xs → Reps K ρ H (List.replicate k ds).flatten (List.replicate k xs).flatten
  | _, _, _, _, _, 0, _ => rfl
  | _, _, _, _, _, k + 1, h => by rw [List.replicate_succ, List.replicate_succ, List.flatten_cons, List.flatten_cons]; exact h.append (Reps.flat k h)
/-- * of ints; of a list and an int -/
def dMul : Op2 := fun x y => match x, y with
  | .int i, .int j => fun S => if CMul i j then .ok (.int (i * j)) S else .stuck
  | .loc m, .int k => fun S => match S[m]? with
    | some (.lst xs) => if -(2 ^ 63) ≤ k ∧ k < 2 ^ 63 ∧ xs.length * k.toNat ≤ sizeLine then .ok (.loc S.length) (S ++ [.lst (List.replicate k.toNat xs).flatten]) else .stuck
    | _ => .stuck
  | _, _ => stuck
theorem oj_mul : OpR X (binaryOp .Mult) (rJ X.K cls E dMul) := OpR.wk (op_mul.or op_rep) fun pins s σ H v w Q I hh => by
  obtain ⟨ρ, S, x, y, m, r1, r2, k⟩ := hh
  cases x <;> cases y <;> try (exact False.elim k)
  · rename_i i j
    dsimp only [dMul] at k
    by_cases hs : CMul i j
    · rw [if_pos hs] at k
      exact .inl ⟨i, j, r1, r2, hs, k ρ H .refl m _ rfl⟩
    · rw [if_neg hs] at k
      exact k.elim
  · rename_i n1 j
    obtain ⟨a, rfl, ea⟩ := r1
    obtain ⟨o1, h1, q1⟩ := m.there ea
    dsimp only [dMul] at k
    rw [h1] at k
    cases o1 <;> try (exact False.elim k)
    rename_i ds
    obtain ⟨xs, e1, ra⟩ := q1
    dsimp only at k
    by_cases hs : -(2 ^ 63) ≤ j ∧ j < 2 ^ 63 ∧ ds.length * j.toNat ≤ sizeLine
    · rw [if_pos hs] at k
      exact .inr ⟨a, j, xs, rfl, r2, e1, hs.1, hs.2.1, by rw [ra.length]; exact hs.2.2, new_lst m (ra.flat _) k⟩
    · rw [if_neg hs] at k
      exact k.elim
/-! is None -/
def dIsN (neg : Bool) : Op2 := fun x y => match y with
  | .non => match x with
    | .non => ret (.bl (!neg))
    | _ => ret (.bl neg)
  | _ => stuck
theorem oj_isN : OpR X (compareOp .Is) (rJ X.K cls E (dIsN false)) := OpR.wk op_isN fun pins s σ H v w Q I hh => by
  obtain ⟨ρ, S, x, y, m, r1, r2, k⟩ := hh
  cases y <;> try (exact False.elim k)
  refine ⟨r2, ?_⟩
  cases x
  case non => cases r1; exact k ρ H .refl m _ rfl
  all_goals (have kk := k ρ H .refl m (.bl false) rfl; rw [decide_eq_false]; exact kk; rintro rfl; first | exact nomatch r1 | (obtain ⟨_, _, e, _⟩ := r1; exact nomatch e) | (obtain ⟨_, e, _⟩ := r1; exact nomatch e))
theorem oj_notN : OpR X (compareOp .IsNot) (rJ X.K cls E (dIsN true)) := OpR.wk op_notN fun pins s σ H v w Q I hh => by
  obtain ⟨ρ, S, x, y, m, r1, r2, k⟩ := hh
  cases y <;> try (exact False.elim k)
  refine ⟨r2, ?_⟩
  cases x
  case non => cases r1; exact k ρ H .refl m _ rfl
  all_goals (have kk := k ρ H .refl m (.bl true) rfl; rw [decide_eq_false]; exact kk; rintro rfl; first | exact nomatch r1 | (obtain ⟨_, _, e, _⟩ := r1; exact nomatch e) | (obtain ⟨_, e, _⟩ := r1; exact nomatch e))
/-! -x -/
def eNeg (f : SE) : SE := fun δ => bnd (f δ) fun x => match x with
  | .int i => ret (.int (-i))
  | _ => stuck
theorem je_neg {a : Expr} {f : SE} {pos : Pos} (ha : JE X cls E a f) : JE X cls E (.UnaryOp .USub a pos) (eNeg f) := PE.wk (pe_un un_neg ha) fun pins s σ H Q I hh => by
  obtain ⟨ρ, S, δ, er, m, fi⟩ := hh
  refine ⟨ρ, S, δ, er, m, Fin.imp (Fin.bnd fi) fun x ρ1 S1 H1 x1 m1 k1 v1 r1 => ?_⟩
  cases x <;> try (exact False.elim k1)
  exact ⟨_, r1, k1 ρ1 H1 .refl m1 _ rfl⟩
/-! ### subscripts -/
def dIx : Op2 := fun x y => match x, y with
  | .tup ds, .int i => fun S => match atI ds i with
    | some d => .ok d S
    | none => .stuck
  | .rol ds, .int i => fun S => match atI ds i with
    | some d => .ok d S
    | none => .stuck
  | .loc n, .int i => fun S => match S[n]? with
    | some (.lst ds) => match atI ds i with
      | some d => .ok d S
      | none => .stuck
    | _ => .stuck
  | _, _ => stuck
theorem reps_at {K : PySem.W.Frag} {ρ : List Addr} {H : Hp} {ds : List D} {xs : List V} (r : Reps K ρ H ds xs) {i : Int} {d : D} (h : atI ds i = some d) : ∃ v, atI xs i = some v ∧ Rep K ρ H d v := by
  unfold atI at h ⊢
  rw [r.length]
  cases hj : ixN ds.length i with
  | none => rw [hj] at h; cases h
  | some j =>
    rw [hj] at h
    exact r.get h
theorem IxR.wk {r r' : R2} (ho : IxR X r) (w : ∀ pins s σ H x y Q, Inv X pins σ H s → r' x y H Q → r x y H Q) : IxR X r' := fun value slice pins s σ H x y v u Q I rx ry hr hs => ho value slice pins s σ H x y v u Q I rx ry (w pins s σ H x y Q I hr) hs
theorem xj_ix : IxR X (rJ X.K cls E dIx) := IxR.wk (ix_list.or ix_tup) fun pins s σ H v w Q I hh => by
  obtain ⟨ρ, S, x, y, m, r1, r2, k⟩ := hh
  cases x <;> cases y <;> try (exact False.elim k)
  · rename_i ds i
    obtain ⟨a, xs, rfl, ea, ra⟩ := r1
    dsimp only [dIx] at k
    cases h : atI ds i with
    | none => rw [h] at k; exact k.elim
    | some d =>
      rw [h] at k
      obtain ⟨v, h1, h2⟩ := reps_at ra h
      exact .inr ⟨a, xs, i, v, rfl, r2, SqT.of ea, h1, k ρ H .refl m _ h2⟩
  · rename_i n i
    obtain ⟨a, rfl, ea⟩ := r1
    obtain ⟨o1, h1, q1⟩ := m.there ea
    dsimp only [dIx] at k
    rw [h1] at k
    cases o1 <;> try (exact False.elim k)
    rename_i ds
    obtain ⟨xs, e1, ra⟩ := q1
    dsimp only at k
    cases h : atI ds i with
    | none => rw [h] at k; exact k.elim
    | some d =>
      rw [h] at k
      obtain ⟨v, h1, h2⟩ := reps_at ra h
      exact .inl ⟨a, xs, i, v, rfl, r2, SqL.of e1, h1, k ρ H .refl m _ h2⟩
  · rename_i ds i
    obtain ⟨a, xs, rfl, ea, ra⟩ := r1
    dsimp only [dIx] at k
    cases h : atI ds i with
    | none => rw [h] at k; exact k.elim
    | some d =>
      rw [h] at k
      obtain ⟨v, h1, h2⟩ := reps_at ra h
      exact .inl ⟨a, xs, i, v, rfl, r2, ea.seq, h1, k ρ H .refl m _ h2⟩
theorem je_ix {a b : Expr} {f g : SE} {pos : Pos} (ha : JE X cls E a f) (hb : JE X cls E b g) (hs : PlainIx b := by intro _ _; rfl) : JE X cls E (.Subscript a b pos) (eBin dIx f g) := PE.wk (pe_ix (xj_ix (cls := cls) (E := E)) ha hb hs) fun _ _ _ _ _ _ => tj_bin
end
end
end DL
set_option Elab.async false
set_option linter.all false
set_option maxRecDepth 100000
/-! DL4: calls of built-ins, methods -/
namespace DL
open PySem PySem.Spec PyProof.Rows L2
open Classical
noncomputable section
section
variable {X : Cx} {cls : Nat → Addr} {E : XK}
def op1 (f : D → M D) : OpN := fun ds => match ds with
  | [x] => f x
  | _ => stuck
def op2 (f : D → D → M D) : OpN := fun ds => match ds with
  | [x, y] => f x y
  | _ => stuck
theorem rc1 {K : PySem.W.Frag} {f : D → M D} {vs : List V} {H : Hp} {Q : VK} (hh : rCJ K cls E (op1 f) vs H Q) : ∃ ρ S x v, vs = [v] ∧ Match K cls ρ S H ∧ Rep K ρ H x v ∧ Fin K cls E ρ H (f x S) fun d ρ' _ H' => ∀ u, Rep K ρ' H' d u → Q u H' := by
  obtain ⟨ρ, S, ds, m, r, k⟩ := hh
  match ds, r, k with
  | [], r, k => exact k.elim
  | [x], ⟨v, ys, e, r, t⟩, k => rw [show ys = [] from t] at e; exact ⟨ρ, S, x, v, e, m, r, k⟩
  | _ :: _ :: _, r, k => exact k.elim
theorem rc2 {K : PySem.W.Frag} {f : D → D → M D} {vs : List V} {H : Hp} {Q : VK} (hh : rCJ K cls E (op2 f) vs H Q) : ∃ ρ S x y v w, vs = [v, w] ∧ Match K cls ρ S H ∧ Rep K ρ H x v ∧ Rep K ρ H y w ∧ Fin K cls E ρ H (f x y S) fun d ρ' _ H' => ∀ u, Rep K ρ' H' d u → Q u H' := by
  obtain ⟨ρ, S, ds, m, r, k⟩ := hh
  match ds, r, k with
  | [], r, k => exact k.elim
  | [x], r, k => exact k.elim
  | [x, y], ⟨v, ys, e, r, ⟨w, zs, e2, r2, t⟩⟩, k => rw [show zs = [] from t] at e2; subst e2; exact ⟨ρ, S, x, y, v, w, e, m, r, r2, k⟩
  | _ :: _ :: _ :: _, r, k => exact k.elim
/-! ### len, int, max, min, sum, any, all -/
def dLen : D → M D := fun x S => match x with
  | .tup ds => .ok (.int ds.length) S
  | .rol ds => .ok (.int ds.length) S
  | .loc n => match S[n]? with
    | some (.lst ds) => .ok (.int ds.length) S
    | some (.dik ds) => .ok (.int ds.length) S
    | some (.dit ds) => .ok (.int ds.length) S
    | _ => .stuck
  | _ => .stuck
theorem bj_len : CallR X (.builtin "len") (rCJ X.K cls E (op1 dLen)) := CallR.wk ((call_len.or call_lenD).or call_len_dT) fun pins s σ H vs Q I hh => by
  obtain ⟨ρ, S, x, v, rfl, m, r, k⟩ := rc1 hh
  cases x <;> try (exact False.elim k)
  · obtain ⟨a, xs, rfl, ea, ra⟩ := r
    exact .inl (.inl ⟨_, _, rfl, .inr ⟨xs, SqT.of ea, rfl⟩, by rw [ra.length]; exact k ρ H .refl m _ rfl⟩)
  · rename_i n
    obtain ⟨a, rfl, ea⟩ := r
    obtain ⟨o, h, q⟩ := m.there ea
    dsimp only [dLen] at k
    rw [h] at k
    cases o <;> try (exact False.elim k)
    · obtain ⟨xs, e1, ra⟩ := q
      exact .inl (.inl ⟨_, xs.length, rfl, .inl ⟨xs, SqL.of e1, rfl⟩, by rw [ra.length]; exact k ρ H .refl m _ rfl⟩)
    · obtain ⟨xs, e1, ra⟩ := q
      exact .inl (.inr ⟨a, xs, rfl, e1, by rw [ra.length]; exact k ρ H .refl m _ rfl⟩)
    · obtain ⟨xs, e1, ra⟩ := q
      exact .inr ⟨a, xs, rfl, e1, by rw [ra.length]; exact k ρ H .refl m _ rfl⟩
  · obtain ⟨a, xs, rfl, ea, ra⟩ := r
    exact .inl (.inl ⟨_, _, rfl, .inl ⟨xs, ea.seq, rfl⟩, by rw [ra.length]; exact k ρ H .refl m _ rfl⟩)
def dInt : D → M D := fun x S => match x with
  | .int i => .ok (.int i) S
  | .bl b => .ok (.int (if b then 1 else 0)) S
  | _ => .stuck
theorem bj_int : CallR X (.type "int") (rCJ X.K cls E (op1 dInt)) := CallR.wk call_int1 fun pins s σ H vs Q I hh => by
  obtain ⟨ρ, S, x, v, rfl, m, r, k⟩ := rc1 hh
  cases x <;> try (exact False.elim k)
  · obtain rfl := (show v = _ from r)
    exact .inr ⟨_, rfl, k ρ H .refl m _ rfl⟩
  · obtain rfl := (show v = _ from r)
    exact .inl ⟨_, rfl, k ρ H .refl m _ rfl⟩
def asInts : List D → Option (List Int)
  | [] => some []
  | .int i :: r => (asInts r).map (i :: ·)
  | _ :: _ => none
theorem asInts_map : ∀ ns : List Int, asInts (ns.map .int) = some ns
  | [] => rfl
  | n :: ns => by show (asInts (ns.map .int)).map (n :: ·) = _; rw [asInts_map ns]; rfl
theorem asInts_eq : ∀ {ds : List D} {ns : List Int}, asInts ds = some ns → ds = ns.map .int
  | [], ns, e => by cases e; rfl
  | d :: r, ns, e => by
    cases d <;> try (simp [asInts] at e; done)
    rename_i i
    cases h : asInts r with
    | none => simp [asInts, h] at e
    | some ms =>
      simp [asInts, h] at e
      subst e
      rw [asInts_eq h]
      rfl
def asBls : List D → Option (List Bool)
  | [] => some []
  | .bl i :: r => (asBls r).map (i :: ·)
  | _ :: _ => none
theorem asBls_eq : ∀ {ds : List D} {ns : List Bool}, asBls ds = some ns → ds = ns.map .bl
  | [], ns, e => by cases e; rfl
  | d :: r, ns, e => by
    cases d <;> try (simp [asBls] at e; done)
    rename_i i
    cases h : asBls r with
    | none => simp [asBls, h] at e
    | some ms =>
      simp [asBls, h] at e
      subst e
      rw [asBls_eq h]
      rfl
def maxL : List Int → Int
  | [] => 0
  | [x] => x
  | x :: y :: r => max x (maxL (y :: r))
theorem maxL_ge : ∀ {l : List Int} {y : Int}, y ∈ l → y ≤ maxL l
  | [x], y, h => by have : y = x := by simpa using h
                    subst this; exact Int.le_refl _
  | x :: z :: r, y, h => by
    show y ≤ max x (maxL (z :: r))
    rcases List.mem_cons.mp h with rfl | h
    · omega
    · have := maxL_ge h; omega
theorem maxL_mem : ∀ {l : List Int}, l ≠ [] → maxL l ∈ l
  | [x], _ => by simp [maxL]
  | x :: z :: r, _ => by
    have ih := maxL_mem (l := z :: r) (by simp)
    show max x (maxL (z :: r)) ∈ _
    by_cases h : x ≤ maxL (z :: r)
    · rw [Int.max_eq_right h]; exact List.mem_cons_of_mem _ ih
    · rw [Int.max_eq_left (by omega)]; exact List.mem_cons_self
/-- a list of ints that stands in the store -/
def lstInts (S : Store) : D → Option (List Int)
  | .loc n => match S[n]? with
    | some (.lst ds) => asInts ds
    | _ => none
  | .rol ds => asInts ds
  | _ => none
def lstBls (S : Store) : D → Option (List Bool)
  | .loc n => match S[n]? with
    | some (.lst ds) => asBls ds
    | _ => none
  | .rol ds => asBls ds
  | _ => none
theorem lstInts_at {K : PySem.W.Frag} {ρ : List Addr} {S : Store} {H : Hp} {x : D} {v : V} {ns : List Int} (m : Match K cls ρ S H) (r : Rep K ρ H x v) (e : lstInts S x = some ns) : ∃ a, v = .ref a ∧ SqL K H a (ns.map V.int) := by
  cases x <;> try (simp [lstInts] at e; done)
  · rename_i n
    obtain ⟨a, rfl, ea⟩ := r
    obtain ⟨o, h, q⟩ := m.there ea
    simp only [lstInts, h] at e
    cases o <;> try (simp at e; done)
    obtain ⟨xs, e1, ra⟩ := q
    rw [asInts_eq e] at ra
    rw [ra.ints] at e1
    exact ⟨a, rfl, SqL.of e1⟩
  · obtain ⟨a, xs, rfl, ea, ra⟩ := r
    rw [asInts_eq (show asInts _ = _ from e)] at ra
    rw [ra.ints] at ea
    exact ⟨a, rfl, ea.seq⟩
theorem lstBls_at {K : PySem.W.Frag} {ρ : List Addr} {S : Store} {H : Hp} {x : D} {v : V} {ns : List Bool} (m : Match K cls ρ S H) (r : Rep K ρ H x v) (e : lstBls S x = some ns) : ∃ a, v = .ref a ∧ SqL K H a (ns.map V.bl) := by
  cases x <;> try (simp [lstBls] at e; done)
  · rename_i n
    obtain ⟨a, rfl, ea⟩ := r
    obtain ⟨o, h, q⟩ := m.there ea
    simp only [lstBls, h] at e
    cases o <;> try (simp at e; done)
    obtain ⟨xs, e1, ra⟩ := q
    rw [asBls_eq e] at ra
    rw [ra.bls] at e1
    exact ⟨a, rfl, SqL.of e1⟩
  · obtain ⟨a, xs, rfl, ea, ra⟩ := r
    rw [asBls_eq (show asBls _ = _ from e)] at ra
    rw [ra.bls] at ea
    exact ⟨a, rfl, ea.seq⟩
def withInts (c : List Int → Prop) (g : List Int → D) : D → M D := fun x S => match lstInts S x with
  | some ns => if c ns then .ok (g ns) S else .stuck
  | none => .stuck
theorem withInts_fin {K : PySem.W.Frag} {c : List Int → Prop} {g : List Int → D} {ρ : List Addr} {S : Store} {H : Hp} {x : D} {v : V} {Q : VK} (m : Match K cls ρ S H) (r : Rep K ρ H x v)
    (k : Fin K cls E ρ H (withInts c g x S) fun d ρ' _ H' => ∀ u, Rep K ρ' H' d u → Q u H') : ∃ a ns, v = .ref a ∧ SqL K H a (ns.map V.int) ∧ c ns ∧ ∀ u, Rep K ρ H (g ns) u → Q u H := by
  unfold withInts at k
  cases h : lstInts S x with
  | none => rw [h] at k; exact k.elim
  | some ns =>
    rw [h] at k
    dsimp only at k
    obtain ⟨a, e1, e2⟩ := lstInts_at m r h
    by_cases hc : c ns
    · rw [if_pos hc] at k
      exact ⟨a, ns, e1, e2, hc, fun u hu => k ρ H .refl m u hu⟩
    · rw [if_neg hc] at k
      exact k.elim
def dSum : D → M D := withInts (fun _ => True) fun ns => .int ns.sum
/-- max of a list of ints; of two ints -/
def dMax : OpN := fun ds S => match ds with
  | [x] => withInts (fun ns => ns ≠ []) (fun ns => .int (maxL ns)) x S
  | [x, y] => match x, y with
    | .int i, .int j => .ok (.int (max i j)) S
    | _, _ => .stuck
  | _ => .stuck
theorem two_args {K : PySem.W.Frag} {op : OpN} {vs : List V} {H : Hp} {Q : VK} (hh : rCJ K cls E op vs H Q) (h0 : op [] = stuck) (h3 : ∀ a b c r, op (a :: b :: c :: r) = stuck) :
    ∃ ρ S, Match K cls ρ S H ∧ ((∃ x v, vs = [v] ∧ Rep K ρ H x v ∧ Fin K cls E ρ H (op [x] S) fun d ρ' _ H' => ∀ u, Rep K ρ' H' d u → Q u H') ∨
      (∃ x y v w, vs = [v, w] ∧ Rep K ρ H x v ∧ Rep K ρ H y w ∧ Fin K cls E ρ H (op [x, y] S) fun d ρ' _ H' => ∀ u, Rep K ρ' H' d u → Q u H')) := by
  obtain ⟨ρ, S, ds, m, r, k⟩ := hh
  refine ⟨ρ, S, m, ?_⟩
  match ds, r, k with
  | [], r, k => rw [h0] at k; exact k.elim
  | [x], ⟨v, ys, e, r, t⟩, k => rw [show ys = [] from t] at e; exact .inl ⟨x, v, e, r, k⟩
  | [x, y], ⟨v, ys, e, r, ⟨w, zs, e2, r2, t⟩⟩, k => rw [show zs = [] from t] at e2; subst e2; exact .inr ⟨x, y, v, w, e, r, r2, k⟩
  | _ :: _ :: _ :: _, r, k => rw [h3] at k; exact k.elim
theorem bj_max (hc : X.calm = true) : CallR X (.builtin "max") (rCJ X.K cls E dMax) := CallR.wk ((call_max2 hc).or (cr_max hc)) fun pins s σ H vs Q I hh => by
  obtain ⟨ρ, S, m, h | h⟩ := two_args hh rfl (fun _ _ _ _ => by funext S; simp [dMax, stuck])
  · obtain ⟨x, v, rfl, r, k⟩ := h
    obtain ⟨a, ns, rfl, e, hn, q⟩ := withInts_fin (g := fun ns => .int (maxL ns)) (c := fun ns => ns ≠ []) m r k
    refine .inr ⟨a, ns, rfl, e, List.length_pos_iff.mpr hn, fun z hz hm => ?_⟩
    have : z = maxL ns := Int.le_antisymm (maxL_ge hz) (hm _ (maxL_mem hn))
    subst this
    exact q _ rfl
  · obtain ⟨x, y, v, w, rfl, r1, r2, k⟩ := h
    cases x <;> cases y <;> try (exact False.elim k)
    rename_i i j
    cases r1; cases r2
    refine .inl ⟨i, j, rfl, ?_⟩
    have kk := k ρ H .refl m _ rfl
    have e : (if j > i then j else i) = max i j := by split <;> omega
    rw [e]; exact kk
def withBls (g : List Bool → Bool) : D → M D := fun x S => match lstBls S x with
  | some ns => .ok (.bl (g ns)) S
  | none => .stuck
theorem withBls_fin {K : PySem.W.Frag} {g : List Bool → Bool} {ρ : List Addr} {S : Store} {H : Hp} {x : D} {v : V} {Q : VK} (m : Match K cls ρ S H) (r : Rep K ρ H x v)
    (k : Fin K cls E ρ H (withBls g x S) fun d ρ' _ H' => ∀ u, Rep K ρ' H' d u → Q u H') : ∃ a ns, v = .ref a ∧ SqL K H a (ns.map V.bl) ∧ Q (.bl (g ns)) H := by
  unfold withBls at k
  cases h : lstBls S x with
  | none => rw [h] at k; exact k.elim
  | some ns =>
    rw [h] at k
    obtain ⟨a, e1, e2⟩ := lstBls_at m r h
    exact ⟨a, ns, e1, e2, k ρ H .refl m _ rfl⟩
def dAny : D → M D := withBls fun bs => bs.any id
def dAll : D → M D := withBls fun bs => bs.all id
theorem bj_any (hc : X.calm = true) : CallR X (.builtin "any") (rCJ X.K cls E (op1 dAny)) := CallR.wk (cr_any hc) fun pins s σ H vs Q I hh => by
  obtain ⟨ρ, S, x, v, rfl, m, r, k⟩ := rc1 hh
  obtain ⟨a, ns, rfl, e, q⟩ := withBls_fin m r k
  exact ⟨a, ns, rfl, e, q⟩
theorem bj_all (hc : X.calm = true) : CallR X (.builtin "all") (rCJ X.K cls E (op1 dAll)) := CallR.wk (cr_all hc) fun pins s σ H vs Q I hh => by
  obtain ⟨ρ, S, x, v, rfl, m, r, k⟩ := rc1 hh
  obtain ⟨a, ns, rfl, e, q⟩ := withBls_fin m r k
  exact ⟨a, ns, rfl, e, q⟩
/-! ### tuple, list -/
def dTuple : D → M D := fun x S => match x with
  | .tup ds => .ok (.tup ds) S
  | .rol ds => .ok (.tup ds) S
  | .loc n => match S[n]? with
    | some (.lst ds) => .ok (.tup ds) S
    | _ => .stuck
  | _ => .stuck
theorem bj_tuple : CallR X (.type "tuple") (rCJ X.K cls E (op1 dTuple)) := CallR.wk call_tuple_of fun pins s σ H vs Q I hh => by
  obtain ⟨ρ, S, x, v, rfl, m, r, k⟩ := rc1 hh
  cases x <;> try (exact False.elim k)
  · obtain ⟨a, xs, rfl, ea, ra⟩ := r
    exact ⟨a, xs, rfl, .inr ⟨SqT.of ea, k ρ H .refl m _ ⟨a, xs, rfl, ea, ra⟩⟩⟩
  · rename_i n
    obtain ⟨a, rfl, ea⟩ := r
    obtain ⟨o, h, q⟩ := m.there ea
    dsimp only [dTuple] at k
    rw [h] at k
    cases o <;> try (exact False.elim k)
    obtain ⟨xs, e1, ra⟩ := q
    exact ⟨a, xs, rfl, .inl ⟨SqL.of e1, new_tup (d' := .non) m ra k⟩⟩
  · obtain ⟨a, xs, rfl, ea, ra⟩ := r
    exact ⟨a, xs, rfl, .inl ⟨ea.seq, new_tup (d' := .non) m ra k⟩⟩
def dList : D → M D := fun x S => match x with
  | .tup ds => .ok (.loc S.length) (S ++ [.lst ds])
  | .rol ds => .ok (.loc S.length) (S ++ [.lst ds])
  | .loc n => match S[n]? with
    | some (.lst ds) => .ok (.loc S.length) (S ++ [.lst ds])
    | _ => .stuck
  | _ => .stuck
theorem bj_list : CallR X (.type "list") (rCJ X.K cls E (op1 dList)) := CallR.wk call_list_of fun pins s σ H vs Q I hh => by
  obtain ⟨ρ, S, x, v, rfl, m, r, k⟩ := rc1 hh
  cases x <;> try (exact False.elim k)
  · obtain ⟨a, xs, rfl, ea, ra⟩ := r
    exact ⟨a, xs, rfl, .inr (SqT.of ea), new_lst m ra k⟩
  · rename_i n
    obtain ⟨a, rfl, ea⟩ := r
    obtain ⟨o, h, q⟩ := m.there ea
    dsimp only [dList] at k
    rw [h] at k
    cases o <;> try (exact False.elim k)
    obtain ⟨xs, e1, ra⟩ := q
    exact ⟨a, xs, rfl, .inl (SqL.of e1), new_lst m ra k⟩
  · obtain ⟨a, xs, rfl, ea, ra⟩ := r
    exact ⟨a, xs, rfl, .inl ea.seq, new_lst m ra k⟩
/-! ### isinstance with a built-in type -/
def tyName (S : Store) : D → Option String
  | .non => some "NoneType"
  | .bl _ => some "bool"
  | .int _ => some "int"
  | .str _ => some "str"
  | .tup _ => some "tuple"
  | .loc n => match S[n]? with
    | some (.lst _) => some "list"
    | some (.dik _) => some "dict"
    | some (.dit _) => some "dict"
    | _ => none
  | _ => none
def isTy (n t : String) : Option Bool :=
  if n = "int" ∨ n = "bool" ∨ n = "str" ∨ n = "tuple" ∨ n = "list" then some (t == n || (t == "bool" && n == "int")) else none
def dIsi : D → D → M D := fun x y S => match y with
  | .ty n => match tyName S x with
    | some t => match isTy n t with
      | some b => .ok (.bl b) S
      | none => .stuck
    | none => .stuck
  | _ => .stuck
theorem tyName_ok {K : PySem.W.Frag} {ρ : List Addr} {S : Store} {H : Hp} {x : D} {v : V} {t : String} (m : Match K cls ρ S H) (r : Rep K ρ H x v) (e : tyName S x = some t) : TyX K H v (.type t) := by
  cases x
  · cases e; cases r; exact .base .non
  · cases e; cases r; exact .base (.bl _)
  · cases e; cases r; exact .base (.int _)
  · cases e; cases r; exact .base (.str _)
  · cases e
    obtain ⟨a, xs, rfl, ea, ra⟩ := r
    exact .base (.tup ea)
  · rename_i n
    obtain ⟨a, rfl, ea⟩ := r
    obtain ⟨o, h, q⟩ := m.there ea
    simp only [tyName, h] at e
    cases o
    · cases e; obtain ⟨xs, e1, ra⟩ := q; exact .base (.lst e1)
    · cases e; obtain ⟨xs, e1, ra⟩ := q; exact .base (.dK e1)
    · cases e; obtain ⟨xs, e1, ra⟩ := q; exact .base (.dT e1)
    · cases e
    · cases e
    · cases e
    · cases e
  · cases e
  · cases e
  · cases e
theorem tyName_in {S : Store} {x : D} {t : String} (e : tyName S x = some t) : t = "NoneType" ∨ t = "bool" ∨ t = "int" ∨ t = "str" ∨ t = "tuple" ∨ t = "list" ∨ t = "dict" := by
  cases x <;> simp only [tyName] at e <;> try (cases e; try simp)
  split at e <;> cases e <;> simp
theorem isTy_kit {n t : String} {b : Bool} (ht : t = "NoneType" ∨ t = "bool" ∨ t = "int" ∨ t = "str" ∨ t = "tuple" ∨ t = "list" ∨ t = "dict") (e : isTy n t = some b) : kitB t n = some b := by
  unfold isTy at e
  by_cases hn : n = "int" ∨ n = "bool" ∨ n = "str" ∨ n = "tuple" ∨ n = "list"
  · rw [if_pos hn] at e
    cases e
    rcases hn with rfl | rfl | rfl | rfl | rfl <;> rcases ht with rfl | rfl | rfl | rfl | rfl | rfl | rfl <;> decide +kernel
  · rw [if_neg hn] at e
    cases e
theorem bj_isi : CallR X (.builtin "isinstance") (rCJ X.K cls E (op2 dIsi)) := CallR.wk call_isi fun pins s σ H vs Q I hh => by
  obtain ⟨ρ, S, x, y, v, w, rfl, m, r1, r2, k⟩ := rc2 hh
  cases y <;> try (exact False.elim k)
  rename_i n
  cases r2
  dsimp only [dIsi] at k
  cases h1 : tyName S x with
  | none => rw [h1] at k; exact k.elim
  | some t =>
    rw [h1] at k
    dsimp only at k
    cases h2 : isTy n t with
    | none => rw [h2] at k; exact k.elim
    | some b =>
      rw [h2] at k
      exact ⟨v, .ty n, .type t, .type n, b, rfl, .ty n, tyName_ok m r1 h1, kit_ty (isTy_kit (tyName_in h1) h2), k ρ H .refl m _ rfl⟩
end
end
end DL
set_option Elab.async false
set_option linter.all false
set_option maxRecDepth 100000
/-! DL5: statements, loops, defs -/
namespace DL
open PySem PySem.Spec PyProof.Rows L2
open Classical
noncomputable section
section
variable {X : Cx} {cls : Nat → Addr} {E : XK} {a b c e : Expr} {f g h : SE} {p q r : ST} {pos : Pos} {st : Stmt} {rest : List Stmt} {s1 s2 : SS} {sg : SG}
def sNext : SS := fun δ => ret (.nx δ)
def sSeq (a b : SS) : SS := fun δ => bnd (a δ) fun o => match o with
  | .nx δ' => b δ'
  | o => ret o
def sDrop (f : SE) : SS := fun δ => bnd (f δ) fun _ => ret (.nx δ)
def sRet (f : SE) : SS := fun δ => bnd (f δ) fun d => ret (.rt d)
def sRetN : SS := fun _ => ret (.rt .non)
def sIf (p : ST) (a b : SS) : SS := fun δ => bnd (p δ) fun k => if k = true then a δ else b δ
def sBrk : SS := fun δ => ret (.bk δ)
def sCnt : SS := fun δ => ret (.ct δ)
theorem jss_nil : JSs X cls E [] sNext := PSs.wk pss_nil fun pins s σ H Dn I hh => by
  obtain ⟨ρ, S, δ, er, m, fi⟩ := hh
  exact fi ρ H .refl m σ er
theorem jss_cons (h1 : JS X cls E st s1) (h2 : JSs X cls E rest s2) : JSs X cls E (st :: rest) (sSeq s1 s2) := PSs.wk (pss_cons h1 h2) fun pins s σ H Dn I hh => by
  obtain ⟨ρ, S, δ, er, m, fi⟩ := hh
  refine ⟨ρ, S, δ, er, m, Fin.imp (Fin.bnd fi) fun o ρ1 S1 H1 x1 m1 k1 => ?_⟩
  cases o with
  | nx δ' => exact fun σ' er' => ⟨ρ1, S1, δ', er', m1, k1⟩
  | rt d => exact k1 ρ1 H1 .refl m1
  | bk δ' => exact k1 ρ1 H1 .refl m1
  | ct δ' => exact k1 ρ1 H1 .refl m1
theorem jss_one (h1 : JS X cls E st s1) : JSs X cls E [st] s1 := pss_one h1
theorem js_expr (he : JE X cls E e f) (hs : swapsWith e none pos.line X.env = pure false := by rfl) : JS X cls E (.Expr e pos) (sDrop f) := PS.wk (ps_expr he hs) fun pins s σ H Dn I hh => by
  obtain ⟨ρ, S, δ, er, m, fi⟩ := hh
  exact ⟨ρ, S, δ, er, m, Fin.imp (Fin.bnd fi) fun d ρ1 S1 H1 x1 m1 k1 v r => k1 ρ1 H1 .refl m1 σ (er.ext x1)⟩
theorem js_ret (he : JE X cls E e f) : JS X cls E (.Return (some e) pos) (sRet f) := PS.wk (ps_ret he) fun pins s σ H Dn I hh => by
  obtain ⟨ρ, S, δ, er, m, fi⟩ := hh
  exact ⟨ρ, S, δ, er, m, Fin.imp (Fin.bnd fi) fun d ρ1 S1 H1 x1 m1 k1 v r => k1 ρ1 H1 .refl m1 v r⟩
theorem js_if {x y : List Stmt} (hc : JT X cls E c p) (ha : JSs X cls E x s1) (hb : JSs X cls E y s2) : JS X cls E (.If c x y pos) (sIf p s1 s2) := PS.wk (ps_if hc ha hb) fun pins s σ H Dn I hh => by
  obtain ⟨ρ, S, δ, er, m, fi⟩ := hh
  refine ⟨ρ, S, δ, er, m, Fin.imp (Fin.bnd fi) fun k ρ1 S1 H1 x1 m1 k1 => ?_⟩
  cases k with
  | true => rw [if_pos rfl] at k1 ⊢; exact ⟨ρ1, S1, δ, er.ext x1, m1, k1⟩
  | false => rw [if_neg Bool.false_ne_true] at k1 ⊢; exact ⟨ρ1, S1, δ, er.ext x1, m1, k1⟩
/-! ### targets -/
def gN (i : Nat) : SG := fun d δ => ret (δ.set i (some d))
theorem jg_name {tg : Expr} {i : Nat} (hp : PG X tg (gName i)) : JG X cls E tg (gN i) := ⟨fun pins s σ H v u Q I r hh => hp.run pins s σ H v u Q I r (by
  obtain ⟨ρ, S, δ, d, er, m, rd, fi⟩ := hh
  exact fi ρ H .refl m _ (er.set i rd))⟩
abbrev SGs := List D → Env → M Env
def TJGs (K : PySem.W.Frag) (cls : Nat → Addr) (E : XK) (g : SGs) : TGs := fun vs σ H Q => ∃ ρ S δ ds, ERep K ρ H δ σ ∧ Match K cls ρ S H ∧ Reps K ρ H ds vs ∧ Fin K cls E ρ H (g ds δ S) fun δ' ρ' _ H' => ∀ σ', ERep K ρ' H' δ' σ' → Q σ' H'
abbrev JGs (X : Cx) (cls : Nat → Addr) (E : XK) (es : List Expr) (g : SGs) : Prop := PGs X es (TJGs X.K cls E g)
def gsNil : SGs := fun ds δ => match ds with
  | [] => ret δ
  | _ => stuck
def gsCons (g : SG) (t : SGs) : SGs := fun ds δ => match ds with
  | d :: r => bnd (g d δ) fun δ' => t r δ'
  | _ => stuck
theorem PGs.wk {es : List Expr} {t t' : TGs} (hp : PGs X es t) (w : ∀ vs σ H Q, t' vs σ H Q → t vs σ H Q) : PGs X es t' := ⟨fun pins s σ H v u Q I r q => hp.run pins s σ H v u Q I r (w _ _ _ _ q)⟩
theorem PG.wk {e : Expr} {t t' : TG} (hp : PG X e t) (w : ∀ vs σ H Q, t' vs σ H Q → t vs σ H Q) : PG X e t' := ⟨fun pins s σ H v u Q I r q => hp.run pins s σ H v u Q I r (w _ _ _ _ q)⟩
theorem jgs_nil : JGs X cls E [] gsNil := PGs.wk pgs_nil fun vs σ H Q hh => by
  obtain ⟨ρ, S, δ, ds, er, m, rd, fi⟩ := hh
  cases ds with
  | nil => exact ⟨rd, fi ρ H .refl m σ er⟩
  | cons _ _ => exact fi.elim
theorem jgs_cons {es : List Expr} {t : SGs} (h : PGs X (e :: es) (gCons (TJG X.K cls E sg) (TJGs X.K cls E t))) : JGs X cls E (e :: es) (gsCons sg t) := PGs.wk h fun vs σ H Q hh => by
  obtain ⟨ρ, S, δ, ds, er, m, rd, fi⟩ := hh
  cases ds with
  | nil => exact fi.elim
  | cons d r =>
    obtain ⟨y, ys, e, r1, r2⟩ := rd
    refine ⟨y, ys, e, ρ, S, δ, d, er, m, r1, Fin.imp (Fin.bnd fi) fun δ' ρ1 S1 H1 x1 m1 k1 σ' er' => ?_⟩
    exact ⟨ρ1, S1, δ', r, er', m1, r2.ext x1, k1⟩
def gTp (n : Nat) (t : SGs) : SG := fun d δ => match d with
  | .tup ds => if ds.length = n then t ds δ else stuck
  | _ => stuck
theorem jg_tup {tg : Expr} {n : Nat} {t : SGs} (hp : PG X tg (gTup X.K n (TJGs X.K cls E t))) : JG X cls E tg (gTp n t) := PG.wk hp fun v σ H Q hh => by
  obtain ⟨ρ, S, δ, d, er, m, rd, fi⟩ := hh
  cases d <;> try (exact False.elim fi)
  rename_i ds
  obtain ⟨a, xs, rfl, ea, ra⟩ := rd
  dsimp only [gTp] at fi
  by_cases hl : ds.length = n
  · rw [if_pos hl] at fi
    exact ⟨a, xs, rfl, SqT.of ea, by rw [ra.length]; exact hl, ρ, S, δ, ds, er, m, ra, fi⟩
  · rw [if_neg hl] at fi
    exact fi.elim
/-- o[i] = v: a list, a dict with int or text keys, one with tuple keys -/
def asKey : D → Option Key
  | .int i => some (.inl i)
  | .str x => some (.inr x)
  | _ => none
def asKeys : List D → Option (List Key)
  | [] => some []
  | d :: r => match asKey d, asKeys r with
    | some k, some ks => some (k :: ks)
    | _, _ => none
def putD {κ : Type} [DecidableEq κ] (kvs : List (κ × D)) (k : κ) (v : D) : List (κ × D) :=
  if kvs.any (fun p => decide (p.1 = k)) = true then kvs.map fun p => if p.1 = k then (p.1, v) else p else kvs ++ [(k, v)]
def valD {κ : Type} [DecidableEq κ] (kvs : List (κ × D)) (k : κ) : Option D := (kvs.find? fun p => decide (p.1 = k)).map (·.2)
end
section
variable {X : Cx} {cls : Nat → Addr} {E : XK} {a b c e : Expr} {f g h : SE} {p q r : ST} {pos : Pos} {st : Stmt} {rest : List Stmt} {s1 s2 : SS} {sg : SG}
def dSet (o i v : D) : M Unit := fun S => match o, i with
  | .loc n, .int k => match S[n]? with
    | some (.lst ds) => match ixN ds.length k with
      | some j => .ok () (S.set n (.lst (ds.set j v)))
      | none => .stuck
    | _ => .stuck
  | _, _ => .stuck
def setJ (K : PySem.W.Frag) (cls : Nat → Addr) (E : XK) (op : D → D → D → M Unit) : TSet := fun o i v H Q => ∃ ρ S x y z, Match K cls ρ S H ∧ Rep K ρ H x o ∧ Rep K ρ H y i ∧ Rep K ρ H z v ∧ Fin K cls E ρ H (op x y z S) fun _ _ _ H' => Q H'
theorem PSet.wk {t t' : TSet} (hp : PSet X t) (w : ∀ pins s σ H o i v Q, Inv X pins σ H s → t' o i v H Q → t o i v H Q) : PSet X t' := fun pins s σ H o i v ov iv u Q I r1 r2 r3 q => hp pins s σ H o i v ov iv u Q I r1 r2 r3 (w _ _ _ _ _ _ _ _ I q)
theorem wr_lst {K : PySem.W.Frag} {ρ : List Addr} {S : Store} {H : Hp} {n : Nat} {a : Addr} {ds : List D} {xs : List V} {α : Type} {y : α} {k : α → List Addr → Store → Hp → Prop} (m : Match K cls ρ S H) (ea : ρ[n]? = some a) {ys : List V} (e1 : H a = some (.lst ys)) (r : Reps K ρ H ds xs)
    (fi : Fin K cls E ρ H (.ok y (S.set n (.lst ds))) k) : k y ρ (S.set n (.lst ds)) (upd H a (.lst xs)) := by
  have mu : Mut (H a) := by rw [e1]; trivial
  have x := ext_write (ρ := ρ) (o := .lst xs) mu
  exact fi ρ _ x (m.write ea mu ⟨xs, upd_same, r.ext x⟩)
theorem st_set : PSet X (setJ X.K cls E dSet) := PSet.wk set_list fun pins s σ H o i v Q I hh => by
  obtain ⟨ρ, S, x, y, z, m, r1, r2, r3, k⟩ := hh
  cases x <;> cases y <;> try (exact False.elim k)
  rename_i n j
  obtain ⟨a, rfl, ea⟩ := r1
  cases r2
  obtain ⟨o, h, q⟩ := m.there ea
  dsimp only [dSet] at k
  rw [h] at k
  cases o <;> try (exact False.elim k)
  rename_i ds
  obtain ⟨xs, e1, ra⟩ := q
  dsimp only at k
  cases hj : ixN ds.length j with
  | none => rw [hj] at k; exact k.elim
  | some l =>
    rw [hj] at k
    exact ⟨a, xs, j, l, rfl, rfl, e1, by rw [ra.length]; exact hj, wr_lst m ea e1 (ra.set l r3) k⟩
def gSubD (f g : SE) (op : D → D → D → M Unit) : SG := fun v δ => bnd (f δ) fun o => bnd (g δ) fun i => bnd (op o i v) fun _ => ret δ
theorem jg_sub {tg : Expr} {op : D → D → D → M Unit} (hp : PG X tg (gSub (TJ X.K cls E f) (TJ X.K cls E g) (setJ X.K cls E op))) : JG X cls E tg (gSubD f g op) := PG.wk hp fun v σ H Q hh => by
  obtain ⟨ρ, S, δ, d, er, m, rd, fi⟩ := hh
  refine ⟨ρ, S, δ, er, m, Fin.imp (Fin.bnd fi) fun o ρ1 S1 H1 x1 m1 k1 v1 r1 => ?_⟩
  refine ⟨ρ1, S1, δ, er.ext x1, m1, Fin.imp (Fin.bnd k1) fun i ρ2 S2 H2 x2 m2 k2 v2 r2 => ?_⟩
  refine ⟨ρ2, S2, o, i, d, m2, Rep.ext x2 _ _ r1, r2, Rep.ext x2 _ _ (Rep.ext x1 _ _ rd), Fin.imp (Fin.bnd k2) fun _ ρ3 S3 H3 x3 m3 k3 => ?_⟩
  exact k3 ρ3 H3 .refl m3 σ (((er.ext x1).ext x2).ext x3)
def sAsg (f : SE) (g : SG) : SS := fun δ => bnd (f δ) fun d => bnd (g d δ) fun δ' => ret (.nx δ')
theorem js_asg (hp : PS X st (tAsg (TJ X.K cls E f) (TJG X.K cls E sg))) : JS X cls E st (sAsg f sg) := PS.wk hp fun pins s σ H Dn I hh => by
  obtain ⟨ρ, S, δ, er, m, fi⟩ := hh
  refine ⟨ρ, S, δ, er, m, Fin.imp (Fin.bnd fi) fun d ρ1 S1 H1 x1 m1 k1 v1 r1 => ?_⟩
  exact ⟨ρ1, S1, δ, d, er.ext x1, m1, r1, Fin.imp (Fin.bnd k1) fun δ' ρ2 S2 H2 x2 m2 k2 σ' er' => k2 ρ2 H2 .refl m2 σ' er'⟩
/-- x = e, by its own rule -/
theorem js_set {i : Nat} {t : TE} (hp : PS X st (tAsg t (gName i))) (he : ∀ pins s σ H Q, Inv X pins σ H s → TJ X.K cls E f σ H Q → t σ H Q) : JS X cls E st (sAsg f (gN i)) := PS.wk hp fun pins s σ H Dn I hh => by
  refine he pins s σ H _ I ?_
  obtain ⟨ρ, S, δ, er, m, fi⟩ := hh
  refine ⟨ρ, S, δ, er, m, Fin.imp (Fin.bnd fi) fun d ρ1 S1 H1 x1 m1 k1 v1 r1 => ?_⟩
  exact k1 ρ1 H1 .refl m1 _ ((er.ext x1).set i r1)
theorem js_name {i : Nat} (hp : PS X st (tAsg (TJ X.K cls E f) (gName i))) : JS X cls E st (sAsg f (gN i)) := js_set hp fun _ _ _ _ _ _ h => h
/-- x, y = e, e' -/
def sPar (i j : Nat) (t : SA) : SS := fun δ => bnd (t δ) fun ds => match ds with
  | [v, w] => ret (.nx ((δ.set i (some v)).set j (some w)))
  | _ => stuck
theorem js_par {i j : Nat} {t : SA} (hp : PS X st (tPar i j (TJA X.K cls E t))) : JS X cls E st (sPar i j t) := PS.wk hp fun pins s σ H Dn I hh => by
  obtain ⟨ρ, S, δ, er, m, fi⟩ := hh
  refine ⟨ρ, S, δ, er, m, Fin.imp (Fin.bnd fi) fun ds ρ1 S1 H1 x1 m1 k1 vs r1 => ?_⟩
  match ds, r1, k1 with
  | [], r1, k1 => exact k1.elim
  | [v], r1, k1 => exact k1.elim
  | [x, y], ⟨v, ys, e1, r1, ⟨w, zs, e2, r2, t2⟩⟩, k1 =>
    rw [show zs = [] from t2] at e2
    subst e2
    exact ⟨v, w, e1, k1 ρ1 H1 .refl m1 _ (((er.ext x1).set i r1).set j r2)⟩
  | _ :: _ :: _ :: _, r1, k1 => exact k1.elim
/-! ### x += e, o[i] += e -/
theorem ip_of {o : Operator} {r : R2} {op : Op2} (hp : PIp X o r) (w : ∀ H v u Q, rJ X.K cls E op v u H Q → r v u H Q) : PIp X o (rJ X.K cls E op) := fun pins s σ H x y v u Q I r1 r2 q => hp pins s σ H x y v u Q I r1 r2 (w _ _ _ _ q)
theorem ipj_add : PIp X .Add (rJ X.K cls E (iOp (fun _ _ => True) fun i j => .int (i + j))) := ip_of ip_add fun H v w Q hh => by
  obtain ⟨ρ, S, x, y, m, r1, r2, k⟩ := hh
  obtain ⟨i, j, h1, h2, h3, h4⟩ := iOp_fin m r1 r2 k
  exact ⟨i, j, h1, h2, h4 _ fun _ _ => rfl⟩
def sAug (i : Nat) (f : SE) (op : Op2) : SS := fun δ => bnd (eVar i δ) fun x => bnd (f δ) fun y => bnd (op x y) fun z => ret (.nx (δ.set i (some z)))
end
/-! ### what is walked -/
structure Src where
  items : List D
  live : Store → Prop
def ItOk (K : PySem.W.Frag) (cls : Nat → Addr) (ρ0 : List Addr) (H0 : Hp) (J : It) (src : Src) : Prop := ∀ i ρ S H, Ext ρ0 H0 ρ H → Match K cls ρ S H → src.live S →
  (∀ d, src.items[i]? = some d → J.go i H ∧ ∀ x H', J.yld i H x H' → Ext ρ H ρ H' ∧ Match K cls ρ S H' ∧ Rep K ρ H' d x) ∧ (src.items[i]? = none → J.stop i H)
def TJI (K : PySem.W.Frag) (cls : Nat → Addr) (E : XK) (f : Env → M Src) : TI := fun σ H R => ∃ ρ S δ, ERep K ρ H δ σ ∧ Match K cls ρ S H ∧ Fin K cls E ρ H (f δ S) fun src ρ' S' H' => src.live S' → ∀ J, ItOk K cls ρ' H' J src → R J H'
abbrev JI (X : Cx) (cls : Nat → Addr) (E : XK) (tg it : Expr) (f : Env → M Src) : Prop := PI X tg it (TJI X.K cls E f)
/-- a list or a tuple -/
def srcOf : D → M Src := fun x S => match x with
  | .tup ds => .ok ⟨ds, fun _ => True⟩ S
  | .rol ds => .ok ⟨ds, fun _ => True⟩ S
  | .loc n => match S[n]? with
    | some (.lst ds) => .ok ⟨ds, fun S => S[n]? = some (.lst ds)⟩ S
    | _ => .stuck
  | _ => .stuck
def iSeq (f : SE) : Env → M Src := fun δ => bnd (f δ) srcOf
section
variable {X : Cx} {cls : Nat → Addr} {E : XK} {tg e : Expr} {f : SE}
theorem PI.wk {it : Expr} {t t' : TI} (hp : PI X tg it t) (w : ∀ σ H R, t' σ H R → t σ H R) : PI X tg it t' := ⟨fun pins s σ H R I q => hp.run pins s σ H R I (w _ _ _ q)⟩
theorem it_tup {K : PySem.W.Frag} {ρ0 : List Addr} {H0 : Hp} {a : Addr} {xs : List V} {ds : List D} {l : Store → Prop} (ea : H0 a = some (.tup xs)) (r : Reps K ρ0 H0 ds xs) : ItOk K cls ρ0 H0 (Itt K a) ⟨ds, l⟩ := fun i ρ S H x m _ => by
  have eb := SqT.of (K := K) (x.tups a xs ea)
  refine ⟨fun d hd => ?_, fun hn => ?_⟩
  · obtain ⟨v, h1, h2⟩ := r.get hd
    refine ⟨⟨xs, v, eb, h1⟩, fun y H' hy => ?_⟩
    obtain ⟨rfl, hy⟩ := hy
    have h3 := hy xs eb
    rw [h1] at h3; cases h3
    exact ⟨.refl, m, Rep.ext x _ _ h2⟩
  · exact ⟨xs, eb, by rw [r.length]; exact List.getElem?_eq_none_iff.mp hn⟩
theorem it_rol {K : PySem.W.Frag} {ρ0 : List Addr} {H0 : Hp} {a : Addr} {xs : List V} {ds : List D} {l : Store → Prop} (ea : Rol K H0 a xs) (r : Reps K ρ0 H0 ds xs) : ItOk K cls ρ0 H0 (Itl K a) ⟨ds, l⟩ := fun i ρ S H x m _ => by
  have eb := (ea.ext x.frzs).seq
  refine ⟨fun d hd => ?_, fun hn => ?_⟩
  · obtain ⟨v, h1, h2⟩ := r.get hd
    refine ⟨⟨xs, v, eb, h1⟩, fun y H' hy => ?_⟩
    obtain ⟨rfl, hy⟩ := hy
    have h3 := hy xs eb
    rw [h1] at h3; cases h3
    exact ⟨.refl, m, Rep.ext x _ _ h2⟩
  · exact ⟨xs, eb, by rw [r.length]; exact List.getElem?_eq_none_iff.mp hn⟩
theorem it_lst {K : PySem.W.Frag} {ρ0 : List Addr} {H0 : Hp} {n : Nat} {a : Addr} {ds : List D} (ea : ρ0[n]? = some a) : ItOk K cls ρ0 H0 (Itl K a) ⟨ds, fun S => S[n]? = some (.lst ds)⟩ := fun i ρ S H x m hl => by
  have e1 := x.get ea
  obtain ⟨xs, e2, r⟩ := m.obj n a _ e1 hl
  have eb := SqL.of (K := K) e2
  have inj : ∀ {ys : List V}, ys = xs → ys = xs := fun h => h
  refine ⟨fun d hd => ?_, fun hn => ?_⟩
  · obtain ⟨v, h1, h2⟩ := r.get hd
    refine ⟨⟨xs, v, eb, h1⟩, fun y H' hy => ?_⟩
    obtain ⟨rfl, hy⟩ := hy
    have h3 := hy xs eb
    rw [h1] at h3; cases h3
    exact ⟨.refl, m, h2⟩
  · exact ⟨xs, eb, by rw [r.length]; exact List.getElem?_eq_none_iff.mp hn⟩
/-- range(n), range(a, b) -/
def rngD (lo : Int) (n : Nat) : List D := (List.range n).map fun i => .int (lo + (i : Nat))
theorem it_rng {K : PySem.W.Frag} {ρ0 : List Addr} {H0 : Hp} {lo : Int} {n : Nat} {l : Store → Prop} : ItOk K cls ρ0 H0 (Itr lo n) ⟨rngD lo n, l⟩ := fun i ρ S H x m _ => by
  refine ⟨fun d hd => ?_, fun hn => ?_⟩
  · have hi : i < n := by
      have := (List.getElem?_eq_some_iff.mp hd).1
      simpa [rngD] using this
    have hd' : d = .int (lo + (i : Nat)) := by
      simp [rngD, List.getElem?_range hi] at hd
      exact hd.symm
    subst hd'
    refine ⟨hi, fun y H' hy => ?_⟩
    obtain ⟨rfl, rfl⟩ := hy
    exact ⟨.refl, m, rfl⟩
  · have := List.getElem?_eq_none_iff.mp hn
    show n ≤ i
    simpa [rngD] using this
/-- small enough for a range; left undecided, so that nothing runs through it -/
def Small (j : Int) : Prop := -(2 ^ 62) ≤ j ∧ j < 2 ^ 62
def iRg1 (f : SE) : Env → M Src := fun δ => bnd (f δ) fun x S => match x with
  | .int j => if Small j then .ok ⟨rngD 0 j.toNat, fun _ => True⟩ S else .stuck
  | _ => .stuck
def iRg2 (f g : SE) : Env → M Src := fun δ => bnd (f δ) fun x => bnd (g δ) fun y S => match x, y with
  | .int i, .int j => if Small i ∧ Small j then .ok ⟨rngD i (j - i).toNat, fun _ => True⟩ S else .stuck
  | _, _ => .stuck
theorem ji_rng1 {it : Expr} (hp : PI X tg it (iRng1 (tCons (TJ X.K cls E f) tNil))) : JI X cls E tg it (iRg1 f) := PI.wk hp fun σ H R hh => by
  obtain ⟨ρ, S, δ, er, m, fi⟩ := hh
  refine ⟨ρ, S, δ, er, m, Fin.imp (Fin.bnd fi) fun x ρ1 S1 H1 x1 m1 k1 v r1 => ?_⟩
  cases x <;> try (exact False.elim k1)
  rename_i j
  cases r1
  dsimp only at k1
  by_cases hj : Small j
  · rw [if_pos hj] at k1
    exact ⟨j, rfl, hj.1, hj.2, k1 ρ1 H1 .refl m1 True.intro _ it_rng⟩
  · rw [if_neg hj] at k1
    exact k1.elim
theorem ji_rng2 {it : Expr} {g : SE} (hp : PI X tg it (iRng2 (tCons (TJ X.K cls E f) (tCons (TJ X.K cls E g) tNil)))) : JI X cls E tg it (iRg2 f g) := PI.wk hp fun σ H R hh => by
  obtain ⟨ρ, S, δ, er, m, fi⟩ := hh
  refine ⟨ρ, S, δ, er, m, Fin.imp (Fin.bnd fi) fun x ρ1 S1 H1 x1 m1 k1 v r1 => ?_⟩
  refine ⟨ρ1, S1, δ, er.ext x1, m1, Fin.imp (Fin.bnd k1) fun y ρ2 S2 H2 x2 m2 k2 w r2 => ?_⟩
  cases x <;> cases y <;> try (exact False.elim k2)
  rename_i i j
  cases r1
  cases r2
  dsimp only at k2
  by_cases hj : Small i ∧ Small j
  · rw [if_pos hj] at k2
    exact ⟨i, j, rfl, ⟨hj.1.1, hj.1.2, hj.2.1, hj.2.2⟩, k2 ρ2 H2 .refl m2 True.intro _ it_rng⟩
  · rw [if_neg hj] at k2
    exact k2.elim
end
/-! ### for -/
def forL (l : Store → Prop) (g : SG) (body : SS) : List D → Env → M Out
  | [], δ => fun S => if l S then .ok (.nx δ) S else .stuck
  | x :: r, δ => fun S => if l S then bnd (g x δ) (fun δ1 => bnd (body δ1) fun o => match o with
      | .nx δ2 => forL l g body r δ2
      | .ct δ2 => forL l g body r δ2
      | .bk δ2 => ret (.nx δ2)
      | .rt d => ret (.rt d)) S else .stuck
def sFor (f : Env → M Src) (g : SG) (body : SS) : SS := fun δ => bnd (f δ) fun src => forL src.live g body src.items δ
section
variable {X : Cx} {cls : Nat → Addr} {E : XK} {tg it : Expr} {f : Env → M Src} {sg : SG} {sb : SS} {st : Stmt}
theorem js_for (hp : PS X st (tFor (TJI X.K cls E f) (TJG X.K cls E sg) (TJS X.K cls E sb))) : JS X cls E st (sFor f sg sb) := PS.wk hp fun pins s σ H Dn I hh => by
  obtain ⟨ρ, S, δ, er, m, fi⟩ := hh
  refine ⟨ρ, S, δ, er, m, Fin.imp (Fin.bnd fi) fun src ρ1 S1 H1 x1 m1 k1 => ?_⟩
  intro hl J jok
  refine ⟨fun i n σ2 H2 => n = src.items.length - i ∧ i ≤ src.items.length ∧ ∃ ρ2 S2 δ2, Ext ρ1 H1 ρ2 H2 ∧ ERep X.K ρ2 H2 δ2 σ2 ∧ Match X.K cls ρ2 S2 H2 ∧ Fin X.K cls E ρ2 H2 (forL src.live sg sb (src.items.drop i) δ2 S2) fun o ρ' _ H' => OutOk X.K Dn o ρ' H',
    ⟨src.items.length, by simp, Nat.zero_le _, ρ1, S1, δ, .refl, er.ext x1, m1, by rw [List.drop_zero]; exact k1⟩, ?_⟩
  rintro i n σ2 H2 ⟨rfl, hi, ρ2, S2, δ2, x2, er2, m2, k2⟩
  by_cases hlt : i < src.items.length
  · rw [List.drop_eq_getElem_cons hlt] at k2
    unfold forL at k2
    by_cases hlive : src.live S2
    · rw [if_pos hlive] at k2
      have hg := (jok i ρ2 S2 H2 x2 m2 hlive).1 _ (List.getElem?_eq_getElem hlt)
      refine .inr ⟨hg.1, fun σ' H' => i + 1 ≤ src.items.length ∧ ∃ ρ2 S2 δ2, Ext ρ1 H1 ρ2 H' ∧ ERep X.K ρ2 H' δ2 σ' ∧ Match X.K cls ρ2 S2 H' ∧ Fin X.K cls E ρ2 H' (forL src.live sg sb (src.items.drop (i + 1)) δ2 S2) fun o ρ' _ H' => OutOk X.K Dn o ρ' H',
        fun σ' H' hN => ⟨src.items.length - (i + 1), by omega, rfl, hN.1, hN.2⟩, fun x H' hy => ?_⟩
      obtain ⟨x3, m3, rx⟩ := hg.2 x H' hy
      refine ⟨ρ2, S2, δ2, _, er2.ext x3, m3, rx, Fin.imp (Fin.bnd (k2.ext x3)) fun δ3 ρ4 S4 H4 x4 m4 k4 σ4 er4 => ?_⟩
      refine ⟨ρ4, S4, δ3, er4, m4, Fin.imp (Fin.bnd k4) fun o ρ5 S5 H5 x5 m5 k5 => ?_⟩
      have xx := ((x2.trans x3).trans x4).trans x5
      cases o with
      | nx δ5 => exact fun σ5 er5 => ⟨hlt, ρ5, S5, δ5, xx, er5, m5, k5⟩
      | ct δ5 => exact fun σ5 er5 => ⟨hlt, ρ5, S5, δ5, xx, er5, m5, k5⟩
      | bk δ5 => exact k5 ρ5 H5 .refl m5
      | rt d => exact k5 ρ5 H5 .refl m5
    · rw [if_neg hlive] at k2
      exact k2.elim
  · rw [List.drop_eq_nil_of_le (by omega)] at k2
    unfold forL at k2
    by_cases hlive : src.live S2
    · rw [if_pos hlive] at k2
      exact .inl ⟨(jok i ρ2 S2 H2 x2 m2 hlive).2 (List.getElem?_eq_none_iff.mpr (by omega)), k2 ρ2 H2 .refl m2 σ2 er2⟩
    · rw [if_neg hlive] at k2
      exact k2.elim
end
/-! ### what is not seen any more -/
mutual
def D.lo (n : Nat) : D → Prop
  | .loc k => k < n
  | .tup ds => Ds.lo n ds
  | .rol ds => Ds.lo n ds
  | _ => True
def Ds.lo (n : Nat) : List D → Prop
  | [] => True
  | d :: r => D.lo n d ∧ Ds.lo n r
end
def KVs.lo {κ : Type} (n : Nat) (kvs : List (κ × D)) : Prop := ∀ p ∈ kvs, p.2.lo n
def MO.lo (n : Nat) : MO → Prop
  | .lst ds => Ds.lo n ds
  | .dik kvs => KVs.lo n kvs
  | .dit kvs => KVs.lo n kvs
  | .ins _ fs => KVs.lo n fs
  | .lkd fs => KVs.lo n fs
  | .lkt fs => KVs.lo n fs
  | .dix _ fs => KVs.lo n fs
def Wf (n : Nat) (S : Store) : Prop := ∀ o ∈ S, o.lo n
section
variable {K : PySem.W.Frag} {cls : Nat → Addr} {ρ : List Addr} {H : Hp} {S : Store} {n : Nat}
mutual
theorem Rep.low : ∀ (d : D) (v : V), Rep K ρ H d v → d.lo n → Rep K (ρ.take n) H d v
  | .non, _, h, _ => h
  | .bl _, _, h, _ => h
  | .int _, _, h, _ => h
  | .str _, _, h, _ => h
  | .ty _, _, h, _ => h
  | .fn _, _, h, _ => h
  | .tup ds, _, ⟨a, xs, e, e1, r⟩, b => ⟨a, xs, e, e1, Reps.low ds xs r b⟩
  | .loc k, _, ⟨a, e, e1⟩, b => ⟨a, e, by rw [List.getElem?_take]; rw [if_pos (show k < n from b)]; exact e1⟩
  | .rol ds, _, ⟨a, xs, e, e1, r⟩, b => ⟨a, xs, e, e1, Reps.low ds xs r b⟩
theorem Reps.low : ∀ (ds : List D) (xs : List V), Reps K ρ H ds xs → Ds.lo n ds → Reps K (ρ.take n) H ds xs
  | [], _, h, _ => h
  | d :: ds, _, ⟨y, ys, e, r, t⟩, b => ⟨y, ys, e, Rep.low d y r b.1, Reps.low ds ys t b.2⟩
end
theorem RepKV.low {κ : Type} : ∀ (kvs : List (κ × D)) (ks : List (κ × V)), RepKV K ρ H kvs ks → KVs.lo n kvs → RepKV K (ρ.take n) H kvs ks
  | [], _, h, _ => h
  | p :: r, _, ⟨v, ys, e, q, t⟩, b => ⟨v, ys, e, Rep.low _ _ q (b p List.mem_cons_self), RepKV.low r ys t fun q hq => b q (List.mem_cons_of_mem _ hq)⟩
mutual
theorem Rep.lo : ∀ (d : D) (v : V), Rep K ρ H d v → d.lo ρ.length
  | .non, _, _ => trivial
  | .bl _, _, _ => trivial
  | .int _, _, _ => trivial
  | .str _, _, _ => trivial
  | .ty _, _, _ => trivial
  | .fn _, _, _ => trivial
  | .tup ds, _, ⟨a, xs, e, e1, r⟩ => Reps.lo ds xs r
  | .loc k, _, ⟨a, e, e1⟩ => (List.getElem?_eq_some_iff.mp e1).1
  | .rol ds, _, ⟨a, xs, e, e1, r⟩ => Reps.lo ds xs r
theorem Reps.lo : ∀ (ds : List D) (xs : List V), Reps K ρ H ds xs → Ds.lo ρ.length ds
  | [], _, _ => trivial
  | d :: ds, _, ⟨y, ys, e, r, t⟩ => ⟨Rep.lo d y r, Reps.lo ds ys t⟩
end
theorem RepKV.lo {κ : Type} : ∀ (kvs : List (κ × D)) (ks : List (κ × V)), RepKV K ρ H kvs ks → KVs.lo ρ.length kvs
  | [], _, _ => fun _ h => nomatch h
  | p :: r, _, ⟨v, ys, e, q, t⟩ => fun q' hq => by
    rcases List.mem_cons.mp hq with rfl | hq
    · exact Rep.lo _ _ q
    · exact RepKV.lo r ys t q' hq
theorem Match.cut (m : Match K cls ρ S H) (w : Wf n (S.take n)) : Match K cls (ρ.take n) (S.take n) H := ⟨by simp [m.len], m.nd.sublist (List.take_sublist n ρ), fun k a o h1 h2 => by
  rw [List.getElem?_take] at h1 h2
  by_cases hk : k < n
  · rw [if_pos hk] at h1 h2
    have r := m.obj k a o h1 h2
    have b : o.lo n := w o (List.mem_iff_getElem?.mpr ⟨k, by rw [List.getElem?_take, if_pos hk]; exact h2⟩)
    cases o with
    | lst _ => obtain ⟨xs, e, r⟩ := r; exact ⟨xs, e, r.low _ _ b⟩
    | dik _ => obtain ⟨xs, e, r⟩ := r; exact ⟨xs, e, r.low _ _ b⟩
    | dit _ => obtain ⟨xs, e, r⟩ := r; exact ⟨xs, e, r.low _ _ b⟩
    | ins _ _ => obtain ⟨dx, xs, e, r⟩ := r; exact ⟨dx, xs, e, r.low _ _ b⟩
    | lkd _ => obtain ⟨dx, xs, e, r⟩ := r; exact ⟨dx, xs, e, r.low _ _ b⟩
    | lkt _ => obtain ⟨dx, xs, e, r⟩ := r; exact ⟨dx, xs, e, r.low _ _ b⟩
    | dix _ _ => obtain ⟨ks, xs, e, kx, r⟩ := r; exact ⟨ks, xs, e, kx, r.low _ _ b⟩
  · rw [if_neg hk] at h1
    cases h1⟩
end
/-- objects that were made on the way are dropped, where nothing that stays points at them -/
def gc (f : M D) : M D := fun S => match f S with
  | .ok d S' => if S.length ≤ S'.length ∧ d.lo S.length ∧ Wf S.length (S'.take S.length) then .ok d (S'.take S.length) else .ok d S'
  | r => r
/-- no exception -/
def noX {α : Type} (f : M α) : M α := fun S => match f S with
  | .ok a S' => .ok a S'
  | _ => .stuck
section
variable {K : PySem.W.Frag} {cls : Nat → Addr} {E : XK} {ρ : List Addr} {H : Hp} {S : Store}
theorem gc_fin {f : M D} {Q : VK} (m : Match K cls ρ S H) (h : Fin K cls E ρ H (gc f S) fun d ρ' _ H' => ∀ u, Rep K ρ' H' d u → Q u H') : Fin K cls E ρ H (f S) fun d ρ' _ H' => ∀ u, Rep K ρ' H' d u → Q u H' := by
  unfold gc at h
  cases hf : f S with
  | exc c w S' => rw [hf] at h; exact h
  | stuck => rw [hf] at h; exact h
  | ok d S' =>
    rw [hf] at h
    dsimp only at h
    split at h
    · rename_i hc
      intro ρ' H' x m' u ru
      have hρ : ρ'.take S.length = ρ := by
        obtain ⟨t, e⟩ := x.pre
        rw [e, ← m.len]
        simp
      have x' : Ext ρ H ρ H' := ⟨⟨[], by simp⟩, x.tups, x.frzs⟩
      have m2 := m'.cut hc.2.2
      have r2 := Rep.low d u ru hc.2.1
      rw [hρ] at m2 r2
      exact h ρ H' x' m2 u r2
    · exact h
theorem noX_fin {α : Type} {f : M α} {E' : XK} {k : α → List Addr → Store → Hp → Prop} (h : Fin K cls E ρ H (noX f S) k) : Fin K cls E' ρ H (f S) k := by
  unfold noX at h
  cases hf : f S with
  | ok a S' => rw [hf] at h; exact h
  | exc c w S' => rw [hf] at h; exact h.elim
  | stuck => rw [hf] at h; exact h
end
/-! ### defs -/
/-- what a def promises: its function -/
def spD (K : PySem.W.Frag) (cls : Nat → Addr) (n : Nat) (F : OpN) : Sp := fun vs H Q E => vs.length = n ∧ rCJ K cls E F vs H Q
def runB (n : Nat) (body : SS) : OpN := fun ds => bnd (body (ds.map some ++ List.replicate (n - ds.length) none)) fun o => match o with
  | .nx _ => ret .non
  | .rt d => ret d
  | _ => stuck
/-- a def's function, from its body's -/
def fnB (n : Nat) (body : SS) : OpN := fun ds => gc (noX (runB n body ds))
section
variable {P : Program} {w : World} {K : PySem.W.Frag} {mg : Str → Option Value} {base : Heap} {cls : Nat → Addr}
theorem erep_start {ρ : List Addr} {H : Hp} {ds : List D} {vs : List V} (N : List Str) (r : Reps K ρ H ds vs) : ERep K ρ H (ds.map some ++ List.replicate (N.length - ds.length) none) (L2.start N vs) := by
  have hl := r.length
  refine ⟨by simp [L2.start, hl], fun i d h => ?_⟩
  have hi : i < ds.length := by
    by_cases hi : i < ds.length
    · exact hi
    · exfalso
      rw [List.getElem?_append_right (by simpa using Nat.le_of_not_lt hi)] at h
      rw [List.getElem?_replicate] at h
      split at h <;> cases h
  rw [List.getElem?_append_left (by simpa using hi), List.getElem?_map] at h
  cases hd : ds[i]? with
  | none => rw [hd] at h; cases h
  | some d' =>
    rw [hd] at h
    cases h
    obtain ⟨v, h1, h2⟩ := r.get hd
    refine ⟨v, ?_, h2⟩
    show (vs.map some ++ List.replicate (N.length - vs.length) none)[i]? = _
    rw [List.getElem?_append_left (by simpa [hl] using hi), List.getElem?_map, h1]
    rfl
/-- THE RULE for a def -/
theorem okD {x qual : Str} {st : Stmt} {f : Addr} {fd : FuncData} {N ps : List Str} {k : Nat} {body : SS} (F : Fun K x qual st f fd) (S : FnScope N ps (defScope st))
    (hb : ∀ (cdv : Value) (A : Around) (outer : List PySem.Env) (s : Shared) (H : Hp) (E : XK), Room k (A.deeper (envOfC qual (defScope st) s.heap.objs.size f cdv)) → JSs (cxOf CX0 P w K mg base N qual (defScope st) f cdv A outer s H E).nox cls (fun _ _ _ => False) (defBody st) body) :
    FnOk P w K mg base CX0 (k + 1) f fd ps (spD K cls ps.length (fnB N.length body)) := by
  refine F.ok S (fun vs H Q E h => h.1) (fun cdv A outer s H vs Q E hr h => ?_)
  refine ⟨_, hb cdv A outer s H E hr, ?_⟩
  obtain ⟨_, ρ, St, ds, m, r, fi⟩ := h
  have fi := noX_fin (E' := fun _ _ _ => False) (gc_fin m fi)
  refine ⟨ρ, St, _, erep_start N r, m, Fin.imp (Fin.bnd fi) fun o ρ1 S1 H1 x1 m1 k1 => ?_⟩
  cases o with
  | nx δ => exact fun σ' er' => k1 ρ1 H1 .refl m1 .non rfl
  | rt d => exact fun v rv => k1 ρ1 H1 .refl m1 v rv
  | bk δ => exact k1.elim
  | ct δ => exact k1.elim
end
section
variable {X : Cx} {cls : Nat → Addr} {E : XK} {e : Expr} {t : SA} {F : OpN} {n : Nat}
theorem je_fn (hl : ∀ δ S ds S', t δ S = .ok ds S' → ds.length = n) (hp : PE X e (tCall (spD X.K cls n F) [] E0 (TJA X.K cls E t))) : JE X cls E e (fun δ => bnd (t δ) fun ds => noX (F ds)) := PE.wk hp fun pins s σ H Q I hh => by
  obtain ⟨ρ, S, δ, er, m, fi⟩ := hh
  refine ⟨ρ, S, δ, er, m, ?_⟩
  have fi := Fin.bnd fi
  cases ht : t δ S with
  | ok ds S' =>
    rw [ht] at fi
    intro ρ' H' x1 m1 vs rv
    refine ⟨by rw [List.append_nil, rv.length]; exact hl _ _ _ _ ht, ρ', S', ds, m1, by rw [List.append_nil]; exact rv, noX_fin (fi ρ' H' x1 m1)⟩
  | exc c w S' => rw [ht] at fi; exact fi
  | stuck => rw [ht] at fi; exact fi
end
end
end DL
set_option Elab.async false
set_option linter.all false
set_option maxRecDepth 100000
/-! DL6: comprehensions -/
namespace DL
open PySem PySem.Spec PyProof.Rows L2
open Classical
noncomputable section
def wipeD (δ : Env) (vs : List Nat) : Env := vs.foldl (fun δ i => δ.set i none) δ
theorem wipe_get : ∀ (vs : List Nat) (σ : L2.St) (i : Nat), (wipe σ vs)[i]? = if i ∈ vs then (σ[i]?).map (fun _ => none) else σ[i]?
  | [], σ, i => by simp [wipe]
  | j :: vs, σ, i => by
    have e : wipe σ (j :: vs) = (wipe σ vs).set j none := rfl
    rw [e, List.getElem?_set, wipe_get vs σ i]
    by_cases hj : j = i
    · subst hj
      simp
      have hl : (wipe σ vs).length = σ.length := by
        clear e
        induction vs with
        | nil => rfl
        | cons k r ih => show ((wipe σ r).set k none).length = _; simp [ih]
      rw [hl]
      by_cases h : j < σ.length
      · simp [h]
      · simp [h]
    · simp [hj, Ne.symm hj]
theorem wipeD_get : ∀ (vs : List Nat) (σ : Env) (i : Nat), (wipeD σ vs)[i]? = if i ∈ vs then (σ[i]?).map (fun _ => none) else σ[i]?
  | [], σ, i => by simp [wipeD]
  | j :: vs, σ, i => by
    have e : wipeD σ (j :: vs) = wipeD (σ.set j none) vs := rfl
    rw [e, wipeD_get vs, List.getElem?_set]
    by_cases hj : j = i
    · subst hj
      by_cases h : j < σ.length <;> simp [h]
    · simp [hj, Ne.symm hj]
theorem wipe_set {σ : L2.St} {vs : List Nat} {i : Nat} {x : Option V} (h : i ∈ vs) : wipe (σ.set i x) vs = wipe σ vs := by
  apply List.ext_getElem?
  intro j
  rw [wipe_get, wipe_get]
  by_cases hj : j ∈ vs
  · rw [if_pos hj, if_pos hj, List.getElem?_set]
    by_cases e : i = j
    · subst e
      by_cases hl : i < σ.length <;> simp [hl]
    · simp [e]
  · rw [if_neg hj, if_neg hj, List.getElem?_set_ne]
    rintro rfl
    exact hj h
theorem wipe_len (σ : L2.St) (vs : List Nat) : (wipe σ vs).length = σ.length := by
  induction vs with
  | nil => rfl
  | cons k r ih => show ((wipe σ r).set k none).length = _; simp [ih]
theorem wipeD_len : ∀ (vs : List Nat) (σ : Env), (wipeD σ vs).length = σ.length
  | [], _ => rfl
  | j :: vs, σ => by rw [show wipeD σ (j :: vs) = wipeD (σ.set j none) vs from rfl, wipeD_len vs]; simp
theorem ERep.wipe {K : PySem.W.Frag} {ρ : List Addr} {H : Hp} {δ : Env} {σ : L2.St} (e : ERep K ρ H δ σ) (vs : List Nat) : ERep K ρ H (wipeD δ vs) (wipe σ vs) := by
  refine ⟨by rw [wipe_len, wipeD_len, e.len], fun i d h => ?_⟩
  rw [wipeD_get] at h
  rw [wipe_get]
  by_cases hi : i ∈ vs
  · rw [if_pos hi] at h
    cases hd : δ[i]? with
    | none => rw [hd] at h; cases h
    | some z => rw [hd] at h; cases h
  · rw [if_neg hi] at h ⊢
    exact e.get i d h
theorem wipe_wipe (σ : L2.St) (vs : List Nat) : wipe (wipe σ vs) vs = wipe σ vs := by
  apply List.ext_getElem?
  intro j
  rw [wipe_get, wipe_get]
  by_cases hj : j ∈ vs
  · simp only [if_pos hj]
    cases σ[j]? <;> rfl
  · simp only [if_neg hj]
/-- a target of names alone: how it stores, and what it means -/
structure TgOk (K : PySem.W.Frag) (vs : List Nat) (g : TG) (sg : SG) : Prop where
  pure : ∀ d δ S, (∃ δ', ∀ S, sg d δ S = .ok δ' S) ∨ sg d δ S = .stuck
  run : ∀ (ρ : List Addr) (H : Hp) (δ δ' : Env) (σ : L2.St) (d : D) (v : V) (Q : L2.St → Hp → Prop), ERep K ρ H δ σ → Rep K ρ H d v → (∀ S, sg d δ S = .ok δ' S) → (∀ σ', ERep K ρ H δ' σ' → wipe σ' vs = wipe σ vs → Q σ' H) → g v σ H Q
structure TgsOk (K : PySem.W.Frag) (vs : List Nat) (g : TGs) (sg : SGs) : Prop where
  pure : ∀ d δ S, (∃ δ', ∀ S, sg d δ S = .ok δ' S) ∨ sg d δ S = .stuck
  run : ∀ (ρ : List Addr) (H : Hp) (δ δ' : Env) (σ : L2.St) (d : List D) (v : List V) (Q : L2.St → Hp → Prop), ERep K ρ H δ σ → Reps K ρ H d v → (∀ S, sg d δ S = .ok δ' S) → (∀ σ', ERep K ρ H δ' σ' → wipe σ' vs = wipe σ vs → Q σ' H) → g v σ H Q
section
variable {K : PySem.W.Frag} {vs : List Nat}
theorem tg_name {i : Nat} (h : i ∈ vs) : TgOk K vs (gName i) (gN i) := ⟨fun d δ S => .inl ⟨_, fun _ => rfl⟩, fun ρ H δ δ' σ d v Q er r e k => by
  have e1 : δ.set i (some d) = δ' := by
    have := e []
    injection this
  exact k _ (e1 ▸ er.set i r) (wipe_set h)⟩
theorem tgs_nil : TgsOk K vs gNil gsNil := ⟨fun d δ S => by
    cases d with
    | nil => exact .inl ⟨_, fun _ => rfl⟩
    | cons _ _ => exact .inr rfl, fun ρ H δ δ' σ d v Q er r e k => by
  cases d with
  | nil =>
    have e1 : δ = δ' := by have := e []; injection this
    subst e1
    exact ⟨r, k σ er rfl⟩
  | cons _ _ => have := e []; cases this⟩
theorem tgs_cons {g : TG} {sg : SG} {gs : TGs} {sgs : SGs} (h1 : TgOk K vs g sg) (h2 : TgsOk K vs gs sgs) : TgsOk K vs (gCons g gs) (gsCons sg sgs) := ⟨fun d δ S => by
    cases d with
    | nil => exact .inr rfl
    | cons x r =>
      rcases h1.pure x δ S with ⟨δ1, e1⟩ | e1
      · rcases h2.pure r δ1 S with ⟨δ2, e2⟩ | e2
        · exact .inl ⟨δ2, fun S => by show DL.bnd _ _ S = _; unfold DL.bnd; rw [e1 S]; exact e2 S⟩
        · exact .inr (by show DL.bnd _ _ S = _; unfold DL.bnd; rw [e1 S]; exact e2)
      · exact .inr (by show DL.bnd _ _ S = _; unfold DL.bnd; rw [e1]), fun ρ H δ δ' σ d v Q er r e k => by
  cases d with
  | nil => have := e []; cases this
  | cons x t =>
    obtain ⟨y, ys, ey, r1, r2⟩ := r
    rcases h1.pure x δ [] with ⟨δ1, e1⟩ | e1
    · refine ⟨y, ys, ey, h1.run ρ H δ δ1 σ x y _ er r1 e1 fun σ1 er1 w1 => ?_⟩
      have e2 : ∀ S, sgs t δ1 S = .ok δ' S := fun S => by
        have := e S
        have h3 : DL.bnd (sg x δ) (fun δ' => sgs t δ') S = .ok δ' S := this
        unfold DL.bnd at h3
        rw [e1 S] at h3
        exact h3
      exact h2.run ρ H δ1 δ' σ1 t ys _ er1 r2 e2 fun σ2 er2 w2 => k σ2 er2 (w2.trans w1)
    · have h3 : DL.bnd (sg x δ) (fun δ' => sgs t δ') [] = .ok δ' [] := e []
      unfold DL.bnd at h3
      rw [e1] at h3
      cases h3⟩
theorem tg_tup {n : Nat} {gs : TGs} {sgs : SGs} (h : TgsOk K vs gs sgs) : TgOk K vs (gTup K n gs) (gTp n sgs) := ⟨fun d δ S => by
    cases d <;> try (exact .inr rfl)
    rename_i ds
    by_cases hl : ds.length = n
    · rcases h.pure ds δ S with ⟨δ1, e1⟩ | e1
      · exact .inl ⟨δ1, fun S => by show (if ds.length = n then sgs ds δ else stuck) S = _; rw [if_pos hl]; exact e1 S⟩
      · exact .inr (by show (if ds.length = n then sgs ds δ else stuck) S = _; rw [if_pos hl]; exact e1)
    · exact .inr (by show (if ds.length = n then sgs ds δ else stuck) S = _; rw [if_neg hl]; rfl), fun ρ H δ δ' σ d v Q er r e k => by
  cases d <;> try (have := e []; cases this; done)
  rename_i ds
  obtain ⟨a, xs, rfl, ea, ra⟩ := r
  by_cases hl : ds.length = n
  · refine ⟨a, xs, rfl, SqT.of ea, by rw [ra.length]; exact hl, h.run ρ H δ δ' σ ds xs Q er ra (fun S => ?_) k⟩
    have := e S
    have h3 : (if ds.length = n then sgs ds δ else stuck) S = .ok δ' S := this
    rw [if_pos hl] at h3
    exact h3
  · have h3 : (if ds.length = n then sgs ds δ else stuck) [] = .ok δ' [] := e []
    rw [if_neg hl] at h3
    cases h3⟩
end
/-! ### [elt for tg in it if test] -/
def lcL (l : Store → Prop) (g : SG) (p : ST) (elt : SE) (n : Nat) (δ : Env) : List D → List D → M D
  | [], acc => fun S => if l S ∧ S[n]? = some (.lst acc) then .ok (.loc n) S else .stuck
  | x :: r, acc => fun S => if l S then bnd (g x δ) (fun δ1 => bnd (p δ1) fun k => if k = true then bnd (elt δ1) fun y S4 =>
      if S4[n]? = some (.lst acc) ∧ acc.length < sizeLine then lcL l g p elt n δ r (acc ++ [y]) (S4.set n (.lst (acc ++ [y]))) else .stuck else lcL l g p elt n δ r acc) S else .stuck
def eLc (f : Env → M Src) (g : SG) (p : ST) (elt : SE) (vs : List Nat) : SE := fun δ => bnd (f δ) fun src S1 =>
  lcL src.live g (fun δ => noX (p δ)) (fun δ => noX (elt δ)) S1.length (wipeD δ vs) src.items [] (S1 ++ [.lst []])
def tTrue : ST := fun _ => ret true
section
variable {X : Cx} {cls : Nat → Addr} {E : XK} {e : Expr} {f : Env → M Src} {p : ST} {elt : SE} {vs : List Nat} {gr : TG} {sg : SG} {tt : TT}
/-- what stands in a comprehension's block raises nothing -/
abbrev EN : XK := fun _ _ _ => False
/-- a test list: none, or one -/
structure TtOk (K : PySem.W.Frag) (cls : Nat → Addr) (tt : TT) (p : ST) : Prop where
  run : ∀ σ H Q, TJT K cls EN p σ H Q → tt σ H Q
theorem tt_yes {K : PySem.W.Frag} : TtOk K cls tYes tTrue := ⟨fun σ H Q ⟨ρ, S, δ, er, m, fi⟩ => fi ρ H .refl m⟩
theorem tt_one {K : PySem.W.Frag} : TtOk K cls (TJT K cls EN p) p := ⟨fun σ H Q h => h⟩
theorem tj_lc {K : PySem.W.Frag} {σ : L2.St} {H : Hp} {Q : VK} (tg : TgOk K vs gr sg) (tk : TtOk K cls tt p) (hh : TJ K cls E (eLc f sg p elt vs) σ H Q) : tLc (TJI K cls E f) gr tt (TJ K cls EN elt) vs σ H Q := by
  obtain ⟨ρ, S, δ, er, m, fi⟩ := hh
  refine ⟨ρ, S, δ, er, m, Fin.imp (Fin.bnd fi) fun src ρ1 S1 H1 x1 m1 k1 => ?_⟩
  intro hl J jok Dd hD
  -- the new list
  have xD := ext_push (ρ := ρ1) (o := .lst []) hD
  have mD := m1.push (q := .lst []) hD ⟨[], upd_same, rfl⟩
  have nD : (ρ1 ++ [Dd])[S1.length]? = some Dd := by rw [← m1.len]; simp
  have er1 := (er.ext x1).ext xD
  have k1' := k1.ext xD
  generalize hn : S1.length = n at k1' nD
  refine ⟨fun i z H2 => z = src.items.length - i ∧ i ≤ src.items.length ∧ ∃ ρ2 S2 acc, Ext (ρ1 ++ [Dd]) (upd H1 Dd (.lst [])) ρ2 H2 ∧ Match K cls ρ2 S2 H2 ∧
      Fin K cls E ρ2 H2 (lcL src.live sg (fun δ => noX (p δ)) (fun δ => noX (elt δ)) n (wipeD δ vs) (src.items.drop i) acc S2) fun d ρ' _ H' => ∀ u, Rep K ρ' H' d u → Q u H',
    ⟨src.items.length, by simp, Nat.zero_le _, ρ1 ++ [Dd], S1 ++ [.lst []], [], .refl, mD, by rw [List.drop_zero]; exact k1'⟩, ?_⟩
  rintro i z H2 ⟨rfl, hi, ρ2, S2, acc, x2, m2, k2⟩
  have x02 := xD.trans x2
  by_cases hlt : i < src.items.length
  · rw [List.drop_eq_getElem_cons hlt] at k2
    unfold lcL at k2
    by_cases hlive : src.live S2
    · rw [if_pos hlive] at k2
      have hg := (jok i ρ2 S2 H2 x02 m2 hlive).1 _ (List.getElem?_eq_getElem hlt)
      refine .inr ⟨hg.1, fun H' => i + 1 ≤ src.items.length ∧ ∃ ρ2 S2 acc, Ext (ρ1 ++ [Dd]) (upd H1 Dd (.lst [])) ρ2 H' ∧ Match K cls ρ2 S2 H' ∧
          Fin K cls E ρ2 H' (lcL src.live sg (fun δ => noX (p δ)) (fun δ => noX (elt δ)) n (wipeD δ vs) (src.items.drop (i + 1)) acc S2) fun d ρ' _ H' => ∀ u, Rep K ρ' H' d u → Q u H',
        fun H' hN => ⟨src.items.length - (i + 1), by omega, rfl, hN.1, hN.2⟩, fun x H' hy => ?_⟩
      obtain ⟨x3, m3, rx⟩ := hg.2 x H' hy
      have er3 : ERep K ρ2 H' (wipeD δ vs) (wipe σ vs) := ((er1.ext x2).ext x3).wipe vs
      have k3 := Fin.bnd (k2.ext x3)
      rcases tg.pure src.items[i] (wipeD δ vs) S2 with ⟨δ1, e1⟩ | e1
      · rw [e1 S2] at k3
        have k4 := k3 ρ2 H' .refl m3
        refine tg.run ρ2 H' _ δ1 (wipe σ vs) _ x _ er3 rx e1 fun σ4 er4 w4 => ?_
        refine ⟨w4.trans (wipe_wipe σ vs), tk.run σ4 H' _ ⟨ρ2, S2, δ1, er4, m3, noX_fin (E' := EN) (Fin.imp (Fin.bnd k4) fun b ρ5 S5 H5 x5 m5 k5 => ?_)⟩⟩
        have xx5 := (x2.trans x3).trans x5
        cases b with
        | false =>
          rw [if_neg Bool.false_ne_true] at k5
          refine iteF ?_
          exact ⟨hlt, ρ5, S5, acc, xx5, m5, k5⟩
        | true =>
          rw [if_pos rfl] at k5
          refine iteT ?_
          refine ⟨ρ5, S5, δ1, er4.ext x5, m5, noX_fin (E' := EN) (Fin.imp (Fin.bnd k5) fun y ρ6 S6 H6 x6 m6 k6 v6 r6 => ?_)⟩
          have xx6 := xx5.trans x6
          split at k6
          · rename_i hc
            have aD := xx6.get nD
            obtain ⟨xs, e2, ra⟩ := m6.obj n Dd _ aD hc.1
            have rr : Reps K ρ6 H6 (acc ++ [y]) (xs ++ [v6]) := ra.append (.one r6)
            have mu : Mut (H6 Dd) := by rw [e2]; trivial
            have xw := ext_write (ρ := ρ6) (o := .lst (xs ++ [v6])) mu
            refine ⟨xs, e2, by rw [ra.length]; exact hc.2, hlt, ρ6, S6.set n (.lst (acc ++ [y])), acc ++ [y], xx6.trans xw, m6.write aD mu ⟨xs ++ [v6], upd_same, rr.ext xw⟩, k6.ext xw⟩
          · exact k6.elim
      · rw [e1] at k3
        exact k3.elim
    · rw [if_neg hlive] at k2
      exact k2.elim
  · rw [List.drop_eq_nil_of_le (by omega)] at k2
    unfold lcL at k2
    by_cases hlive : src.live S2 ∧ S2[n]? = some (.lst acc)
    · rw [if_pos hlive] at k2
      exact .inl ⟨(jok i ρ2 S2 H2 x02 m2 hlive.1).2 (List.getElem?_eq_none_iff.mpr (by omega)), k2 ρ2 H2 .refl m2 _ ⟨Dd, rfl, x2.get nD⟩⟩
    · rw [if_neg hlive] at k2
      exact k2.elim
theorem je_lc (tg : TgOk X.K vs gr sg) (tk : TtOk X.K cls tt p) (hp : PE X e (tLc (TJI X.K cls E f) gr tt (TJ X.K cls EN elt) vs)) : JE X cls E e (eLc f sg p elt vs) := PE.wk hp fun _ _ _ _ _ _ h => tj_lc tg tk h
theorem js_setLc {st : Stmt} {i : Nat} (tg : TgOk X.K vs gr sg) (tk : TtOk X.K cls tt p) (hp : PS X st (tAsg (tLc (TJI X.K cls E f) gr tt (TJ X.K cls EN elt) vs) (gName i))) : JS X cls E st (sAsg (eLc f sg p elt vs) (gN i)) := js_set hp fun _ _ _ _ _ _ h => tj_lc tg tk h
end
end
end DL
set_option Elab.async false
set_option linter.all false
set_option maxRecDepth 100000
/-! DL7: instances, methods of lists, slices, sorted, zip -/
namespace DL
open PySem PySem.Spec PyProof.Rows L2
open Classical
noncomputable section
/-! ### instances -/
def putFD (f : Str) (v : D) : List (Str × D) → List (Str × D)
  | [] => [(f, v)]
  | p :: r => if p.1 = f then (f, v) :: r else p :: putFD f v r
section
variable {K : PySem.W.Frag} {ρ : List Addr} {H : Hp}
theorem RepKV.look : ∀ {fs : List (Str × D)} {gs : List (Str × V)} {f : Str} {d : D}, RepKV K ρ H fs gs → fs.lookup f = some d → ∃ v, gs.lookup f = some v ∧ Rep K ρ H d v
  | [], _, f, d, _, h => by cases h
  | p :: r, _, f, d, ⟨v, ys, e, q, t⟩, h => by
    subst e
    obtain ⟨g, y⟩ := p
    rw [List.lookup_cons] at h ⊢
    by_cases hb : (f == g) = true
    · rw [hb] at h ⊢
      cases h
      exact ⟨v, rfl, q⟩
    · rw [Bool.not_eq_true] at hb
      rw [hb] at h
      simp only [hb]
      exact RepKV.look t h
theorem RepKV.put : ∀ {fs : List (Str × D)} {gs : List (Str × V)} (f : Str) {d : D} {v : V}, RepKV K ρ H fs gs → Rep K ρ H d v → RepKV K ρ H (putFD f d fs) (putF f v gs)
  | [], _, f, d, v, h, r => by rw [show _ = [] from h]; exact ⟨v, [], rfl, r, rfl⟩
  | p :: fs, _, f, d, v, ⟨w, ys, e, q, t⟩, r => by
    subst e
    unfold putFD
    by_cases hb : p.1 = f
    · rw [if_pos hb]
      exact ⟨v, ys, by show putF f v ((p.1, w) :: ys) = _; simp [putF, hb], r, t⟩
    · rw [if_neg hb]
      exact ⟨w, putF f v ys, by show putF f v ((p.1, w) :: ys) = _; simp [putF, hb], q, RepKV.put f t r⟩
end
def eFld (c : Nat) (n : Str) (f : SE) : SE := fun δ => bnd (f δ) fun x S => match x with
  | .loc k => match S[k]? with
    | some (.ins c' fs) => if c' = c then match fs.lookup n with
        | some d => .ok d S
        | none => .stuck
      else .stuck
    | _ => .stuck
  | _ => .stuck
section
variable {X : Cx} {cls : Nat → Addr} {E : XK} {a e : Expr} {f g : SE} {st : Stmt} {n : Str} {c : Nat} {t : SA}
theorem je_fld (C : Cls X.K (cls c)) (no : NoAttr X.K (cls c) n) (hp : PE X e (tFld X.K (TJ X.K cls E f) n)) : JE X cls E e (eFld c n f) := PE.wk hp fun pins s σ H Q I hh => by
  obtain ⟨ρ, S, δ, er, m, fi⟩ := hh
  refine ⟨ρ, S, δ, er, m, Fin.imp (Fin.bnd fi) fun x ρ1 S1 H1 x1 m1 k1 v1 r1 => ?_⟩
  cases x <;> try (exact False.elim k1)
  rename_i k
  obtain ⟨p, rfl, ea⟩ := r1
  obtain ⟨o, h, q⟩ := m1.there ea
  dsimp only at k1
  rw [h] at k1
  cases o <;> try (exact False.elim k1)
  rename_i c' fs
  dsimp only at k1
  by_cases hc : c' = c
  · rw [if_pos hc] at k1
    subst hc
    cases hl : fs.lookup n with
    | none => rw [hl] at k1; exact k1.elim
    | some d =>
      rw [hl] at k1
      obtain ⟨dx, gs, e1, rr⟩ := q
      obtain ⟨v, h1, h2⟩ := rr.look hl
      exact ⟨p, cls c', dx, gs, v, rfl, e1, C, no, h1, k1 ρ1 H1 .refl m1 v h2⟩
  · rw [if_neg hc] at k1
    exact k1.elim
def sFldD (c : Nat) (n : Str) (f g : SE) : SS := fun δ => bnd (g δ) fun y => bnd (f δ) fun x S => match x with
  | .loc k => match S[k]? with
    | some (.ins c' fs) => if c' = c ∧ fs.length < 1000 then .ok (.nx δ) (S.set k (.ins c (putFD n y fs))) else .stuck
    | _ => .stuck
  | _ => .stuck
theorem js_fld (C : Cls X.K (cls c)) (no : NoAttr X.K (cls c) n) (hp : PS X st (sFld X.K (TJ X.K cls E f) (TJ X.K cls E g) n)) : JS X cls E st (sFldD c n f g) := PS.wk hp fun pins s σ H Dn I hh => by
  obtain ⟨ρ, S, δ, er, m, fi⟩ := hh
  refine ⟨ρ, S, δ, er, m, Fin.imp (Fin.bnd fi) fun y ρ1 S1 H1 x1 m1 k1 v1 r1 => ?_⟩
  refine ⟨ρ1, S1, δ, er.ext x1, m1, Fin.imp (Fin.bnd k1) fun x ρ2 S2 H2 x2 m2 k2 v2 r2 => ?_⟩
  cases x <;> try (exact False.elim k2)
  rename_i k
  obtain ⟨p, rfl, ea⟩ := r2
  obtain ⟨o, h, q⟩ := m2.there ea
  dsimp only at k2
  rw [h] at k2
  cases o <;> try (exact False.elim k2)
  rename_i c' fs
  dsimp only at k2
  by_cases hc : c' = c ∧ fs.length < 1000
  · rw [if_pos hc] at k2
    obtain ⟨rfl, hl⟩ := hc
    obtain ⟨dx, gs, e1, rr⟩ := q
    have r1' := Rep.ext x2 _ _ r1
    have xw := ext_write (ρ := ρ2) (H := H2) (a := p) (o := .ins (cls c') dx (putF n v1 gs)) (by rw [e1]; trivial)
    have mw := m2.write (n := k) (q := .ins c' (putFD n y fs)) ea (by rw [e1]; trivial) ⟨dx, putF n v1 gs, upd_same, (RepKV.put n rr r1').ext xw⟩
    exact ⟨p, cls c', dx, gs, rfl, e1, C, no, by rw [rr.length]; exact hl, k2 ρ2 _ xw mw σ (((er.ext x1).ext x2).ext xw)⟩
  · rw [if_neg hc] at k2
    exact k2.elim
/-- C(..): a new instance, then its __init__ -/
def eMake (c : Nat) (F : OpN) (t : SA) : SE := fun δ => bnd (t δ) fun ds S => bnd (noX (F (.loc S.length :: ds))) (fun r => match r with
  | .non => ret (.loc S.length)
  | _ => stuck) (S ++ [.ins c []])
theorem je_make {n : Nat} {F : OpN} (hl : ∀ δ S ds S', t δ S = .ok ds S' → ds.length + 1 = n) (hp : PE X e (tMake (cls c) (spD X.K cls n F) [] E0 (TJA X.K cls E t))) : JE X cls E e (eMake c F t) := PE.wk hp fun pins s σ H Q I hh => by
  obtain ⟨ρ, S, δ, er, m, fi⟩ := hh
  refine ⟨ρ, S, δ, er, m, ?_⟩
  have fi := Fin.bnd fi
  cases ht : t δ S with
  | exc c w S' => rw [ht] at fi; exact fi
  | stuck => rw [ht] at fi; exact fi
  | ok ds S' =>
    rw [ht] at fi
    intro ρ1 H1 x1 m1 vs rv x dx hx hd hne
    have k1 := fi ρ1 H1 x1 m1
    have m2 := m1.new (o := .own x) hd
    have x2 := ext_new (ρ := ρ1) (o := .own x) hd
    have hx2 : upd H1 dx (.own x) x = none := by rw [upd_ne hne.symm]; exact hx
    have x3 := ext_push (ρ := ρ1) (o := .ins (cls c) dx []) hx2
    have m3 := m2.push (q := .ins c []) hx2 ⟨dx, [], upd_same, rfl⟩
    have k2 := (k1.ext x2).ext x3
    have aD : (ρ1 ++ [x])[S'.length]? = some x := by rw [← m1.len]; simp
    refine ⟨by rw [List.append_nil, List.length_cons, rv.length]; exact hl _ _ _ _ ht, ρ1 ++ [x], S' ++ [.ins c []], .loc S'.length :: ds, m3, ?_, noX_fin (E' := E0) (Fin.imp (Fin.bnd k2) fun d ρ4 S4 H4 x4 m4 k4 u ru => ?_)⟩
    · rw [List.append_nil]
      exact ⟨_, _, rfl, ⟨x, rfl, aD⟩, (rv.ext x2).ext x3⟩
    · cases d <;> try (exact False.elim k4)
      exact ⟨ru, k4 ρ4 H4 .refl m4 _ ⟨x, rfl, x4.get aD⟩⟩
end
/-! ### methods of lists -/
abbrev OpM := D → List D → M D
def mJ (K : PySem.W.Frag) (cls : Nat → Addr) (E : XK) (op : OpM) : V → List V → Hp → VK → Prop := fun x vs H Q => ∃ ρ S d ds, Match K cls ρ S H ∧ Rep K ρ H d x ∧ Reps K ρ H ds vs ∧ Fin K cls E ρ H (op d ds S) fun d ρ' _ H' => ∀ u, Rep K ρ' H' d u → Q u H'
def isLst : D → M Unit := fun x S => match x with
  | .loc n => match S[n]? with
    | some (.lst _) => .ok () S
    | _ => .stuck
  | .rol _ => .ok () S
  | _ => .stuck
def eMth (op : OpM) (f : SE) (t : SA) : SE := fun δ => bnd (f δ) fun x => bnd (isLst x) fun _ => bnd (t δ) fun ds => op x ds
section
variable {X : Cx} {cls : Nat → Addr} {E : XK} {a e : Expr} {f g : SE} {t : SA}
theorem MtR.wk {id : String} {r r' : V → List V → Hp → VK → Prop} (ho : MtR X id r) (w : ∀ pins s σ H x xs Q, Inv X pins σ H s → r' x xs H Q → r x xs H Q) : MtR X id r' := fun pins s σ H x xs v us Q I rx rv hr => ho pins s σ H x xs v us Q I rx rv (w pins s σ H x xs Q I hr)
theorem isLst_ok {K : PySem.W.Frag} {ρ : List Addr} {S : Store} {H : Hp} {x : D} {v : V} {α : Type} {k : M α} {Z : α → List Addr → Store → Hp → Prop} (m : Match K cls ρ S H) (r : Rep K ρ H x v) (fi : Fin K cls E ρ H (bnd (isLst x) (fun _ => k) S) Z) : tyV K "list" v H ∧ Fin K cls E ρ H (k S) Z := by
  cases x <;> try (exact False.elim fi)
  · rename_i n
    obtain ⟨a, rfl, ea⟩ := r
    obtain ⟨o, h, q⟩ := m.there ea
    have e : isLst (.loc n) S = (match (some o : Option MO) with | some (.lst _) => .ok () S | _ => .stuck) := by show (match S[n]? with | some (.lst _) => _ | _ => _) = _; rw [h]
    unfold bnd at fi
    rw [e] at fi
    cases o <;> try (exact False.elim fi)
    obtain ⟨xs, e1, ra⟩ := q
    exact ⟨.inl ⟨rfl, xs, SqL.of e1⟩, fi⟩
  · obtain ⟨a, xs, rfl, ea, ra⟩ := r
    exact ⟨.inl ⟨rfl, xs, ea.seq⟩, fi⟩
theorem je_mth {op : OpM} (hp : PE X e (tBM X.K "list" (mJ X.K cls E op) (TJ X.K cls E f) (TJA X.K cls E t))) : JE X cls E e (eMth op f t) := PE.wk hp fun pins s σ H Q I hh => by
  obtain ⟨ρ, S, δ, er, m, fi⟩ := hh
  refine ⟨ρ, S, δ, er, m, Fin.imp (Fin.bnd fi) fun x ρ1 S1 H1 x1 m1 k1 v1 r1 => ?_⟩
  obtain ⟨h1, k2⟩ := isLst_ok m1 r1 k1
  refine ⟨h1, ρ1, S1, δ, er.ext x1, m1, Fin.imp (Fin.bnd k2) fun ds ρ2 S2 H2 x2 m2 k3 vs r2 => ?_⟩
  exact ⟨ρ2, S2, x, ds, m2, Rep.ext x2 _ _ r1, r2, k3⟩
/-- with a list of the store -/
def onLst (g : Nat → List D → List D → M D) : OpM := fun x as S => match x with
  | .loc n => match S[n]? with
    | some (.lst ds) => g n ds as S
    | _ => .stuck
  | _ => .stuck
theorem onLst_at {K : PySem.W.Frag} {g : Nat → List D → List D → M D} {ρ : List Addr} {S : Store} {H : Hp} {x : D} {as : List D} {v : V} {Z : D → List Addr → Store → Hp → Prop} (m : Match K cls ρ S H) (r : Rep K ρ H x v) (fi : Fin K cls E ρ H (onLst g x as S) Z) :
    ∃ n a ds xs, v = .ref a ∧ ρ[n]? = some a ∧ S[n]? = some (.lst ds) ∧ H a = some (.lst xs) ∧ Reps K ρ H ds xs ∧ Fin K cls E ρ H (g n ds as S) Z := by
  cases x <;> try (exact False.elim fi)
  rename_i n
  obtain ⟨a, rfl, ea⟩ := r
  obtain ⟨o, h, q⟩ := m.there ea
  unfold onLst at fi
  dsimp only at fi
  rw [h] at fi
  cases o <;> try (exact False.elim fi)
  obtain ⟨xs, e1, ra⟩ := q
  exact ⟨n, a, _, xs, rfl, ea, h, e1, ra, fi⟩
def dAppend : OpM := onLst fun n ds as S => match as with
  | [y] => if ds.length < sizeLine then .ok .non (S.set n (.lst (ds ++ [y]))) else .stuck
  | _ => .stuck
theorem mj_append : MtR X "list.append" (mJ X.K cls E dAppend) := MtR.wk mt_append fun pins s σ H x vs Q I hh => by
  obtain ⟨ρ, S, d, as, m, r1, r2, k⟩ := hh
  obtain ⟨n, a, ds, xs, rfl, ea, hS, e1, ra, k⟩ := onLst_at m r1 k
  match as, r2, k with
  | [], _, k => exact k.elim
  | [y], ⟨v, ys, e, q, t⟩, k =>
    rw [show ys = [] from t] at e
    dsimp only at k
    by_cases hl : ds.length < sizeLine
    · rw [if_pos hl] at k
      exact ⟨a, xs, v, rfl, e, e1, by rw [ra.length]; exact hl, wr_lst m ea e1 (ra.append (.one q)) k _ rfl⟩
    · rw [if_neg hl] at k
      exact k.elim
  | _ :: _ :: _, _, k => exact k.elim
/-- l.index(x): the first place of an equal one, which must be there -/
def dIndex : OpM := fun x as S => match as with
  | [y] => match toPy S x, toPy S y with
    | some (.list ps), some p => if SeqAt.shaped (.list ps) = true ∧ SeqAt.shaped p = true ∧ (ps.any fun z => PyData.eqv z p) = true then .ok (.int (ps.findIdx fun z => PyData.eqv z p : Nat)) S else .stuck
    | _, _ => .stuck
  | _ => .stuck
theorem mj_index (hu : X.A.units + 65 < cLine) : MtR X "list.index" (mJ X.K cls E dIndex) := MtR.wk (mt_indexD hu) fun pins s σ H x vs Q I hh => by
  obtain ⟨ρ, S, d, as, m, r1, r2, k⟩ := hh
  match as, r2, k with
  | [], _, k => exact k.elim
  | [y], ⟨v, ys, e, q, t⟩, k =>
    rw [show ys = [] from t] at e
    unfold dIndex at k
    dsimp only at k
    cases h1 : toPy S d with
    | none => rw [h1] at k; exact k.elim
    | some pl =>
      rw [h1] at k
      cases pl <;> try (exact False.elim k)
      rename_i ps
      cases h2 : toPy S y with
      | none => rw [h2] at k; exact k.elim
      | some p =>
        rw [h2] at k
        dsimp only at k
        by_cases hs : SeqAt.shaped (.list ps) = true ∧ SeqAt.shaped p = true ∧ (ps.any fun z => PyData.eqv z p) = true
        · rw [if_pos hs] at k
          have dl := dp_of m h1 r1
          obtain ⟨a, rfl⟩ : ∃ a, x = .ref a := by cases dl; exact ⟨_, rfl⟩
          have hlt : (ps.findIdx fun z => PyData.eqv z p) < ps.length := List.findIdx_lt_length_of_exists (by
            obtain ⟨z, hz, ez⟩ := List.any_eq_true.mp hs.2.2
            exact ⟨z, hz, ez⟩)
          refine ⟨a, v, p, ps, ps.findIdx fun z => PyData.eqv z p, ps[ps.findIdx fun z => PyData.eqv z p], rfl, e, dl, dp_of m h2 q, hs.1, hs.2.1, List.getElem?_eq_getElem hlt, List.findIdx_getElem (w := hlt), fun j z' hj hz => ?_, k ρ H .refl m _ rfl⟩
          obtain ⟨hj', ez⟩ := List.getElem?_eq_some_iff.mp hz
          have := List.not_of_lt_findIdx (p := fun z => PyData.eqv z p) hj
          rw [← ez]
          simpa using this
        · rw [if_neg hs] at k
          exact k.elim
  | _ :: _ :: _, _, k => exact k.elim
end
end
end DL
set_option Elab.async false
set_option linter.all false
set_option maxRecDepth 100000
/-! DL8: enumerate, zip, slices, sorted, dicts, keywords -/
namespace DL
open PySem PySem.Spec PyProof.Rows L2
open Classical
/-! ### enumerate of a tuple -/
theorem meets_enum_newT (l : Addr) (items : Array Value) (n : Nat) (dct : Option Addr) (sl : Array (Option Value)) :
    Meets (Builtin.«enumerate.__new__» ⟨[.type "enumerate", .ref l], []⟩) (fun _ R s => s.heap.get? l = some { cls := .type "tuple", dict := dct, data := .seq items n, slots := sl } ∧
      R (.ok (.ret (.ref (s.heap.push { cls := .type "tuple_iterator", data := .fields #[.ref l, .int 0 0] }).objs.size)))
        { s with heap := (s.heap.push { cls := .type "tuple_iterator", data := .fields #[.ref l, .int 0 0] }).push { cls := .type "enumerate", data := .fields #[.none, .bool false, .ref s.heap.objs.size, rawInt 0, .none, .none] } }) :=
  .of_wp fun prog w A R s h => by
    obtain ⟨hp, g, d, tk, os⟩ := s; obtain ⟨hl, h⟩ := h
    have hsub := sub_enumerate
    have hL : Heap.IsTuple (Shared.heap ⟨hp, g, d, tk, os⟩) l items := ⟨_, hl, rfl, n, rfl⟩
    wp_walk using AutoSeq1.wpAny_loadPart' hl
    refine wpAny_stack_any fun st => wpAny_pure ?_
    split
    · rename_i c _ _ _ _ _
      cases (c == Value.type "enumerate")
      · wp_walk using AutoSeq1.wpAny_loadPart' hl, wpAny_pyIter_tuple hL
        exact ⟨_, rfl, h⟩
      · wp_walk using AutoSeq1.wpAny_loadPart' hl, wpAny_pyIter_tuple hL
        exact ⟨_, rfl, h⟩
    · wp_walk using AutoSeq1.wpAny_loadPart' hl, wpAny_pyIter_tuple hL
      exact ⟨_, rfl, h⟩
theorem call_enum_tuple {prog : Program} {w : World} {A : Around} {E : Value → Shared → Prop} {s : Shared} {l : Addr} {items : Array Value} {Q : Value → Shared → Prop} (hL : s.heap.IsTuple l items)
    (h : ∀ h', IsEnum h' (s.heap.objs.size + 1) s.heap.objs.size 0 .none → h'.IsTupleIter s.heap.objs.size l 0 → h'.objs.size = s.heap.objs.size + 2 →
      (∀ b o, s.heap.get? b = some o → h'.get? b = some o) → Q (.ref (s.heap.objs.size + 1)) { s with heap := h' }) :
    wpAny (model prog w) A (call (.type "enumerate") [.ref l]) Q E s := by
  obtain ⟨⟨c, dct, dt, sl⟩, hl, hc, n, hd⟩ := hL
  replace hc : c = .type "tuple" := hc
  replace hd : dt = .seq items n := hd
  subst hc hd
  refine callType_new F.called_enumerate (by decide) (F.typeCall_enumerate_1 _) (F.newCall_enumerate_1 _) (fun obj => F.args_object_init_2 obj _) F.entry_enumerate_new
    (meets_enum_newT l items n dct sl) ⟨hl, ?_⟩
  have hz : (s.heap.push { cls := .type "tuple_iterator", data := .fields #[.ref l, .int 0 0] }).objs.size = s.heap.objs.size + 1 := Heap.size_push ..
  show _ ∧ _
  rw [hz]
  have he : IsEnum ((s.heap.push { cls := .type "tuple_iterator", data := .fields #[.ref l, .int 0 0] }).push
      { cls := .type "enumerate", data := .fields #[.none, .bool false, .ref s.heap.objs.size, rawInt 0, .none, .none] }) (s.heap.objs.size + 1) s.heap.objs.size 0 .none := by
    have := Heap.get?_push_size (s.heap.push { cls := .type "tuple_iterator", data := .fields #[.ref l, .int 0 0] })
      (o := { cls := .type "enumerate", data := .fields #[.none, .bool false, .ref s.heap.objs.size, rawInt 0, .none, .none] }) rfl
    rw [hz] at this; exact this
  refine ⟨⟨_, he, rfl⟩, h _ he ⟨_, Heap.get?_push_of_some _ (Heap.get?_push_size _ rfl), rfl, rfl⟩ (by rw [Heap.size_push, hz]) fun b o x => Heap.get?_push_of_some _ (Heap.get?_push_of_some _ x)⟩
/-- the tuple at a as it stands, each item with its index in a new pair -/
def IteT (K : PySem.W.Frag) (a : Addr) : It :=
  ⟨fun i H => ∃ xs x, SqT K H a xs ∧ xs[i]? = some x,
    fun i H v H' => ∃ T x, v = V.ref T ∧ H T = none ∧ H' = upd H T (HO.tup [V.int (i : Nat), x]) ∧ ∀ (xs : List V), SqT K H a xs → xs[i]? = some x,
    fun i H => ∃ xs, SqT K H a xs ∧ xs.length ≤ i⟩
theorem turn_enumT {P : Program} {w : World} {K : PySem.W.Frag} {elts : List Expr} {kk : Nat} {tpos : Pos} (a e it : Addr) :
    Turn P w K (.Tuple elts kk tpos) (IteT K a) [e, it] e (fun i h => (∃ old, IsEnum h e it ((i : Nat) : Int) old) ∧ h.IsTupleIter it a i ∧ e ≠ it) where
  mem := by simp
  obj := fun i h st b hb => by
    obtain ⟨⟨old, he⟩, ⟨o, ho, hc, hd⟩, _⟩ := st
    have e' : b = e ∨ b = it := by simpa using hb
    rcases e' with z | z
    · rw [z]; exact ⟨_, he, fun v q => nomatch q⟩
    · rw [z]; exact ⟨o, ho, fun v q => by rw [hd] at q; cases q⟩
  keep := fun i h h' st k => let ⟨⟨old, he⟩, hi, hne⟩ := st; ⟨⟨old, k e (by simp) _ he⟩, hi.at fun o q => k it (by simp) o q, hne⟩
  item := by
    intro X hP hw hK hc i pins s σ H E I hf st hg
    subst hP hw hK
    obtain ⟨⟨old, he⟩, hit, hne⟩ := st
    obtain ⟨xs, x, hq, hx⟩ := hg
    obtain ⟨its, rv, p, hz⟩ := I.tuple hq
    obtain ⟨u, hu, ru⟩ := rv.get hx
    have hel : e < s.heap.objs.size := Heap.lt_size he
    have hil : it < s.heap.objs.size := by obtain ⟨_, q, _⟩ := hit; exact Heap.lt_size q
    have hTa : s.heap.IsTuple a its.toArray := p
    have hae : a ≠ e := fun z => by
      obtain ⟨o, ho, hcl, _⟩ := hTa
      rw [z, he] at ho; cases ho; exact absurd (Value.type.inj hcl) (by decide)
    have hai : a ≠ it := fun z => by
      obtain ⟨o, ho, hcl, _⟩ := hTa
      obtain ⟨o', ho', hcl', _⟩ := hit
      rw [z, ho'] at ho; cases ho
      rw [hcl'] at hcl; exact absurd (Value.type.inj hcl) (by decide)
    have D := Draws.tuple (prog := X.prog) (w := X.w) (A := X.A.in1) (show X.A.in1.handled = none from I.ok.hd hc) it a hai its.toArray
    have hlt : i < its.toArray.size := by
      have := (List.getElem?_eq_some_iff.mp hu).1
      simpa using this
    refine wpAny_pyNext_enum_itemC D he ⟨hit, hTa⟩ hlt hne (by simp [hne, Ne.symm hae]) fun y h' tk hP ho hst' hT hsz hk => ?_
    have ey : y = u := by
      have h1 : its.toArray[i]? = some y := hP
      have h2 : its.toArray[i]? = some u := by simpa using hu
      rw [h2] at h1; cases h1; rfl
    subst ey
    refine ⟨_, rfl, wpAny_letOwnedTupleGo_enum (s := { s with heap := h', toks := tk + 1 }) ho fun h'' he' sb => ?_⟩
    have hT2 : h''.get? s.heap.objs.size = some { cls := .type "tuple", data := .seq #[.int i tk, y] } := (sb.2 _ (Nat.ne_of_gt hel)).trans hT
    have new : ObjOk X.prog X.w (upd H s.heap.objs.size (.tup [.int (i : Nat), x])) h'' s.heap.objs.size (.tup [.int (i : Nat), x]) :=
      ⟨by show 2 ≤ sizeLine; decide, [.int i tk, y], .cons ⟨_, rfl⟩ (.cons ru .nil), ⟨_, hT2, rfl, _, rfl⟩⟩
    have I1 : Inv X pins σ (upd H s.heap.objs.size (.tup [.int (i : Nat), x])) { s with heap := h'', toks := tk + 1 } :=
      I.turnedNew (ch := [e, it]) (fun b ob hb q => (sb.2 b (fun z => hb (by simp [z]))).trans (hk b ob (fun z => hb (by simp [z])) (fun z => hb (by simp [z])) q)) hf (Nat.le_refl _) new
    refine ⟨.ref s.heap.objs.size, _, I1, rfl, ⟨_, x, rfl, I.hok.fresh (Nat.le_refl _), rfl, fun ys hy => by rw [I.tuple_inj hy hq]; exact hx⟩, ⟨⟨y, ?_⟩, hst'.1.at fun o q => (sb.2 it (Ne.symm hne)).trans q, hne⟩, fun b hb => ?_⟩
    · have e1 : ((i + 1 : Nat) : Int) = (i : Int) + 1 := by omega
      rw [e1]; exact he'
    · have hb' : b < s.heap.objs.size := by
        have e' : b = e ∨ b = it := by simpa using hb
        rcases e' with z | z
        · rw [z]; exact hel
        · rw [z]; exact hil
      rw [upd_ne (Nat.ne_of_lt hb')]
      exact (hf b hb).1
  done := by
    intro X hP hw hK hc i pins s σ H E I hf st hg
    subst hP hw hK
    obtain ⟨⟨old, he⟩, hit, hne⟩ := st
    obtain ⟨xs, hq, hx⟩ := hg
    obtain ⟨its, rv, p, hz⟩ := I.tuple hq
    have hTa : s.heap.IsTuple a its.toArray := p
    have hai : a ≠ it := fun z => by
      obtain ⟨o, ho, hcl, _⟩ := hTa
      obtain ⟨o', ho', hcl', _⟩ := hit
      rw [z, ho'] at ho; cases ho
      rw [hcl'] at hcl; exact absurd (Value.type.inj hcl) (by decide)
    obtain ⟨f0, f1, f2, f3, f4, f5⟩ := hf it (by simp)
    have hl := rv.length
    have hend : its.toArray[i]? = none := by simp; omega
    unfold pyNext
    have hT : s.TypeIs (.ref e) "enumerate" := ⟨_, he, rfl⟩
    refine wpAny_bind (wpAny_attempt (wpAny_callSpecial?_slot (name := Str.ofString "__next__") hT F.slot_enumerate_next
      (wpAny_call_entry F.slot_enumerate_next hT F.entry_enumerate_next ?_ (F.args_enumerate_next_1 _))))
    show wpAny _ _ (field (.ref e) 2 >>= _) _ _ _
    refine wpAny_bind (wpAny_field he rfl (x := .ref it) rfl ?_)
    refine wpAny_bind (wpAny_nextOf_tuple_end (show X.A.in1.handled = none from I.ok.hd hc) hit hTa hend fun h' x he' hx' => ?_)
    obtain ⟨o, ho, hcl⟩ := hx'
    refine wpAny_bind (wpAny_isInstance (T := "StopIteration") (b := true) ⟨o, ho, hcl⟩ isSubtype_stop ?_)
    exact wpAny_pure ⟨rfl, I.turned (t' := s.toks) (fun b o hb q => he' b o hb q) f0 f1 f3 f4 f5⟩
  self := fun A i s Q E st h => let ⟨⟨_, he⟩, _⟩ := st; wpAny_pyIter_enum he h
def iEnumA (K : PySem.W.Frag) (ta : TA) : TI := fun σ H R => ta σ H fun vs H1 => ∃ a xs, vs = [V.ref a] ∧ SqT K H1 a xs ∧ R (IteT K a) H1
theorem pi_enumT {X : Cx} {e : Expr} {ta : TA} {p pos tpos : Pos} {elts : List Expr} {kk : Nat} (hg : Gl X "enumerate") (hm : X.mg "enumerate" = none) (ha : PA X [e] ta) (hs : starEach [e] X.env = [(false, eval e X.env)] := by rfl) :
    PI X (.Tuple elts kk tpos) (.Call (.Name "enumerate" p) [e] [] pos) (iEnumA X.K ta) := by
  refine ⟨fun pins s σ H R I h => ?_⟩
  refine Call_ (ld_blt I hg hm boot_enumerate (PyProof.Rows.callWith_type1 (thn (ha.run pos pins s σ H _ I h) fun us s1 ⟨vs, H1, I1, r1, q1⟩ => ?_) hs rfl))
  obtain ⟨a, xs, ex, hq, q⟩ := q1
  subst ex
  cases r1 with
  | cons r rr =>
    cases rr
    cases r
    obtain ⟨its, rv, p', hz⟩ := I1.tuple hq
    refine call_enum_tuple (show s1.heap.IsTuple a its.toArray from p') fun h' he hit hsz hk => wpAny_pyIter_enum he ?_
    have I2 : Inv X pins σ H1 { s1 with heap := h' } := I1.kept (t' := s1.toks) hk
    refine ⟨s1.heap.objs.size + 1, [s1.heap.objs.size + 1, s1.heap.objs.size], _, _, H1, rfl, I2, turn_enumT a (s1.heap.objs.size + 1) s1.heap.objs.size, ⟨⟨.none, he⟩, hit, Nat.succ_ne_self _⟩, fun b hb => ?_, q⟩
    have e' : b = s1.heap.objs.size + 1 ∨ b = s1.heap.objs.size := by simpa using hb
    have hle : s1.heap.objs.size ≤ b := by
      rcases e' with z | z
      · rw [z]; exact Nat.le_add_right _ _
      · rw [z]; exact Nat.le_refl _
    exact I1.fpOk hle (I1.hok.fresh hle)
end DL
set_option Elab.async false
set_option linter.all false
set_option maxRecDepth 100000
/-! DL9: what is walked, slices, sorted, dicts, keywords -/
namespace DL
open PySem PySem.Spec PyProof.Rows L2
open Classical
noncomputable section
section
variable {X : Cx} {cls : Nat → Addr} {E : XK} {tg e it : Expr} {f g : SE} {st : Stmt}
theorem je_int {i : Int} {j : Nat} {pos : Pos} : JE X cls E (.Constant (.int i) j pos) (eC (.int i)) := je_c pe_int fun _ _ => rfl
theorem je_bl {b : Bool} {j : Nat} {pos : Pos} : JE X cls E (.Constant (.bool b) j pos) (eC (.bl b)) := je_c pe_bl fun _ _ => rfl
theorem je_non {j : Nat} {pos : Pos} : JE X cls E (.Constant .none j pos) (eC .non) := je_c pe_non fun _ _ => rfl
theorem _root_.L2.Room.u65 {k : Nat} {A : Around} (r : Room k A) : A.units + 65 < cLine := by have := r.un; omega
theorem _root_.L2.Room.u66 {k : Nat} {A : Around} (r : Room k A) : A.units + 66 < cLine := by have := r.un; omega
theorem gnm (i : Nat) {x : Str} {pos : Pos} (hN : X.N.Nodup) (hi : X.N[i]? = some x := by rfl) (hx : Loc X.env.scope x := by first | exact Or.inl rfl | exact Or.inr rfl)
    (hf : X.fn x = true ∨ X.env.scope.names.lookup x = some .local := by first | exact .inl rfl | exact .inr rfl) : PG X (.Name x pos) (gName i) := pg_name hN hi hx hf
theorem pset (i : Nat) {x : Str} {t : TE} {pos pos' : Pos} (hN : X.N.Nodup) (he : PE X e t) (hi : X.N[i]? = some x := by rfl) (hx : Loc X.env.scope x := by first | exact Or.inl rfl | exact Or.inr rfl)
    (hs : swapsWith e (some (.Name x pos')) pos.line X.env = pure false := by rfl) (hf : X.fn x = true ∨ X.env.scope.names.lookup x = some .local := by first | exact .inl rfl | exact .inr rfl) :
    PS X (.Assign [.Name x pos'] e pos) (tAsg t (gName i)) := ps_set hN hi hx he hs hf
/-! calls of defs -/
def eFn (F : OpN) (t : SA) : SE := fun δ => bnd (t δ) fun ds => noX (F ds)
def ALen (t : SA) (n : Nat) : Prop := ∀ δ S ds S', t δ S = .ok ds S' → ds.length = n
theorem al_nil : ALen aNil 0 := fun δ S ds S' h => by injection h with h _; rw [← h]; rfl
theorem al_cons {f : SE} {t : SA} {n : Nat} (h : ALen t n) : ALen (aCons f t) (n + 1) := fun δ S ds S' e => by
  have e' : bnd (f δ) (fun x => bnd (t δ) fun xs => ret (x :: xs)) S = .ok ds S' := e
  unfold bnd at e'
  cases hf : f δ S with
  | exc _ _ _ => rw [hf] at e'; cases e'
  | stuck => rw [hf] at e'; cases e'
  | ok x S1 =>
    rw [hf] at e'
    dsimp only at e'
    cases ht : t δ S1 with
    | exc _ _ _ => rw [ht] at e'; cases e'
    | stuck => rw [ht] at e'; cases e'
    | ok xs S2 =>
      rw [ht] at e'
      injection e' with e1 _
      rw [← e1, List.length_cons, h δ S1 xs S2 ht]
theorem je_fnc {t : SA} {F : OpN} {n : Nat} (hl : ALen t n) (hp : PE X e (tCall (spD X.K cls n F) [] E0 (TJA X.K cls E t))) : JE X cls E e (eFn F t) := je_fn hl hp
theorem al_make {t : SA} {n : Nat} (h : ALen t n) : ∀ δ S ds S', t δ S = .ok ds S' → ds.length + 1 = n + 1 := fun δ S ds S' e => by rw [h δ S ds S' e]
/-! walks -/
theorem PI.or {t t' : TI} (h : PI X tg it t) (h' : PI X tg it t') : PI X tg it (fun σ H R => t σ H R ∨ t' σ H R) := ⟨fun pins s σ H R I q => q.elim (h.run pins s σ H R I) (h'.run pins s σ H R I)⟩
theorem ji_seq (he : JE X cls E e f) : JI X cls E tg e (iSeq f) := PI.wk (PI.or (pi_tup he) (pi_list he)) fun σ H R hh => by
  obtain ⟨ρ, S, δ, er, m, fi⟩ := hh
  unfold iSeq at fi
  have fi := Fin.bnd fi
  cases hf : f δ S with
  | stuck => rw [hf] at fi; exact fi.elim
  | exc c w S' => exact .inl ⟨ρ, S, δ, er, m, by rw [hf] at fi ⊢; exact fi⟩
  | ok x S' =>
    cases x with
    | tup ds =>
      refine .inl ⟨ρ, S, δ, er, m, ?_⟩
      rw [hf] at fi ⊢
      exact fun ρ1 H1 x1 m1 v1 r1 => by
        have k1 := fi ρ1 H1 x1 m1
        obtain ⟨a, xs, rfl, ea, ra⟩ := r1
        exact ⟨a, rfl, ⟨xs, SqT.of ea⟩, k1 ρ1 H1 .refl m1 True.intro _ (it_tup ea ra)⟩
    | loc n =>
      refine .inr ⟨ρ, S, δ, er, m, ?_⟩
      rw [hf] at fi ⊢
      exact fun ρ1 H1 x1 m1 v1 r1 => by
        have k1 := fi ρ1 H1 x1 m1
        obtain ⟨a, rfl, ea⟩ := r1
        obtain ⟨o, h, q⟩ := m1.there ea
        dsimp only [srcOf] at k1
        rw [h] at k1
        cases o <;> try (exact False.elim k1)
        obtain ⟨xs, e1, ra⟩ := q
        exact ⟨a, rfl, ⟨xs, SqL.of e1⟩, k1 ρ1 H1 .refl m1 h _ (it_lst ea)⟩
    | rol ds =>
      refine .inr ⟨ρ, S, δ, er, m, ?_⟩
      rw [hf] at fi ⊢
      exact fun ρ1 H1 x1 m1 v1 r1 => by
        have k1 := fi ρ1 H1 x1 m1
        obtain ⟨a, xs, rfl, ea, ra⟩ := r1
        exact ⟨a, rfl, ⟨xs, ea.seq⟩, k1 ρ1 H1 .refl m1 True.intro _ (it_rol ea ra)⟩
    | non => exact .inl ⟨ρ, S, δ, er, m, by rw [hf] at fi ⊢; exact fun ρ1 H1 x1 m1 v1 r1 => (fi ρ1 H1 x1 m1).elim⟩
    | bl _ => exact .inl ⟨ρ, S, δ, er, m, by rw [hf] at fi ⊢; exact fun ρ1 H1 x1 m1 v1 r1 => (fi ρ1 H1 x1 m1).elim⟩
    | int _ => exact .inl ⟨ρ, S, δ, er, m, by rw [hf] at fi ⊢; exact fun ρ1 H1 x1 m1 v1 r1 => (fi ρ1 H1 x1 m1).elim⟩
    | str _ => exact .inl ⟨ρ, S, δ, er, m, by rw [hf] at fi ⊢; exact fun ρ1 H1 x1 m1 v1 r1 => (fi ρ1 H1 x1 m1).elim⟩
    | ty _ => exact .inl ⟨ρ, S, δ, er, m, by rw [hf] at fi ⊢; exact fun ρ1 H1 x1 m1 v1 r1 => (fi ρ1 H1 x1 m1).elim⟩
    | fn _ => exact .inl ⟨ρ, S, δ, er, m, by rw [hf] at fi ⊢; exact fun ρ1 H1 x1 m1 v1 r1 => (fi ρ1 H1 x1 m1).elim⟩
/-- the items with their numbers -/
def enumD (i : Nat) : List D → List D
  | [] => []
  | d :: r => .tup [.int (i : Nat), d] :: enumD (i + 1) r
theorem enumD_get : ∀ (ds : List D) (j i : Nat), (enumD j ds)[i]? = (ds[i]?).map fun d => .tup [.int ((j + i : Nat)), d]
  | [], j, i => by simp [enumD]
  | d :: r, j, 0 => by simp [enumD]
  | d :: r, j, i + 1 => by
    show (enumD (j + 1) r)[i]? = _
    rw [enumD_get r (j + 1) i, List.getElem?_cons_succ, show j + 1 + i = j + (i + 1) by omega]
def iEnumD (f : SE) : Env → M Src := fun δ => bnd (f δ) fun x => bnd (srcOf x) fun s => ret ⟨enumD 0 s.items, s.live⟩
/-- a new pair -/
theorem new_pair {K : PySem.W.Frag} {ρ : List Addr} {S : Store} {H : Hp} {d1 d2 : D} {v1 v2 : V} (m : Match K cls ρ S H) (r1 : Rep K ρ H d1 v1) (r2 : Rep K ρ H d2 v2) {T : Addr} (hT : H T = none) :
    Ext ρ H ρ (upd H T (.tup [v1, v2])) ∧ Match K cls ρ S (upd H T (.tup [v1, v2])) ∧ Rep K ρ (upd H T (.tup [v1, v2])) (.tup [d1, d2]) (.ref T) :=
  ⟨ext_new hT, m.new hT, T, _, rfl, upd_same, _, _, rfl, Rep.ext (ext_new hT) _ _ r1, _, _, rfl, Rep.ext (ext_new hT) _ _ r2, rfl⟩
theorem it_enumT {K : PySem.W.Frag} {ρ0 : List Addr} {H0 : Hp} {a : Addr} {xs : List V} {ds : List D} {l : Store → Prop} (ea : H0 a = some (.tup xs)) (r : Reps K ρ0 H0 ds xs) : ItOk K cls ρ0 H0 (IteT K a) ⟨enumD 0 ds, l⟩ := fun i ρ S H x m _ => by
  have eb := SqT.of (K := K) (x.tups a xs ea)
  refine ⟨fun d hd => ?_, fun hn => ?_⟩
  · rw [enumD_get] at hd
    cases hdi : ds[i]? with
    | none => rw [hdi] at hd; cases hd
    | some d0 =>
      rw [hdi] at hd
      cases hd
      obtain ⟨v, h1, h2⟩ := r.get hdi
      refine ⟨⟨xs, v, eb, h1⟩, fun y H' hy => ?_⟩
      obtain ⟨T, z, rfl, hT, rfl, hz⟩ := hy
      have h3 := hz xs eb
      rw [h1] at h3; cases h3
      have := new_pair (d1 := .int (i : Nat)) (v1 := .int (i : Nat)) m rfl (Rep.ext x _ _ h2) hT
      simpa using this
  · rw [enumD_get] at hn
    refine ⟨xs, eb, ?_⟩
    rw [r.length]
    cases hdi : ds[i]? with
    | none => exact List.getElem?_eq_none_iff.mp hdi
    | some d0 => rw [hdi] at hn; cases hn
theorem it_enumL {K : PySem.W.Frag} {ρ0 : List Addr} {H0 : Hp} {n : Nat} {a : Addr} {ds : List D} (ea : ρ0[n]? = some a) : ItOk K cls ρ0 H0 (Ite K a) ⟨enumD 0 ds, fun S => S[n]? = some (.lst ds)⟩ := fun i ρ S H x m hl => by
  have e1 := x.get ea
  obtain ⟨xs, e2, r⟩ := m.obj n a _ e1 hl
  have eb := SqL.of (K := K) e2
  refine ⟨fun d hd => ?_, fun hn => ?_⟩
  · rw [enumD_get] at hd
    cases hdi : ds[i]? with
    | none => rw [hdi] at hd; cases hd
    | some d0 =>
      rw [hdi] at hd
      cases hd
      obtain ⟨v, h1, h2⟩ := r.get hdi
      refine ⟨⟨xs, v, eb, h1⟩, fun y H' hy => ?_⟩
      obtain ⟨T, z, rfl, hT, rfl, hz⟩ := hy
      have h3 := hz xs eb
      rw [h1] at h3; cases h3
      have := new_pair (d1 := .int (i : Nat)) (v1 := .int (i : Nat)) m rfl h2 hT
      simpa using this
  · rw [enumD_get] at hn
    refine ⟨xs, eb, ?_⟩
    rw [r.length]
    cases hdi : ds[i]? with
    | none => exact List.getElem?_eq_none_iff.mp hdi
    | some d0 => rw [hdi] at hn; cases hn
theorem it_enumR {K : PySem.W.Frag} {ρ0 : List Addr} {H0 : Hp} {a : Addr} {xs : List V} {ds : List D} {l : Store → Prop} (ea : Rol K H0 a xs) (r : Reps K ρ0 H0 ds xs) : ItOk K cls ρ0 H0 (Ite K a) ⟨enumD 0 ds, l⟩ := fun i ρ S H x m _ => by
  have eb := (ea.ext x.frzs).seq
  refine ⟨fun d hd => ?_, fun hn => ?_⟩
  · rw [enumD_get] at hd
    cases hdi : ds[i]? with
    | none => rw [hdi] at hd; cases hd
    | some d0 =>
      rw [hdi] at hd
      cases hd
      obtain ⟨v, h1, h2⟩ := r.get hdi
      refine ⟨⟨xs, v, eb, h1⟩, fun y H' hy => ?_⟩
      obtain ⟨T, z, rfl, hT, rfl, hz⟩ := hy
      have h3 := hz xs eb
      rw [h1] at h3; cases h3
      have := new_pair (d1 := .int (i : Nat)) (v1 := .int (i : Nat)) m rfl (Rep.ext x _ _ h2) hT
      simpa using this
  · rw [enumD_get] at hn
    refine ⟨xs, eb, ?_⟩
    rw [r.length]
    cases hdi : ds[i]? with
    | none => exact List.getElem?_eq_none_iff.mp hdi
    | some d0 => rw [hdi] at hn; cases hn
theorem ji_enum {elts : List Expr} {kk : Nat} {tpos p pos : Pos} (hg : Gl X "enumerate") (hm : X.mg "enumerate" = none) (he : JE X cls E e f) (hs : starEach [e] X.env = [(false, eval e X.env)] := by rfl) :
    JI X cls E (.Tuple elts kk tpos) (.Call (.Name "enumerate" p) [e] [] pos) (iEnumD f) := PI.wk (PI.or (pi_enumT hg hm (pa_cons he pa_nil (by rw [hs]; rfl)) hs) (pi_enum hg hm (pa_cons he pa_nil (by rw [hs]; rfl)) hs)) fun σ H R hh => by
  obtain ⟨ρ, S, δ, er, m, fi⟩ := hh
  unfold iEnumD at fi
  have fi := Fin.bnd fi
  cases hf : f δ S with
  | stuck => rw [hf] at fi; exact fi.elim
  | exc c w S' => exact .inl ⟨ρ, S, δ, er, m, by rw [hf] at fi ⊢; exact fi⟩
  | ok x S' =>
    cases x with
    | tup ds =>
      refine .inl ⟨ρ, S, δ, er, m, ?_⟩
      rw [hf] at fi ⊢
      exact fun ρ1 H1 x1 m1 v1 r1 => by
        have k1 := fi ρ1 H1 x1 m1
        obtain ⟨a, xs, rfl, ea, ra⟩ := r1
        exact ⟨a, xs, rfl, SqT.of ea, k1 ρ1 H1 .refl m1 True.intro _ (it_enumT ea ra)⟩
    | loc n =>
      refine .inr ⟨ρ, S, δ, er, m, ?_⟩
      rw [hf] at fi ⊢
      exact fun ρ1 H1 x1 m1 v1 r1 => by
        have k1 := Fin.bnd (fi ρ1 H1 x1 m1)
        obtain ⟨a, rfl, ea⟩ := r1
        obtain ⟨o, h, q⟩ := m1.there ea
        dsimp only [srcOf] at k1
        rw [h] at k1
        cases o <;> try (exact False.elim k1)
        obtain ⟨xs, e1, ra⟩ := q
        exact ⟨a, xs, rfl, SqL.of e1, k1 ρ1 H1 .refl m1 ρ1 H1 .refl m1 h _ (it_enumL ea)⟩
    | rol ds =>
      refine .inr ⟨ρ, S, δ, er, m, ?_⟩
      rw [hf] at fi ⊢
      exact fun ρ1 H1 x1 m1 v1 r1 => by
        have k1 := fi ρ1 H1 x1 m1
        obtain ⟨a, xs, rfl, ea, ra⟩ := r1
        exact ⟨a, xs, rfl, ea.seq, k1 ρ1 H1 .refl m1 True.intro _ (it_enumR ea ra)⟩
    | non => exact .inl ⟨ρ, S, δ, er, m, by rw [hf] at fi ⊢; exact fun ρ1 H1 x1 m1 v1 r1 => (fi ρ1 H1 x1 m1).elim⟩
    | bl _ => exact .inl ⟨ρ, S, δ, er, m, by rw [hf] at fi ⊢; exact fun ρ1 H1 x1 m1 v1 r1 => (fi ρ1 H1 x1 m1).elim⟩
    | int _ => exact .inl ⟨ρ, S, δ, er, m, by rw [hf] at fi ⊢; exact fun ρ1 H1 x1 m1 v1 r1 => (fi ρ1 H1 x1 m1).elim⟩
    | str _ => exact .inl ⟨ρ, S, δ, er, m, by rw [hf] at fi ⊢; exact fun ρ1 H1 x1 m1 v1 r1 => (fi ρ1 H1 x1 m1).elim⟩
    | ty _ => exact .inl ⟨ρ, S, δ, er, m, by rw [hf] at fi ⊢; exact fun ρ1 H1 x1 m1 v1 r1 => (fi ρ1 H1 x1 m1).elim⟩
    | fn _ => exact .inl ⟨ρ, S, δ, er, m, by rw [hf] at fi ⊢; exact fun ρ1 H1 x1 m1 v1 r1 => (fi ρ1 H1 x1 m1).elim⟩
end
end
end DL
set_option Elab.async false
set_option linter.all false
set_option maxRecDepth 100000
/-! DL10: zip, slices, sorted, dicts, keywords -/
namespace DL
open PySem PySem.Spec PyProof.Rows L2
open Classical
noncomputable section
section
variable {X : Cx} {cls : Nat → Addr} {E : XK} {tg e it o i v : Expr} {f g h : SE} {st : Stmt}
/-! ### zip of two tuples, of two lists -/
def zipD : List D → List D → List D
  | a :: r, b :: s => .tup [a, b] :: zipD r s
  | _, _ => []
theorem zipD_get : ∀ (xs ys : List D) (i : Nat), (zipD xs ys)[i]? = match xs[i]?, ys[i]? with
    | some a, some b => some (.tup [a, b])
    | _, _ => none
  | [], ys, i => by simp [zipD]
  | a :: r, [], i => by
    simp only [zipD, List.getElem?_nil]
    split
    · rename_i h1 h2; simp at h2
    · rfl
  | a :: r, b :: s, 0 => by simp [zipD]
  | a :: r, b :: s, i + 1 => by
    show (zipD r s)[i]? = _
    rw [zipD_get r s i, List.getElem?_cons_succ, List.getElem?_cons_succ]
def iZipD (f g : SE) : Env → M Src := fun δ => bnd (f δ) fun x => bnd (g δ) fun y S => match x, y with
  | .tup ds, .tup es => .ok ⟨zipD ds es, fun _ => True⟩ S
  | .loc m, .loc n => match S[m]?, S[n]? with
    | some (.lst ds), some (.lst es) => .ok ⟨zipD ds es, fun S => S[m]? = some (.lst ds) ∧ S[n]? = some (.lst es)⟩ S
    | _, _ => .stuck
  | _, _ => .stuck
theorem it_zipT {K : PySem.W.Frag} {ρ0 : List Addr} {H0 : Hp} {a b : Addr} {xs ys : List V} {ds es : List D} {l : Store → Prop} (ea : H0 a = some (.tup xs)) (r : Reps K ρ0 H0 ds xs) (eb : H0 b = some (.tup ys)) (q : Reps K ρ0 H0 es ys) : ItOk K cls ρ0 H0 (RZ.ItzT K a b) ⟨zipD ds es, l⟩ := fun i ρ S H x m _ => by
  have ea' := SqT.of (K := K) (x.tups a xs ea)
  have eb' := SqT.of (K := K) (x.tups b ys eb)
  refine ⟨fun d hd => ?_, fun hn => ?_⟩
  · rw [zipD_get] at hd
    cases h1 : ds[i]? with
    | none => simp [h1] at hd
    | some d1 =>
      cases h2 : es[i]? with
      | none => simp [h1, h2] at hd
      | some d2 =>
        simp only [h1, h2, Option.some.injEq] at hd
        subst hd
        obtain ⟨v1, g1, p1⟩ := r.get h1
        obtain ⟨v2, g2, p2⟩ := q.get h2
        refine ⟨⟨xs, ys, v1, v2, ea', eb', g1, g2⟩, fun y H' hy => ?_⟩
        obtain ⟨T, z1, z2, rfl, hT, rfl, hz1, hz2⟩ := hy
        have k1 := hz1 xs ea'
        have k2 := hz2 ys eb'
        rw [g1] at k1; cases k1
        rw [g2] at k2; cases k2
        exact new_pair m (Rep.ext x _ _ p1) (Rep.ext x _ _ p2) hT
  · rw [zipD_get] at hn
    refine ⟨xs, ys, ea', eb', ?_⟩
    rw [r.length, q.length]
    cases h1 : ds[i]? with
    | none => exact .inl (List.getElem?_eq_none_iff.mp h1)
    | some d1 =>
      cases h2 : es[i]? with
      | none => exact .inr (List.getElem?_eq_none_iff.mp h2)
      | some d2 => simp [h1, h2] at hn
theorem it_zipL {K : PySem.W.Frag} {ρ0 : List Addr} {H0 : Hp} {a b : Addr} {j k : Nat} {ds es : List D} (ea : ρ0[j]? = some a) (eb : ρ0[k]? = some b) : ItOk K cls ρ0 H0 (Itz K a b) ⟨zipD ds es, fun S => S[j]? = some (.lst ds) ∧ S[k]? = some (.lst es)⟩ := fun i ρ S H x m hl => by
  obtain ⟨xs, ea1, r⟩ := m.obj j a _ (x.get ea) hl.1
  obtain ⟨ys, eb1, q⟩ := m.obj k b _ (x.get eb) hl.2
  have ea' := SqL.of (K := K) ea1
  have eb' := SqL.of (K := K) eb1
  refine ⟨fun d hd => ?_, fun hn => ?_⟩
  · rw [zipD_get] at hd
    cases h1 : ds[i]? with
    | none => simp [h1] at hd
    | some d1 =>
      cases h2 : es[i]? with
      | none => simp [h1, h2] at hd
      | some d2 =>
        simp only [h1, h2, Option.some.injEq] at hd
        subst hd
        obtain ⟨v1, g1, p1⟩ := r.get h1
        obtain ⟨v2, g2, p2⟩ := q.get h2
        refine ⟨⟨xs, ys, v1, v2, ea', eb', g1, g2⟩, fun y H' hy => ?_⟩
        obtain ⟨T, z1, z2, rfl, hT, rfl, hz1, hz2⟩ := hy
        have k1 := hz1 xs ea'
        have k2 := hz2 ys eb'
        rw [g1] at k1; cases k1
        rw [g2] at k2; cases k2
        exact new_pair m p1 p2 hT
  · rw [zipD_get] at hn
    refine ⟨xs, ys, ea', eb', ?_⟩
    rw [r.length, q.length]
    cases h1 : ds[i]? with
    | none => exact .inl (List.getElem?_eq_none_iff.mp h1)
    | some d1 =>
      cases h2 : es[i]? with
      | none => exact .inr (List.getElem?_eq_none_iff.mp h2)
      | some d2 => simp [h1, h2] at hn
theorem ji_zip (hp : PI X tg it (RZ.iZipA X.K (tCons (TJ X.K cls E f) (tCons (TJ X.K cls E g) tNil)))) : JI X cls E tg it (iZipD f g) := PI.wk hp fun σ H R hh => by
  obtain ⟨ρ, S, δ, er, m, fi⟩ := hh
  refine ⟨ρ, S, δ, er, m, Fin.imp (Fin.bnd fi) fun x ρ1 S1 H1 x1 m1 k1 v1 r1 => ?_⟩
  refine ⟨ρ1, S1, δ, er.ext x1, m1, Fin.imp (Fin.bnd k1) fun y ρ2 S2 H2 x2 m2 k2 v2 r2 => ?_⟩
  cases x <;> cases y <;> try (exact False.elim k2)
  · obtain ⟨a, xs, rfl, ea, ra⟩ := r1
    obtain ⟨b, ys, rfl, eb, rb⟩ := r2
    exact ⟨a, b, xs, ys, rfl, .inr ⟨SqT.of (x2.tups _ _ ea), SqT.of eb, k2 ρ2 H2 .refl m2 True.intro _ (it_zipT (x2.tups _ _ ea) (ra.ext x2) eb rb)⟩⟩
  · rename_i j k
    obtain ⟨a, rfl, ea⟩ := r1
    obtain ⟨b, rfl, eb⟩ := r2
    have ea := x2.get ea
    obtain ⟨o1, h1, q1⟩ := m2.there ea
    obtain ⟨o2, h2, q2⟩ := m2.there eb
    dsimp only at k2
    rw [h1, h2] at k2
    cases o1 <;> cases o2 <;> try (exact False.elim k2)
    obtain ⟨xs, e1, ra⟩ := q1
    obtain ⟨ys, e2, rb⟩ := q2
    exact ⟨a, b, xs, ys, rfl, .inl ⟨SqL.of e1, SqL.of e2, k2 ρ2 H2 .refl m2 ⟨h1, h2⟩ _ (it_zipL ea eb)⟩⟩
/-! ### slices -/
def cutD (ds : List D) (lo hi : Option Int) : List D := (ds.drop (HT.sIx ds.length 0 lo)).take (HT.sIx ds.length ds.length hi - HT.sIx ds.length 0 lo)
theorem cut_reps {K : PySem.W.Frag} {ρ : List Addr} {H : Hp} {ds : List D} {xs : List V} (r : Reps K ρ H ds xs) (lo hi : Option Int) : Reps K ρ H (cutD ds lo hi) (cutV xs lo hi) := by
  unfold cutD cutV
  rw [r.length]
  exact (r.drop _).take _
def dSlice (x : D) (lo hi : Option Int) : M D := fun S => match x with
  | .tup ds => .ok (.tup (cutD ds lo hi)) S
  | .loc n => match S[n]? with
    | some (.lst ds) => .ok (.loc S.length) (S ++ [.lst (cutD ds lo hi)])
    | _ => .stuck
  | .rol ds => .ok (.loc S.length) (S ++ [.lst (cutD ds lo hi)])
  | _ => .stuck
abbrev SO := Env → M (Option Int)
def oNone : SO := fun _ => ret none
def oSome (f : SE) : SO := fun δ => bnd (f δ) fun x => match x with
  | .int i => ret (some i)
  | _ => stuck
def TJO (K : PySem.W.Frag) (cls : Nat → Addr) (E : XK) (p : SO) : TO := fun σ H Q => ∃ ρ S δ, ERep K ρ H δ σ ∧ Match K cls ρ S H ∧ Fin K cls E ρ H (p δ S) fun b _ _ H' => Q b H'
theorem PO.wk {x : Option Expr} {t t' : TO} (hp : PO X x t) (w : ∀ σ H Q, t' σ H Q → t σ H Q) : PO X x t' := ⟨fun pins s σ H Q I q => hp.run pins s σ H Q I (w _ _ _ q)⟩
theorem jo_none : PO X none (TJO X.K cls E oNone) := PO.wk po_none fun σ H Q hh => by
  obtain ⟨ρ, S, δ, er, m, fi⟩ := hh
  exact fi ρ H .refl m
theorem jo_some (he : JE X cls E e f) : PO X (some e) (TJO X.K cls E (oSome f)) := PO.wk (po_some he) fun σ H Q hh => by
  obtain ⟨ρ, S, δ, er, m, fi⟩ := hh
  refine ⟨ρ, S, δ, er, m, Fin.imp (Fin.bnd fi) fun x ρ1 S1 H1 x1 m1 k1 v1 r1 => ?_⟩
  cases x <;> try (exact False.elim k1)
  exact ⟨_, r1, k1 ρ1 H1 .refl m1⟩
def rSJ (K : PySem.W.Frag) (cls : Nat → Addr) (E : XK) : V → Option Int → Option Int → Hp → VK → Prop := fun w lo hi H Q => ∃ ρ S x, Match K cls ρ S H ∧ Rep K ρ H x w ∧ Fin K cls E ρ H (dSlice x lo hi S) fun d ρ' _ H' => ∀ u, Rep K ρ' H' d u → Q u H'
theorem SlR.wk {r r' : V → Option Int → Option Int → Hp → VK → Prop} (ho : SlR X r) (w : ∀ x lo hi H Q, r' x lo hi H Q → r x lo hi H Q) : SlR X r' := fun pins s σ H x v vl vu lo hi sl Q I rx h1 h2 h3 hr => ho pins s σ H x v vl vu lo hi sl Q I rx h1 h2 h3 (w _ _ _ _ _ hr)
theorem sj_slice : SlR X (rSJ X.K cls E) := SlR.wk (sl_tupA.or sl_list) fun w lo hi H Q hh => by
  obtain ⟨ρ, S, x, m, r, k⟩ := hh
  cases x <;> try (exact False.elim k)
  · obtain ⟨a, xs, rfl, ea, ra⟩ := r
    refine .inl ⟨a, xs, rfl, SqT.of ea, fun hc => ?_, fun _ => new_tup (d' := .non) m (cut_reps ra lo hi) k⟩
    have e1 : cutV xs lo hi = xs := by
      unfold cutV
      rw [hc.1, hc.2]
      simp
    have rr := cut_reps ra lo hi
    rw [e1] at rr
    exact k ρ H .refl m _ ⟨a, xs, rfl, ea, rr⟩
  · rename_i n
    obtain ⟨a, rfl, ea⟩ := r
    obtain ⟨o, h, q⟩ := m.there ea
    dsimp only [dSlice] at k
    rw [h] at k
    cases o <;> try (exact False.elim k)
    obtain ⟨xs, e1, ra⟩ := q
    exact .inr ⟨a, xs, rfl, SqL.of e1, new_lst m (cut_reps ra lo hi) k⟩
  · obtain ⟨a, xs, rfl, ea, ra⟩ := r
    exact .inr ⟨a, xs, rfl, ea.seq, new_lst m (cut_reps ra lo hi) k⟩
def eSl (f : SE) (lo hi : SO) : SE := fun δ => bnd (f δ) fun x => bnd (lo δ) fun l => bnd (hi δ) fun u => dSlice x l u
theorem je_sl {lo hi : Option Expr} {l u : SO} {pos p2 : Pos} (he : JE X cls E e f) (hl : PO X lo (TJO X.K cls E l)) (hu : PO X hi (TJO X.K cls E u)) : JE X cls E (.Subscript e (.Slice lo hi none p2) pos) (eSl f l u) := PE.wk (pe_slice (sj_slice (cls := cls) (E := E)) he hl hu) fun pins s σ H Q I hh => by
  obtain ⟨ρ, S, δ, er, m, fi⟩ := hh
  refine ⟨ρ, S, δ, er, m, Fin.imp (Fin.bnd fi) fun x ρ1 S1 H1 x1 m1 k1 v1 r1 => ?_⟩
  refine ⟨ρ1, S1, δ, er.ext x1, m1, Fin.imp (Fin.bnd k1) fun y ρ2 S2 H2 x2 m2 k2 => ?_⟩
  refine ⟨ρ2, S2, δ, (er.ext x1).ext x2, m2, Fin.imp (Fin.bnd k2) fun z ρ3 S3 H3 x3 m3 k3 => ?_⟩
  exact ⟨ρ3, S3, x, m3, Rep.ext x3 _ _ (Rep.ext x2 _ _ r1), k3⟩
/-! ### o[i] += e, o a list -/
theorem get_lst {pins : List (Addr × Obj)} {s : Shared} {σ : L2.St} {H : Hp} {a : Addr} {xs : List V} {i : Int} {z : V} {t : Tok} {Q : VK} (I : Inv X pins σ H s) (hq : SqL X.K H a xs) (he : atI xs i = some z) (q : Q z H) :
    wpAny (model X.prog X.w) X.A (getItem (.ref a) (.int i t)) (EP X pins σ Q) X.xe s := by
  obtain ⟨its, r, pl, hz⟩ := I.list hq
  obtain ⟨j, h1, h2, h3, h4, h5⟩ := atI_get he
  obtain ⟨w, ew, rw'⟩ := r.get h2
  have hl := r.length
  have hn := line63
  have fin : EP X pins σ Q w s := ⟨z, H, I, rw', q⟩
  by_cases h0 : 0 ≤ i
  · have hj : i.toNat = j := by
      rw [seqIndex_of h0 h5] at h1
      exact Option.some.inj h1
    exact wpAny_getItem_list pl.isList h0 (by omega) (by rw [hj]; simpa using ew) fin
  · have hj : (i + (its.toArray.size : Int)).toNat = j := by
      rw [seqIndex_neg (by omega) h4] at h1
      rw [List.size_toArray, ← hl]
      exact Option.some.inj h1
    exact wpAny_getItem_list_neg pl.isList (by omega) (by rw [List.size_toArray] <;> omega) (by omega) (by rw [hj]; simpa using ew) fin
theorem get_tup {pins : List (Addr × Obj)} {s : Shared} {σ : L2.St} {H : Hp} {a : Addr} {xs : List V} {i : Int} {z : V} {t : Tok} {Q : VK} (I : Inv X pins σ H s) (hq : SqT X.K H a xs) (he : atI xs i = some z) (q : Q z H) :
    wpAny (model X.prog X.w) X.A (getItem (.ref a) (.int i t)) (EP X pins σ Q) X.xe s := by
  obtain ⟨its, r, pl, hz⟩ := I.tuple hq
  obtain ⟨j, h1, h2, h3, h4, h5⟩ := atI_get he
  obtain ⟨w, ew, rw'⟩ := r.get h2
  have hl := r.length
  have hn := line63
  have fin : EP X pins σ Q w s := ⟨z, H, I, rw', q⟩
  exact PyProof.Rows.getItem_tuple pl (by omega) (by omega) (by rw [List.size_toArray, ← hl]; exact h1) (by simpa using ew) fin
theorem pget_seq : PGet X (rJ X.K cls E dIx) := fun pins s σ H x y v u Q I rx ry hh => by
  obtain ⟨ρ, S, d, j, m, r1, r2, k⟩ := hh
  cases d <;> cases j <;> try (exact False.elim k)
  · rename_i ds i
    obtain ⟨a, xs, rfl, ea, ra⟩ := r1
    dsimp only [dIx] at k
    cases h : atI ds i with
    | none => rw [h] at k; exact k.elim
    | some d =>
      rw [h] at k
      obtain ⟨z, h1, h2⟩ := reps_at ra h
      cases rx; cases r2
      obtain ⟨t, rfl⟩ := ry
      exact get_tup I (SqT.of ea) h1 (k ρ H .refl m _ h2)
  · rename_i n i
    obtain ⟨a, rfl, ea⟩ := r1
    obtain ⟨o1, h1, q1⟩ := m.there ea
    dsimp only [dIx] at k
    rw [h1] at k
    cases o1 <;> try (exact False.elim k)
    rename_i ds
    obtain ⟨xs, e1, ra⟩ := q1
    dsimp only at k
    cases h : atI ds i with
    | none => rw [h] at k; exact k.elim
    | some d =>
      rw [h] at k
      obtain ⟨z, h1, h2⟩ := reps_at ra h
      cases rx; cases r2
      obtain ⟨t, rfl⟩ := ry
      exact get_lst I (SqL.of e1) h1 (k ρ H .refl m _ h2)
  · rename_i ds i
    obtain ⟨a, xs, rfl, ea, ra⟩ := r1
    dsimp only [dIx] at k
    cases h : atI ds i with
    | none => rw [h] at k; exact k.elim
    | some d =>
      rw [h] at k
      obtain ⟨z, h1, h2⟩ := reps_at ra h
      cases rx; cases r2
      obtain ⟨t, rfl⟩ := ry
      exact get_lst I ea.seq h1 (k ρ H .refl m _ h2)
def sAugS (f g h : SE) (op : Op2) : SS := fun δ => bnd (f δ) fun o => bnd (g δ) fun i => bnd (dIx o i) fun x => bnd (h δ) fun y => bnd (op x y) fun z => bnd (dSet o i z) fun _ => ret (.nx δ)
theorem js_augS {op : Op2} (hp : PS X st (tAugS (TJ X.K cls E f) (TJ X.K cls E g) (TJ X.K cls E h) (rJ X.K cls E dIx) (rJ X.K cls E op) (setJ X.K cls E dSet))) : JS X cls E st (sAugS f g h op) := PS.wk hp fun pins s σ H Dn I hh => by
  obtain ⟨ρ, S, δ, er, m, fi⟩ := hh
  refine ⟨ρ, S, δ, er, m, Fin.imp (Fin.bnd fi) fun o ρ1 S1 H1 x1 m1 k1 v1 r1 => ?_⟩
  refine ⟨ρ1, S1, δ, er.ext x1, m1, Fin.imp (Fin.bnd k1) fun i ρ2 S2 H2 x2 m2 k2 v2 r2 => ?_⟩
  refine ⟨ρ2, S2, o, i, m2, Rep.ext x2 _ _ r1, r2, Fin.imp (Fin.bnd k2) fun x ρ3 S3 H3 x3 m3 k3 v3 r3 => ?_⟩
  refine ⟨ρ3, S3, δ, ((er.ext x1).ext x2).ext x3, m3, Fin.imp (Fin.bnd k3) fun y ρ4 S4 H4 x4 m4 k4 v4 r4 => ?_⟩
  refine ⟨ρ4, S4, x, y, m4, Rep.ext x4 _ _ r3, r4, Fin.imp (Fin.bnd k4) fun z ρ5 S5 H5 x5 m5 k5 v5 r5 => ?_⟩
  refine ⟨ρ5, S5, o, i, z, m5, Rep.ext x5 _ _ (Rep.ext x4 _ _ (Rep.ext x3 _ _ (Rep.ext x2 _ _ r1))), Rep.ext x5 _ _ (Rep.ext x4 _ _ (Rep.ext x3 _ _ r2)), r5, Fin.imp (Fin.bnd k5) fun _ ρ6 S6 H6 x6 m6 k6 => ?_⟩
  exact k6 ρ6 H6 .refl m6 σ ((((((er.ext x1).ext x2).ext x3).ext x4).ext x5).ext x6)
/-! ### sorted -/
def encS (S : Store) (d : D) : PyData := (toPy S d).getD .none
def Sort1 (S : Store) (ds : List D) : Prop := (∀ d ∈ ds, ∃ p, toPy S d = some p) ∧ PySem.W.AllAlike (ds.map (encS S)) ∧ PySem.W.Sortable (ds.map (encS S)) ∧ ds.length ≤ sizeLine ∧ ∀ d ∈ ds, (encS S d).depth ≤ 60
def dSorted : D → M D := fun x S => match x with
  | .loc n => match S[n]? with
    | some (.lst ds) => if Sort1 S ds then .ok (.loc S.length) (S ++ [.lst (ds.mergeSort (PySem.W.dataLe false (encS S)))]) else .stuck
    | _ => .stuck
  | _ => .stuck
theorem each_of {K : PySem.W.Frag} {ρ : List Addr} {H : Hp} : ∀ {ds : List D} {xs : List V} {us : List Value}, Reps K ρ H ds xs → Vals xs us → PySem.W.EachIs (fun u d => ∃ v, RelV v u ∧ Rep K ρ H d v) us ds
  | [], xs, us, r, rv => by rw [show xs = [] from r] at rv; cases rv; exact .nil
  | d :: ds, xs, us, ⟨y, ys, e, r, t⟩, rv => by
    subst e
    cases rv with
    | cons r1 r2 => exact .cons ⟨y, r1, r⟩ (each_of t r2)
theorem of_each {K : PySem.W.Frag} {ρ : List Addr} {H : Hp} : ∀ {ds : List D} {us : List Value}, PySem.W.EachIs (fun u d => ∃ v, RelV v u ∧ Rep K ρ H d v) us ds → ∃ xs, Reps K ρ H ds xs ∧ Vals xs us
  | [], us, e => by cases e; exact ⟨[], rfl, .nil⟩
  | d :: ds, us, e => by
    cases e with
    | cons h t =>
      obtain ⟨v, r1, r2⟩ := h
      obtain ⟨xs, r3, r4⟩ := of_each t
      exact ⟨v :: xs, ⟨v, xs, rfl, r2, r3⟩, .cons r1 r4⟩
theorem each_reads {ρ : List Addr} {S : Store} {H : Hp} {pins : List (Addr × Obj)} {σ : L2.St} {s : Shared} (I : Inv X pins σ H s) (m : Match X.K cls ρ S H) : ∀ {ds : List D} {xs : List V} {us : List Value}, (∀ d ∈ ds, ∃ p, toPy S d = some p) → Reps X.K ρ H ds xs → Vals xs us → PySem.W.EachIs (fun u d => ∃ as, Reads s.heap u (encS S d) as) us ds
  | [], xs, us, _, r, rv => by rw [show xs = [] from r] at rv; cases rv; exact .nil
  | d :: ds, xs, us, hp, ⟨y, ys, e, r, t⟩, rv => by
    subst e
    cases rv with
    | cons r1 r2 =>
      obtain ⟨p, ep⟩ := hp d List.mem_cons_self
      obtain ⟨as, q⟩ := Dp.reads I p y _ (dp_of m ep r) r1
      have e2 : encS S d = p := by unfold encS; rw [ep]; rfl
      exact .cons ⟨as, by rw [e2]; exact q⟩ (each_reads I m (fun d' h' => hp d' (List.mem_cons_of_mem _ h')) t r2)
theorem bj_sorted (hu : X.A.units + 66 < cLine) : CallR X (.builtin "sorted") (rCJ X.K cls E (op1 dSorted)) := fun pins s σ H vs us Q I rv hh => by
  obtain ⟨ρ, S, x, v, rfl, m, r, k⟩ := rc1 hh
  obtain ⟨u, rfl, rx⟩ := vals1 rv
  cases x <;> try (exact False.elim k)
  rename_i n
  obtain ⟨a, rfl, ea⟩ := r
  cases rx
  obtain ⟨o, h, q⟩ := m.there ea
  dsimp only [dSorted] at k
  rw [h] at k
  cases o <;> try (exact False.elim k)
  rename_i ds
  obtain ⟨xs, e1, ra⟩ := q
  dsimp only at k
  by_cases hs : Sort1 S ds
  · rw [if_pos hs] at k
    obtain ⟨hp, hal, hso, hlen, hdep⟩ := hs
    obtain ⟨its, rvl, pl, hz⟩ := I.list (SqL.of e1)
    refine PySem.W.sorted_data pl.isList (each_of ra rvl) (each_reads I m hp ra rvl) hal hso hlen (fun d hd => by have := hdep d hd; omega) fun out ho he => ?_
    obtain ⟨ys, r3, r4⟩ := of_each he
    obtain ⟨ep, hat⟩ := PyProof.Rows.sortedAll_at s.heap its out.toArray
    have hfr := I.hok.fresh (Nat.le_succ s.heap.objs.size)
    have hylen : ys.length ≤ sizeLine := by rw [r3.length]; rw [List.length_mergeSort]; exact hlen
    refine ⟨.ref (s.heap.objs.size + 1), upd H (s.heap.objs.size + 1) (.lst ys), I.laid (t' := s.toks) (fun _ _ => PyProof.Rows.sortedAll_old) (Nat.le_succ _) ⟨hylen, out, ep, r4, hat⟩, rfl, ?_⟩
    exact new_lst m r3 k _ hfr
  · rw [if_neg hs] at k
    exact k.elim
/-! ### dicts with int and text keys; with keys that are tuples of such -/
theorem rep_key {K : PySem.W.Frag} {ρ : List Addr} {H : Hp} {d : D} {v : V} {k : Key} (e : asKey d = some k) (r : Rep K ρ H d v) : v = kV k := by
  cases d <;> simp [asKey] at e
  · subst e; exact r
  · subst e; exact r
theorem reps_keys {K : PySem.W.Frag} {ρ : List Addr} {H : Hp} : ∀ {ds : List D} {xs : List V} {ks : List Key}, asKeys ds = some ks → Reps K ρ H ds xs → xs = ks.map kV
  | [], xs, ks, e, r => by cases e; exact r
  | d :: ds, xs, ks, e, ⟨y, ys, e0, r, t⟩ => by
    cases h1 : asKey d with
    | none => simp [asKeys, h1] at e
    | some k =>
      cases h2 : asKeys ds with
      | none => simp [asKeys, h1, h2] at e
      | some ks' =>
        simp [asKeys, h1, h2] at e
        subst e e0
        rw [rep_key h1 r, reps_keys h2 t]
        rfl
theorem RepKV.val {κ : Type} [DecidableEq κ] {K : PySem.W.Frag} {ρ : List Addr} {H : Hp} : ∀ {kvs : List (κ × D)} {ks : List (κ × V)}, RepKV K ρ H kvs ks → ∀ k, (∀ d, valD kvs k = some d → ∃ v, valV ks k = some v ∧ Rep K ρ H d v) ∧ (valD kvs k = none → valV ks k = none)
  | [], ks, r, k => by rw [show ks = [] from r]; exact ⟨fun d h => by simp [valD] at h, fun _ => rfl⟩
  | p :: r, _, ⟨v, ys, e, q, t⟩, k => by
    subst e
    have ih := RepKV.val t k
    by_cases hk : p.1 = k
    · refine ⟨fun d h => ⟨v, ?_, ?_⟩, fun h => ?_⟩
      · simp [valV, hk]
      · simp [valD, hk] at h; subst h; exact q
      · simp [valD, hk] at h
    · have e1 : valD (p :: r) k = valD r k := by simp [valD, hk]
      have e2 : valV ((p.1, v) :: ys) k = valV ys k := by simp [valV, hk]
      rw [e1, e2]
      exact ih
theorem RepKV.app {κ : Type} {K : PySem.W.Frag} {ρ : List Addr} {H : Hp} : ∀ {kvs : List (κ × D)} {ks : List (κ × V)}, RepKV K ρ H kvs ks → ∀ {k : κ} {d : D} {v : V}, Rep K ρ H d v → RepKV K ρ H (kvs ++ [(k, d)]) (ks ++ [(k, v)])
  | [], ks, r, k, d, v, q => by rw [show ks = [] from r]; exact ⟨v, [], rfl, q, rfl⟩
  | p :: r, _, ⟨w, ys, e, q, t⟩, k, d, v, q' => by subst e; exact ⟨w, ys ++ [(k, v)], rfl, q, RepKV.app t q'⟩
theorem RepKV.any {κ : Type} [DecidableEq κ] {K : PySem.W.Frag} {ρ : List Addr} {H : Hp} : ∀ {kvs : List (κ × D)} {ks : List (κ × V)}, RepKV K ρ H kvs ks → ∀ k, (ks.any fun p => decide (p.1 = k)) = (kvs.any fun p => decide (p.1 = k))
  | [], ks, r, k => by rw [show ks = [] from r]; rfl
  | p :: r, _, ⟨w, ys, e, q, t⟩, k => by subst e; simp only [List.any_cons, RepKV.any t k]
theorem RepKV.mapPut {κ : Type} [DecidableEq κ] {K : PySem.W.Frag} {ρ : List Addr} {H : Hp} : ∀ {kvs : List (κ × D)} {ks : List (κ × V)}, RepKV K ρ H kvs ks → ∀ {k : κ} {d : D} {v : V}, Rep K ρ H d v → RepKV K ρ H (kvs.map fun p => if p.1 = k then (p.1, d) else p) (ks.map fun p => if p.1 = k then (p.1, v) else p)
  | [], ks, r, k, d, v, q => by rw [show ks = [] from r]; rfl
  | p :: r, _, ⟨w, ys, e, q, t⟩, k, d, v, q' => by
    subst e
    have ih := RepKV.mapPut t (k := k) q'
    rw [List.map_cons, List.map_cons]
    by_cases hk : p.1 = k
    · rw [if_pos hk, if_pos hk]
      exact ⟨v, _, rfl, q', ih⟩
    · rw [if_neg hk, if_neg hk]
      exact ⟨w, _, rfl, q, ih⟩
theorem RepKV.putK {κ : Type} [DecidableEq κ] {K : PySem.W.Frag} {ρ : List Addr} {H : Hp} {kvs : List (κ × D)} {ks : List (κ × V)} (r : RepKV K ρ H kvs ks) {k : κ} {d : D} {v : V} (q : Rep K ρ H d v) : RepKV K ρ H (putD kvs k d) (L2.putK ks k v) := by
  unfold putD L2.putK
  rw [r.any k]
  by_cases h : (kvs.any fun p => decide (p.1 = k)) = true
  · rw [if_pos h, if_pos h]
    exact r.mapPut q
  · rw [if_neg h, if_neg h]
    exact r.app q
/-- what a dict holds at a key -/
def dLook (x y : D) : Store → Option (Option D) := fun S => match x with
  | .loc n => match S[n]? with
    | some (.dik kvs) => match asKey y with
      | some k => some (valD kvs k)
      | none => none
    | some (.lkd kvs) => match asKey y with
      | some k => some (valD kvs k)
      | none => none
    | some (.dit kvs) => match y with
      | .tup ds => match asKeys ds with
        | some ks => some (valD kvs ks)
        | none => none
      | _ => none
    | some (.lkt kvs) => match y with
      | .tup ds => match asKeys ds with
        | some ks => some (valD kvs ks)
        | none => none
      | _ => none
    | _ => none
  | _ => none
theorem look_at {K : PySem.W.Frag} {ρ : List Addr} {S : Store} {H : Hp} {x y : D} {v w : V} {o : Option D} (m : Match K cls ρ S H) (r1 : Rep K ρ H x v) (r2 : Rep K ρ H y w) (e : dLook x y S = some o) :
    ∃ a ov, v = .ref a ∧ DGet H a w ov ∧ IsD H a ∧ (∀ d, o = some d → ∃ z, ov = some z ∧ Rep K ρ H d z) ∧ (o = none → ov = none) := by
  unfold dLook at e
  cases x <;> try (simp at e; done)
  rename_i n
  obtain ⟨a, rfl, ea⟩ := r1
  obtain ⟨ob, h, q⟩ := m.there ea
  dsimp only at e
  rw [h] at e
  cases ob <;> try (simp at e; done)
  · rename_i kvs
    obtain ⟨ks, e1, rr⟩ := q
    cases hk : asKey y with
    | none => simp [hk] at e
    | some k =>
      simp only [hk, Option.some.injEq] at e
      subst e
      obtain ⟨h1, h2⟩ := rr.val k
      exact ⟨a, valV ks k, rfl, .inl ⟨ks, k, .inl e1, rep_key hk r2, rfl⟩, .inl ⟨ks, .inl e1⟩, h1, h2⟩
  · rename_i kvs
    obtain ⟨ks, e1, rr⟩ := q
    cases y <;> try (simp at e; done)
    rename_i ds
    dsimp only at e
    cases hk : asKeys ds with
    | none => simp [hk] at e
    | some k =>
      simp only [hk, Option.some.injEq] at e
      subst e
      obtain ⟨b, xs, rfl, eb, rb⟩ := r2
      rw [reps_keys hk rb] at eb
      obtain ⟨h1, h2⟩ := rr.val k
      exact ⟨a, valV ks k, rfl, .inr ⟨ks, k, b, .inl e1, rfl, eb, rfl⟩, .inr ⟨ks, .inl e1⟩, h1, h2⟩
  · rename_i kvs
    obtain ⟨ob, ks, e1, rr⟩ := q
    cases hk : asKey y with
    | none => simp [hk] at e
    | some k =>
      simp only [hk, Option.some.injEq] at e
      subst e
      obtain ⟨h1, h2⟩ := rr.val k
      exact ⟨a, valV ks k, rfl, .inl ⟨ks, k, .inr ⟨ob, e1⟩, rep_key hk r2, rfl⟩, .inl ⟨ks, .inr ⟨ob, e1⟩⟩, h1, h2⟩
  · rename_i kvs
    obtain ⟨ob, ks, e1, rr⟩ := q
    cases y <;> try (simp at e; done)
    rename_i ds
    dsimp only at e
    cases hk : asKeys ds with
    | none => simp [hk] at e
    | some k =>
      simp only [hk, Option.some.injEq] at e
      subst e
      obtain ⟨b, xs, rfl, eb, rb⟩ := r2
      rw [reps_keys hk rb] at eb
      obtain ⟨h1, h2⟩ := rr.val k
      exact ⟨a, valV ks k, rfl, .inr ⟨ks, k, b, .inr ⟨ob, e1⟩, rfl, eb, rfl⟩, .inr ⟨ks, .inr ⟨ob, e1⟩⟩, h1, h2⟩
def dDGet : Op2 := fun x y S => match dLook x y S with
  | some (some d) => .ok d S
  | _ => .stuck
theorem je_dget (hp : PE X e (tDGet (TJ X.K cls E f) (TJ X.K cls E g))) : JE X cls E e (eBin dDGet f g) := PE.wk hp fun pins s σ H Q I hh => by
  obtain ⟨ρ, S, δ, er, m, fi⟩ := hh
  refine ⟨ρ, S, δ, er, m, Fin.imp (Fin.bnd fi) fun x ρ1 S1 H1 x1 m1 k1 v1 r1 => ?_⟩
  refine ⟨ρ1, S1, δ, er.ext x1, m1, Fin.imp (Fin.bnd k1) fun y ρ2 S2 H2 x2 m2 k2 v2 r2 => ?_⟩
  unfold dDGet at k2
  split at k2
  · rename_i d hd
    obtain ⟨a, ov, rfl, h1, _, h2, _⟩ := look_at m2 (Rep.ext x2 _ _ r1) r2 hd
    obtain ⟨z, rfl, rz⟩ := h2 d rfl
    exact ⟨a, z, rfl, h1, k2 ρ2 H2 .refl m2 _ rz⟩
  · exact k2.elim
def isDct : D → M Unit := fun x S => match x with
  | .loc n => match S[n]? with
    | some (.dik _) => .ok () S
    | some (.dit _) => .ok () S
    | _ => .stuck
  | _ => .stuck
def eDGetD (f g h : SE) : SE := fun δ => bnd (f δ) fun x => bnd (isDct x) fun _ => bnd (g δ) fun y => bnd (h δ) fun z S => match dLook x y S with
  | some (some d) => .ok d S
  | some none => .ok z S
  | none => .stuck
theorem isDct_ok {K : PySem.W.Frag} {ρ : List Addr} {S : Store} {H : Hp} {x : D} {v : V} {α : Type} {k : M α} {Z : α → List Addr → Store → Hp → Prop} (m : Match K cls ρ S H) (r : Rep K ρ H x v) (fi : Fin K cls E ρ H (bnd (isDct x) (fun _ => k) S) Z) : (∃ a, v = .ref a ∧ IsD H a) ∧ Fin K cls E ρ H (k S) Z := by
  cases x <;> try (exact False.elim fi)
  rename_i n
  obtain ⟨a, rfl, ea⟩ := r
  obtain ⟨o, h, q⟩ := m.there ea
  have e : isDct (.loc n) S = (match (some o : Option MO) with | some (.dik _) => .ok () S | some (.dit _) => .ok () S | _ => .stuck) := by show (match S[n]? with | some (.dik _) => _ | some (.dit _) => _ | _ => _) = _; rw [h]
  unfold bnd at fi
  rw [e] at fi
  cases o <;> try (exact False.elim fi)
  · obtain ⟨ks, e1, _⟩ := q
    exact ⟨⟨a, rfl, .inl ⟨ks, .inl e1⟩⟩, fi⟩
  · obtain ⟨ks, e1, _⟩ := q
    exact ⟨⟨a, rfl, .inr ⟨ks, .inl e1⟩⟩, fi⟩
theorem je_dget2 (hp : PE X e (tDGet2 (TJ X.K cls E f) (TJ X.K cls E g) (TJ X.K cls E h))) : JE X cls E e (eDGetD f g h) := PE.wk hp fun pins s σ H Q I hh => by
  obtain ⟨ρ, S, δ, er, m, fi⟩ := hh
  refine ⟨ρ, S, δ, er, m, Fin.imp (Fin.bnd fi) fun x ρ1 S1 H1 x1 m1 k1 v1 r1 => ?_⟩
  obtain ⟨⟨a, rfl, hd⟩, k1⟩ := isDct_ok m1 r1 k1
  refine ⟨a, rfl, hd, ρ1, S1, δ, er.ext x1, m1, Fin.imp (Fin.bnd k1) fun y ρ2 S2 H2 x2 m2 k2 v2 r2 => ?_⟩
  refine ⟨ρ2, S2, δ, (er.ext x1).ext x2, m2, Fin.imp (Fin.bnd k2) fun z ρ3 S3 H3 x3 m3 k3 v3 r3 => ?_⟩
  split at k3
  · rename_i d hl
    obtain ⟨a', ov, ev, h1, _, h2, _⟩ := look_at m3 (Rep.ext x3 _ _ (Rep.ext x2 _ _ r1)) (Rep.ext x3 _ _ r2) hl
    cases ev
    obtain ⟨zz, rfl, rz⟩ := h2 d rfl
    exact ⟨_, h1, k3 ρ3 H3 .refl m3 _ rz⟩
  · rename_i hl
    obtain ⟨a', ov, ev, h1, _, _, h3⟩ := look_at m3 (Rep.ext x3 _ _ (Rep.ext x2 _ _ r1)) (Rep.ext x3 _ _ r2) hl
    cases ev
    obtain rfl := h3 rfl
    exact ⟨_, h1, k3 ρ3 H3 .refl m3 _ r3⟩
  · exact k3.elim
/-- d[k] = v -/
def dPutD (x y z : D) : M Unit := fun S => match x with
  | .loc n => match S[n]? with
    | some (.dik kvs) => match asKey y with
      | some k => if kvs.length < sizeLine then .ok () (S.set n (.dik (putD kvs k z))) else .stuck
      | none => .stuck
    | some (.dit kvs) => match y with
      | .tup ds => match asKeys ds with
        | some ks => if kvs.length < sizeLine then .ok () (S.set n (.dit (putD kvs ks z))) else .stuck
        | none => .stuck
      | _ => .stuck
    | _ => .stuck
  | _ => .stuck
theorem put_at {K : PySem.W.Frag} {ρ : List Addr} {S : Store} {H : Hp} {x y z : D} {v w u : V} {Z : Unit → List Addr → Store → Hp → Prop} (m : Match K cls ρ S H) (r1 : Rep K ρ H x v) (r2 : Rep K ρ H y w) (r3 : Rep K ρ H z u) (fi : Fin K cls E ρ H (dPutD x y z S) Z) :
    ∃ a H4 S4, v = .ref a ∧ DPut H a w u H4 ∧ Ext ρ H ρ H4 ∧ Match K cls ρ S4 H4 ∧ Z () ρ S4 H4 := by
  unfold dPutD at fi
  cases x <;> try (exact False.elim fi)
  rename_i n
  obtain ⟨a, rfl, ea⟩ := r1
  obtain ⟨ob, h, q⟩ := m.there ea
  dsimp only at fi
  rw [h] at fi
  cases ob <;> try (exact False.elim fi)
  · rename_i kvs
    obtain ⟨ks, e1, rr⟩ := q
    dsimp only at fi
    cases hk : asKey y with
    | none => rw [hk] at fi; exact fi.elim
    | some k =>
      rw [hk] at fi
      dsimp only at fi
      by_cases hl : kvs.length < sizeLine
      · rw [if_pos hl] at fi
        have xw := ext_write (ρ := ρ) (H := H) (a := a) (o := .dK (L2.putK ks k u)) (by rw [e1]; trivial)
        have mw := m.write (n := n) (q := .dik (putD kvs k z)) ea (by rw [e1]; trivial) ⟨_, upd_same, (rr.putK r3).ext xw⟩
        exact ⟨a, _, _, rfl, .inl ⟨ks, k, e1, rep_key hk r2, by rw [rr.length]; exact hl, rfl⟩, xw, mw, fi ρ _ xw mw⟩
      · rw [if_neg hl] at fi
        exact fi.elim
  · rename_i kvs
    obtain ⟨ks, e1, rr⟩ := q
    cases y <;> try (exact False.elim fi)
    rename_i ds
    dsimp only at fi
    cases hk : asKeys ds with
    | none => rw [hk] at fi; exact fi.elim
    | some k =>
      rw [hk] at fi
      dsimp only at fi
      obtain ⟨b, xs, rfl, eb, rb⟩ := r2
      rw [reps_keys hk rb] at eb
      by_cases hl : kvs.length < sizeLine
      · rw [if_pos hl] at fi
        have xw := ext_write (ρ := ρ) (H := H) (a := a) (o := .dT (L2.putK ks k u)) (by rw [e1]; trivial)
        have mw := m.write (n := n) (q := .dit (putD kvs k z)) ea (by rw [e1]; trivial) ⟨_, upd_same, (rr.putK r3).ext xw⟩
        exact ⟨a, _, _, rfl, .inr ⟨ks, k, b, e1, rfl, eb, by rw [rr.length]; exact hl, rfl⟩, xw, mw, fi ρ _ xw mw⟩
      · rw [if_neg hl] at fi
        exact fi.elim
def sDPutD (f g h : SE) : SS := fun δ => bnd (h δ) fun z => bnd (f δ) fun x => bnd (g δ) fun y => bnd (dPutD x y z) fun _ => ret (.nx δ)
theorem js_dput (hp : PS X st (sDPut (TJ X.K cls E f) (TJ X.K cls E g) (TJ X.K cls E h))) : JS X cls E st (sDPutD f g h) := PS.wk hp fun pins s σ H Dn I hh => by
  obtain ⟨ρ, S, δ, er, m, fi⟩ := hh
  refine ⟨ρ, S, δ, er, m, Fin.imp (Fin.bnd fi) fun z ρ1 S1 H1 x1 m1 k1 v1 r1 => ?_⟩
  refine ⟨ρ1, S1, δ, er.ext x1, m1, Fin.imp (Fin.bnd k1) fun x ρ2 S2 H2 x2 m2 k2 v2 r2 => ?_⟩
  refine ⟨ρ2, S2, δ, (er.ext x1).ext x2, m2, Fin.imp (Fin.bnd k2) fun y ρ3 S3 H3 x3 m3 k3 v3 r3 => ?_⟩
  obtain ⟨a, H4, S4, ev, h1, x4, m4, k4⟩ := put_at m3 (Rep.ext x3 _ _ r2) r3 (Rep.ext x3 _ _ (Rep.ext x2 _ _ r1)) (Fin.bnd k3)
  exact ⟨a, H4, ev, h1, k4 ρ3 H4 .refl m4 σ ((((er.ext x1).ext x2).ext x3).ext x4)⟩
/-- {} -/
def eDnK : SE := fun _ S => .ok (.loc S.length) (S ++ [.dik []])
theorem je_dnK {pos : Pos} : JE X cls E (.Dict [] [] pos) eDnK := PE.wk pe_dnewK fun pins s σ H Q I hh => by
  obtain ⟨ρ, S, δ, er, m, fi⟩ := hh
  exact fun p hp => fi (ρ ++ [p]) _ (ext_push hp) (m.push hp ⟨[], upd_same, rfl⟩) _ ⟨p, rfl, by rw [← m.len]; simp⟩
end
end
end DL
set_option Elab.async false
set_option linter.all false
set_option maxRecDepth 100000
/-! DL11: extend by a tuple, a tuple taken many times, keywords, a dict walked in a comprehension -/
namespace DL
open PySem PySem.Spec PyProof.Rows L2
open Classical
set_option maxHeartbeats 4000000 in
theorem tuple_mul1 (l : Addr) (items : Array Value) (n : Nat) (dd : Option Addr) (sl : Array (Option Value)) (u : Tok) :
    Meets (Builtin.«tuple.__mul__» ⟨[.ref l, .int 1 u], []⟩) (fun _ R s => s.heap.get? l = some { cls := .type "tuple", dict := dd, data := .seq items n, slots := sl } ∧ R (.ok (.ret (Value.ref l))) s) :=
  .of_wp fun prog w A R s h => by
    obtain ⟨hp, g, d, tk, os⟩ := s
    obtain ⟨hl, h⟩ := h
    have f1 := AutoSeq1.idx_int
    wp_walk using AutoSeq1.wpAny_loadPart' hl
    exact ⟨_, rfl, h⟩
set_option maxHeartbeats 4000000 in
theorem tuple_mul0 (l : Addr) (items : Array Value) (n : Nat) (dd : Option Addr) (sl : Array (Option Value)) (x : Int) (u : Tok) (c0 : (decide (x < -(2 ^ 63)) || decide (x ≥ 2 ^ 63)) = false) (c1 : (items.isEmpty || x == 1) = false) (c2 : (decide (x ≤ 0) || items.isEmpty) = true) :
    Meets (Builtin.«tuple.__mul__» ⟨[.ref l, .int x u], []⟩) (fun _ R s => s.heap.get? l = some { cls := .type "tuple", dict := dd, data := .seq items n, slots := sl } ∧
      R (.ok (.ret (Value.ref s.heap.objs.size))) { s with heap := s.heap.push { cls := Value.type "tuple", data := Data.seq #[] }, toks := s.toks }) :=
  .of_wp fun prog w A R s h => by
    obtain ⟨hp, g, d, tk, os⟩ := s
    obtain ⟨hl, h⟩ := h
    have f1 := AutoSeq1.idx_int
    wp_walk using AutoSeq1.wpAny_loadPart' hl
    repeat (first
      | (refine wpAny_ite_false (decide_eq_false (by rw [c0]; exact Bool.false_ne_true)) ?_; wp_walk using AutoSeq1.wpAny_loadPart' hl)
      | (refine wpAny_ite_false (decide_eq_false (by rw [c1]; exact Bool.false_ne_true)) ?_; wp_walk using AutoSeq1.wpAny_loadPart' hl)
      | (refine wpAny_ite_true (decide_eq_true (by rw [c2])) ?_; wp_walk using AutoSeq1.wpAny_loadPart' hl))
    exact ⟨_, rfl, h⟩
/-- a tuple (not the empty one) taken at most once -/
def rRep01 (K : PySem.W.Frag) : R2 := fun x y H Q => ∃ l k xs, x = .ref l ∧ y = .int k ∧ SqT K H l xs ∧ xs ≠ [] ∧ -1000 ≤ k ∧ k ≤ 1 ∧ (k = 1 → Q (.ref l) H) ∧ (k ≤ 0 → ∀ p, H p = none → Q (.ref p) (upd H p (.tup [])))
theorem op_rep01 {X : Cx} : OpR X (binaryOp .Mult) (rRep01 X.K) := by
  intro pins s σ H x y v u Q I rx ry h
  obtain ⟨l, k, xs, rfl, rfl, hT, hne, h1, h2, q1, q0⟩ := h
  cases rx
  obtain ⟨t, rfl⟩ := ry
  obtain ⟨its, r, ⟨⟨cls, dd, data, sl⟩, ho, hc, n, hd⟩, hs⟩ := I.tuple hT
  simp only at hc hd
  subst hc hd
  have hle : its.length = xs.length := r.length.symm
  have hn : its ≠ [] := fun e => hne (by
    rw [e] at hle
    exact List.eq_nil_of_length_eq_zero hle.symm)
  have hi : its.toArray.isEmpty = false := by
    cases its with
    | nil => exact absurd rfl hn
    | cons a b => rfl
  by_cases hk : k = 1
  · subst hk
    exact wpAny_binaryOp_repeat_ref (T := "tuple") (U := "int") (by decide) ⟨_, ho, rfl⟩ (fun s' => typeIs_int s' 1 t) noFill_tuple_mul F.fills_int_mul F.slot_int_rmul repeat_tuple F.slot_int_index.lookup
      (call_meets F.slot_int_rmul (typeIs_int s 1 t) F.entry_int_rmul (F.args_int_rmul_2 _ _) (int_rmul_tuple 1 t l its.toArray n dd sl)
        ⟨ho, rfl, ⟨_, ho, rfl⟩, call_meets F.slot_tuple_mul ⟨_, ho, rfl⟩ F.entry_tuple_mul (F.args_tuple_mul_2 _ _) (tuple_mul1 l its.toArray n dd sl t) ⟨ho, .ref l, H, I, rfl, q1 rfl⟩⟩)
  · have c0 : (decide (k < -(2 ^ 63)) || decide (k ≥ 2 ^ 63)) = false := by
      rw [decide_eq_false (by omega), decide_eq_false (by omega)] <;> rfl
    have c1 : (its.toArray.isEmpty || k == 1) = false := by
      rw [hi, Bool.false_or]
      exact beq_eq_false_iff_ne.mpr hk
    have c2 : (decide (k ≤ 0) || its.toArray.isEmpty) = true := by
      rw [decide_eq_true (by omega)]; rfl
    refine wpAny_binaryOp_repeat_ref (T := "tuple") (U := "int") (by decide) ⟨_, ho, rfl⟩ (fun s' => typeIs_int s' k t) noFill_tuple_mul F.fills_int_mul F.slot_int_rmul repeat_tuple F.slot_int_index.lookup
      (call_meets F.slot_int_rmul (typeIs_int s k t) F.entry_int_rmul (F.args_int_rmul_2 _ _) (int_rmul_tuple k t l its.toArray n dd sl)
        ⟨ho, rfl, ⟨_, ho, rfl⟩, call_meets F.slot_tuple_mul ⟨_, ho, rfl⟩ F.entry_tuple_mul (F.args_tuple_mul_2 _ _) (tuple_mul0 l its.toArray n dd sl k t c0 c1 c2) ⟨ho, ?_⟩⟩)
    exact ⟨.ref s.heap.objs.size, _, I.laid (t' := s.toks) (o := .tup []) (fun b ob q => Heap.get?_push_of_some _ q) (Nat.le_refl _) ⟨Nat.zero_le _, [], .nil, IsTup.new _ _⟩, rfl, q0 (by omega) _ (I.hok.fresh (Nat.le_refl _))⟩
noncomputable section
section
variable {X : Cx} {cls : Nat → Addr} {E : XK} {e : Expr} {f g : SE} {t tk : SA}
/-- * of ints; of a list and an int; of a tuple and an int -/
def dMulT : Op2 := fun x y => match x, y with
  | .tup xs, .int k => fun S => if xs ≠ [] ∧ -1000 ≤ k ∧ k ≤ 1000 ∧ xs.length ≤ 1000 then .ok (.tup (List.replicate k.toNat xs).flatten) S else .stuck
  | _, _ => dMul x y
theorem oj_mulT : OpR X (binaryOp .Mult) (rJ X.K cls E dMulT) := fun pins s σ H v w v' w' Q I rx ry hh => by
  obtain ⟨ρ, S, x, y, m, r1, r2, k⟩ := hh
  by_cases hx : ∃ xs i, x = .tup xs ∧ y = .int i
  · obtain ⟨ds, i, rfl, rfl⟩ := hx
    obtain ⟨a, xs, rfl, ea, ra⟩ := r1
    cases r2
    dsimp only [dMulT] at k
    by_cases hs : ds ≠ [] ∧ -1000 ≤ i ∧ i ≤ 1000 ∧ ds.length ≤ 1000
    · rw [if_pos hs] at k
      have hne : xs ≠ [] := fun e => hs.1 (by have := ra.length; rw [e] at this; exact List.eq_nil_of_length_eq_zero this.symm)
      by_cases h2 : 2 ≤ i
      · exact op_repT pins s σ H _ _ v' w' Q I rx ry ⟨a, i, xs, rfl, rfl, SqT.of ea, hne, h2, hs.2.2.1, by rw [ra.length]; exact hs.2.2.2, new_tup (d' := .non) m (ra.flat _) k⟩
      · refine op_rep01 pins s σ H _ _ v' w' Q I rx ry ⟨a, i, xs, rfl, rfl, SqT.of ea, hne, hs.2.1, by omega, fun e => ?_, fun e => ?_⟩
        · subst e
          rw [show (List.replicate (1 : Int).toNat ds).flatten = ds by simp] at k
          exact k ρ H .refl m _ ⟨a, xs, rfl, ea, ra⟩
        · rw [show i.toNat = 0 by omega] at k
          exact new_tup (d' := .non) m (show Reps X.K ρ H [] [] from rfl) k
    · rw [if_neg hs] at k
      exact k.elim
  · have e : dMulT x y = dMul x y := by
      unfold dMulT
      split
      · exact absurd ⟨_, _, rfl, rfl⟩ hx
      · rfl
    rw [e] at k
    exact oj_mul pins s σ H v w v' w' Q I rx ry ⟨ρ, S, x, y, m, r1, r2, k⟩
/-! ### keywords -/
abbrev JK (X : Cx) (cls : Nat → Addr) (E : XK) (kws : List Keyword) (f : SA) : Prop := PK X kws (TJA X.K cls E f)
theorem PK.wk {kws : List Keyword} {t t' : TA} (hp : PK X kws t) (w : ∀ σ H Q, t' σ H Q → t σ H Q) : PK X kws t' := ⟨fun pos pins s σ H Q I q => hp.run pos pins s σ H Q I (w _ _ _ q)⟩
theorem jk_nil : JK X cls E [] aNil := PK.wk pk_nil fun σ H Q hh => by
  obtain ⟨ρ, S, δ, er, m, fi⟩ := hh
  exact fi ρ H .refl m [] rfl
theorem jk_cons {nm : Option Str} {kpos : Pos} {kws : List Keyword} (ha : JE X cls E e f) (hr : JK X cls E kws t) : JK X cls E (⟨nm, e, kpos⟩ :: kws) (aCons f t) := PK.wk (pk_cons ha hr) fun σ H Q hh => by
  obtain ⟨ρ, S, δ, er, m, fi⟩ := hh
  refine ⟨ρ, S, δ, er, m, Fin.imp (Fin.bnd fi) fun x ρ1 S1 H1 x1 m1 k1 v1 r1 => ?_⟩
  refine ⟨ρ1, S1, δ, er.ext x1, m1, Fin.imp (Fin.bnd k1) fun y ρ2 S2 H2 x2 m2 k2 v2 r2 => ?_⟩
  exact k2 ρ2 H2 .refl m2 (v1 :: v2) ⟨v1, v2, rfl, Rep.ext x2 _ _ r1, r2⟩
def perm {α : Type} (z : α) (p : List Nat) (us ws : List α) : List α := p.map fun i => (us ++ ws).getD i z
theorem vals_getD : ∀ {vs : List V} {us : List Value} (i : Nat), Vals vs us → RelV (vs.getD i .non) (us.getD i .none)
  | _, _, _, .nil => rfl
  | _, _, 0, .cons r _ => by simpa using r
  | _, _, i + 1, .cons _ t => by simpa using vals_getD i t
theorem vals_perm {vs : List V} {us : List Value} {zs : List V} {ws : List Value} (r : Vals vs us) (q : Vals zs ws) : ∀ p : List Nat, Vals (perm .non p vs zs) (perm .none p us ws)
  | [] => .nil
  | i :: p => .cons (vals_getD i (r.append q)) (vals_perm r q p)
theorem reps_getD {K : PySem.W.Frag} {ρ : List Addr} {H : Hp} : ∀ {ds : List D} {vs : List V} (i : Nat), Reps K ρ H ds vs → Rep K ρ H (ds.getD i .non) (vs.getD i .non)
  | [], _, i, h => by rw [show _ = [] from h]; simp [Rep]
  | d :: ds, _, 0, ⟨y, ys, e, r, t⟩ => by subst e; simpa using r
  | d :: ds, _, i + 1, ⟨y, ys, e, r, t⟩ => by subst e; simpa using reps_getD i t
theorem reps_perm {K : PySem.W.Frag} {ρ : List Addr} {H : Hp} {ds es : List D} {vs zs : List V} (r : Reps K ρ H ds vs) (q : Reps K ρ H es zs) : ∀ p : List Nat, Reps K ρ H (perm .non p ds es) (perm .non p vs zs)
  | [] => rfl
  | i :: p => ⟨_, _, rfl, reps_getD i (r.append q), reps_perm r q p⟩
theorem _root_.L2.Fun.kbn {K : PySem.W.Frag} {x qual : Str} {st : Stmt} {f : Addr} {fd : FuncData} {ps : List Str} (F : Fun K x qual st f fd) (n : Nat) (ks : List Str) (p : List Nat)
    (h : ∀ (kV doc pm : Value) (an : Option Addr) (cdv ct : Value) (us ws : List Value), us.length = n → ws.length = ks.length → bindArgs (PySem.W.fnOf x qual (defArgs st) (defBody st) (defScope st) .none kV doc pm an cdv ct) ⟨us, ks.zip ws⟩ = pure (ps.zip (perm .none p us ws))) :
    KBn K fd ps n ks (perm .none p) (perm .non p) := by
  obtain ⟨oc, od, kV, doc, pm, an, cdv, ct, osl, rfl, lk, hcd⟩ := F.ex
  exact ⟨fun s us ws _ h1 h2 => .of_eq (h kV doc pm an cdv ct us ws h1 h2), fun r q => vals_perm r q p⟩
theorem pe_callN0 {CX : CXT} {k : Nat} {f : Addr} {fd : FuncData} {ps ks : List Str} {sp : Sp} {E' : XK} {x : Str} {p pos : Pos} {kws : List Keyword} {tk : TA} {g : List Value → List Value → List Value} {gV : List V → List V → List V}
    (F : FnOk X.prog X.w X.K X.mg X.base CX k f fd ps sp) (hr : Room k X.A) (hg : Gl X x) (hm : X.mg x = some (.ref f)) (hk : PySem.W.keepIn X.K (.ref f) = true) (hb : KBn X.K fd ps 0 ks g gV) (hx : Passes CX X E')
    (hkw : PK X kws tk) (hall : (backToKw pos (keywordEach kws X.env)).all (·.1.isSome) = true := by rfl) (hks : (backToKw pos (keywordEach kws X.env)).filterMap (·.1) = ks := by rfl)
    (hdb : (x == ("__debug__" : Str)) = false := by decide) (hpl : ((backTo pos (starEach [] X.env)).any (·.1) || (backToKw pos (keywordEach kws X.env)).any (·.1.isNone)) = false := by rfl) :
    PE X (.Call (.Name x p) [] kws pos) (tCallN 0 ks.length sp gV E' tNil tk) := by
  refine ⟨fun pins s σ H Q I h => ?_⟩
  refine wpAny_Call_Name_kw (ld_glob I hg hm ?_ hdb)
  refine PySem.W.callWith_KW0 (h₀ := X.base) I.ok.mod.kin hk hall ?_ hpl
  refine thn (hkw.run pos pins s σ H _ I h) fun ws s2 ⟨zs, H2, I2, rz, l1, l2, q2⟩ => ⟨I2.kIn, ?_⟩
  rw [hks]
  exact run_fnN (us := []) (vs := []) F hr hb hx I2 .nil rz l1 l2 q2
def eFnK (F : OpN) (p : List Nat) (t tk : SA) : SE := fun δ => bnd (t δ) fun us => bnd (tk δ) fun ws => noX (F (perm .non p us ws))
theorem je_fnK0 {F : OpN} {m k : Nat} {p : List Nat} (h2 : ALen tk m) (h3 : p.length = k) (hp : PE X e (tCallN 0 m (spD X.K cls k F) (perm .non p) E0 tNil (TJA X.K cls E tk))) : JE X cls E e (eFnK F p aNil tk) := PE.wk hp fun pins s σ H Q I hh => by
  obtain ⟨ρ, S, δ, er, m0, fi⟩ := hh
  refine ⟨ρ, S, δ, er, m0, ?_⟩
  have k1 := Fin.bnd (Fin.bnd fi ρ H .refl m0)
  cases hk : tk δ S with
  | exc c w S' => rw [hk] at k1; exact k1
  | stuck => rw [hk] at k1; exact k1
  | ok ws S2 =>
    rw [hk] at k1
    intro ρ2 H2 x2 m2 zs rz
    exact ⟨rfl, by rw [rz.length]; exact h2 _ _ _ _ hk, by rw [← h3]; exact List.length_map _, ρ2, S2, _, m2, reps_perm (show Reps X.K ρ2 H2 [] [] from rfl) rz p, noX_fin (k1 ρ2 H2 x2 m2)⟩
end
end
end DL
set_option Elab.async false
set_option linter.all false
set_option maxRecDepth 100000
/-! DL12: a dict walked in a comprehension; two fors in one -/
namespace DL
open PySem PySem.Spec PyProof.Rows L2
open Classical
noncomputable section
section
variable {K : PySem.W.Frag} {cls : Nat → Addr} {ρ : List Addr} {H : Hp} {a : Addr} {od : Obj} {u0 u : HO}
theorem Rol.unl (ha : H a = some (.frz od u0)) (hu : ∀ xs, u0 ≠ .lst xs) {b : Addr} {xs : List V} (r : Rol K H b xs) : Rol K (upd H a u) b xs := fun Hx hx => by
  by_cases hb : b = a
  · subst hb
    have h1 := r (fun c => if c = b then some (.frz od u0) else none) (fun o q e => by
      rw [ha] at e; cases e
      show (if b = b then _ else _) = _
      rw [if_pos rfl])
    rcases h1 with (h1 | ⟨o, h1⟩) | h1
    · have h1 : (if b = b then some (HO.frz od u0) else none) = some (.lst xs) := h1
      rw [if_pos rfl] at h1; cases h1
    · have h1 : (if b = b then some (HO.frz od u0) else none) = some (.frz o (.lst xs)) := h1
      rw [if_pos rfl] at h1; cases h1; exact absurd rfl (hu xs)
    · exact .inr h1
  · exact r Hx fun o q e => hx o q (by rw [upd_ne hb]; exact e)
mutual
theorem Rep.unl (ha : H a = some (.frz od u0)) (hu : ∀ xs, u0 ≠ .lst xs) : ∀ (d : D) (v : V), Rep K ρ H d v → Rep K ρ (upd H a u) d v
  | .non, _, h => h
  | .bl _, _, h => h
  | .int _, _, h => h
  | .str _, _, h => h
  | .ty _, _, h => h
  | .fn _, _, h => h
  | .tup ds, _, ⟨b, xs, e, e1, r⟩ => ⟨b, xs, e, by rw [upd_ne (ne_of e1 ha (by intro z; cases z))]; exact e1, Reps.unl ha hu ds xs r⟩
  | .loc n, _, h => h
  | .rol ds, _, ⟨b, xs, e, e1, r⟩ => ⟨b, xs, e, Rol.unl ha hu e1, Reps.unl ha hu ds xs r⟩
theorem Reps.unl (ha : H a = some (.frz od u0)) (hu : ∀ xs, u0 ≠ .lst xs) : ∀ (ds : List D) (xs : List V), Reps K ρ H ds xs → Reps K ρ (upd H a u) ds xs
  | [], _, h => h
  | d :: ds, _, ⟨y, ys, e, r, t⟩ => ⟨y, ys, e, Rep.unl ha hu d y r, Reps.unl ha hu ds ys t⟩
end
theorem RepKV.unl {κ : Type} (ha : H a = some (.frz od u0)) (hu : ∀ xs, u0 ≠ .lst xs) : ∀ (kvs : List (κ × D)) (ks : List (κ × V)), RepKV K ρ H kvs ks → RepKV K ρ (upd H a u) kvs ks
  | [], _, h => h
  | p :: r, _, ⟨v, ys, e, q, t⟩ => ⟨v, ys, e, Rep.unl ha hu _ _ q, RepKV.unl ha hu r ys t⟩
theorem Match.unl {S : Store} (m : Match K cls ρ S H) (ha : H a = some (.frz od u0)) (hu : ∀ xs, u0 ≠ .lst xs) {n : Nat} (hn : ρ[n]? = some a) {q : MO} (r : ObjRep K cls ρ (upd H a u) a q) : Match K cls ρ (S.set n q) (upd H a u) := by
  obtain ⟨q0, h0, r0⟩ := m.there hn
  refine ⟨by simp [m.len], m.nd, fun k b o' h1 h2 => ?_⟩
  by_cases hk : n = k
  · subst hk
    rw [hn] at h1; cases h1
    rw [List.getElem?_set_self (List.getElem?_eq_some_iff.mp h0).1] at h2
    cases h2
    exact r
  · rw [List.getElem?_set_ne hk] at h2
    have r' := m.obj k b o' h1 h2
    have hb : b ≠ a := by rintro rfl; exact hk (nd_get m.nd hn h1)
    cases o' with
    | lst _ => obtain ⟨xs, e, r⟩ := r'; exact ⟨xs, by rw [upd_ne hb]; exact e, Reps.unl ha hu _ _ r⟩
    | dik _ => obtain ⟨xs, e, r⟩ := r'; exact ⟨xs, by rw [upd_ne hb]; exact e, RepKV.unl ha hu _ _ r⟩
    | dit _ => obtain ⟨xs, e, r⟩ := r'; exact ⟨xs, by rw [upd_ne hb]; exact e, RepKV.unl ha hu _ _ r⟩
    | ins _ _ => obtain ⟨dx, xs, e, r⟩ := r'; exact ⟨dx, xs, by rw [upd_ne hb]; exact e, RepKV.unl ha hu _ _ r⟩
    | lkd _ => obtain ⟨dx, xs, e, r⟩ := r'; exact ⟨dx, xs, by rw [upd_ne hb]; exact e, RepKV.unl ha hu _ _ r⟩
    | lkt _ => obtain ⟨dx, xs, e, r⟩ := r'; exact ⟨dx, xs, by rw [upd_ne hb]; exact e, RepKV.unl ha hu _ _ r⟩
    | dix _ _ => obtain ⟨ks, xs, e, kx, r⟩ := r'; exact ⟨ks, xs, by rw [upd_ne hb]; exact e, kx.keeps (fun c ys ec => by rw [upd_ne (ne_of ec ha (fun z => nomatch z))]; exact ec), RepKV.unl ha hu _ _ r⟩
end
def keyD : Key → D
  | .inl i => .int i
  | .inr x => .str x
theorem rep_keyD {K : PySem.W.Frag} {ρ : List Addr} {H : Hp} : ∀ k : Key, Rep K ρ H (keyD k) (kV k)
  | .inl _ => rfl
  | .inr _ => rfl
theorem reps_keyD {K : PySem.W.Frag} {ρ : List Addr} {H : Hp} : ∀ k : List Key, Reps K ρ H (k.map keyD) (k.map kV)
  | [] => rfl
  | k :: r => ⟨_, _, rfl, rep_keyD k, reps_keyD r⟩
theorem RepKV.keys {κ : Type} {K : PySem.W.Frag} {ρ : List Addr} {H : Hp} : ∀ {kvs : List (κ × D)} {ks : List (κ × V)}, RepKV K ρ H kvs ks → ks.map (·.1) = kvs.map (·.1)
  | [], _, h => by rw [show _ = [] from h]; rfl
  | p :: r, _, ⟨v, ys, e, q, t⟩ => by subst e; rw [List.map_cons, List.map_cons, RepKV.keys t]
/-- what is behind a lock -/
def unlk (n : Nat) (q q' : MO) (r : Res D) : Res D := match r with
  | .ok d S' => if S'[n]? = some q then .ok d (S'.set n q') else .stuck
  | _ => .stuck
def eLcK (i : Nat) (g : SG) (p : ST) (elt : SE) (vs : List Nat) : SE := fun δ S => match δ[i]? with
  | some (some (.loc n)) => match S[n]? with
    | some (.dik kvs) => unlk n (.lkd kvs) (.dik kvs) (eLc (fun _ S => .ok ⟨kvs.map fun q => keyD q.1, fun _ => True⟩ S) g p elt vs δ (S.set n (.lkd kvs)))
    | some (.dit kvs) => unlk n (.lkt kvs) (.dit kvs) (eLc (fun _ S => .ok ⟨kvs.map fun q => .tup (q.1.map keyD), fun _ => True⟩ S) g p elt vs δ (S.set n (.lkt kvs)))
    | _ => .stuck
  | _ => .stuck
section
variable {X : Cx} {cls : Nat → Addr} {E : XK} {e : Expr} {p : ST} {elt : SE} {vs : List Nat} {gr : TG} {sg : SG} {tt : TT} {st : Stmt}
theorem it_keys {K : PySem.W.Frag} {ρ0 : List Addr} {H0 : Hp} {a : Addr} {od : Obj} {ks : List (Key × V)} {l : Store → Prop} (ha : H0 a = some (.frz od (.dK ks))) : ItOk K cls ρ0 H0 (Itk a od ks) ⟨(ks.map (·.1)).map keyD, l⟩ := fun i ρ S H x m _ => by
  have hb := x.frzs _ _ _ ha
  refine ⟨fun d hd => ?_, fun hn => ?_⟩
  · rw [List.getElem?_map, List.getElem?_map] at hd
    cases hk : ks[i]? with
    | none => rw [hk] at hd; cases hd
    | some q =>
      rw [hk] at hd
      cases hd
      refine ⟨⟨hb, (List.getElem?_eq_some_iff.mp hk).1⟩, fun y H' hy => ?_⟩
      obtain ⟨rfl, k, v, e1, rfl⟩ := hy
      rw [hk] at e1; cases e1
      exact ⟨.refl, m, rep_keyD _⟩
  · refine ⟨hb, ?_⟩
    have := List.getElem?_eq_none_iff.mp hn
    simpa using this
theorem it_keysT {K : PySem.W.Frag} {ρ0 : List Addr} {H0 : Hp} {a : Addr} {od : Obj} {ks : List (List Key × V)} {l : Store → Prop} (ha : H0 a = some (.frz od (.dT ks))) : ItOk K cls ρ0 H0 (Itkt a od ks) ⟨(ks.map (·.1)).map fun k => .tup (k.map keyD), l⟩ := fun i ρ S H x m _ => by
  have hb := x.frzs _ _ _ ha
  refine ⟨fun d hd => ?_, fun hn => ?_⟩
  · rw [List.getElem?_map, List.getElem?_map] at hd
    cases hk : ks[i]? with
    | none => rw [hk] at hd; cases hd
    | some q =>
      rw [hk] at hd
      cases hd
      refine ⟨⟨hb, (List.getElem?_eq_some_iff.mp hk).1⟩, fun y H' hy => ?_⟩
      obtain ⟨rfl, k, v, qq, e1, rfl, hq⟩ := hy
      rw [hk] at e1; cases e1
      exact ⟨.refl, m, qq, _, rfl, hq, reps_keyD _⟩
  · refine ⟨hb, ?_⟩
    have := List.getElem?_eq_none_iff.mp hn
    simpa using this
theorem tj_lcK {K : PySem.W.Frag} {i : Nat} {σ : L2.St} {H : Hp} {Q : VK} (tg : TgOk K vs gr sg) (tk : TtOk K cls tt p) (hh : TJ K cls E (eLcK i sg p elt vs) σ H Q) : tLockE (tLc (iKeys (tVar i)) gr tt (TJ K cls EN elt) vs) σ H Q := by
  obtain ⟨ρ, S, δ, er, m, fi⟩ := hh
  unfold eLcK at fi
  split at fi
  · rename_i n hn
    obtain ⟨v, hv, rv⟩ := er.get i _ hn
    obtain ⟨a, rfl, ea⟩ := rv
    split at fi
    · rename_i kvs hS
      obtain ⟨ks, e1, rr⟩ := m.obj n a _ ea hS
      refine ⟨a, .dK ks, e1, True.intro, fun od => ?_⟩
      have mu : Mut (H a) := by rw [e1]; trivial
      have x1 := ext_write (ρ := ρ) (o := .frz od (.dK ks)) mu
      have m1 := m.write (q := .lkd kvs) ea mu ⟨od, ks, upd_same, rr.ext x1⟩
      have hk := rr.keys
      have h2 := tj_lc (E := E) (elt := elt) (f := fun _ S => .ok ⟨kvs.map fun q => keyD q.1, fun _ => True⟩ S) (Q := fun v H' => H' a = some (.frz od (.dK ks)) ∧ Q v (upd H' a (.dK ks))) tg tk ⟨ρ, S.set n (.lkd kvs), δ, er.ext x1, m1, ?_⟩
      · obtain ⟨ρ', S', δ', er', m', fi'⟩ := h2
        have fi' := fi' ρ' _ .refl m' True.intro
        refine ⟨.ref a, hv, a, od, rfl, .inl ⟨ks, upd_same, fi' _ ?_⟩⟩
        have := it_keys (K := K) (cls := cls) (ρ0 := ρ') (l := fun _ => True) (show upd H a (.frz od (.dK ks)) a = _ from upd_same)
        rw [hk, List.map_map] at this
        exact this
      · -- the end
        unfold unlk at fi
        cases hr : eLc (fun _ S => .ok ⟨kvs.map fun q => keyD q.1, fun _ => True⟩ S) sg p elt vs δ (S.set n (.lkd kvs)) with
        | exc c w S' => rw [hr] at fi; exact fi.elim
        | stuck => rw [hr] at fi; exact fi.elim
        | ok d S' =>
          rw [hr] at fi
          dsimp only at fi
          intro ρ2 H2 x2 m2 u ru
          by_cases hc : S'[n]? = some (.lkd kvs)
          · rw [if_pos hc] at fi
            have hz := x2.frzs _ _ _ (show upd H a (.frz od (.dK ks)) a = _ from upd_same)
            have ea2 := x2.get ea
            obtain ⟨o2, ks2, e2, rr2⟩ := m2.obj n a _ ea2 hc
            rw [hz] at e2
            cases e2
            have hu : ∀ xs, (HO.dK ks) ≠ .lst xs := fun xs z => by cases z
            have m3 := m2.unl (u := .dK ks) hz hu ea2 (q := .dik kvs) ⟨ks, upd_same, RepKV.unl hz hu _ _ rr2⟩
            have x3 : Ext ρ H ρ2 (upd H2 a (.dK ks)) := ⟨x2.pre, fun b xs h => by
              have hb : b ≠ a := by rintro rfl; rw [h] at e1; cases e1
              rw [upd_ne hb]
              exact x2.tups b xs (by rw [upd_ne hb]; exact h), fun b o q h => by
              have hb : b ≠ a := by rintro rfl; rw [h] at e1; cases e1
              rw [upd_ne hb]
              exact x2.frzs b o q (by rw [upd_ne hb]; exact h)⟩
            exact ⟨hz, fi ρ2 _ x3 m3 u (Rep.unl hz hu _ _ ru)⟩
          · rw [if_neg hc] at fi
            exact fi.elim
    · rename_i kvs hS
      obtain ⟨ks, e1, rr⟩ := m.obj n a _ ea hS
      refine ⟨a, .dT ks, e1, True.intro, fun od => ?_⟩
      have mu : Mut (H a) := by rw [e1]; trivial
      have x1 := ext_write (ρ := ρ) (o := .frz od (.dT ks)) mu
      have m1 := m.write (q := .lkt kvs) ea mu ⟨od, ks, upd_same, rr.ext x1⟩
      have hk := rr.keys
      have h2 := tj_lc (E := E) (elt := elt) (f := fun _ S => .ok ⟨kvs.map fun q => .tup (q.1.map keyD), fun _ => True⟩ S) (Q := fun v H' => H' a = some (.frz od (.dT ks)) ∧ Q v (upd H' a (.dT ks))) tg tk ⟨ρ, S.set n (.lkt kvs), δ, er.ext x1, m1, ?_⟩
      · obtain ⟨ρ', S', δ', er', m', fi'⟩ := h2
        have fi' := fi' ρ' _ .refl m' True.intro
        refine ⟨.ref a, hv, a, od, rfl, .inr ⟨ks, upd_same, fi' _ ?_⟩⟩
        have := it_keysT (K := K) (cls := cls) (ρ0 := ρ') (l := fun _ => True) (show upd H a (.frz od (.dT ks)) a = _ from upd_same)
        rw [hk, List.map_map] at this
        exact this
      · -- the end
        unfold unlk at fi
        cases hr : eLc (fun _ S => .ok ⟨kvs.map fun q => .tup (q.1.map keyD), fun _ => True⟩ S) sg p elt vs δ (S.set n (.lkt kvs)) with
        | exc c w S' => rw [hr] at fi; exact fi.elim
        | stuck => rw [hr] at fi; exact fi.elim
        | ok d S' =>
          rw [hr] at fi
          dsimp only at fi
          intro ρ2 H2 x2 m2 u ru
          by_cases hc : S'[n]? = some (.lkt kvs)
          · rw [if_pos hc] at fi
            have hz := x2.frzs _ _ _ (show upd H a (.frz od (.dT ks)) a = _ from upd_same)
            have ea2 := x2.get ea
            obtain ⟨o2, ks2, e2, rr2⟩ := m2.obj n a _ ea2 hc
            rw [hz] at e2
            cases e2
            have hu : ∀ xs, (HO.dT ks) ≠ .lst xs := fun xs z => by cases z
            have m3 := m2.unl (u := .dT ks) hz hu ea2 (q := .dit kvs) ⟨ks, upd_same, RepKV.unl hz hu _ _ rr2⟩
            have x3 : Ext ρ H ρ2 (upd H2 a (.dT ks)) := ⟨x2.pre, fun b xs h => by
              have hb : b ≠ a := by rintro rfl; rw [h] at e1; cases e1
              rw [upd_ne hb]
              exact x2.tups b xs (by rw [upd_ne hb]; exact h), fun b o q h => by
              have hb : b ≠ a := by rintro rfl; rw [h] at e1; cases e1
              rw [upd_ne hb]
              exact x2.frzs b o q (by rw [upd_ne hb]; exact h)⟩
            exact ⟨hz, fi ρ2 _ x3 m3 u (Rep.unl hz hu _ _ ru)⟩
          · rw [if_neg hc] at fi
            exact fi.elim
    · exact fi.elim
  · exact fi.elim
theorem je_lcK {i : Nat} (tg : TgOk X.K vs gr sg) (tk : TtOk X.K cls tt p) (hp : PE X e (tLockE (tLc (iKeys (tVar i)) gr tt (TJ X.K cls EN elt) vs))) : JE X cls E e (eLcK i sg p elt vs) := PE.wk hp fun _ _ _ _ _ _ h => tj_lcK tg tk h
end
end
end DL
set_option Elab.async false
set_option linter.all false
set_option maxRecDepth 100000
set_option maxHeartbeats 1000000
/-! DL13: sets of ints made by a comprehension with two fors (no conditions), and their len -/
namespace DLS
open PySem PySem.Spec PyProof.Rows L2 PpSet
/-- a clause's turn without conditions: the next item is stored, then `rest` -/
def clauseTurn (p : Pos) (tg : Expr) (it : Value) (env : Env) (rest : Sem Fin) : Sem Fin := (do
  standAt p
  match ← pyNext it with
  | none => pure (Fin.done .next)
  | some v => letOwnedTupleGo tg it v; assign tg env v; rest)
/-- {y for t0 in i0 for t1 in i1} -/
abbrev node2 (y t0 i0 t1 i1 : Expr) (scope : Scope) (pos : Pos) : Expr := .SetComp y [⟨t0, i0, [], 0⟩, ⟨t1, i1, [], 0⟩] scope pos
section
variable {P : Program} {w : World} {A : Around} {R : Result → Shared → Prop} {s : Shared} {y t0 i0 t1 i1 : Expr} {scope : Scope} {pos : Pos} {it acc : Value} {env : Env}
theorem turn1_is : compTurn (node2 y t0 i0 t1 i1 scope pos) 1 it acc env =
    clauseTurn i1.pos t1 it env (do (do let v ← eval y env; standAt y.pos; let _ ← call (.builtin "set.add") [acc, v]); again (.compLoop (node2 y t0 i0 t1 i1 scope pos) 1 it acc env)) := by rfl
theorem turn0_is : compTurn (node2 y t0 i0 t1 i1 scope pos) 0 it acc env =
    clauseTurn i0.pos t0 it env (do let x ← eval i1 env; standAt i1.pos; let x ← foldedSetIterable i1 env x; let z ← holding [x] (pyIter x); let _ ← runOwn (.compStart (node2 y t0 i0 t1 i1 scope pos) 1 z acc env) env; again (.compLoop (node2 y t0 i0 t1 i1 scope pos) 0 it acc env)) := by rfl
/-- what a turn asks, whatever the rest is: `end` at the walk's end, else the item is stored and the rest is asked -/
def TurnAsk (P : Program) (w : World) (A : Around) (tg : Expr) (it : Value) (env : Env) (stop go : Shared → Prop) (E : Value → Shared → Prop) (s : Shared) : Prop :=
  wpAny (model P w) A (pyNext it) (fun r s1 => match r with
    | none => stop s1
    | some v => wpAny (model P w) A (letOwnedTupleGo tg it v) (fun _ s2 => wpAny (model P w) A (assign tg env v) (fun _ s3 => go s3) E s2) E s1) E s
theorem ask_turn {p : Pos} {tg : Expr} {rest : Sem Fin} {Q : Fin → Shared → Prop} {E : Value → Shared → Prop} (h : TurnAsk P w A tg it env (Q (.done .next)) (wpAny (model P w) A rest Q E) E s) : wpAny (model P w) A (clauseTurn p tg it env rest) Q E s := by
  unfold clauseTurn
  refine wpAny_bind (wpAny_standAt (wpAny_bind (wpAny_mono h (fun r s1 q => ?_) fun _ _ q => q)))
  match r, q with
  | none, q => exact wpAny_pure q
  | some v, q => exact wpAny_bind (wpAny_mono q (fun _ s2 q2 => wpAny_bind (wpAny_mono q2 (fun _ s3 q3 => q3) fun _ _ q => q)) fun _ _ q => q)
abbrev Noted (P : Program) (w : World) (A : Around) (env : Env) (R : Result → Shared → Prop) : Value → Shared → Prop := notedBy (model P w) A env fun e s' => R (.error e) s'
/-- the inner loop, by what is true ahead of each of its turns -/
theorem inner_ok (I : Nat → Shared → Prop)
    (turn : ∀ n s, I n s → TurnAsk P w A t1 it env (R (.ok .next)) (fun s3 => wpAny (model P w) A (eval y env) (fun x s4 => wpAny (model P w) A (call (.builtin "set.add") [acc, x]) (fun _ s5 => ∃ m, m < n ∧ I m s5) (Noted P w A env R) s4) (Noted P w A env R) s3) (Noted P w A env R) s)
    (n : Nat) (h : I n s) : codeAny (model P w) A (.compLoop (node2 y t0 i0 t1 i1 scope pos) 1 it acc env) R s := by
  refine codeAny_loop rfl I (fun k s0 hI => ?_) n h
  change wpAny _ A ((compTurn (node2 y t0 i0 t1 i1 scope pos) 1 it acc env).onRaise _) _ _ s0
  refine wpAny_noted ?_
  rw [turn1_is]
  refine ask_turn (wpAny_mono (turn k s0 hI) (fun r s1 q => ?_) fun _ _ q => q)
  match r, q with
  | none, q => exact q
  | some v, q =>
    refine wpAny_mono q (fun _ s2 q2 => wpAny_mono q2 (fun _ s3 q3 => ?_) fun _ _ q => q) fun _ _ q => q
    exact wpAny_bind (wpAny_bind (wpAny_mono q3 (fun x s4 q4 => wpAny_bind (wpAny_standAt (wpAny_bind (wpAny_mono q4 (fun _ s5 q5 => wpAny_pure (wpAny_pure ⟨rfl, q5⟩)) fun _ _ q => q)))) fun _ _ q => q))
/-- the outer loop: each turn asks the inner one, from its start -/
theorem outer_ok (fold : ∀ x, foldedSetIterable i1 env x = pure x) (I : Nat → Shared → Prop)
    (turn : ∀ n s, I n s → TurnAsk P w A t0 it env (R (.ok .next)) (fun s3 => wpAny (model P w) A (eval i1 env) (fun x s4 => wpAny (model P w) A (pyIter x) (fun z s5 =>
      codeAny (model P w) A (.compStart (node2 y t0 i0 t1 i1 scope pos) 1 z acc env) (fun r s' => (∃ f, r = .ok f) ∧ ∃ m, m < n ∧ I m s') s5) (Noted P w A env R) s4) (Noted P w A env R) s3) (Noted P w A env R) s)
    (n : Nat) (h : I n s) : codeAny (model P w) A (.compLoop (node2 y t0 i0 t1 i1 scope pos) 0 it acc env) R s := by
  refine codeAny_loop rfl I (fun k s0 hI => ?_) n h
  change wpAny _ A ((compTurn (node2 y t0 i0 t1 i1 scope pos) 0 it acc env).onRaise _) _ _ s0
  refine wpAny_noted ?_
  rw [turn0_is]
  refine ask_turn (wpAny_mono (turn k s0 hI) (fun r s1 q => ?_) fun _ _ q => q)
  match r, q with
  | none, q => exact q
  | some v, q =>
    refine wpAny_mono q (fun _ s2 q2 => wpAny_mono q2 (fun _ s3 q3 => ?_) fun _ _ q => q) fun _ _ q => q
    refine wpAny_bind (wpAny_mono q3 (fun x s4 q4 => wpAny_bind (wpAny_standAt (wpAny_bind (wpAny_of_eq (fold x) ?_)))) fun _ _ q => q)
    refine wpAny_bind (wpAny_holding (wpAny_mono q4 (fun z s5 q5 => wpAny_bind (wpAny_runOwn ?_)) fun _ _ q => q))
    rw [Around.mark_none]
    refine codeAny_mono q5 fun r s' hr => ?_
    obtain ⟨⟨f, rfl⟩, hm⟩ := hr
    exact wpAny_pure ⟨rfl, hm⟩
/-- the second clause's start, where the walk is its own iterator -/
theorem start1_ok (h0 : codeAny (model P w) A (.compLoop (node2 y t0 i0 t1 i1 scope pos) 1 it acc env) R s)
    (self : ∀ (Q : Value → Shared → Prop) (E : Value → Shared → Prop), Q it s → wpAny (model P w) A (pyIter it) Q E s) :
    codeAny (model P w) A (.compStart (node2 y t0 i0 t1 i1 scope pos) 1 it acc env) R s := by
  refine codeAny_of_tree ?_
  change wpAny _ _ ((compStart (node2 y t0 i0 t1 i1 scope pos) 1 it acc env).onRaise _) _ _ s
  refine wpAny_notedAt ?_
  unfold compStart
  change wpAny _ _ (ask >>= _) _ _ s
  refine wpAny_bind (wpAny_askSetting (wpAny_ite ?_))
  split
  · exact wpAny_pure ⟨rfl, h0⟩
  · refine wpAny_bind (wpAny_rule ?_)
    change wpAny _ _ (standAt i1.pos >>= _) _ _ s
    exact wpAny_bind (wpAny_standAt (wpAny_bind (self _ _ (wpAny_pure ⟨rfl, h0⟩))))
end
/-! ### a turn of a walk, in any context whose exceptions are none -/
section
variable {Y : Cx} {p : List (Addr × Obj)} {σ σ0 σ9 : L2.St} {H : Hp} {s : Shared} {tg : Expr} {J : It} {fp : List Addr} {itA : Addr} {tn : Nat → Heap → Prop} {g : TG} {i : Nat}
theorem turn_ask (hc : Y.calm = true) (hx : Y.xe = fun _ _ => False) (T : Turn Y.prog Y.w Y.K tg J fp itA tn) (pg : PG Y tg g) (fr : ∀ b ∈ fp, ∀ H', H' b = none → FpOk Y p H' b) (I : Inv Y p σ H s) (st : tn i s.heap) (nf : ∀ b ∈ fp, H b = none)
    {stop go : Shared → Prop} {E : Value → Shared → Prop} (h : (J.stop i H ∧ ∀ s', Inv Y p σ H s' → stop s') ∨
      (J.go i H ∧ ∀ x H', J.yld i H x H' → ∃ D : L2.St → Hp → Prop, g x σ H' D ∧ ∀ h7 σ8 H8 s8, tn (i + 1) h7 → Inv Y (p ++ pinsAt fp h7) σ8 H8 s8 → D σ8 H8 → go s8)) : TurnAsk Y.prog Y.w Y.A tg (.ref itA) Y.env stop go E s := by
  have f0 : ∀ b ∈ fp, FpOk Y p H b := fun b hb => fr b hb H (nf b hb)
  rcases h with ⟨hs, k⟩ | ⟨hg, k⟩
  · exact thnF (T.done Y rfl rfl rfl hc i p s σ H _ I f0 st hs) fun r s1 ⟨hr, I1⟩ => by subst hr; exact k s1 I1
  · refine thnF (T.item Y rfl rfl rfl hc i p s σ H _ I f0 st hg) fun r s1 ⟨u, hr, h1⟩ => ?_
    subst hr
    refine thnF h1 fun _ s2 ⟨x, H2, I2, rx, yx, st2, nf2⟩ => ?_
    obtain ⟨D, hD, kk⟩ := k x H2 yx
    have q := pg.run _ s2 σ H2 x u D (I2.pinned (fun b hb => fr b hb H2 (nf2 b hb)) (T.obj _ _ st2)) rx hD
    rw [hx] at q
    exact thnF q fun _ s8 ⟨σ8, H8, I8, d⟩ => kk _ σ8 H8 s8 st2 I8 d
theorem turn_end (T : Turn Y.prog Y.w Y.K tg J fp itA tn) {h7 : Heap} (I : Inv Y (p ++ pinsAt fp h7) σ9 H s) (st : tn (i + 1) h7) (hl : σ0.length = σ9.length) (hk : ∀ (j : Nat) v, σ0[j]? = some (some v) → σ9[j]? = some (some v)) :
    Inv Y p σ0 H s ∧ tn (i + 1) s.heap ∧ ∀ b ∈ fp, H b = none := by
  have key : ∀ b ∈ fp, ∀ o, h7.get? b = some o → s.heap.get? b = some o ∧ H b = none := fun b hb o e =>
    have z := I.pin (b, o) (List.mem_append_right _ (List.mem_append_right _ (mem_pinsAt hb e)))
    ⟨z.1, z.2.1⟩
  refine ⟨I.unpinned.weak hl hk, T.keep _ _ _ st fun b hb o e => (key b hb o e).1, fun b hb => ?_⟩
  obtain ⟨o, e, _⟩ := T.obj _ _ st b hb
  exact (key b hb o e).2
end
/-! ### the readings -/
/-- W goes with the walk J: at its end `done`, else each item leads on -/
def Run (J : It) (H0 : Hp) (done : Hp → Prop) (item : V → Hp → (Hp → Prop) → Prop) : Prop :=
  ∃ W : Nat → Nat → Hp → Prop, (∃ m, W 0 m H0) ∧ ∀ i m H, W i m H → (J.stop i H ∧ done H) ∨
    (J.go i H ∧ ∃ Nx : Hp → Prop, (∀ H', Nx H' → ∃ m', m' < m ∧ W (i + 1) m' H') ∧ ∀ x H', J.yld i H x H' → item x H' Nx)
/-- the set at D gets an int -/
def Adds (w : World) (D : Addr) (z : V) (H : Hp) (nx : Hp → Prop) : Prop :=
  ∃ (k : Int) (S : Int → Bool) (n : Nat), z = .int k ∧ H D = some (SetO w D S n) ∧ n + 1 < scanBound ∧ nx (upd H D (SetO w D (fun j => S j || decide (j = k)) (if S k = true then n else n + 1)))
def tSet2 (w : World) (wi : TI) (g : TG) (wi1 : TI) (g1 : TG) (te : TE) (vs vs1 : List Nat) : TE := fun σ H Q => wi σ H fun J H1 => ∀ D, H1 D = none →
  Run J (upd H1 D (SetO w D (fun _ => false) 0)) (Q (.ref D)) fun x H2 nx => g x (wipe σ vs) H2 fun σ2 H3 => wipe σ2 vs = wipe σ vs ∧ wi1 σ2 H3 fun J1 H4 =>
    Run J1 H4 nx fun x1 H5 nx1 => g1 x1 (wipe σ2 vs1) H5 fun σ3 H6 => wipe σ3 vs1 = wipe σ2 vs1 ∧ te σ3 H6 fun z H7 => Adds w D z H7 nx1
section
variable {X : Cx}
theorem adds_ok {p : List (Addr × Obj)} {σ : L2.St} {H : Hp} {s : Shared} {E : Value → Shared → Prop} {D : Addr} {z : V} {v : Value} {nx : Hp → Prop} {Q : Value → Shared → Prop} (I : Inv X p σ H s) (r : RelV z v) (a : Adds X.w D z H nx)
    (h : ∀ H' s', Inv X p σ H' s' → nx H' → Q .none s') : wpAny (model X.prog X.w) X.A (call (.builtin "set.add") [.ref D, v]) Q E s := by
  obtain ⟨k, S, n, rfl, hD, room, hn⟩ := a
  obtain ⟨tk, rfl⟩ := (show ∃ tk, v = Value.int k tk from r)
  refine setR_add (setO_get I hD) room fun h' sb new => ?_
  have ⟨o, _, _, _, ho, _⟩ := new
  exact h _ _ (I.write (e := D) (t' := s.toks + 1) (by rw [hD]; trivial) (.inl rfl) (fun b u hb hu => (sb.2 b hb).trans hu) ⟨o, ho⟩ (setO_new new)) hn
/-- {y for t0 in i0 for t1 in i1}, as a value -/
theorem pe_set2 {y t0 i0 t1 i1 : Expr} {scope : Scope} {own : List (PySem.Str × Nat)} {vs1 : List Nat} {pos : Pos} {wi wi1 : TI} {g g1 : TG} {te : TE} (hc : X.calm = true) (hN : X.N.Nodup) (hi : PI X t0 i0 wi) (ok : BlkOk X.N X.env.scope scope own) (hv : ∀ j ∈ vs1, j ∈ own.map (·.2))
    (hb : ∀ (s : Shared) (H : Hp) (C : Addr) (cl : List (PySem.Str × Addr)) (fp : List Addr), let Y := X.blk s H scope (compEnvC scope cl C X.env) fp; PG Y t0 g ∧ PI Y t1 i1 wi1 ∧ PG Y t1 g1 ∧ PE Y y te)
    (f0 : ∀ x, foldedSetIterable i0 X.env x = pure x := by intro _; rfl) (f1 : ∀ env x, foldedSetIterable i1 env x = pure x := by intro _ _; rfl) :
    PE X (node2 y t0 i0 t1 i1 scope pos) (tSet2 X.w wi g wi1 g1 te (own.map (·.2)) vs1) := by
  refine ⟨fun pins s σ H Q I h => ?_⟩
  rw [eval_SetComp]
  have hfree : ∀ q ∈ scope.names, q.2 = .free → ∃ c, X.env.cells.lookup q.1 = some c := fun q hq e => (ok.free q hq e).elim (fun z => I.ok.has _ (.inl z)) fun z => I.ok.has _ (.inr z)
  refine wpAny_comprehension_free (use := none) rfl f0 (closure_ok hfree) ok.kind (fun q hq e => by rw [ok.uniq q hq, e]) (thn (hi.run pins s σ H _ I h) fun v s1 h1 => thn h1 fun itv s2 h2 => ?_)
  obtain ⟨itA, fp, tn, J, H2, e, I2, T, st2, fr2, run⟩ := h2
  subst e
  refine newSet_ok (newEnv_comp ?_)
  -- the new set, at D
  obtain ⟨D, hD⟩ : ∃ D, D = s2.heap.objs.size := ⟨_, rfl⟩
  obtain ⟨W, ⟨m0, w0⟩, step⟩ := run D (I2.hok.fresh (Nat.le_of_eq hD.symm))
  obtain ⟨s3, hs3⟩ : ∃ s3 : Shared, s3 = { s2 with heap := s2.heap.push { cls := .type "set", dict := none, data := .set #[] 0 (.fresh 0 0 (!X.w.params.followText "set-order")) } } := ⟨_, rfl⟩
  obtain ⟨H3, hH3⟩ : ∃ H3 : Hp, H3 = upd H2 D (SetO X.w D (fun _ => false) 0) := ⟨_, rfl⟩
  have up : ∀ b o, s2.heap.get? b = some o → s3.heap.get? b = some o := fun b o e => by rw [hs3]; exact Heap.get?_push_of_some _ e
  have I3 : Inv X pins σ H3 s3 := by
    subst hs3 hH3 hD
    exact I2.laid (t' := s2.toks) (fun b o e => Heap.get?_push_of_some _ e) (Nat.le_refl _) (setO_new (setR_fresh X.w))
  have there : ∀ b ∈ fp, b < s2.heap.objs.size := fun b hb => let ⟨o, e, _⟩ := T.obj _ _ st2 b hb; Heap.lt_size e
  have n3 : ∀ b ∈ fp, H3 b = none := fun b hb => by rw [hH3, upd_ne (by rw [hD]; exact Nat.ne_of_lt (there b hb))]; exact (fr2 b hb).1
  have fr3 : ∀ b ∈ fp, FpOk X pins H3 b ∧ b < s3.heap.objs.size := fun b hb => ⟨⟨n3 b hb, (fr2 b hb).2⟩, by
    obtain ⟨o, e, _⟩ := T.obj _ _ st2 b hb
    exact Heap.lt_size (up b o e)⟩
  have I4 := block_start I3 ok hN fr3
  obtain ⟨pg0, pi1, pg1, pe⟩ := hb s3 H3 s3.heap.objs.size (cellsFrom (s3.heap.objs.size + 1) scope.names (cloFrom X.env.cells scope.names [])) fp
  rw [← hH3] at w0
  rw [← hs3, ← hD]
  change codeAny _ _ (.compStart (node2 y t0 i0 t1 i1 scope pos) 0 (.ref itA) (.ref D) (compEnvC scope (cellsFrom (s3.heap.objs.size + 1) scope.names (cloFrom X.env.cells scope.names [])) s3.heap.objs.size X.env)) _ { s3 with heap := pushCells (s3.heap.push { cls := .type "dict", data := .dict #[] }) scope.names }
  obtain ⟨ce, hce⟩ : ∃ ce, ce = compEnvC scope (cellsFrom (s3.heap.objs.size + 1) scope.names (cloFrom X.env.cells scope.names [])) s3.heap.objs.size X.env := ⟨_, rfl⟩
  have cL : ce.locals = s3.heap.objs.size := by rw [hce]; rfl
  rw [← hce] at I4 pg0 pi1 pg1 pe ⊢
  obtain ⟨s4, hs4⟩ : ∃ s4 : Shared, s4 = { s3 with heap := pushCells (s3.heap.push { cls := .type "dict", data := .dict #[] }) scope.names } := ⟨_, rfl⟩
  rw [← hs4] at I4 ⊢
  have st4 : tn 0 s4.heap := T.keep _ _ _ st2 fun b _ o e => by rw [hs4]; exact pushCells_keeps _ _ _ _ (Heap.get?_push_of_some _ (up b o e))
  have frY : ∀ b ∈ fp, ∀ H', H' b = none → FpOk (X.blk s3 H3 scope ce fp) [] H' b := fun b hb H' hn =>
    ⟨hn, (I4.ok.exf b hb).1, I4.ok.exfs b hb, .inl hb, fun x c e => (I4.ok.exf b hb).2 x c e, fun q hq => absurd (show q ∈ ([] : List (Addr × Obj)) ++ [] from hq) (by simp)⟩
  have len : ∀ {σ' : L2.St} {vs : List Nat}, wipe σ' vs = wipe σ vs → (wipe σ vs).length = σ'.length := fun {σ' vs} e => by rw [← e, wipe_length]
  have enter : ∀ Rr, codeAny (model X.prog X.w) X.A (.compLoop (node2 y t0 i0 t1 i1 scope pos) 0 (.ref itA) (.ref D) ce) Rr s4 → codeAny (model X.prog X.w) X.A (.compStart (node2 y t0 i0 t1 i1 scope pos) 0 (.ref itA) (.ref D) ce) Rr s4 :=
    fun Rr l => codeAny_compStart_set l (T.self X.A 0 _ _ _ st4 l)
  refine enter _ (outer_ok (f1 ce) (fun n s' => ∃ i H', Inv (X.blk s3 H3 scope ce fp) [] (wipe σ (own.map (·.2))) H' s' ∧ tn i s'.heap ∧ (∀ b ∈ fp, H' b = none) ∧ W i n H') ?_ m0 ⟨0, H3, I4, st4, n3, w0⟩)
  rintro n s5 ⟨i, H5, I5, st5, n5, w5⟩
  refine turn_ask (Y := X.blk s3 H3 scope ce fp) hc rfl T pg0 frY I5 st5 n5 ?_
  rcases step i n H5 w5 with ⟨stop, q⟩ | ⟨go, Nx, hNx, each⟩
  · -- all is walked: back in the def
    refine .inl ⟨stop, fun s6 I6 => ?_⟩
    have nC : H5 s3.heap.objs.size = none := by rw [← cL]; exact I6.free
    obtain ⟨m, hn, _⟩ := I6.loc
    have hn : s6.heap.Ns ce.locals m := hn
    rw [cL] at hn
    have I7 : Inv X pins σ H5 s6 := I3.call' (ch := fp) I6.os I6.base I6.hok I6.bare fun b hb => have z := (fr3 b hb).1; ⟨z.2.2.2.1, z.2.1, z.2.2.2.2.1, z.2.2.2.2.2⟩
    have f := I3.fpOk (b := s3.heap.objs.size) (H' := H5) (Nat.le_refl _) nC
    exact ⟨m, hn, fun h'' sb => ⟨.ref D, H5, I7.turned (t' := s6.toks) (fun b o hb e => (sb.2 b hb).trans e) f.1 f.2.1 f.2.2.2.1 f.2.2.2.2.1 f.2.2.2.2.2, rfl, q⟩⟩
  · refine .inr ⟨go, fun x H' yx => ⟨_, each x H' yx, fun h7 σ8 H8 s8 st7 I8 ⟨hw, hwi⟩ => ?_⟩⟩
    refine thnF (pi1.run _ s8 σ8 H8 _ I8 hwi) fun xv s9 hx => thnF hx fun itv s10 h10 => ?_
    obtain ⟨itB, fpB, tnB, JB, H10, e, I10, TB, stB, frB, W1, ⟨m1, w1⟩, step1⟩ := h10
    subst e
    have loop1 : codeAny (model X.prog X.w) X.A (.compLoop (node2 y t0 i0 t1 i1 scope pos) 1 (.ref itB) (.ref D) ce) (fun r s' => (∃ f, r = .ok f) ∧ ∃ m, m < n ∧ ∃ i H', Inv (X.blk s3 H3 scope ce fp) [] (wipe σ (own.map (·.2))) H' s' ∧ tn i s'.heap ∧ (∀ b ∈ fp, H' b = none) ∧ W i m H') s10 := by
      refine inner_ok (fun k s' => ∃ j H', Inv (X.blk s3 H3 scope ce fp) ([] ++ pinsAt fp h7) (wipe σ8 vs1) H' s' ∧ tnB j s'.heap ∧ (∀ b ∈ fpB, H' b = none) ∧ W1 j k H') ?_ m1 ⟨0, H10, I10.weak (wipe_length _ _) (fun j v e => (wipe_some e).1), stB, fun b hb => (frB b hb).1, w1⟩
      rintro k s11 ⟨j, H11, I11, st11, n11, w11⟩
      refine turn_ask (Y := X.blk s3 H3 scope ce fp) hc rfl TB pg1 (fun b hb H' hn => ⟨hn, (frB b hb).2⟩) I11 st11 n11 ?_
      rcases step1 j k H11 w11 with ⟨stop, nx⟩ | ⟨go1, Nx1, hNx1, each1⟩
      · refine .inl ⟨stop, fun s12 I12 => ⟨⟨_, rfl⟩, ?_⟩⟩
        obtain ⟨m', hm, w'⟩ := hNx H11 nx
        obtain ⟨a1, a2, a3⟩ := turn_end (Y := X.blk s3 H3 scope ce fp) (p := []) T (σ0 := wipe σ (own.map (·.2))) I12 st7 ((len hw).trans (wipe_length σ8 vs1).symm) fun j v e => by
          rw [← hw] at e
          obtain ⟨e1, e2⟩ := wipe_some e
          rw [wipe_out fun z => e2 (hv j z)]
          exact e1
        exact ⟨m', hm, i + 1, H11, a1, a2, a3, w'⟩
      · refine .inr ⟨go1, fun x1 H' yx1 => ⟨_, each1 x1 H' yx1, fun h13 σ13 H13 s13 st13 I13 ⟨hw1, hte⟩ => ?_⟩⟩
        refine thnF (pe.run _ s13 σ13 H13 _ I13 hte) fun v s14 ⟨z, H14, I14, rz, ad⟩ => ?_
        refine adds_ok (X := X.blk s3 H3 scope ce fp) I14 rz ad fun H15 s15 I15 nx => ?_
        obtain ⟨m', hm, w'⟩ := hNx1 H15 nx
        obtain ⟨a1, a2, a3⟩ := turn_end (Y := X.blk s3 H3 scope ce fp) TB (σ0 := wipe σ8 vs1) I15 st13 (by rw [← hw1, wipe_length]) fun j v e => by rw [← hw1] at e; exact (wipe_some e).1
        exact ⟨m', hm, j + 1, H15, a1, a2, a3, w'⟩
    exact start1_ok loop1 fun Q E q => TB.self X.A 0 _ Q E stB q
end
end DLS
set_option Elab.async false
set_option linter.all false
set_option maxRecDepth 100000
set_option maxHeartbeats 1000000
/-! DL14: len({y for i in p for y in r[i]}) of tuples of ints -/
namespace DL
open PySem PySem.Spec PyProof.Rows L2 PpSet
open Classical
noncomputable section
/-- the ints met so far, each once -/
def addI (acc : List Int) (k : Int) : List Int := if k ∈ acc then acc else acc ++ [k]
def dInts : List D → Option (List Int)
  | [] => some []
  | .int k :: r => (dInts r).map (k :: ·)
  | _ :: _ => none
theorem dInts_get : ∀ {ds : List D} {ns : List Int}, dInts ds = some ns → ds = ns.map D.int
  | [], ns, h => by cases h; rfl
  | .int k :: r, ns, h => by
    unfold dInts at h
    cases hr : dInts r with
    | none => rw [hr] at h; cases h
    | some ms => rw [hr] at h; cases h; rw [dInts_get hr]; rfl
  | .non :: r, ns, h => by cases h
  | .bl _ :: r, ns, h => by cases h
  | .str _ :: r, ns, h => by cases h
  | .tup _ :: r, ns, h => by cases h
  | .loc _ :: r, ns, h => by cases h
  | .rol _ :: r, ns, h => by cases h
  | .ty _ :: r, ns, h => by cases h
  | .fn _ :: r, ns, h => by cases h
def s2L (rs : List D) : List D → List Int → Option (List Int)
  | [], acc => some acc
  | .int k :: is, acc => match ixN rs.length k with
    | some j => match rs[j]? with
      | some (.tup hs) => match dInts hs with
        | some ns => if acc.length + ns.length + 1 < scanBound then s2L rs is (ns.foldl addI acc) else none
        | _ => none
      | _ => none
    | _ => none
  | _ :: _, _ => none
def eLenS2 (p r i h : Nat) : SE := fun δ S => match δ[p]?, δ[r]? with
  | some (some (.tup is)), some (some (.tup rs)) => if i < δ.length ∧ h < δ.length ∧ p ≠ i ∧ p ≠ h ∧ r ≠ i ∧ r ≠ h ∧ i ≠ h then match s2L rs is [] with
      | some acc => .ok (.int (acc.length : Nat)) S
      | none => .stuck
    else .stuck
  | _, _ => .stuck
section
variable {X : Cx}
def rLenS (w : World) : List V → Hp → VK → Prop := fun xs H Q => ∃ a S n, xs = [V.ref a] ∧ H a = some (SetO w a S n) ∧ Q (.int (n : Nat)) H
theorem call_lenS : CallR X (.builtin "len") (rLenS X.w) := by
  intro pins s σ H xs us Q I r h
  obtain ⟨a, S, n, rfl, ha, q⟩ := h
  cases r with
  | cons rx rt =>
    cases rt
    cases rx
    obtain ⟨o, es, ep, t, ho, hx, hd, g, nd, hm, hb, hf, hn, _⟩ := setO_get I ha
    have hsb : scanBound = 4096 := rfl
    refine call_len_set ho hx hd hf (by omega) ⟨.int (n : Nat), H, I.tok _, ⟨_, by rw [hn]⟩, q⟩
end
theorem addI_len (acc : List Int) (k : Int) : (addI acc k).length ≤ acc.length + 1 := by
  unfold addI; split <;> simp
theorem foldl_addI_len : ∀ (ns acc : List Int), (ns.foldl addI acc).length ≤ acc.length + ns.length
  | [], acc => by simp
  | k :: ns, acc => by
    have h1 := addI_len acc k
    have h2 := foldl_addI_len ns (addI acc k)
    simp only [List.foldl_cons, List.length_cons]; omega
theorem setO_addI (w : World) (D : Addr) (acc : List Int) (k : Int) : SetO w D (fun j => decide (j ∈ acc) || decide (j = k)) (if decide (k ∈ acc) = true then acc.length else acc.length + 1) = SetO w D (fun j => decide (j ∈ addI acc k)) (addI acc k).length := by
  have e1 : (fun j : Int => decide (j ∈ acc) || decide (j = k)) = fun j => decide (j ∈ addI acc k) := by
    funext j
    unfold addI
    by_cases h : k ∈ acc
    · rw [if_pos h]
      by_cases hj : j = k
      · subst hj; simp [h]
      · simp [hj]
    · rw [if_neg h]
      simp
  have e2 : (if decide (k ∈ acc) = true then acc.length else acc.length + 1) = (addI acc k).length := by
    unfold addI
    by_cases h : k ∈ acc <;> simp [h]
  rw [e1, e2]
theorem wipe2 {σ : L2.St} {i h q : Nat} {v : V} (hi : q ≠ i) (hh : q ≠ h) (e : σ[q]? = some (some v)) : (wipe σ [i, h])[q]? = some (some v) := by
  show ((σ.set h none).set i none)[q]? = _
  rw [List.getElem?_set_ne (Ne.symm hi), List.getElem?_set_ne (Ne.symm hh)]
  exact e
theorem tj_lenS2 {K : PySem.W.Frag} {w : World} {cls : Nat → Addr} {E : XK} {p r i h : Nat} {σ : L2.St} {H : Hp} {Q : VK} (hh : TJ K cls E (eLenS2 p r i h) σ H Q) :
    tCB (rLenS w) (tCons (DLS.tSet2 w (iTup K (tVar p)) (gName i) (iTup K (tOp (rIxT K) (tVar r) (tVar i))) (gName h) (tVar h) [i, h] [h]) tNil) σ H Q := by
  obtain ⟨ρ, S, δ, er, m, fi⟩ := hh
  unfold eLenS2 at fi
  split at fi
  case h_2 => exact fi.elim
  rename_i is rs hp hr
  split at fi
  case isFalse => exact fi.elim
  rename_i hne
  obtain ⟨li, lh, pi, ph, ri, rh, ih⟩ := hne
  obtain ⟨vp, gp, a, xs, rfl, ea, ra⟩ := er.get p _ hp
  obtain ⟨vr, gr, b, ys, rfl, eb, rb⟩ := er.get r _ hr
  split at fi
  case h_2 => exact fi.elim
  rename_i accF hs
  have ls : σ.length = δ.length := er.len
  refine ⟨.ref a, gp, a, rfl, ⟨xs, SqT.of ea⟩, fun D hD => ?_⟩
  have na : a ≠ D := by rintro rfl; rw [ea] at hD; cases hD
  have nb : b ≠ D := by rintro rfl; rw [eb] at hD; cases hD
  let HH : List Int → Hp := fun acc => upd H D (SetO w D (fun j => decide (j ∈ acc)) acc.length)
  have eqH : ∀ acc acc', upd (HH acc) D (SetO w D (fun j => decide (j ∈ acc')) acc'.length) = HH acc' := fun acc acc' => by
    funext c; show (if c = D then _ else if c = D then _ else _) = if c = D then _ else _
    by_cases hc : c = D <;> simp [hc]
  have ta : ∀ acc, HH acc a = some (.tup xs) := fun acc => by show upd H D _ a = _; rw [upd_ne na]; exact ea
  have tb : ∀ acc, HH acc b = some (.tup ys) := fun acc => by show upd H D _ b = _; rw [upd_ne nb]; exact eb
  refine ⟨fun q z H2 => z = is.length - q ∧ q ≤ is.length ∧ ∃ acc, H2 = HH acc ∧ s2L rs (is.drop q) acc = some accF, ⟨is.length, by simp, Nat.zero_le _, [], by
    show upd H D _ = upd H D _
    congr 1, by rw [List.drop_zero]; exact hs⟩, ?_⟩
  rintro q z H2 ⟨rfl, hq, acc, rfl, hl⟩
  have lx := ra.length
  by_cases hlt : q < is.length
  · right
    have hd : is.drop q = is[q] :: is.drop (q + 1) := List.drop_eq_getElem_cons hlt
    rw [hd] at hl
    obtain ⟨v, gv, rv⟩ := ra.get (i := q) (d := is[q]) (by simp [hlt])
    refine ⟨⟨xs, v, SqT.of (ta acc), gv⟩, fun H' => ∃ acc', H' = HH acc' ∧ s2L rs (is.drop (q + 1)) acc' = some accF, fun H' ⟨acc', e1, e2⟩ => ⟨is.length - (q + 1), by omega, rfl, hlt, acc', e1, e2⟩, ?_⟩
    rintro x H' ⟨rfl, hx⟩
    have hx := hx xs (SqT.of (ta acc))
    rw [gv] at hx; cases hx
    cases hk : is[q] with
    | int k =>
      rw [hk] at hl rv
      obtain rfl : v = V.int k := rv
      unfold s2L at hl
      cases hj : ixN rs.length k with
      | none => rw [hj] at hl; cases hl
      | some j =>
        rw [hj] at hl
        dsimp only at hl
        cases hrj : rs[j]? with
        | none => rw [hrj] at hl; cases hl
        | some rd =>
          rw [hrj] at hl
          obtain ⟨vj, gj, rj⟩ := rb.get hrj
          cases rd <;> try (cases hl; done)
          rename_i hs'
          dsimp only at hl
          cases hn : dInts hs' with
          | none => rw [hn] at hl; cases hl
          | some ns =>
            rw [hn] at hl
            dsimp only at hl
            split at hl
            case isFalse => cases hl
            rename_i room
            obtain ⟨c, zs, rfl, ec, rc⟩ := rj
            have nc : c ≠ D := by rintro rfl; rw [ec] at hD; cases hD
            have tc : ∀ acc, HH acc c = some (.tup zs) := fun acc => by show upd H D _ c = _; rw [upd_ne nc]; exact ec
            have hz : zs = ns.map V.int := by rw [dInts_get hn] at rc; exact Reps.ints rc
            have hw : wipe ((wipe σ [i, h]).set i (some (V.int k))) [i, h] = wipe σ [i, h] := by
              show ((((σ.set h none).set i none).set i (some (V.int k))).set h none).set i none = (σ.set h none).set i none
              apply List.ext_getElem?
              intro t
              by_cases t1 : t = i
              · subst t1
                rw [List.getElem?_set_self (by simp; omega), List.getElem?_set_self (by simp; omega)]
              · rw [List.getElem?_set_ne (Ne.symm t1), List.getElem?_set_ne (Ne.symm t1)]
                by_cases t2 : t = h
                · subst t2
                  rw [List.getElem?_set_self (by simp; omega), List.getElem?_set_self (by omega)]
                · rw [List.getElem?_set_ne (Ne.symm t2), List.getElem?_set_ne (Ne.symm t1), List.getElem?_set_ne (Ne.symm t1)]
            refine ⟨hw, ?_⟩
            generalize hσ2 : (wipe σ [i, h]).set i (some (V.int k)) = σ2
            have l2 : σ2.length = σ.length := by rw [← hσ2, List.length_set, wipe_length]
            have g2r : σ2[r]? = some (some (V.ref b)) := by
              rw [← hσ2, List.getElem?_set_ne (Ne.symm ri)]
              exact wipe2 ri rh gr
            have g2i : σ2[i]? = some (some (V.int k)) := by
              rw [← hσ2, List.getElem?_set_self (by rw [wipe_length]; omega)]
            refine ⟨.ref b, g2r, .int k, g2i, b, ys, k, .ref c, rfl, rfl, SqT.of (tb acc), by
              unfold atI; rw [rb.length, hj]; exact gj, c, rfl, ⟨zs, SqT.of (tc acc)⟩, ?_⟩
            refine ⟨fun q1 z1 H3 => z1 = ns.length - q1 ∧ q1 ≤ ns.length ∧ H3 = HH ((ns.take q1).foldl addI acc), ⟨ns.length, by simp, Nat.zero_le _, rfl⟩, ?_⟩
            rintro q1 z1 H3 ⟨rfl, hq1, rfl⟩
            by_cases hl1 : q1 < ns.length
            · right
              have gz : zs[q1]? = some (V.int ns[q1]) := by rw [hz]; simp [hl1]
              have tk : ns.take (q1 + 1) = ns.take q1 ++ [ns[q1]] := by rw [List.take_succ]; simp [hl1]
              refine ⟨⟨zs, _, SqT.of (tc _), gz⟩, fun H' => H' = HH ((ns.take (q1 + 1)).foldl addI acc), fun H' e => ⟨ns.length - (q1 + 1), by omega, rfl, hl1, e⟩, ?_⟩
              rintro x1 H' ⟨rfl, hx1⟩
              have hx1 := hx1 zs (SqT.of (tc _))
              rw [gz] at hx1; cases hx1
              refine ⟨?_, ?_⟩
              · show (((σ2.set h none)).set h _).set h none = σ2.set h none
                rw [List.set_set, List.set_set]
              · refine ⟨V.int ns[q1], ?_, ns[q1], fun j => decide (j ∈ (ns.take q1).foldl addI acc), ((ns.take q1).foldl addI acc).length, rfl, upd_same, ?_, ?_⟩
                · show ((σ2.set h none).set h _)[h]? = _
                  rw [List.getElem?_set_self (by rw [List.length_set]; omega)]
                · have := foldl_addI_len (ns.take q1) acc
                  rw [List.length_take] at this
                  omega
                · show upd _ _ _ = _
                  rw [setO_addI, eqH, tk, List.foldl_append]; rfl
            · left
              have e1 : q1 = ns.length := by omega
              subst e1
              refine ⟨⟨zs, SqT.of (tc _), by rw [hz]; simp⟩, (ns.take ns.length).foldl addI acc, rfl, ?_⟩
              rw [List.take_length]; exact hl
    | _ => rw [hk] at hl; cases hl
  · left
    have e1 : q = is.length := by omega
    subst e1
    rw [List.drop_length] at hl
    obtain rfl : acc = accF := by simpa [s2L] using hl
    refine ⟨⟨xs, SqT.of (ta acc), by omega⟩, ?_⟩
    show rLenS w [V.ref D] (HH acc) Q
    exact ⟨D, _, _, rfl, upd_same, fi ρ _ (ext_new hD) (m.new hD) _ rfl⟩
section
variable {X : Cx} {cls : Nat → Addr} {E : XK} {e : Expr}
theorem je_lenS2 {p r i h : Nat} (hp : PE X e (tCB (rLenS X.w) (tCons (DLS.tSet2 X.w (iTup X.K (tVar p)) (gName i) (iTup X.K (tOp (rIxT X.K) (tVar r) (tVar i))) (gName h) (tVar h) [i, h] [h]) tNil))) : JE X cls E e (eLenS2 p r i h) := PE.wk hp fun _ _ _ _ _ _ hh => tj_lenS2 hh
end
end
end DL
set_option Elab.async false
set_option linter.all false
set_option maxRecDepth 100000
set_option maxHeartbeats 1000000
/-! DL15: sorted of a dict; dict of a list of pairs whose keys are tuples -/
namespace DL
open PySem PySem.Spec PyProof.Rows L2
open Classical
noncomputable section
section
variable {X : Cx} {cls : Nat → Addr} {E : XK}
/-- what a dict of the store walks: its keys -/
def keysD : MO → Option (List D)
  | .dik kvs => some (kvs.map fun q => keyD q.1)
  | .dit kvs => some (kvs.map fun q => .tup (q.1.map keyD))
  | _ => none
def dSortedD : D → M D := fun x S => match x with
  | .loc n => match S[n]? with
    | some o => match keysD o with
      | some ds => if Sort1 S ds then .ok (.loc S.length) (S ++ [.lst (ds.mergeSort (PySem.W.dataLe false (encS S)))]) else .stuck
      | none => .stuck
    | _ => .stuck
  | _ => .stuck
theorem keys_raw {pins : List (Addr × Obj)} {σ : L2.St} {s : Shared} {ρ : List Addr} {S : Store} {H : Hp} (I : Inv X pins σ H s) (m : Match X.K cls ρ S H) {a : Addr} {o : MO} {ds : List D} (r : ObjRep X.K cls ρ H a o) (hk : keysD o = some ds) :
    (a == sysModules) = false ∧ ∃ es ep, s.heap.DictRaw a es ep ∧ es.size = ds.length ∧ ∀ i (hi : i < es.size) d, ds[i]? = some d → ∃ v, RelV v es[i].key ∧ Rep X.K ρ H d v := by
  cases o with
  | dik kvs =>
    obtain ⟨ks, e1, rr⟩ := r
    cases hk
    obtain ⟨z, hd, vs, rel, dd⟩ := dk_rd I.hok (.inl e1)
    obtain ⟨es, ep, hraw, hsz, hkv⟩ := dd.raw
    have l1 : ks.length = vs.length := Paired.length rel
    have l2 : ks.length = kvs.length := by have := congrArg List.length rr.keys; simpa using this
    refine ⟨hd, es, ep, hraw, by rw [hsz, ← l1, l2, List.length_map], fun i hi d he => ?_⟩
    rw [List.getElem?_map] at he
    cases hq : kvs[i]? with
    | none => rw [hq] at he; cases he
    | some q =>
      rw [hq] at he; cases he
      have hks : (ks.map (·.1))[i]? = some q.1 := by rw [rr.keys, List.getElem?_map, hq]; rfl
      rw [List.getElem?_map] at hks
      cases hq2 : ks[i]? with
      | none => rw [hq2] at hks; cases hks
      | some p =>
        rw [hq2] at hks
        have e2 : p.1 = q.1 := by simpa using hks
        obtain ⟨w', e3, e4⟩ := kv_get rel (i := i) (k := p.1) (v := p.2) hq2
        have := (hkv i hi p.1 w' e3).1
        rw [e2] at this
        exact ⟨kV q.1, relV_key (show keyIs q.1 es[i].key = true from this), rep_keyD _⟩
  | dit kvs =>
    obtain ⟨ks, e1, rr⟩ := r
    cases hk
    obtain ⟨z, hd, xs, rel, o', es, ep, h1, h2, h3, h4, h5, h6⟩ := dt_rd I.hok (.inl e1)
    have l1 : ks.length = xs.length := Paired.length rel
    have l2 : ks.length = kvs.length := by have := congrArg List.length rr.keys; simpa using this
    have l3 : es.size = xs.length := by rw [← Array.length_toList, h4, List.length_map]
    refine ⟨hd, es, ep, ⟨o', h1, h2, h3⟩, by rw [l3, ← l1, l2, List.length_map], fun i hi d he => ?_⟩
    rw [List.getElem?_map] at he
    cases hq : kvs[i]? with
    | none => rw [hq] at he; cases he
    | some q =>
      rw [hq] at he; cases he
      have hks : (ks.map (·.1))[i]? = some q.1 := by rw [rr.keys, List.getElem?_map, hq]; rfl
      rw [List.getElem?_map] at hks
      cases hq2 : ks[i]? with
      | none => rw [hq2] at hks; cases hks
      | some p =>
        rw [hq2] at hks
        have e2 : p.1 = q.1 := by simpa using hks
        obtain ⟨x, e3, e4, e5, _⟩ := paired_get rel hq2
        have e6 : es.toList[i]? = some (entryOfKey (tupleKind (mixKind X.prog X.w)) x) := by rw [h4, List.getElem?_map, e3]; rfl
        rw [Array.getElem?_toList, Array.getElem?_eq_getElem hi] at e6
        have e7 := Option.some.inj e6
        refine ⟨.ref x.2.1, ?_, x.2.1, _, rfl, by rw [← e2]; exact e5, reps_keyD _⟩
        rw [e7]
        exact rfl
  | lst _ => cases hk
  | ins _ _ => cases hk
  | lkd _ => cases hk
  | lkt _ => cases hk
  | dix _ _ => cases hk
theorem each_at {α β : Type} {R : α → β → Prop} : ∀ {as : List α} {bs : List β}, as.length = bs.length → (∀ (i : Nat) a b, as[i]? = some a → bs[i]? = some b → R a b) → PySem.W.EachIs R as bs
  | [], [], _, _ => .nil
  | a :: as, b :: bs, hl, h => .cons (h 0 a b rfl rfl) (each_at (by simpa using hl) fun i a' b' h1 h2 => h (i + 1) a' b' (by simpa using h1) (by simpa using h2))
  | [], _ :: _, hl, _ => by simp at hl
  | _ :: _, [], hl, _ => by simp at hl
theorem bj_sortedD (hcalm : X.calm = true) (hu : X.A.units + 66 < cLine) : CallR X (.builtin "sorted") (rCJ X.K cls E (op1 dSortedD)) := fun pins s σ H vs us Q I rv hh => by
  obtain ⟨ρ, S, x, v, rfl, m, r, k⟩ := rc1 hh
  obtain ⟨u, rfl, rx⟩ := vals1 rv
  cases x <;> try (exact False.elim k)
  rename_i n
  obtain ⟨a, rfl, ea⟩ := r
  cases rx
  obtain ⟨o, h, q⟩ := m.there ea
  dsimp only [dSortedD] at k
  rw [h] at k
  dsimp only at k
  cases hk : keysD o with
  | none => rw [hk] at k; exact k.elim
  | some ds =>
    rw [hk] at k
    dsimp only at k
    by_cases hs : Sort1 S ds
    · rw [if_pos hs] at k
      obtain ⟨hp, hal, hso, hlen, hdep⟩ := hs
      obtain ⟨lo, es, ep, raw, hsz, hrel⟩ := keys_raw I m q hk
      refine Calls.call_function_entry PyProof.Rows.kind_sorted PyProof.Rows.plain_sorted PyProof.Rows.entry_sorted (PyProof.Rows.args_sorted1 _) ?_
      unfold Builtin.«sorted»
      refine wpAny_bind (m := checkCount "sorted" 1 1 _) (wpAny_pure ?_)
      refine wpAny_bind (PySem.W.kdu_collect (A := X.A.in1) (PySem.KdlSrc.rawDict (es := es) (ep := ep) lo) (I.ok.hd hcalm) raw (by rw [hsz]; exact hlen) fun h' tk acc hkk hacc => ?_)
      have hal2 : acc.toList.length = ds.length := by rw [Array.length_toList, hacc.1, hsz]
      have hI1 : Inv X pins σ H { s with heap := h', toks := tk } := I.kept hkk
      have hEach : PySem.W.EachIs (fun u d => ∃ v, RelV v u ∧ Rep X.K ρ H d v) acc.toList ds := each_at hal2 fun i u d h1 h2 => by
        rw [Array.getElem?_toList] at h1
        obtain ⟨hi, rfl⟩ := hacc.2 i u h1
        obtain ⟨v, h3, h4⟩ := hrel i hi d h2
        exact ⟨v, h3, h4⟩
      obtain ⟨xs, ra, rvl⟩ := of_each hEach
      refine wpAny_bind (wpAny_newList ?_ (by rw [hal2]; exact hlen))
      have hoL : (h'.push (seqObj "list" acc.toList.toArray 0)).get? h'.objs.size = some (seqObj "list" acc.toList.toArray 0) := Heap.get?_push_size _ rfl
      show wpAny _ _ _ _ _ { s with heap := h'.push (seqObj "list" acc.toList.toArray 0), toks := tk }
      have er0 : PySem.W.EachIs (fun u d => ∃ as, Reads h' u (encS S d) as) acc.toList ds := each_reads (s := { s with heap := h', toks := tk }) hI1 m hp ra rvl
      have er1 : PySem.W.EachIs (fun u d => ∃ as, Reads (h'.push (seqObj "list" acc.toList.toArray 0)) u (encS S d) as ∧ h'.objs.size ∉ as) acc.toList ds := er0.mono fun u d ⟨as, r⟩ =>
        ⟨as, PyProof.Rows.Reads.keeps (fun b o e => Heap.get?_push_of_some _ e) r, fun hm => by
          obtain ⟨o9, e9⟩ := PyProof.On.reads_mem_get r _ hm
          exact absurd (Heap.lt_size e9) (Nat.lt_irrefl _)⟩
      refine wpAny_bind (wpAny_holding (PySem.W.list_sort_data (s := { s with heap := h'.push (seqObj "list" acc.toList.toArray 0), toks := tk }) hoL hEach er1 hal hso hlen (fun d hd => by have := hdep d hd; show X.A.units + 1 + 1 + _ < _; omega) fun out ho he => ?_))
      obtain ⟨ys, r3, r4⟩ := of_each he
      obtain ⟨e', he'⟩ := PyProof.Rows.sortedHeap_at (vs := acc.toList) (out := out.toArray) hoL
      have hylen : ys.length ≤ sizeLine := by rw [r3.length]; rw [List.length_mergeSort]; exact hlen
      refine wpAny_pure ⟨_, rfl, .ref h'.objs.size, upd H h'.objs.size (.lst ys), hI1.laid (t' := tk) (fun b u e => ?_) (Nat.le_refl _) ⟨hylen, out, e', r4, he'⟩, rfl, ?_⟩
      · have hb : b < h'.objs.size := Heap.lt_size e
        rw [PyProof.Rows.sortedHeap_old (Nat.ne_of_lt hb) (by rw [size_push']; exact Nat.lt_succ_of_lt hb)]
        exact Heap.get?_push_of_some _ e
      · exact new_lst m r3 k _ (hI1.hok.fresh (Nat.le_refl _))
    · rw [if_neg hs] at k
      exact k.elim
/-! ### dict of a list of pairs whose keys are tuples -/
def pairT : D → Option (List Key × D)
  | .tup [.tup ks, v] => (asKeys ks).map fun k => (k, v)
  | _ => none
def pairsT : List D → Option (List (List Key × D))
  | [] => some []
  | d :: r => match pairT d, pairsT r with
    | some p, some ps => some (p :: ps)
    | _, _ => none
def mergeD (acc ps : List (List Key × D)) : List (List Key × D) := ps.foldl (fun acc p => putD acc p.1 p.2) acc
def mergeT (acc ps : List (List Key × V)) : List (List Key × V) := ps.foldl (fun acc p => putK acc p.1 p.2) acc
def dDictT : D → M D := fun x S => match x with
  | .loc n => match S[n]? with
    | some (.lst ds) => match pairsT ds with
      | some ps => .ok (.loc S.length) (S ++ [.dit (mergeD [] ps)])
      | none => .stuck
    | _ => .stuck
  | _ => .stuck
theorem pairT_is {d : D} {p : List Key × D} (h : pairT d = some p) : ∃ ks, d = .tup [.tup ks, p.2] ∧ asKeys ks = some p.1 := by
  unfold pairT at h
  split at h
  · rename_i ks v
    cases hk : asKeys ks with
    | none => rw [hk] at h; cases h
    | some k => rw [hk] at h; cases h; exact ⟨ks, rfl, hk⟩
  · cases h
theorem mergeT_len : ∀ (ps acc : List (List Key × V)), (mergeT acc ps).length ≤ acc.length + ps.length
  | [], acc => by show acc.length ≤ acc.length + 0; omega
  | p :: r, acc => by
    have h1 := mergeT_len r (putK acc p.1 p.2)
    have h2 := length_putK acc p.1 p.2
    show (mergeT (putK acc p.1 p.2) r).length ≤ _
    rw [List.length_cons]; omega
theorem merge_rep {K : PySem.W.Frag} {ρ : List Addr} {H : Hp} : ∀ {ps : List (List Key × D)} {ks : List (List Key × V)} {acc : List (List Key × D)} {bcc : List (List Key × V)}, RepKV K ρ H ps ks → RepKV K ρ H acc bcc → RepKV K ρ H (mergeD acc ps) (mergeT bcc ks)
  | [], ks, acc, bcc, r, q => by rw [show ks = [] from r]; exact q
  | p :: r, _, acc, bcc, ⟨v, ys, e, r1, t⟩, q => by
    subst e
    exact merge_rep (ps := r) (ks := ys) (acc := putD acc p.1 p.2) (bcc := putK bcc p.1 v) t (q.putK r1)
theorem merge_KT {H : Hp} {ks : List (List Key × V)} {tr : List (List Key × Addr × Value)} (r : KT H ks tr) : ∀ {acc : List (List Key × V)} {bcc : List (List Key × Addr × Value)}, KT H acc bcc → KT H (mergeT acc ks) (storedAllH bcc tr) := by
  induction r with
  | nil => intro acc bcc q; exact q
  | @cons p q ps qs h t ih =>
    intro acc bcc q0
    obtain ⟨h1, h2, h3⟩ := h
    have := q0.put p.1 h2 h3
    rw [h1] at this
    have h4 := ih this
    unfold mergeT storedAllH at h4 ⊢
    rw [List.foldl_cons, List.foldl_cons, h1]
    exact h4
theorem pairs_at {pins : List (Addr × Obj)} {σ : L2.St} {s : Shared} {ρ : List Addr} {H : Hp} (I : Inv X pins σ H s) : ∀ {ds : List D} {xs : List V} {its : List Value} {ps : List (List Key × D)}, Reps X.K ρ H ds xs → Vals xs its → pairsT ds = some ps →
    ∃ (Ts : List Addr) (tr : List (List Key × Addr × Value)) (ks : List (List Key × V)), its = Ts.map Value.ref ∧ Ts.length = ps.length ∧ tr.length = ps.length ∧ RepKV X.K ρ H ps ks ∧ KT H ks tr ∧ ∀ (j : Nat) x, tr[j]? = some x → ∃ T, Ts[j]? = some T ∧ IsTup s.heap T #[.ref x.2.1, x.2.2]
  | [], xs, its, ps, r, rv, h => by
    rw [show xs = [] from r] at rv
    cases rv; cases h
    exact ⟨[], [], [], rfl, rfl, rfl, rfl, .nil, fun j x e => by simp at e⟩
  | d :: ds, xs, its, ps, ⟨y, ys, e, r, t⟩, rv, h => by
    subst e
    unfold pairsT at h
    split at h
    · rename_i p ps' hp hps
      cases h
      cases rv with
      | cons r1 r2 =>
        obtain ⟨Ts, tr, ks, e1, e2, e3, e4, e5, e6⟩ := pairs_at I t r2 hps
        obtain ⟨kd, rfl, hk⟩ := pairT_is hp
        obtain ⟨T, zs, rfl, hT, rz⟩ := r
        obtain ⟨vb, zs1, rfl, rb, rz1⟩ := rz
        obtain ⟨vv, zs2, rfl, rvv, rz2⟩ := rz1
        rw [show zs2 = [] from rz2] at hT
        obtain ⟨b, kvs, rfl, hb, rk⟩ := rb
        have hkv := reps_keys hk rk
        subst hkv
        obtain ⟨its2, rv2, tup, _⟩ := I.tuple (SqT.of hT)
        cases r1
        cases rv2 with
        | cons g1 g2 =>
          cases g1
          cases g2 with
          | cons g3 g4 =>
            cases g4
            rename_i yv
            refine ⟨T :: Ts, (p.1, b, yv) :: tr, (p.1, vv) :: ks, by rw [e1]; rfl, by rw [List.length_cons, List.length_cons, e2], by rw [List.length_cons, List.length_cons, e3], ⟨vv, ks, rfl, rvv, e4⟩, .cons ⟨rfl, hb, g3⟩ e5, fun j x e => ?_⟩
            cases j with
            | zero =>
              have e' : (p.1, b, yv) = x := Option.some.inj e
              subst e'
              exact ⟨T, rfl, tup⟩
            | succ j =>
              obtain ⟨T', h1, h2⟩ := e6 j x (by simpa using e)
              exact ⟨T', by simpa using h1, h2⟩
    · cases h
theorem KT.at {H : Hp} {ks : List (List Key × V)} {tr : List (List Key × Addr × Value)} (r : KT H ks tr) : ∀ x ∈ tr, H x.2.1 = some (.tup (x.1.map kV)) := by
  induction r with
  | nil => intro x hx; exact nomatch hx
  | @cons p q ps qs hq t ih =>
    intro x hx
    rcases List.mem_cons.mp hx with e | hx
    · subst e; rw [← hq.1]; exact hq.2.1
    · exact ih x hx
theorem bj_dictT (hcalm : X.calm = true) (hu : X.A.units + 66 < cLine) : CallR X (.type "dict") (rCJ X.K cls E (op1 dDictT)) := fun pins s σ H vs us Q I rv hh => by
  obtain ⟨ρ, S, x, v, rfl, m, r, k⟩ := rc1 hh
  obtain ⟨u, rfl, rx⟩ := vals1 rv
  cases x <;> try (exact False.elim k)
  rename_i n
  obtain ⟨a, rfl, ea⟩ := r
  cases rx
  obtain ⟨o, h, q⟩ := m.there ea
  dsimp only [dDictT] at k
  rw [h] at k
  cases o <;> try (exact False.elim k)
  rename_i ds
  obtain ⟨xs, e1, ra⟩ := q
  dsimp only at k
  cases hps : pairsT ds with
  | none => rw [hps] at k; exact k.elim
  | some ps =>
    rw [hps] at k
    dsimp only at k
    obtain ⟨its, rvl, pl, hz⟩ := I.list (SqL.of e1)
    obtain ⟨Ts, tr, ks, rfl, l1, l2, rkv, rkt, hpr⟩ := pairs_at I ra rvl hps
    obtain ⟨oL, nL, hoL, hcL, hdL, hdatL⟩ := pl
    have lx : xs.length = Ts.length := by have := rvl.length; rw [List.length_map] at this; exact this
    have lt : tr.length = Ts.length := by rw [l2, l1]
    have PA := PairArg.list (prog := X.prog) (w := X.w) a (Ts.map Value.ref).toArray (fun j => Ts.getD j 0) (tr.map fun t => (Value.ref t.2.1, t.2.2))
    refine call_dict_pairsH (knd := tupleKind (mixKind X.prog X.w)) (ps := tr) PA (I.ok.hd hcalm) (show X.A.units + 1 + 1 < cLine by omega) ⟨⟨oL, nL, hoL, hcL, hdL, hdatL⟩, by simp [lt], fun j kk vv hj => ?_⟩ ⟨by simp, fun i key vv hrel => ?_⟩ (fun h' hk x hx => ?_) (by simp; omega) fun h' tk hd' hk => ?_
    · rw [List.getElem?_map] at hj
      cases ht : tr[j]? with
      | none => rw [ht] at hj; cases hj
      | some x =>
        rw [ht] at hj
        cases hj
        obtain ⟨T, h1, h2⟩ := hpr j x ht
        have hg : Ts.getD j 0 = T := by rw [List.getD_eq_getElem?_getD, h1]; rfl
        refine ⟨?_, .inl ?_⟩
        · show (Ts.map Value.ref).toArray[j]? = some (Value.ref (Ts.getD j 0))
          rw [hg]; simp [h1]
        · show s.heap.IsTuple (Ts.getD j 0) _
          rw [hg]; exact h2
    · have hrel : (tr.map fun t => (Value.ref t.2.1, t.2.2))[i]? = some (key, vv) := hrel
      rw [List.getElem?_map] at hrel
      cases ht : tr[i]? with
      | none => rw [ht] at hrel; cases hrel
      | some x =>
        rw [ht] at hrel
        cases hrel
        exact ⟨x.1, x.2.1, rfl, rfl⟩
    · obtain ⟨ob, itb, nb, h1, h2, h3, h4⟩ := key_of I.hok (KT.at rkt x hx)
      exact ⟨ob, itb, nb, hk _ _ (Nat.ne_of_lt (Heap.lt_size h1)) (by simp) h1, h2, h3, h4⟩
    · obtain ⟨o', es, ep, g1, g2, g3, g4, _, g5⟩ := hd'
      have hfr := I.hok.fresh (Nat.le_refl s.heap.objs.size)
      have hm : (s.heap.objs.size == sysModules) = false := beq_eq_false_iff_ne.mpr (Nat.ne_of_gt I.big)
      have lks : ks.length = tr.length := Paired.length rkt
      have hlen : (mergeT [] ks).length ≤ sizeLine := by
        have := mergeT_len ks []
        simp only [List.length_nil] at this
        omega
      have hk1 : ∀ b o, s.heap.get? b = some o → h'.get? b = some o := fun b o e => hk b o (by simp) e
      refine ⟨.ref s.heap.objs.size, upd H s.heap.objs.size (.dT (mergeT [] ks)), I.laid (t' := tk) hk1 (Nat.le_refl _) (show ObjOk X.prog X.w _ _ _ (.dT (mergeT [] ks)) from ⟨hlen, hm, storedAllH [] tr, (merge_KT rkt .nil).keeps fun b ys eb => ?_, o', es, ep, g1, g2, g3, g4, g5⟩), rfl, ?_⟩
      · rw [upd_ne (fun z => by rw [z] at eb; rw [hfr] at eb; cases eb)]
        exact eb
      · have hp := hfr
        refine k (ρ ++ [s.heap.objs.size]) _ (ext_push hp) (m.push hp ⟨mergeT [] ks, upd_same, ?_⟩) _ ⟨s.heap.objs.size, rfl, by rw [← m.len]; simp⟩
        exact RepKV.ext (ext_push hp) _ _ (merge_rep rkv rfl)
end
end
end DL
set_option Elab.async false
set_option linter.all false
set_option maxRecDepth 100000
/-! DL16: a law's own promise, from its function over data -/
namespace DL
open PySem PySem.Spec PyProof.Rows L2
open Classical
noncomputable section
/-- the script is a list of at most 63 ints; True comes out -/
def spLaw (K : PySem.W.Frag) : Sp := fun vs H Q _ => ∃ (a : Addr) (ns : List Int), vs = [.ref a] ∧ ns.length ≤ 63 ∧ Only H ∧ SqL K H a (ns.map V.int) ∧ ∀ H', Q (.bl true) H'
def Good (F : OpN) : Prop := ∀ ns : List Int, ns.length ≤ 63 → ∃ S', F [.rol (ns.map D.int)] [] = .ok (.bl true) S'
theorem reps_intsV {K : PySem.W.Frag} {ρ : List Addr} {H : Hp} : ∀ ns : List Int, Reps K ρ H (ns.map D.int) (ns.map V.int)
  | [] => rfl
  | n :: r => ⟨_, _, rfl, rfl, reps_intsV r⟩
theorem rol_only {K : PySem.W.Frag} {H : Hp} {a : Addr} {xs : List V} (o : Only H) (h : SqL K H a xs) : Rol K H a xs := fun H' hk => by
  rcases h with h | h
  · rcases h with h | ⟨q, h⟩
    · rcases o a with e | ⟨q, ys, e⟩
      · rw [h] at e; cases e
      · rw [h] at e; cases e
    · exact .inl (.inr ⟨q, hk _ _ h⟩)
  · exact .inr h
theorem spLaw_of {K : PySem.W.Frag} {cls : Nat → Addr} {F : OpN} (g : Good F) : ∀ vs H Q E, spLaw K vs H Q E → spD K cls 1 F vs H Q E := fun vs H Q E h => by
  obtain ⟨a, ns, rfl, hn, ho, hS, q⟩ := h
  obtain ⟨S', e⟩ := g ns hn
  refine ⟨rfl, [], [], [.rol (ns.map D.int)], ⟨rfl, List.nodup_nil, fun n b o h1 h2 => by simp at h1⟩, ⟨.ref a, [], rfl, ⟨a, ns.map V.int, rfl, rol_only ho hS, reps_intsV ns⟩, rfl⟩, ?_⟩
  rw [e]
  exact fun ρ' H' x m u ru => by rw [show u = V.bl true from ru]; exact q H'
end
end DL
set_option Elab.async false
set_option linter.all false
set_option maxRecDepth 100000
/-! DL17: < and <= of ints and of tuples of ints -/
namespace DL
open PySem PySem.Spec PyProof.Rows L2
open Classical
noncomputable section
section
variable {X : Cx} {cls : Nat → Addr} {E : XK}
/-- at most, from the first pair that differs on -/
def lexLe (ns ms : List Int) : Bool := Ob.lexAt (fun j => decide (ns.getD j 0 = ms.getD j 0)) (fun j => decide (ns.getD j 0 ≤ ms.getD j 0)) (decide (ns.length ≤ ms.length)) 0 (min ns.length ms.length)
def tupOp (o : Op2) (g : List Int → List Int → Bool) : Op2 := fun x y => match x, y with
  | .tup xs, .tup ys => fun S => match dInts xs, dInts ys with
    | some ns, some ms => .ok (.bl (g ns ms)) S
    | _, _ => .stuck
  | _, _ => o x y
def dLeA : Op2 := tupOp dLe lexLe
def dLtA : Op2 := tupOp dLt HT.lexLt
theorem oj_tup {F : Value → Value → Sem Value} {o : Op2} {g : List Int → List Int → Bool} (h1 : OpR X F (rJ X.K cls E o))
    (h2 : OpR X F fun x y H Q => ∃ a b ns ms, x = .ref a ∧ y = .ref b ∧ SqT X.K H a (ns.map V.int) ∧ SqT X.K H b (ms.map V.int) ∧ Q (.bl (g ns ms)) H) : OpR X F (rJ X.K cls E (tupOp o g)) := fun pins s σ H v w v' w' Q I rx ry hh => by
  obtain ⟨ρ, S, x, y, m, r1, r2, k⟩ := hh
  by_cases hx : ∃ xs ys, x = .tup xs ∧ y = .tup ys
  · obtain ⟨xs, ys, rfl, rfl⟩ := hx
    dsimp only [tupOp] at k
    cases e1 : dInts xs with
    | none => rw [e1] at k; exact k.elim
    | some ns =>
      cases e2 : dInts ys with
      | none => rw [e1, e2] at k; exact k.elim
      | some ms =>
        rw [e1, e2] at k
        obtain ⟨a, zs, rfl, ea, ra⟩ := r1
        obtain ⟨b, ws, rfl, eb, rb⟩ := r2
        rw [dInts_get e1] at ra
        rw [dInts_get e2] at rb
        rw [Reps.ints ra] at ea
        rw [Reps.ints rb] at eb
        exact h2 pins s σ H _ _ v' w' Q I rx ry ⟨a, b, ns, ms, rfl, rfl, SqT.of ea, SqT.of eb, k ρ H .refl m _ rfl⟩
  · have e : tupOp o g x y = o x y := by
      unfold tupOp
      split
      · exact absurd ⟨_, _, rfl, rfl⟩ hx
      · rfl
    rw [e] at k
    exact h1 pins s σ H v w v' w' Q I rx ry ⟨ρ, S, x, y, m, r1, r2, k⟩
/-- the pair at which two tuples differ decides -/
def lexBy (c : Nat → Nat → Bool) (q : Int → Int → Bool) (ns ms : List Int) : Bool := Ob.lexAt (fun j => decide (ns.getD j 0 = ms.getD j 0)) (fun j => q (ns.getD j 0) (ms.getD j 0)) (c ns.length ms.length) 0 (min ns.length ms.length)
theorem op_tupBy {o : CmpOp} {c : Nat → Nat → Bool} {q : Int → Int → Bool} (ho : ∀ x y, compareOp o x y = richCompare o x y) (room : X.A.units < cLine)
    (hI : ∀ (A : Around) (s : Shared) (i j : Int) (t u : Tok), Ob.RcOp o A s (.int i t) (.int j u) (q i j))
    (hT : ∀ (A : Around) (s : Shared) (l m : Addr) (us vs : Array Value) (e r : Nat → Bool), s.heap.IsTuple l us → s.heap.IsTuple m vs → A.units < cLine →
      (∀ k (g : k < us.size) (g' : k < vs.size), SeqAt.EqAt A.in1 s us[k] vs[k] (e k)) → (∀ k (g : k < us.size) (g' : k < vs.size), e k = false → Ob.RcOp o A.in1 s us[k] vs[k] (r k)) →
      Ob.RcOp o A s (.ref l) (.ref m) (Ob.lexAt e r (c us.size vs.size) 0 (min us.size vs.size))) :
    OpR X (compareOp o) fun x y H Q => ∃ a b ns ms, x = .ref a ∧ y = .ref b ∧ SqT X.K H a (ns.map V.int) ∧ SqT X.K H b (ms.map V.int) ∧ Q (.bl (lexBy c q ns ms)) H := by
  rintro pins s σ H x y v u Q I rx ry ⟨a, b, ns, ms, rfl, rfl, ha, hb, fin⟩
  cases rx; cases ry
  obtain ⟨us, ru, pu, _⟩ := I.tuple ha
  obtain ⟨vs, rv, pv, _⟩ := I.tuple hb
  have iu := Vals.ints ru
  have iv := Vals.ints rv
  have su : us.toArray.size = ns.length := by rw [List.size_toArray, IntsAre.length iu]
  have sv : vs.toArray.size = ms.length := by rw [List.size_toArray, IntsAre.length iv]
  have gu : ∀ k (g : k < us.toArray.size), ∃ t, us.toArray[k] = .int (ns.getD k 0) t := fun k g => PyProof.Rows.IntsAre.int_at iu _ _ (by simpa using g)
  have gv : ∀ k (g : k < vs.toArray.size), ∃ t, vs.toArray[k] = .int (ms.getD k 0) t := fun k g => PyProof.Rows.IntsAre.int_at iv _ _ (by simpa using g)
  have key := hT X.A s _ _ us.toArray vs.toArray (fun j => decide (ns.getD j 0 = ms.getD j 0)) (fun j => q (ns.getD j 0) (ms.getD j 0)) pu pv room
    (fun k g g' => by
      obtain ⟨t, w1⟩ := gu k g
      obtain ⟨t', w2⟩ := gv k g'
      rw [w1, w2, show decide (ns.getD k 0 = ms.getD k 0) = (ns.getD k 0 == ms.getD k 0) from by rw [Bool.eq_iff_iff]; simp]
      exact SeqAt.EqAt.int_int _ _ _ _)
    (fun k g g' _ => by
      obtain ⟨t, w1⟩ := gu k g
      obtain ⟨t', w2⟩ := gv k g'
      rw [w1, w2]; exact hI _ _ _ _ _ _)
  rw [su, sv] at key
  rw [ho]
  exact key X.prog X.w X.xe (EP X pins σ Q) ⟨.bl _, H, I, rfl, fin⟩
def lexGt : List Int → List Int → Bool := lexBy (fun i j => decide (i > j)) fun i j => decide (j < i)
def lexGe : List Int → List Int → Bool := lexBy (fun i j => decide (i ≥ j)) fun i j => decide (j ≤ i)
def dGtA : Op2 := tupOp dGt lexGt
def dGeA : Op2 := tupOp dGe lexGe
theorem oj_gtA (hu : X.A.units + 65 < cLine) : OpR X (compareOp .Gt) (rJ X.K cls E dGtA) :=
  oj_tup oj_gt (op_tupBy (fun _ _ => rfl) (by omega) (fun _ _ _ _ _ _ => Ob.RcOp.gt_int _ _ _ _) fun _ _ _ _ _ _ _ _ g1 g2 g3 g4 g5 => Ob.RcOp.tuples_gt g1 g2 g3 g4 g5)
theorem oj_geA (hu : X.A.units + 65 < cLine) : OpR X (compareOp .GtE) (rJ X.K cls E dGeA) :=
  oj_tup oj_ge (op_tupBy (fun _ _ => rfl) (by omega) (fun _ _ _ _ _ _ => Ob.RcOp.ge_int _ _ _ _) fun _ _ _ _ _ _ _ _ g1 g2 g3 g4 g5 => Ob.RcOp.tuples_ge g1 g2 g3 g4 g5)
theorem oj_leA (hu : X.A.units + 65 < cLine) : OpR X (compareOp .LtE) (rJ X.K cls E dLeA) := oj_tup oj_le (op_leT (by omega))
theorem oj_ltA (hu : X.A.units + 65 < cLine) : OpR X (compareOp .Lt) (rJ X.K cls E dLtA) := oj_tup oj_lt (op_ltT (by omega))
end
end
end DL
set_option Elab.async false
set_option linter.all false
set_option maxRecDepth 100000
set_option maxHeartbeats 1000000
/-! DL18: defs that raise, raise, try with several clauses -/
namespace DL
open PySem PySem.Spec PyProof.Rows L2
open Classical
noncomputable section
/-! ### defs that may raise -/
def fnX (n : Nat) (body : SS) : OpN := fun ds => gc (runB n body ds)
section
variable {P : Program} {w : World} {K : PySem.W.Frag} {mg : Str → Option Value} {base : Heap} {cls : Nat → Addr}
theorem okDX {x qual : Str} {st : Stmt} {f : Addr} {fd : FuncData} {N ps : List Str} {k : Nat} {body : SS} (F : Fun K x qual st f fd) (S : FnScope N ps (defScope st))
    (hb : ∀ (cdv : Value) (A : Around) (outer : List PySem.Env) (s : Shared) (H : Hp) (E : XK), Room k (A.deeper (envOfC qual (defScope st) s.heap.objs.size f cdv)) → JSs (cxOf (L2.CX P w) P w K mg base N qual (defScope st) f cdv A outer s H E) cls E (defBody st) body) :
    FnOk P w K mg base (L2.CX P w) (k + 1) f fd ps (spD K cls ps.length (fnX N.length body)) := by
  refine F.okX S (fun vs H Q E h => h.1) (fun cdv A outer s H vs Q E hr h => ?_)
  refine ⟨_, hb cdv A outer s H E hr, ?_⟩
  obtain ⟨_, ρ, St, ds, m, r, fi⟩ := h
  have fi := gc_fin m fi
  refine ⟨ρ, St, _, erep_start N r, m, Fin.imp (Fin.bnd fi) fun o ρ1 S1 H1 x1 m1 k1 => ?_⟩
  cases o with
  | nx δ => exact fun σ' er' => k1 ρ1 H1 .refl m1 .non rfl
  | rt d => exact fun v rv => k1 ρ1 H1 .refl m1 v rv
  | bk δ => exact k1.elim
  | ct δ => exact k1.elim
end
section
variable {X : Cx} {cls : Nat → Addr} {E : XK} {e : Expr} {t tk : SA} {F : OpN} {n : Nat}
/-- a call that may raise -/
def eFnX (F : OpN) (t : SA) : SE := fun δ => bnd (t δ) F
theorem je_fnx (hl : ALen t n) (hp : PE X e (tCall (spD X.K cls n F) [] E (TJA X.K cls E t))) : JE X cls E e (eFnX F t) := PE.wk hp fun pins s σ H Q I hh => by
  obtain ⟨ρ, S, δ, er, m, fi⟩ := hh
  refine ⟨ρ, S, δ, er, m, ?_⟩
  have fi := Fin.bnd fi
  cases ht : t δ S with
  | ok ds S' =>
    rw [ht] at fi
    intro ρ' H' x1 m1 vs rv
    exact ⟨by rw [List.append_nil, rv.length]; exact hl _ _ _ _ ht, ρ', S', ds, m1, by rw [List.append_nil]; exact rv, fi ρ' H' x1 m1⟩
  | exc c w S' => rw [ht] at fi; exact fi
  | stuck => rw [ht] at fi; exact fi
end
/-! ### what the written part says of an exception class of the program: its instances keep one thing, in what -/
structure ExK (K : PySem.W.Frag) (C fI : Addr) : Prop where
  o : OexC K C
  x : XfC K C
  no : PySem.W.findIn K (.ref C) "what" = some none
  ini : PySem.W.findIn K (.ref C) "__init__" = some (some (.ref fI))
  tI : PySem.W.typeIn K (.ref fI) = some (.type "function")
/-- its __init__: self.what = what -/
def spWhat (K : PySem.W.Frag) : Sp := fun vs H Q _ => ∃ (a C : Addr) (y : V), vs = [.ref a, y] ∧ OexC K C ∧ PySem.W.findIn K (.ref C) "what" = some none ∧ H a = some (exo a C none) ∧
  ∀ dx, H dx = none → dx ≠ a → Q .non (upd (upd H dx (exd dx [("what", y)])) a (exo a C (some dx)))
section
variable {P : Program} {w : World} {K : PySem.W.Frag} {mg : Str → Option Value} {base : Heap} {cls : Nat → Addr}
theorem ok_what {x qual : Str} {st : Stmt} {f : Addr} {fd : FuncData} {N ps : List Str} (F : Fun K x qual st f fd) (S : FnScope N ps (defScope st)) (hN : N.length = 2) (hps : ps.length = 2)
    (hb : ∀ (cdv : Value) (A : Around) (outer : List PySem.Env) (s : Shared) (H : Hp) (E : XK), PSs (cxOf CX0 P w K mg base N qual (defScope st) f cdv A outer s H E).nox (defBody st) (tOst K "what" (tVar 0) (tVar 1))) :
    FnOk P w K mg base CX0 1 f fd ps (spWhat K) := by
  refine F.ok S (fun vs H Q E h => by obtain ⟨a, C, y, e, _⟩ := h; rw [e, hps]; rfl) (fun cdv A outer s H vs Q E hr h => ⟨_, hb cdv A outer s H E, ?_⟩)
  obtain ⟨a, C, y, e, T, no, ea, q⟩ := h
  subst e
  have e0 : L2.start N [.ref a, y] = [some (.ref a), some y] := by simp [L2.start, hN]
  rw [e0]
  exact ⟨y, rfl, .ref a, rfl, a, C, rfl, T, no, .inl ⟨ea, fun dx n ne => q dx n ne⟩⟩
end
end
end DL
set_option Elab.async false
set_option linter.all false
set_option maxRecDepth 100000
set_option maxHeartbeats 1000000
/-! DL19: raise; try with clauses of both kinds -/
namespace DL
open PySem PySem.Spec PyProof.Rows L2
open Classical
noncomputable section
section
variable {X : Cx} {cls : Nat → Addr} {E : XK} {e : Expr} {f : SE}
def sRaise (c : Nat) (f : SE) : SS := fun δ => bnd (f δ) fun w S => .exc c w S
theorem js_raise {c k : Nat} {x : Str} {fI : Addr} {fd : FuncData} {ps : List Str} {p pos pos' : Pos} (T : ExK X.K (cls c) fI) (F1 : FnOk X.prog X.w X.K X.mg X.base CX0 k fI fd ps (spWhat X.K)) (hr : Room (k + 1) X.A) (hb : Binds X.K fd ps [])
    (hg : Gl X x) (hm : X.mg x = some (.ref (cls c))) (hc : X.calm = true) (tk : L2.Takes X (fun c d _ H => E c d H)) (he : JE X cls E e f) (hdb : (x == ("__debug__" : Str)) = false := by decide)
    (hst : starEach (e :: []) X.env = (false, eval e X.env) :: starEach [] X.env := by rfl) (hpl : (backTo pos (starEach [] X.env)).any (·.1) = false := by rfl) :
    JS X cls E (.Raise (some (.Call (.Name x p) [e] [] pos)) none pos') (sRaise c f) :=
  PS.wk (ps_raise hc tk (pmk_oex T.o T.ini T.tI F1 hr hb .nil (fun _ _ _ _ _ _ _ h => h.elim) hg hm (pa_cons he pa_nil hst) hdb hst hpl)) fun pins s σ H Dn I hh => by
    obtain ⟨ρ, S, δ, er, m, fi⟩ := hh
    refine ⟨ρ, S, δ, er, m, ?_⟩
    have fi := Fin.bnd fi
    cases hf : f δ S with
    | exc c' w S' => rw [hf] at fi; exact fi
    | stuck => rw [hf] at fi; exact fi
    | ok w S' =>
      rw [hf] at fi
      intro ρ1 H1 x1 m1 v rv
      have fi := fi ρ1 H1 x1 m1
      refine ⟨show [v].length ≤ 1000 from by simp, fun a na => ⟨a, cls c, v, rfl, T.o, T.no, upd_same, fun dx ndx ne => ?_⟩⟩
      have nd : H1 dx = none := by rwa [upd_ne ne] at ndx
      refine ⟨rfl, dx, [("what", v)], upd_same, ?_, nd, ?_⟩
      · rw [upd_ne ne, upd_same]
      · have eH : upd (L2.del (upd (upd (upd H1 a (exo a (cls c) none)) dx (exd dx [("what", v)])) a (exo a (cls c) (some dx))) a) dx (.xd [("what", v)]) = upd H1 dx (.xd [("what", v)]) := by
          funext b
          by_cases c1 : b = dx
          · subst c1; rw [upd_same, upd_same]
          · rw [upd_ne c1, upd_ne c1]
            by_cases c2 : b = a
            · subst c2; rw [del_same, na]
            · rw [del_ne c2, upd_ne c2, upd_ne c1, upd_ne c2]
        rw [eH]
        exact fi ρ1 _ dx v (ext_new nd) (m1.new nd) upd_same (Rep.ext (ext_new nd) _ _ rv)
end
/-! ### clauses -/
/-- a clause: its class, the slot that its name has, what its suite does -/
abbrev Cl := Value × Option Nat × (Addr → Value → Option Addr → TS)
def endAs (i : Nat) (D : Ends) : Ends := { nx := fun σ H => D.nx (σ.set i none) H, rt := D.rt, bk := fun σ H => D.bk (σ.set i none) H, ct := fun σ H => D.ct (σ.set i none) H }
def goes (D : Ends) (a : Addr) (cls : Value) (d : Option Addr) (σ : L2.St) (H : Hp) (ts : Addr → Value → Option Addr → TS) : Option Nat → Prop
  | none => ts a cls d D σ H
  | some i => ts a cls d (endAs i D) (σ.set i (some (.ref a))) H
def wCl (K : PySem.W.Frag) (Wout : WX) (D : Ends) : List Cl → WX
  | [] => Wout
  | q :: r => fun cls d σ H => ∃ b, PySem.W.exmOne K cls q.1 = some b ∧ (b = true → ∀ a, H a = none → goes D a cls d σ H q.2.2 q.2.1) ∧ (b = false → wCl K Wout D r cls d σ H)
end
end DL
set_option Elab.async false
set_option linter.all false
set_option maxRecDepth 100000
set_option maxHeartbeats 1000000
/-! DL20: try, as a function -/
namespace DL
open PySem PySem.Spec PyProof.Rows L2
open Classical
noncomputable section
/-- a clause: which classes it takes, what it tells of the thing -/
abbrev Hd := (Nat → Option Bool) × (D → M Out)
def handD : List Hd → Nat → D → M Out
  | [], _, _ => stuck
  | h :: r, c, w => match h.1 c with
    | some true => noX (h.2 w)
    | some false => handD r c w
    | none => stuck
/-- a clause's suite does what is told -/
inductive HdJ (K : PySem.W.Frag) (cls : Nat → Addr) (n : Nat) : List Hd → List Cl → Prop
  | nil : HdJ K cls n [] []
  | cons {t : Nat → Option Bool} {h : D → M Out} {c' : Value} {oi : Option Nat} {ts : Addr → Value → Option Addr → TS} {hs : List Hd} {l : List Cl} (h1 : ∀ c b, t c = some b → PySem.W.exmOne K (.ref (cls c)) c' = some b)
      (h2 : ∀ (D : Ends) (c : Nat) (w : DL.D) (S : Store) (ρ : List Addr) (H : Hp) (dd : Addr) (v : V) (σ : L2.St) (a : Addr), t c = some true → σ.length = n → H a = none → Match K cls ρ S H → H dd = some (.xd [("what", v)]) → Rep K ρ H w v →
        Fin K cls (fun _ _ _ => False) ρ H (h w S) (fun o ρ' _ H' => OutOk K D o ρ' H') → goes D a (.ref (cls c)) (some dd) σ H ts oi) (r : HdJ K cls n hs l) : HdJ K cls n ((t, h) :: hs) ((c', oi, ts) :: l)
theorem HdJ.go {K : PySem.W.Frag} {cls : Nat → Addr} {n : Nat} {Wout : WX} {D : Ends} : ∀ {hs : List Hd} {l : List Cl}, HdJ K cls n hs l → ∀ {E : XK} {c : Nat} {w : DL.D} {S : Store} {ρ : List Addr} {H : Hp} {dd : Addr} {v : V} {σ : L2.St}, σ.length = n → Match K cls ρ S H → H dd = some (.xd [("what", v)]) → Rep K ρ H w v →
    Fin K cls E ρ H (handD hs c w S) (fun o ρ' _ H' => OutOk K D o ρ' H') → wCl K Wout D l (.ref (cls c)) (some dd) σ H := by
  intro hs l k
  induction k with
  | nil => exact fun _ _ _ _ fi => fi.elim
  | @cons t h c' oi ts hs l h1 h2 r ih =>
    intro E c w S ρ H dd v σ hl m e rw' fi
    unfold handD at fi
    cases ht : t c with
    | none => simp only [ht] at fi; exact fi.elim
    | some b =>
      simp only [ht] at fi
      refine ⟨b, h1 c b ht, fun hb a na => ?_, fun hb => ?_⟩
      · subst hb
        exact h2 D c w S ρ H dd v σ a ht hl na m e rw' (noX_fin fi)
      · subst hb
        exact ih hl m e rw' fi
end
end DL
set_option Elab.async false
set_option linter.all false
set_option maxRecDepth 100000
set_option maxHeartbeats 1000000
/-! DL21: defs as values; what clauses take -/
namespace DL
open PySem PySem.Spec PyProof.Rows L2
open Classical
noncomputable section
section
variable {X : Cx} {cls : Nat → Addr} {E : XK} {e : Expr} {es : List Expr} {t : SA} {n : Nat}
def TblAll (X : Cx) (cls : Nat → Addr) (n j : Nat) : List (Str × OpN) → Prop
  | [] => True
  | p :: r => (∃ (f : Addr) (fd : FuncData) (ps : List Str) (k : Nat), k ≤ j ∧ FnOk X.prog X.w X.K X.mg X.base (L2.CX X.prog X.w) k f fd ps (spD X.K cls n p.2) ∧ PySem.W.nsIn X.K mainGlobals p.1 = some (some (.ref f)) ∧ PySem.W.keepIn X.K (.ref f) = true ∧ Binds X.K fd ps []) ∧ TblAll X cls n j r
theorem TblAll.get {j : Nat} {s : Str} {F : OpN} : ∀ {tbl : List (Str × OpN)}, TblAll X cls n j tbl → tbl.lookup s = some F →
    ∃ (f : Addr) (fd : FuncData) (ps : List Str) (k : Nat), k ≤ j ∧ FnOk X.prog X.w X.K X.mg X.base (L2.CX X.prog X.w) k f fd ps (spD X.K cls n F) ∧ PySem.W.nsIn X.K mainGlobals s = some (some (.ref f)) ∧ PySem.W.keepIn X.K (.ref f) = true ∧ Binds X.K fd ps []
  | [], _, h => by cases h
  | p :: r, ⟨h1, h2⟩, h => by
    obtain ⟨q, G⟩ := p
    rw [List.lookup_cons] at h
    by_cases c : s = q
    · subst c
      simp only [beq_self_eq_true] at h
      cases h
      exact h1
    · have c' : (s == q) = false := by simpa using c
      rw [c'] at h
      exact TblAll.get h2 h
end
/-! ### what a clause takes -/
def tst (l : List (Nat × Bool)) : Nat → Option Bool := fun c => l.lookup c
def ExmAll (K : PySem.W.Frag) (cls : Nat → Addr) (c' : Value) : List (Nat × Bool) → Prop
  | [] => True
  | p :: r => PySem.W.exmOne K (.ref (cls p.1)) c' = some p.2 ∧ ExmAll K cls c' r
theorem ExmAll.get {K : PySem.W.Frag} {cls : Nat → Addr} {c' : Value} : ∀ {l : List (Nat × Bool)}, ExmAll K cls c' l → ∀ c b, tst l c = some b → PySem.W.exmOne K (.ref (cls c)) c' = some b
  | [], _, c, b, h => by cases h
  | p :: r, ⟨h1, h2⟩, c, b, h => by
    obtain ⟨q, d⟩ := p
    unfold tst at h
    rw [List.lookup_cons] at h
    by_cases e : c = q
    · subst e
      simp only [beq_self_eq_true] at h
      cases h
      exact h1
    · have e' : (c == q) = false := by simpa using e
      rw [e'] at h
      exact ExmAll.get h2 c b h
def ExAll (K : PySem.W.Frag) (cls : Nat → Addr) : List (Nat × Bool) → Prop
  | [] => True
  | p :: r => (p.2 = true → ∃ fI, ExK K (cls p.1) fI) ∧ ExAll K cls r
theorem ExAll.get {K : PySem.W.Frag} {cls : Nat → Addr} : ∀ {l : List (Nat × Bool)}, ExAll K cls l → ∀ c, tst l c = some true → ∃ fI, ExK K (cls c) fI
  | [], _, c, h => by cases h
  | p :: r, ⟨h1, h2⟩, c, h => by
    obtain ⟨q, d⟩ := p
    unfold tst at h
    rw [List.lookup_cons] at h
    by_cases e : c = q
    · subst e
      simp only [beq_self_eq_true] at h
      cases h
      exact h1 rfl
    · have e' : (c == q) = false := by simpa using e
      rw [e'] at h
      exact ExAll.get h2 c h
end
end DL
set_option Elab.async false
set_option linter.all false
set_option maxRecDepth 100000
set_option maxHeartbeats 1000000
/-! DL22: while; is True; list(range(n)); min of vectors -/
namespace DL
open PySem PySem.Spec PyProof.Rows L2
open Classical
end DL
set_option Elab.async false
set_option linter.all false
set_option maxRecDepth 100000
/-! DW1: what a computation over data comes to: Ok r Q, its rules -/
namespace DL
open PySem PySem.Spec PyProof.Rows L2
open Classical
noncomputable section
def Ok {α : Type} (r : Res α) (Q : α → Store → Prop) : Prop := match r with
  | .ok a S => Q a S
  | _ => False
section
variable {α β : Type} {a : α} {S S1 S2 S' : Store} {Q Q' : α → Store → Prop} {R : β → Store → Prop}
theorem Ok.mono {r : Res α} (h : Ok r Q) (k : ∀ a S, Q a S → Q' a S) : Ok r Q' := by
  cases r with
  | ok a S => exact k a S h
  | exc c w S => exact h
  | stuck => exact h
theorem Ok.is {r : Res α} (h : Ok r Q) : ∃ a S, r = .ok a S ∧ Q a S := by
  cases r with
  | ok a S => exact ⟨a, S, rfl, h⟩
  | exc c w S => exact h.elim
  | stuck => exact h.elim
theorem ok_ok : Ok (.ok a S) Q = Q a S := rfl
theorem ok_ret : Ok (ret a S) Q = Q a S := rfl
theorem ok_bnd {f : M α} {g : α → M β} : Ok (bnd f g S) R = Ok (f S) fun a S1 => Ok (g a S1) R := by
  unfold bnd
  cases f S <;> rfl
theorem ok_noX {f : M α} : Ok (noX f S) Q = Ok (f S) Q := by
  unfold noX
  cases f S <;> rfl
theorem ok_gc {f : M D} {Q : D → Store → Prop} (h : Ok (f S) fun d S' => Q d S' ∧ (S.length ≤ S'.length → d.lo S.length → Q d (S'.take S.length))) : Ok (gc f S) Q := by
  unfold gc
  cases hf : f S with
  | exc c w S' => rw [hf] at h; exact h
  | stuck => rw [hf] at h; exact h
  | ok d S' =>
    rw [hf] at h
    dsimp only
    by_cases hc : S.length ≤ S'.length ∧ d.lo S.length ∧ Wf S.length (S'.take S.length)
    · rw [if_pos hc]; exact h.2 hc.1 hc.2.1
    · rw [if_neg hc]; exact h.1
/-- only things were added -/
def Pre (S S' : Store) : Prop := ∃ T, S' = S ++ T
theorem Pre.refl : Pre S S := ⟨[], by simp⟩
theorem Pre.trans (h : Pre S S1) (k : Pre S1 S2) : Pre S S2 := by
  obtain ⟨T, rfl⟩ := h
  obtain ⟨U, rfl⟩ := k
  exact ⟨T ++ U, by simp⟩
theorem Pre.push {o : MO} (h : Pre S S1) : Pre S (S1 ++ [o]) := h.trans ⟨[o], rfl⟩
theorem Pre.len (h : Pre S S1) : S.length ≤ S1.length := by
  obtain ⟨T, rfl⟩ := h
  simp
theorem Pre.get {n : Nat} {o : MO} (h : Pre S S1) (e : S[n]? = some o) : S1[n]? = some o := by
  obtain ⟨T, rfl⟩ := h
  have := (List.getElem?_eq_some_iff.mp e).1
  rw [List.getElem?_append_left this]
  exact e
theorem Pre.take (h : Pre S S1) : S1.take S.length = S := by
  obtain ⟨T, rfl⟩ := h
  simp
theorem Pre.set {n : Nat} {o : MO} (h : Pre S S1) (hn : S.length ≤ n) : Pre S (S1.set n o) := by
  obtain ⟨T, rfl⟩ := h
  rw [List.set_append_right _ _ hn]
  exact ⟨_, rfl⟩
theorem set_get {n : Nat} {o : MO} (h : n < S.length) : (S.set n o)[n]? = some o := List.getElem?_set_self h
/-- a function that only adds: its garbage is nothing to its caller -/
theorem ok_gcP {f : M D} {P : D → Prop} (h : Ok (f S) fun d S' => P d ∧ Pre S S') : Ok (gc f S) fun d S' => P d ∧ Pre S S' :=
  ok_gc (h.mono fun d S' ⟨p, q⟩ => ⟨⟨p, q⟩, fun _ _ => ⟨p, by rw [q.take]; exact .refl⟩⟩)
theorem ok_fnB {n : Nat} {body : SS} {ds : List D} {P : D → Prop} (h : Ok (body (ds.map some ++ List.replicate (n - ds.length) none) S) fun o S' => (match o with | .nx _ => P .non | .rt d => P d | _ => False) ∧ Pre S S') :
    Ok (fnB n body ds S) fun d S' => P d ∧ Pre S S' := by
  unfold fnB
  refine ok_gcP ?_
  rw [ok_noX]
  unfold runB
  rw [ok_bnd]
  refine h.mono fun o S' ⟨p, q⟩ => ?_
  cases o with
  | nx δ => exact ⟨p, q⟩
  | rt d => exact ⟨p, q⟩
  | bk δ => exact p.elim
  | ct δ => exact p.elim
/-! ### forms -/
section
variable {δ : Env} {Q : D → Store → Prop} {f g h : SE} {i : Nat} {d : D} {B : Bool → Store → Prop} {A : List D → Store → Prop} {t : SA}
theorem ok_var (e : δ[i]? = some (some d)) : Ok (eVar i δ S) Q = Q d S := by unfold eVar; rw [e]; rfl
theorem ok_c : Ok (eC d δ S) Q = Q d S := rfl
theorem ok_bin {op : Op2} : Ok (eBin op f g δ S) Q = Ok (f δ S) fun x S1 => Ok (g δ S1) fun y S2 => Ok (op x y S2) Q := by unfold eBin; rw [ok_bnd]; simp only [ok_bnd]
theorem ok_anil : Ok (aNil δ S) A = A [] S := rfl
theorem ok_acons : Ok (aCons f t δ S) A = Ok (f δ S) fun x S1 => Ok (t δ S1) fun xs S2 => A (x :: xs) S2 := by unfold aCons; simp only [ok_bnd, ok_ret]
theorem ok_call {op : OpN} : Ok (eCall op t δ S) Q = Ok (t δ S) fun xs S1 => Ok (op xs S1) Q := by unfold eCall; rw [ok_bnd]
theorem ok_tof : Ok (tOf f δ S) B = Ok (f δ S) fun x S1 => Ok (asB x S1) B := by unfold tOf; rw [ok_bnd]
end
/-! ### a list comprehension whose elements only add to the store -/
theorem ok_lc {l : Store → Prop} {g : SG} {p : ST} {elt : SE} {δ : Env} (φ : D → Option D) : ∀ (items : List D) (acc : List D) (S0 S1 : Store), S0.length < S1.length → Pre S0 S1 → S1[S0.length]? = some (.lst acc) → items.length + acc.length ≤ sizeLine →
    (∀ S2, Pre S0 S2 → l S2) → (∀ x ∈ items, ∀ S2, Pre S0 S2 → Ok (g x δ S2) fun δ1 S3 => S3 = S2 ∧ Ok (p δ1 S2) fun k S4 => Pre S2 S4 ∧ match φ x with
      | some y => k = true ∧ Ok (elt δ1 S4) fun z S5 => z = y ∧ Pre S4 S5
      | none => k = false) →
    Ok (lcL l g p elt S0.length δ items acc S1) fun d S' => d = .loc S0.length ∧ Pre S0 S' ∧ S'[S0.length]? = some (.lst (acc ++ items.filterMap φ))
  | [], acc, S0, S1, hlt, pre, hg, hz, hl, hs => by
    unfold lcL
    rw [if_pos ⟨hl S1 pre, hg⟩]
    exact ⟨rfl, pre, by simpa using hg⟩
  | x :: r, acc, S0, S1, hlt, pre, hg, hz, hl, hs => by
    unfold lcL
    rw [if_pos (hl S1 pre), ok_bnd]
    refine (hs x List.mem_cons_self S1 pre).mono fun δ1 S3 ⟨e, h⟩ => ?_
    subst e
    rw [ok_bnd]
    refine h.mono fun k S4 ⟨p4, h4⟩ => ?_
    have hs' : ∀ y ∈ r, _ := fun y hy => hs y (List.mem_cons_of_mem _ hy)
    cases hx : φ x with
    | none =>
      rw [hx] at h4
      subst h4
      rw [if_neg (by simp), List.filterMap_cons_none hx]
      exact ok_lc φ r acc S0 S4 (Nat.lt_of_lt_of_le hlt p4.len) (pre.trans p4) (p4.get hg) (by simp at hz; omega) hl hs'
    | some y =>
      rw [hx] at h4
      obtain ⟨rfl, h5⟩ := h4
      rw [if_pos rfl, ok_bnd]
      refine h5.mono fun z S5 ⟨e, p5⟩ => ?_
      subst e
      have hg5 := p5.get (p4.get hg)
      have hlt5 := Nat.lt_of_lt_of_le (Nat.lt_of_lt_of_le hlt p4.len) p5.len
      rw [if_pos ⟨hg5, by simp at hz; omega⟩, List.filterMap_cons_some hx]
      have := ok_lc φ r (acc ++ [z]) S0 (S5.set S0.length (.lst (acc ++ [z]))) (by simpa using hlt5) (((pre.trans p4).trans p5).set (Nat.le_refl _)) (set_get hlt5) (by simp at hz ⊢; omega) hl hs'
      simpa using this
theorem ok_eLc {it : Env → M Src} {g : SG} {p : ST} {elt : SE} {vs : List Nat} {δ : Env} {items : List D} {l : Store → Prop} (φ : D → Option D) (hi : Ok (it δ S) fun src S1 => src = ⟨items, l⟩ ∧ Pre S S1) (hz : items.length ≤ sizeLine) (hl : ∀ S2, Pre S S2 → l S2)
    (hs : ∀ x ∈ items, ∀ S2, Pre S S2 → Ok (g x (wipeD δ vs) S2) fun δ1 S3 => S3 = S2 ∧ Ok (p δ1 S2) fun k S4 => Pre S2 S4 ∧ match φ x with
      | some y => k = true ∧ Ok (elt δ1 S4) fun z S5 => z = y ∧ Pre S4 S5
      | none => k = false) : Ok (eLc it g p elt vs δ S) fun d S' => ∃ n, d = .loc n ∧ S.length ≤ n ∧ Pre S S' ∧ S'[n]? = some (.lst (items.filterMap φ)) := by
  unfold eLc
  rw [ok_bnd]
  refine hi.mono fun src S1 ⟨e, p1⟩ => ?_
  subst e
  dsimp only
  have key : Ok (lcL l g (fun δ => noX (p δ)) (fun δ => noX (elt δ)) S1.length (wipeD δ vs) items [] (S1 ++ [.lst []])) fun d S' => d = .loc S1.length ∧ Pre S1 S' ∧ S'[S1.length]? = some (.lst ([] ++ items.filterMap φ)) :=
    by
    refine ok_lc φ items [] S1 (S1 ++ [.lst []]) (by simp) (Pre.push .refl) (by simp) (by simpa using hz) (fun S2 q => hl S2 (p1.trans q)) fun x hx S2 q => ?_
    refine (hs x hx S2 (p1.trans q)).mono fun δ1 S3 ⟨e, h⟩ => ⟨e, ?_⟩
    rw [ok_noX]
    refine h.mono fun k S4 ⟨h1, h2⟩ => ⟨h1, ?_⟩
    cases hx : φ x with
    | none => rw [hx] at h2; exact h2
    | some y => rw [hx] at h2; exact ⟨h2.1, by rw [ok_noX]; exact h2.2⟩
  exact key.mono fun d S' h => ⟨_, h.1, p1.len, p1.trans h.2.1, by simpa using h.2.2⟩
end
/-! ### for -/
theorem ok_for {l : Store → Prop} {g : SG} {body : SS} {Q : Out → Store → Prop} (I : List D → Env → Store → Prop)
    (step : ∀ x r δ S, I (x :: r) δ S → l S ∧ Ok (g x δ S) fun δ1 S1 => Ok (body δ1 S1) fun o S2 => match o with
      | .nx δ2 => I r δ2 S2
      | .ct δ2 => I r δ2 S2
      | .bk δ2 => Q (.nx δ2) S2
      | .rt d => Q (.rt d) S2) (fin : ∀ δ S, I [] δ S → l S ∧ Q (.nx δ) S) : ∀ (items : List D) (δ : Env) (S : Store), I items δ S → Ok (forL l g body items δ S) Q
  | [], δ, S, h => by
    unfold forL
    rw [if_pos (fin δ S h).1]
    exact (fin δ S h).2
  | x :: r, δ, S, h => by
    obtain ⟨h1, h2⟩ := step x r δ S h
    unfold forL
    rw [if_pos h1, ok_bnd]
    refine h2.mono fun δ1 S1 h3 => ?_
    rw [ok_bnd]
    refine h3.mono fun o S2 h4 => ?_
    cases o with
    | nx δ2 => exact ok_for I step fin r δ2 S2 h4
    | ct δ2 => exact ok_for I step fin r δ2 S2 h4
    | bk δ2 => exact h4
    | rt d => exact h4
end
end DL
set_option Elab.async false
set_option linter.all false
set_option maxRecDepth 100000
/-! DW2: the rules of the forms, one an equation -/
namespace DL
open PySem PySem.Spec PyProof.Rows L2
open Classical
noncomputable section
section
variable {S : Store} {δ δ' : Env} {f g h : SE} {t : SA} {p q : ST} {a b : SS} {i n : Nat} {d x y : D} {ds : List D} {Q : D → Store → Prop} {B : Bool → Store → Prop} {O : Out → Store → Prop} {G : Env → Store → Prop} {sg : SG} {sgs : SGs}
theorem ok_sret : Ok (sRet f δ S) O = Ok (f δ S) fun d S1 => O (.rt d) S1 := by unfold sRet; simp only [ok_bnd, ok_ret]
theorem ok_snext : Ok (sNext δ S) O = O (.nx δ) S := rfl
theorem ok_sbrk : Ok (sBrk δ S) O = O (.bk δ) S := rfl
theorem ok_scnt : Ok (sCnt δ S) O = O (.ct δ) S := rfl
theorem ok_sretN : Ok (sRetN δ S) O = O (.rt .non) S := rfl
theorem ok_sseq : Ok (sSeq a b δ S) O = Ok (a δ S) fun o S1 => match o with
    | .nx δ' => Ok (b δ' S1) O
    | .rt d => O (.rt d) S1
    | .bk δ' => O (.bk δ') S1
    | .ct δ' => O (.ct δ') S1 := by
  unfold sSeq; rw [ok_bnd]; congr 1; funext o S1; cases o <;> rfl
theorem ok_sdrop : Ok (sDrop f δ S) O = Ok (f δ S) fun _ S1 => O (.nx δ) S1 := by unfold sDrop; simp only [ok_bnd, ok_ret]
theorem ok_sasg : Ok (sAsg f sg δ S) O = Ok (f δ S) fun d S1 => Ok (sg d δ S1) fun δ' S2 => O (.nx δ') S2 := by unfold sAsg; simp only [ok_bnd, ok_ret]
theorem ok_sif : Ok (sIf p a b δ S) O = Ok (p δ S) fun k S1 => if k = true then Ok (a δ S1) O else Ok (b δ S1) O := by
  unfold sIf; rw [ok_bnd]; congr 1; funext k S1; split <;> rfl
theorem ok_gn : Ok (gN i d δ S) G = G (δ.set i (some d)) S := rfl
theorem ok_gtp (hl : ds.length = n) : Ok (gTp n sgs (.tup ds) δ S) G = Ok (sgs ds δ S) G := by unfold gTp; simp only [if_pos hl]
theorem ok_gcons : Ok (gsCons sg sgs (d :: ds) δ S) G = Ok (sg d δ S) fun δ' S1 => Ok (sgs ds δ' S1) G := by unfold gsCons; rw [ok_bnd]
theorem ok_gnil : Ok (gsNil [] δ S) G = G δ S := rfl
theorem ok_gsub {op : D → D → D → M Unit} : Ok (gSubD f g op d δ S) G = Ok (f δ S) fun o S1 => Ok (g δ S1) fun i S2 => Ok (op o i d S2) fun _ S3 => G δ S3 := by unfold gSubD; simp only [ok_bnd, ok_ret]
theorem ok_sfor {it : Env → M Src} : Ok (sFor it sg a δ S) O = Ok (it δ S) fun src S1 => Ok (forL src.live sg a src.items δ S1) O := by unfold sFor; rw [ok_bnd]
theorem ok_augS {op : Op2} : Ok (sAugS f g h op δ S) O = Ok (f δ S) fun o S1 => Ok (g δ S1) fun i S2 => Ok (dIx o i S2) fun x S3 => Ok (h δ S3) fun y S4 => Ok (op x y S4) fun z S5 => Ok (dSet o i z S5) fun _ S6 => O (.nx δ) S6 := by unfold sAugS; simp only [ok_bnd, ok_ret]
theorem ok_aug {op : Op2} : Ok (sAug i f op δ S) O = Ok (eVar i δ S) fun x S1 => Ok (f δ S1) fun y S2 => Ok (op x y S2) fun z S3 => O (.nx (δ.set i (some z))) S3 := by unfold sAug; simp only [ok_bnd, ok_ret]
/-! tests -/
theorem ok_ttrue : Ok (tTrue δ S) B = B true S := rfl
theorem ok_ttru : Ok (tTru f δ S) B = Ok (f δ S) fun x S1 => Ok (dTru x S1) B := by unfold tTru; rw [ok_bnd]
theorem ok_tand : Ok (tAndT p q δ S) B = Ok (p δ S) fun k S1 => if k = true then Ok (q δ S1) B else B false S1 := by
  unfold tAndT; rw [ok_bnd]; congr 1; funext k S1; split <;> rfl
theorem ok_tor : Ok (tOrT p q δ S) B = Ok (p δ S) fun k S1 => if k = true then B true S1 else Ok (q δ S1) B := by
  unfold tOrT; rw [ok_bnd]; congr 1; funext k S1; split <;> rfl
theorem ok_tnot : Ok (tNotT p δ S) B = Ok (p δ S) fun k S1 => B (!k) S1 := by unfold tNotT; simp only [ok_bnd, ok_ret]
theorem ok_asb {k : Bool} : Ok (asB (.bl k) S) B = B k S := rfl
/-! expressions -/
theorem ok_eand : Ok (eAnd f g δ S) Q = Ok (f δ S) fun x S1 => Ok (asB x S1) fun k S2 => if k = true then Ok (g δ S2) Q else Q (.bl false) S2 := by
  unfold eAnd; simp only [ok_bnd]; congr 1; funext x S1; congr 1; funext k S2; split <;> rfl
theorem ok_eor : Ok (eOr f g δ S) Q = Ok (f δ S) fun x S1 => Ok (asB x S1) fun k S2 => if k = true then Q (.bl true) S2 else Ok (g δ S2) Q := by
  unfold eOr; simp only [ok_bnd]; congr 1; funext x S1; congr 1; funext k S2; split <;> rfl
theorem ok_enot : Ok (eNot f δ S) Q = Ok (f δ S) fun x S1 => Ok (asB x S1) fun k S2 => Q (.bl (!k)) S2 := by unfold eNot; simp only [ok_bnd, ok_ret]
theorem ok_eif : Ok (eIf p f g δ S) Q = Ok (p δ S) fun k S1 => if k = true then Ok (f δ S1) Q else Ok (g δ S1) Q := by
  unfold eIf; rw [ok_bnd]; congr 1; funext k S1; split <;> rfl
theorem ok_chain {op op' : Op2} : Ok (eChain op op' f g h δ S) Q = Ok (f δ S) fun x S1 => Ok (g δ S1) fun y S2 => Ok (op x y S2) fun z S3 => Ok (asB z S3) fun k S4 => if k = true then Ok (h δ S4) fun w S5 => Ok (op' y w S5) Q else Q (.bl false) S4 := by
  unfold eChain; simp only [ok_bnd]
  congr 1; funext x S1; congr 1; funext y S2; congr 1; funext z S3; congr 1; funext k S4
  split
  · rw [ok_bnd]
  · rfl
theorem ok_etup : Ok (eTup t δ S) Q = Ok (t δ S) fun xs S1 => if xs.length ≤ sizeLine then Q (.tup xs) S1 else False := by
  unfold eTup; rw [ok_bnd]; congr 1; funext xs S1; split <;> rfl
theorem ok_elst : Ok (eLst t δ S) Q = Ok (t δ S) fun xs S1 => if xs.length ≤ sizeLine then Q (.loc S1.length) (S1 ++ [.lst xs]) else False := by
  unfold eLst; rw [ok_bnd]; congr 1; funext xs S1; split <;> rfl
theorem ok_op1 {F : D → M D} : Ok (op1 F [x] S) Q = Ok (F x S) Q := rfl
theorem ok_op2 {F : D → D → M D} : Ok (op2 F [x, y] S) Q = Ok (F x y S) Q := rfl
/-! operators on ints -/
section
variable {u v : Int}
theorem ok_le : Ok (dLeA (.int u) (.int v) S) Q = Q (.bl (decide (u ≤ v))) S := by
  show Ok (dLe (.int u) (.int v) S) Q = _
  simp [dLe, iOp, ok_ok]
theorem ok_lt : Ok (dLtA (.int u) (.int v) S) Q = Q (.bl (decide (u < v))) S := by
  show Ok (dLt (.int u) (.int v) S) Q = _
  simp [dLt, iOp, ok_ok]
theorem ok_gt : Ok (dGtA (.int u) (.int v) S) Q = Q (.bl (decide (v < u))) S := by
  show Ok (dGt (.int u) (.int v) S) Q = _
  simp [dGt, iOp, ok_ok]
theorem ok_ge : Ok (dGeA (.int u) (.int v) S) Q = Q (.bl (decide (v ≤ u))) S := by
  show Ok (dGe (.int u) (.int v) S) Q = _
  simp [dGe, iOp, ok_ok]
theorem ok_sub : Ok (dSub (.int u) (.int v) S) Q = Q (.int (u - v)) S := by simp [dSub, iOp, ok_ok]
theorem ok_addI : Ok (iOp (fun _ _ => True) (fun i j => .int (i + j)) (.int u) (.int v) S) Q = Q (.int (u + v)) S := by simp [iOp, ok_ok]
theorem ok_mod (hv : 0 < v) : Ok (dMod (.int u) (.int v) S) Q = Q (.int (u % v)) S := by simp [dMod, iOp, ok_ok, hv]
theorem ok_max2 : Ok (dMax [.int u, .int v] S) Q = Q (.int (max u v)) S := rfl
theorem ok_ixT {j : Nat} {e : D} (h1 : ixN ds.length u = some j) (h2 : ds[j]? = some e) : Ok (dIx (.tup ds) (.int u) S) Q = Q e S := by
  have : atI ds u = some e := by unfold atI; rw [h1]; exact h2
  unfold dIx; simp only [this, ok_ok]
theorem ok_ixL {j : Nat} {e : D} (h0 : S[n]? = some (.lst ds)) (h1 : ixN ds.length u = some j) (h2 : ds[j]? = some e) : Ok (dIx (.loc n) (.int u) S) Q = Q e S := by
  have : atI ds u = some e := by unfold atI; rw [h1]; exact h2
  unfold dIx; simp only [h0, this, ok_ok]
theorem ok_setL {j : Nat} {U : Unit → Store → Prop} (h0 : S[n]? = some (.lst ds)) (h1 : ixN ds.length u = some j) : Ok (dSet (.loc n) (.int u) d S) U = U () (S.set n (.lst (ds.set j d))) := by
  unfold dSet; simp only [h0, h1, ok_ok]
theorem ixN_lt {m : Nat} {j : Nat} (h : j < m) : ixN m (j : Int) = some j := by
  unfold ixN
  rw [if_pos (by omega), if_pos (by omega)]
  simp
end
/-! functions -/
theorem ok_allL {bs : List Bool} (h0 : S[n]? = some (.lst (bs.map D.bl))) : Ok (dAll (.loc n) S) Q = Q (.bl (bs.all id)) S := by
  have e : ∀ bs : List Bool, asBls (bs.map D.bl) = some bs := fun bs => by
    induction bs with
    | nil => rfl
    | cons b r ih => simp [asBls, ih]
  unfold dAll withBls lstBls
  simp only [h0, e, ok_ok]
theorem ok_anyL {bs : List Bool} (h0 : S[n]? = some (.lst (bs.map D.bl))) : Ok (dAny (.loc n) S) Q = Q (.bl (bs.any id)) S := by
  have e : ∀ bs : List Bool, asBls (bs.map D.bl) = some bs := fun bs => by
    induction bs with
    | nil => rfl
    | cons b r ih => simp [asBls, ih]
  unfold dAny withBls lstBls
  simp only [h0, e, ok_ok]
theorem ok_tupL (h0 : S[n]? = some (.lst ds)) : Ok (dTuple (.loc n) S) Q = Q (.tup ds) S := by unfold dTuple; simp only [h0, ok_ok]
theorem ok_lenL (h0 : S[n]? = some (.lst ds)) : Ok (dLen (.loc n) S) Q = Q (.int (ds.length : Nat)) S := by unfold dLen; simp only [h0, ok_ok]
theorem ok_lenT : Ok (dLen (.tup ds) S) Q = Q (.int (ds.length : Nat)) S := rfl
/-! walks -/
theorem ok_seqT {k : Src → Store → Prop} : Ok (srcOf (.tup ds) S) k = k ⟨ds, fun _ => True⟩ S := rfl
theorem ok_iseq {k : Src → Store → Prop} : Ok (iSeq f δ S) k = Ok (f δ S) fun x S1 => Ok (srcOf x S1) k := by unfold iSeq; rw [ok_bnd]
theorem ok_izip {k : Src → Store → Prop} {xs ys : List D} (h1 : δ[i]? = some (some (.tup xs))) (h2 : δ[n]? = some (some (.tup ys))) : Ok (iZipD (eVar i) (eVar n) δ S) k = k ⟨zipD xs ys, fun _ => True⟩ S := by
  unfold iZipD; simp only [ok_bnd, ok_var h1, ok_var h2]; rfl
end
theorem fm_all {α β γ : Type} (g : α → β) (f : β → Option γ) (h : α → γ) (e : ∀ x, f (g x) = some (h x)) : ∀ l : List α, (l.map g).filterMap f = l.map h
  | [] => rfl
  | x :: l => by rw [List.map_cons, List.filterMap_cons_some (e x), fm_all g f h e l, List.map_cons]
/-- a vector of ints -/
def vec (ns : List Int) : D := .tup (ns.map D.int)
theorem zip_vec : ∀ xs ys : List Int, zipD (xs.map D.int) (ys.map D.int) = (xs.zip ys).map fun p => .tup [.int p.1, .int p.2]
  | [], _ => by simp [zipD]
  | x :: xs, [] => by simp [zipD]
  | x :: xs, y :: ys => by simp [zipD, zip_vec xs ys]
end
end DL
set_option Elab.async false
set_option linter.all false
set_option maxRecDepth 100000
/-! DW3: more rules: calls, fields, kinds, enumerate, range -/
namespace DL
open PySem PySem.Spec PyProof.Rows L2
open Classical
noncomputable section
section
variable {S : Store} {δ : Env} {f g : SE} {t : SA} {n k : Nat} {d x y : D} {ds : List D} {Q : D → Store → Prop} {B : Bool → Store → Prop} {O : Out → Store → Prop} {P P' : D → Prop} {u v : Int} {b : Bool}
theorem ok_fn {F : OpN} : Ok (eFn F t δ S) Q = Ok (t δ S) fun xs S1 => Ok (F xs S1) Q := by unfold eFn; rw [ok_bnd]; simp only [ok_noX]
/-- a call whose outcome is known: its garbage is added -/
theorem Ok.pure {r : Res D} {d : D} (h : Ok r fun e S' => e = d ∧ Pre S S') (q : ∀ S', Pre S S' → Q d S') : Ok r Q := h.mono fun e S' ⟨e1, p⟩ => by subst e1; exact q S' p
theorem ok_fld {fs : List (Str × D)} {c : Nat} {nm : Str} (h0 : S[k]? = some (.ins c fs)) (h1 : fs.lookup nm = some d) {i : Nat} (hv : δ[i]? = some (some (.loc k))) : Ok (eFld c nm (eVar i) δ S) Q = Q d S := by
  unfold eFld
  rw [ok_bnd, ok_var hv]
  simp only [h0, h1]
  rfl
theorem ok_isi {s : String} (h : (tyName S x).bind (isTy s) = some b) : Ok (dIsi x (.ty s) S) Q = Q (.bl b) S := by
  unfold dIsi
  cases h1 : tyName S x with
  | none => rw [h1] at h; cases h
  | some t =>
    rw [h1] at h
    have h : isTy s t = some b := h
    simp only [h]
    rfl
theorem isi_int : (tyName S (.int u)).bind (isTy "int") = some true := by rfl
theorem isi_intB : (tyName S (.int u)).bind (isTy "bool") = some false := by rfl
theorem isi_tup : (tyName S (.tup ds)).bind (isTy "tuple") = some true := by rfl
theorem ok_trub : Ok (dTru (.bl b) S) B = B b S := rfl
theorem ok_neg : Ok (eNeg (eC (.int u)) δ S) Q = Q (.int (-u)) S := by unfold eNeg; rw [ok_bnd, ok_c]; rfl
theorem ok_enumT {i : Nat} {kk : Src → Store → Prop} (hv : δ[i]? = some (some (.tup ds))) : Ok (iEnumD (eVar i) δ S) kk = kk ⟨enumD 0 ds, fun _ => True⟩ S := by
  unfold iEnumD; simp only [ok_bnd, ok_var hv]; rfl
theorem ok_rg1 {i : Nat} {kk : Src → Store → Prop} (hv : δ[i]? = some (some (.int u))) (hu : -(2 ^ 62) ≤ u ∧ u < 2 ^ 62) : Ok (iRg1 (eVar i) δ S) kk = kk ⟨rngD 0 u.toNat, fun _ => True⟩ S := by
  unfold iRg1; simp only [ok_bnd, ok_var hv, if_pos (show Small u from hu)]; rfl
theorem ok_isnN : Ok (dIsN true .non .non S) Q = Q (.bl false) S := by unfold dIsN; rfl
/-! equality and membership of ints and of vectors -/
theorem pys_ints {gg : Nat → Option PyData} : ∀ ns : List Int, toPysW gg (ns.map D.int) = some (ns.map PyData.int)
  | [] => rfl
  | n :: r => by simp [toPysW, toPyW, pys_ints r]
theorem toPy_int : toPy S (.int u) = some (.int u) := rfl
theorem toPy_vec (ns : List Int) : toPy S (.tup (ns.map D.int)) = some (.tuple (ns.map PyData.int)) := by
  unfold toPy; simp [toPyW, pys_ints]
theorem toPy_lst {ns : List Int} (h : S[n]? = some (.lst (ns.map D.int))) : toPy S (.loc n) = some (.list (ns.map PyData.int)) := by
  unfold toPy; simp [toPyW, locPy, h, pys_ints]
theorem can_ints : ∀ ns : List Int, PyData.canLayAll0 (ns.map PyData.int) = true
  | [] => rfl
  | n :: r => by simp [PyData.canLayAll0, PyData.canLay0, can_ints r]
theorem dep_ints : ∀ ns : List Int, PyData.depthAll (ns.map PyData.int) = 0
  | [] => rfl
  | n :: r => by simp [PyData.depthAll, PyData.depth, dep_ints r]
theorem sh_int : SeqAt.shaped (.int u) = true := by simp [SeqAt.shaped, PyData.canLay0, PyData.depth]
theorem sh_tup (ns : List Int) : SeqAt.shaped (.tuple (ns.map PyData.int)) = true := by simp [SeqAt.shaped, PyData.canLay0, PyData.depth, can_ints, dep_ints]
theorem sh_lst (ns : List Int) : SeqAt.shaped (.list (ns.map PyData.int)) = true := by simp [SeqAt.shaped, PyData.canLay0, PyData.depth, can_ints, dep_ints]
theorem eqv_ints : ∀ xs ys : List Int, PyData.eqvAll (xs.map PyData.int) (ys.map PyData.int) = decide (xs = ys)
  | [], [] => by simp [PyData.eqvAll]
  | [], _ :: _ => by simp [PyData.eqvAll]
  | _ :: _, [] => by simp [PyData.eqvAll]
  | x :: xs, y :: ys => by
    simp only [List.map_cons, PyData.eqvAll, PyData.eqv, eqv_ints xs ys]
    by_cases h1 : x = y <;> by_cases h2 : xs = ys <;> simp [h1, h2]
theorem any_ints (ns : List Int) : ((ns.map PyData.int).any fun z => PyData.eqv z (.int u)) = decide (u ∈ ns) := by
  induction ns with
  | nil => simp
  | cons n r ih =>
    simp only [List.map_cons, List.any_cons, ih, PyData.eqv, List.mem_cons]
    by_cases h1 : n = u
    · subst h1; simp
    · have h2 : ¬ u = n := fun e => h1 e.symm
      simp [h1, h2]
theorem ok_eqI : Ok (dEqG false (.int u) (.int v) S) Q = Q (.bl (decide (u = v))) S := by
  unfold dEqG
  simp only [toPy_int, sh_int, and_self, if_true]
  show Q (.bl (PyData.eqv (.int u) (.int v))) S = _
  congr 1
theorem ok_neI : Ok (dEqG true (.int u) (.int v) S) Q = Q (.bl (!decide (u = v))) S := by
  unfold dEqG
  simp only [toPy_int, sh_int, and_self, if_true]
  show Q (.bl (!PyData.eqv (.int u) (.int v))) S = _
  congr 1
theorem ok_eqV (xs ys : List Int) : Ok (dEqG false (vec xs) (vec ys) S) Q = Q (.bl (decide (xs = ys))) S := by
  unfold dEqG vec
  simp only [toPy_vec, sh_tup, and_self, if_true]
  show Q (.bl (PyData.eqvAll _ _)) S = _
  rw [eqv_ints]
theorem ok_neV (xs ys : List Int) : Ok (dEqG true (vec xs) (vec ys) S) Q = Q (.bl (!decide (xs = ys))) S := by
  unfold dEqG vec
  simp only [toPy_vec, sh_tup, and_self, if_true]
  show Q (.bl (!PyData.eqvAll _ _)) S = _
  rw [eqv_ints]
theorem ok_inV (ns : List Int) : Ok (dInG false (.int u) (vec ns) S) Q = Q (.bl (decide (u ∈ ns))) S := by
  unfold dInG vec
  simp only [toPy_vec, toPy_int, sh_tup, sh_int, and_self, if_true]
  show Q (.bl ((ns.map PyData.int).any _)) S = _
  rw [any_ints]
theorem ok_inL {ns : List Int} (h : S[n]? = some (.lst (ns.map D.int))) : Ok (dInG false (.int u) (.loc n) S) Q = Q (.bl (decide (u ∈ ns))) S := by
  unfold dInG
  simp only [toPy_lst h, toPy_int, sh_lst, sh_int, and_self, if_true]
  show Q (.bl ((ns.map PyData.int).any _)) S = _
  rw [any_ints]
end
end
end DL
set_option Elab.async false
set_option linter.all false
set_option maxRecDepth 100000
/-! DW4: methods of lists, index of True, products -/
namespace DL
open PySem PySem.Spec PyProof.Rows L2
open Classical
noncomputable section
section
variable {S : Store} {δ : Env} {f g : SE} {t : SA} {n k : Nat} {d x y : D} {ds : List D} {Q : D → Store → Prop} {U : Unit → Store → Prop} {u v : Int} {b : Bool}
theorem ok_mth {op : OpM} : Ok (eMth op f t δ S) Q = Ok (f δ S) fun x S1 => Ok (isLst x S1) fun _ S2 => Ok (t δ S2) fun ds S3 => Ok (op x ds S3) Q := by unfold eMth; simp only [ok_bnd]
theorem ok_isl (h : S[n]? = some (.lst ds)) : Ok (isLst (.loc n) S) U = U () S := by unfold isLst; simp only [h]; rfl
theorem ok_app (h : S[n]? = some (.lst ds)) (hl : ds.length < sizeLine) : Ok (dAppend (.loc n) [y] S) Q = Q .non (S.set n (.lst (ds ++ [y]))) := by unfold dAppend onLst; simp only [h, if_pos hl]; rfl
theorem pys_bls {gg : Nat → Option PyData} : ∀ bs : List Bool, toPysW gg (bs.map D.bl) = some (bs.map PyData.bool)
  | [] => rfl
  | n :: r => by simp [toPysW, toPyW, pys_bls r]
theorem can_bls : ∀ bs : List Bool, PyData.canLayAll0 (bs.map PyData.bool) = true
  | [] => rfl
  | n :: r => by simp [PyData.canLayAll0, PyData.canLay0, can_bls r]
theorem dep_bls : ∀ bs : List Bool, PyData.depthAll (bs.map PyData.bool) = 0
  | [] => rfl
  | n :: r => by simp [PyData.depthAll, PyData.depth, dep_bls r]
theorem ok_indexT {bs : List Bool} (h : S[n]? = some (.lst (bs.map D.bl))) (ht : true ∈ bs) : Ok (dIndex (.loc n) [.bl true] S) Q = Q (.int (bs.findIdx id : Nat)) S := by
  have e1 : toPy S (.loc n) = some (.list (bs.map PyData.bool)) := by unfold toPy; simp [toPyW, locPy, h, pys_bls]
  have e2 : toPy S (.bl true) = some (.bool true) := rfl
  have e3 : SeqAt.shaped (.list (bs.map PyData.bool)) = true := by simp [SeqAt.shaped, PyData.canLay0, PyData.depth, can_bls, dep_bls]
  have e4 : SeqAt.shaped (.bool true) = true := by simp [SeqAt.shaped, PyData.canLay0, PyData.depth]
  have e5 : ((bs.map PyData.bool).any fun z => PyData.eqv z (.bool true)) = true := by
    rw [List.any_map, List.any_eq_true]
    exact ⟨true, ht, rfl⟩
  have e6 : ∀ bs : List Bool, (bs.map PyData.bool).findIdx (fun z => PyData.eqv z (.bool true)) = bs.findIdx id := fun bs => by
    induction bs with
    | nil => rfl
    | cons b r ih => cases b <;> simp [List.findIdx_cons, PyData.eqv, ih]
  unfold dIndex
  simp only [e1, e2, e3, e4, e5, and_self, if_true]
  show Q (.int (((bs.map PyData.bool).findIdx fun z => PyData.eqv z (.bool true)) : Nat)) S = _
  rw [e6]
theorem ok_mulT (h1 : ds ≠ []) (h2 : -1000 ≤ u ∧ u ≤ 1000) (h3 : ds.length ≤ 1000) : Ok (dMulT (.tup ds) (.int u) S) Q = Q (.tup (List.replicate u.toNat ds).flatten) S := by
  unfold dMulT
  simp only [if_pos (show ds ≠ [] ∧ -1000 ≤ u ∧ u ≤ 1000 ∧ ds.length ≤ 1000 from ⟨h1, h2.1, h2.2, h3⟩)]
  rfl
end
end
end DL
set_option Elab.async false
set_option linter.all false
set_option maxRecDepth 100000
set_option maxHeartbeats 1000000
/-! DL23: min of vectors -/
namespace DL
open PySem PySem.Spec PyProof.Rows L2
open Classical
end DL
set_option Elab.async false
set_option linter.all false
/-! DL24: a, b, c = x, y, z with plain local names -/
namespace DL
open PySem PySem.Spec PyProof.Rows L2
open Classical
end DL
set_option Elab.async false
set_option linter.all false
set_option maxRecDepth 100000
/-! DX2: rules for dicts with nested keys -/
namespace DX
open PySem PySem.Spec PyProof.Rows L2
end DX
set_option Elab.async false
set_option linter.all false
set_option maxRecDepth 100000
/-! DL25: dicts with nested keys, as data -/
namespace DL
open PySem PySem.Spec PyProof.Rows L2
open Classical
end DL
set_option Elab.async false
set_option linter.all false
set_option maxRecDepth 100000
/-! DL26: not in, of dicts with nested keys -/
namespace DX
open PySem PySem.Spec PyProof.Rows L2
end DX
namespace DL
open PySem PySem.Spec PyProof.Rows L2
open Classical
end DL
set_option Elab.async false
set_option linter.all false
set_option maxRecDepth 100000
/-! DL27: dict comprehensions, keys ints or texts -/
namespace DL
open PySem PySem.Spec PyProof.Rows L2
open Classical
end DL
set_option Elab.async false
set_option linter.all false
set_option maxRecDepth 100000
/-! DL28: list comprehensions with two fors -/
namespace DL
open PySem PySem.Spec PyProof.Rows L2
open Classical
noncomputable section
/-- the inner walk: what the list holds behind it -/
def inL (l : Store → Prop) (g : SG) (p : ST) (elt : SE) (n : Nat) (δ : Env) : List D → List D → M (List D)
  | [], acc => fun S => if l S then .ok acc S else .stuck
  | x :: r, acc => fun S => if l S then bnd (g x δ) (fun δ1 => bnd (p δ1) fun k => if k = true then bnd (elt δ1) fun y S4 =>
      if S4[n]? = some (.lst acc) ∧ acc.length < sizeLine then inL l g p elt n δ r (acc ++ [y]) (S4.set n (.lst (acc ++ [y]))) else .stuck else inL l g p elt n δ r acc) S else .stuck
def outL (l : Store → Prop) (g : SG) (p : ST) (f1 : Env → M Src) (vs1 : List Nat) (g1 : SG) (p1 : ST) (elt : SE) (n : Nat) (δ : Env) : List D → List D → M D
  | [], acc => fun S => if l S ∧ S[n]? = some (.lst acc) then .ok (.loc n) S else .stuck
  | x :: r, acc => fun S => if l S then bnd (g x δ) (fun δ1 => bnd (p δ1) fun k => if k = true then bnd (f1 δ1) fun src => bnd (inL src.live g1 p1 elt n (wipeD δ1 vs1) src.items acc) fun acc' => outL l g p f1 vs1 g1 p1 elt n δ r acc'
      else outL l g p f1 vs1 g1 p1 elt n δ r acc) S else .stuck
def eLc2 (f : Env → M Src) (g : SG) (p : ST) (f1 : Env → M Src) (g1 : SG) (p1 : ST) (elt : SE) (vs vs1 : List Nat) : SE := fun δ => bnd (f δ) fun src S1 =>
  outL src.live g (fun δ => noX (p δ)) (fun δ => noX (f1 δ)) vs1 g1 (fun δ => noX (p1 δ)) (fun δ => noX (elt δ)) S1.length (wipeD δ vs) src.items [] (S1 ++ [.lst []])
section
variable {X : Cx} {cls : Nat → Addr} {E : XK} {e : Expr} {f f1 : Env → M Src} {p p1 : ST} {elt : SE} {vs vs1 : List Nat} {gr gr1 : TG} {sg sg1 : SG} {tt tt1 : TT}
theorem tj_lc2 {K : PySem.W.Frag} {σ : L2.St} {H : Hp} {Q : VK} (tg : TgOk K vs gr sg) (tk : TtOk K cls tt p) (tg1 : TgOk K vs1 gr1 sg1) (tk1 : TtOk K cls tt1 p1) (hh : TJ K cls E (eLc2 f sg p f1 sg1 p1 elt vs vs1) σ H Q) :
    tLc2 (TJI K cls E f) gr tt (TJI K cls EN f1) gr1 tt1 (TJ K cls EN elt) vs vs1 σ H Q := by
  obtain ⟨ρ, S, δ, er, m, fi⟩ := hh
  refine ⟨ρ, S, δ, er, m, Fin.imp (Fin.bnd fi) fun src ρ1 S1 H1 x1 m1 k1 => ?_⟩
  intro hl J jok Dd hD
  have xD := ext_push (ρ := ρ1) (o := .lst []) hD
  have mD := m1.push (q := .lst []) hD ⟨[], upd_same, rfl⟩
  have nD : (ρ1 ++ [Dd])[S1.length]? = some Dd := by rw [← m1.len]; simp
  have er1 := (er.ext x1).ext xD
  have k1' := k1.ext xD
  generalize hn : S1.length = n at k1' nD
  let At : Nat → Hp → Prop := fun i H2 => i ≤ src.items.length ∧ ∃ ρ2 S2 acc, Ext (ρ1 ++ [Dd]) (upd H1 Dd (.lst [])) ρ2 H2 ∧ Match K cls ρ2 S2 H2 ∧
      Fin K cls E ρ2 H2 (outL src.live sg (fun δ => noX (p δ)) (fun δ => noX (f1 δ)) vs1 sg1 (fun δ => noX (p1 δ)) (fun δ => noX (elt δ)) n (wipeD δ vs) (src.items.drop i) acc S2) fun d ρ' _ H' => ∀ u, Rep K ρ' H' d u → Q u H'
  refine ⟨fun i z H2 => z = src.items.length - i ∧ At i H2, ⟨src.items.length, by simp, Nat.zero_le _, ρ1 ++ [Dd], S1 ++ [.lst []], [], .refl, mD, by rw [List.drop_zero]; exact k1'⟩, ?_⟩
  rintro i z H2 ⟨rfl, hi, ρ2, S2, acc, x2, m2, k2⟩
  have x02 := xD.trans x2
  by_cases hlt : i < src.items.length
  · rw [List.drop_eq_getElem_cons hlt] at k2
    unfold outL at k2
    by_cases hlive : src.live S2
    · rw [if_pos hlive] at k2
      have hg := (jok i ρ2 S2 H2 x02 m2 hlive).1 _ (List.getElem?_eq_getElem hlt)
      refine .inr ⟨hg.1, At (i + 1), fun H' hN => ⟨src.items.length - (i + 1), by omega, rfl, hN⟩, fun x H' hy => ?_⟩
      obtain ⟨x3, m3, rx⟩ := hg.2 x H' hy
      have er3 : ERep K ρ2 H' (wipeD δ vs) (wipe σ vs) := ((er1.ext x2).ext x3).wipe vs
      have k3 := Fin.bnd (k2.ext x3)
      rcases tg.pure src.items[i] (wipeD δ vs) S2 with ⟨δ1, e1⟩ | e1
      · rw [e1 S2] at k3
        have k4 := k3 ρ2 H' .refl m3
        refine tg.run ρ2 H' _ δ1 (wipe σ vs) _ x _ er3 rx e1 fun σ4 er4 w4 => ?_
        refine ⟨w4.trans (wipe_wipe σ vs), tk.run σ4 H' _ ⟨ρ2, S2, δ1, er4, m3, noX_fin (E' := EN) (Fin.imp (Fin.bnd k4) fun b ρ5 S5 H5 x5 m5 k5 => ?_)⟩⟩
        have xx5 := (x2.trans x3).trans x5
        cases b with
        | false =>
          rw [if_neg Bool.false_ne_true] at k5
          exact iteF ⟨hlt, ρ5, S5, acc, xx5, m5, k5⟩
        | true =>
          rw [if_pos rfl] at k5
          refine iteT ⟨ρ5, S5, δ1, er4.ext x5, m5, noX_fin (E' := EN) (Fin.imp (Fin.bnd k5) fun src1 ρ6 S6 H6 x6 m6 k6 => ?_)⟩
          intro hl1 J1 jok1
          have xx6 := xx5.trans x6
          have er6 := (er4.ext x5).ext x6
          -- the inner walk
          let In : Nat → Hp → Prop := fun j H7 => j ≤ src1.items.length ∧ ∃ ρ7 S7 acc7, Ext ρ6 H6 ρ7 H7 ∧ Match K cls ρ7 S7 H7 ∧
            Fin K cls E ρ7 H7 (inL src1.live sg1 (fun δ => noX (p1 δ)) (fun δ => noX (elt δ)) n (wipeD δ1 vs1) (src1.items.drop j) acc7 S7) fun acc' ρ8 S8 H8 => Fin K cls E ρ8 H8 (outL src.live sg (fun δ => noX (p δ)) (fun δ => noX (f1 δ)) vs1 sg1 (fun δ => noX (p1 δ)) (fun δ => noX (elt δ)) n (wipeD δ vs) (src.items.drop (i + 1)) acc' S8) fun d ρ' _ H' => ∀ u, Rep K ρ' H' d u → Q u H'
          refine ⟨fun j z H7 => z = src1.items.length - j ∧ In j H7, ⟨src1.items.length, by simp, Nat.zero_le _, ρ6, S6, acc, .refl, m6, by rw [List.drop_zero]; exact Fin.bnd k6⟩, ?_⟩
          rintro j z H7 ⟨rfl, hj, ρ7, S7, acc7, x7, m7, k7⟩
          have xx7 := xx6.trans x7
          by_cases hlt1 : j < src1.items.length
          · rw [List.drop_eq_getElem_cons hlt1] at k7
            by_cases hlive1 : src1.live S7
            · unfold inL at k7
              rw [if_pos hlive1] at k7
              have hg1 := (jok1 j ρ7 S7 H7 x7 m7 hlive1).1 _ (List.getElem?_eq_getElem hlt1)
              refine .inr ⟨hg1.1, In (j + 1), fun H' hN => ⟨src1.items.length - (j + 1), by omega, rfl, hN⟩, fun x H8 hy => ?_⟩
              obtain ⟨x8, m8, rx8⟩ := hg1.2 x H8 hy
              have er8 : ERep K ρ7 H8 (wipeD δ1 vs1) (wipe σ4 vs1) := ((er6.ext x7).ext x8).wipe vs1
              have k8 := Fin.bnd (k7.ext x8)
              rcases tg1.pure src1.items[j] (wipeD δ1 vs1) S7 with ⟨δ2, e2⟩ | e2
              · rw [e2 S7] at k8
                have k9 := k8 ρ7 H8 .refl m8
                refine tg1.run ρ7 H8 _ δ2 (wipe σ4 vs1) _ x _ er8 rx8 e2 fun σ9 er9 w9 => ?_
                refine ⟨w9.trans (wipe_wipe σ4 vs1), tk1.run σ9 H8 _ ⟨ρ7, S7, δ2, er9, m8, noX_fin (E' := EN) (Fin.imp (Fin.bnd k9) fun b2 ρ10 S10 H10 x10 m10 k10 => ?_)⟩⟩
                have x710 := (x7.trans x8).trans x10
                cases b2 with
                | false =>
                  rw [if_neg Bool.false_ne_true] at k10
                  exact iteF ⟨hlt1, ρ10, S10, acc7, x710, m10, k10⟩
                | true =>
                  rw [if_pos rfl] at k10
                  refine iteT ⟨ρ10, S10, δ2, er9.ext x10, m10, noX_fin (E' := EN) (Fin.imp (Fin.bnd k10) fun y ρ11 S11 H11 x11 m11 k11 v11 r11 => ?_)⟩
                  have x711 := x710.trans x11
                  by_cases hc : S11[n]? = some (.lst acc7) ∧ acc7.length < sizeLine
                  · have aD := (xx6.trans x711).get nD
                    obtain ⟨xs, e3, ra⟩ := m11.obj n Dd _ aD hc.1
                    have rr : Reps K ρ11 H11 (acc7 ++ [y]) (xs ++ [v11]) := ra.append (.one r11)
                    have mu : Mut (H11 Dd) := by rw [e3]; trivial
                    have xw := ext_write (ρ := ρ11) (o := .lst (xs ++ [v11])) mu
                    refine ⟨xs, e3, by rw [ra.length]; exact hc.2, hlt1, ρ11, S11.set n (.lst (acc7 ++ [y])), acc7 ++ [y], x711.trans xw, m11.write aD mu ⟨xs ++ [v11], upd_same, rr.ext xw⟩, ?_⟩
                    have k12 := k11.ext xw
                    rw [if_pos hc] at k12
                    exact k12
                  · rw [if_neg hc] at k11
                    exact k11.elim
              · rw [e2] at k8
                exact k8.elim
            · unfold inL at k7
              rw [if_neg hlive1] at k7
              exact k7.elim
          · rw [List.drop_eq_nil_of_le (by omega)] at k7
            by_cases hlive1 : src1.live S7
            · unfold inL at k7
              rw [if_pos hlive1] at k7
              exact .inl ⟨(jok1 j ρ7 S7 H7 x7 m7 hlive1).2 (List.getElem?_eq_none_iff.mpr (by omega)), hlt, ρ7, S7, acc7, xx7, m7, k7 ρ7 H7 .refl m7⟩
            · unfold inL at k7
              rw [if_neg hlive1] at k7
              exact k7.elim
      · rw [e1] at k3
        exact k3.elim
    · rw [if_neg hlive] at k2
      exact k2.elim
  · rw [List.drop_eq_nil_of_le (by omega)] at k2
    unfold outL at k2
    by_cases hlive : src.live S2 ∧ S2[n]? = some (.lst acc)
    · rw [if_pos hlive] at k2
      exact .inl ⟨(jok i ρ2 S2 H2 x02 m2 hlive.1).2 (List.getElem?_eq_none_iff.mpr (by omega)), k2 ρ2 H2 .refl m2 _ ⟨Dd, rfl, x2.get nD⟩⟩
    · rw [if_neg hlive] at k2
      exact k2.elim
theorem je_lc2 (tg : TgOk X.K vs gr sg) (tk : TtOk X.K cls tt p) (tg1 : TgOk X.K vs1 gr1 sg1) (tk1 : TtOk X.K cls tt1 p1) (hp : PE X e (tLc2 (TJI X.K cls E f) gr tt (TJI X.K cls EN f1) gr1 tt1 (TJ X.K cls EN elt) vs vs1)) : JE X cls E e (eLc2 f sg p f1 sg1 p1 elt vs vs1) := PE.wk hp fun _ _ _ _ _ _ h => tj_lc2 tg tk tg1 tk1 h
end
end
end DL
set_option Elab.async false
set_option linter.all false
set_option maxRecDepth 100000
set_option maxHeartbeats 1000000
/-! DL29: dict comprehensions without conditions, keys nested tuples -/
set_option Elab.async false
set_option linter.all false
set_option maxRecDepth 100000
/-! DL30: dict comprehensions with nested keys, as data -/
namespace DL
open PySem PySem.Spec PyProof.Rows L2
open Classical
end DL
set_option Elab.async false
set_option linter.all false
set_option maxRecDepth 100000
/-! DL31: sum of a tuple of ints -/
namespace DL
open PySem PySem.Spec PyProof.Rows L2
open Classical
noncomputable section
section
variable {X : Cx} {cls : Nat → Addr} {E : XK}
def dSumA (x : D) : M D := fun S => match x with
  | .tup ds => match dInts ds with
    | some ns => .ok (.int ns.sum) S
    | none => .stuck
  | y => dSum y S
theorem cr_sumT (calm : X.calm = true) : CallR X (.builtin "sum") fun vs H Q => ∃ (a : Addr) (ns : List Int), vs = [V.ref a] ∧ SqT X.K H a (ns.map V.int) ∧ Q (.int ns.sum) H := by
  rintro pins s σ H vs us Q I r ⟨a, ns, rfl, ht, fin⟩
  obtain ⟨its, rv, hp, _⟩ := I.tuple ht
  rw [Vals.ref1 r]
  obtain ⟨xs, hx⟩ := (Vals.ints rv).allInts.items
  have same : (xs.toList.map (·.1)) = ns := by
    have := IntsAre.numsOf (Vals.ints rv)
    rw [show its = (intItems xs).toList by rw [← hx]] at this
    rw [← this, nums_intItems]
  rw [hx] at hp
  refine PySem.W.ktm_sumG (I.ok.hd calm) hp fun h' tk t' kept => ⟨.int ns.sum, H, I.kept kept, ⟨t', ?_⟩, fin⟩
  rw [preSum_eq, List.take_of_length_le (by simp), same]
theorem bj_sumA (calm : X.calm = true) : CallR X (.builtin "sum") (rCJ X.K cls E (op1 dSumA)) := fun pins s σ H vs us Q I r hh => by
  obtain ⟨ρ, S, x, v, rfl, m, rx, k⟩ := rc1 hh
  by_cases hx : ∃ ds, x = .tup ds
  · obtain ⟨ds, rfl⟩ := hx
    dsimp only [dSumA] at k
    cases e : dInts ds with
    | none => rw [e] at k; exact k.elim
    | some ns =>
      rw [e] at k
      obtain ⟨a, zs, rfl, ea, ra⟩ := rx
      rw [dInts_get e] at ra
      rw [Reps.ints ra] at ea
      exact cr_sumT calm pins s σ H _ us Q I r ⟨a, ns, rfl, SqT.of ea, k ρ H .refl m _ rfl⟩
  · have e : dSumA x S = dSum x S := by
      unfold dSumA
      split
      · exact absurd ⟨_, rfl⟩ hx
      · rfl
    rw [e] at k
    obtain ⟨a, ns, e1, e2, _, q⟩ := withInts_fin m rx k
    exact cr_sum calm pins s σ H _ us Q I r ⟨a, ns, by rw [e1], e2, q _ rfl⟩
end
end
end DL
set_option Elab.async false
set_option linter.all false
set_option maxRecDepth 100000
/-! DL32: sorted of a tuple -/
namespace DTS
open PySem PySem.Spec PySem.Calls PySem.W PyProof.Rows
section
variable {prog : Program} {w : World} {A : Around} {E : Value → Shared → Prop} {s : Shared} {t : Addr} {us : List Value}
/-- what a tuple gives, one by one, as sorted() takes it -/
theorem gather {Q : List Value → Shared → Prop} (ht : s.heap.IsTuple t us.toArray) (room : us.length ≤ sizeLine)
    (fin : Q us { s with heap := (s.heap.push (seqObj "list" #[] 0)).update s.heap.objs.size (Obj.mapSeq (· ++ us.toArray)) }) : wpAny (model prog w) A (collect (.ref t)) Q E s := by
  obtain ⟨ob, g1, g2, k, g3⟩ := id ht
  have kept : (s.heap.push (seqObj "list" #[] 0)).get? t = some ob := Heap.get?_push_of_some _ g1
  unfold collect
  refine wpAny_bind (wpAny_runValue (codeAny_builtin entry_proto_collect' ?_))
  change wpAny _ _ (do again (.builtin "list.__iadd__" ⟨[← newList [], .ref t], []⟩)) _ _ s
  refine wpAny_bind (wpAny_newList (wpAny_pure ⟨Code.quiet_builtin _ (by decide +kernel), codeAny_builtin entry_list_iadd' ?_⟩))
  change wpAny _ _ (Builtin.List.listExtendWith (.ref s.heap.objs.size) (.ref t) (.ref s.heap.objs.size)) _ _ { s with heap := s.heap.push (seqObj "list" #[] 0) }
  unfold Builtin.List.listExtendWith
  refine wpAny_bind (wpAny_typeOf (T := "tuple") ⟨ob, kept, g2⟩ ?_)
  rw [if_pos (by rw [show (Value.type "tuple" == Value.type "tuple") = true from rfl]; simp)]
  refine wpAny_bind (listItems_at kept g3 ?_)
  refine wpAny_bind (listItems_at (n := 0) (xs := #[]) (Heap.get?_push_size _ rfl) rfl ?_)
  rw [if_neg (by simp)]
  have fits : (#[] ++ us.toArray).size ≤ sizeLine + 1 := by
    simp only [Array.size_append, List.size_toArray, List.length_nil]; omega
  refine wpAny_bind (listUpdate_at (n := 0) (xs := #[]) (Heap.get?_push_size _ rfl) rfl (wpAny_pure ?_) (Nat.zero_le _) fits)
  change wpAny (model prog w) A (do
      let ob ← load s.heap.objs.size
      match ob.data with
      | .seq ys _ => pure ys.toList
      | _ => unsupported "internal:collect") Q E { s with heap := (s.heap.push (seqObj "list" #[] 0)).update s.heap.objs.size (Obj.mapSeq (· ++ us.toArray)) }
  refine wpAny_bind (wpAny_load (get?_update_seq (Heap.get?_push_size _ rfl) _) ?_)
  change wpAny _ _ (pure ((#[] : Array Value) ++ us.toArray).toList) Q E _
  have same : ((#[] : Array Value) ++ us.toArray).toList = us := by simp
  rw [same]
  exact wpAny_pure fin
theorem by_sort {Q : Value → Shared → Prop} (ht : s.heap.IsTuple t us.toArray) (room : us.length ≤ sizeLine)
    (body : ∀ E' : Value → Shared → Prop, wpAny (model prog w) A.in1.in1 (Builtin.«list.sort» ⟨[.ref (s.heap.objs.size + 1)], []⟩) (fun f s' => f = .done (.ret .none) ∧ Q (.ref (s.heap.objs.size + 1)) s') E' { s with heap := copyHeap s.heap us }) :
    wpAny (model prog w) A (call (.builtin "sorted") [.ref t]) Q E s := by
  refine call_function_entry_kw kind_sorted plain_sorted entry_sorted (args_sorted1 _) ?_
  unfold Builtin.«sorted»
  refine wpAny_bind (m := checkCount "sorted" 1 1 _) (wpAny_pure (wpAny_bind (gather ht room (wpAny_bind (wpAny_newList ?_ room)))))
  have grown : ((s.heap.push (seqObj "list" #[] 0)).update s.heap.objs.size (Obj.mapSeq (· ++ us.toArray))).objs.size = s.heap.objs.size + 1 := by rw [Heap.size_update, size_push']
  change wpAny _ _ _ _ _ { s with heap := copyHeap s.heap us }
  rw [grown]
  refine wpAny_bind (wpAny_holding (wpAny_call_entry_kw slot_list_sort ⟨_, copyHeap_at s.heap us, rfl⟩ entry_list_sort ?inner (args_list_sort _)))
  case inner =>
    change wpAny (model prog w) A.in1.in1 (Builtin.«list.sort» ⟨[.ref (s.heap.objs.size + 1)], []⟩) _ _ _
    exact wpAny_mono (body _) (fun f s' ⟨e1, e2⟩ => by subst e1; exact ⟨_, rfl, wpAny_pure ⟨_, rfl, e2⟩⟩) fun _ _ e => e
theorem by_data {β : Type} {bs : List β} {enc : β → PyData} {R : Value → β → Prop} {Q : Value → Shared → Prop} (ht : s.heap.IsTuple t us.toArray) (e : EachIs R us bs) (er : EachIs (fun v b => ∃ as, Reads s.heap v (enc b) as) us bs)
    (alike : AllAlike (bs.map enc)) (able : Sortable (bs.map enc)) (room : bs.length ≤ sizeLine) (deep : ∀ b, b ∈ bs → A.units + 2 + (enc b).depth < cLine)
    (fin : ∀ out, out.length = bs.length → EachIs R out (bs.mergeSort (dataLe false enc)) → Q (.ref (s.heap.objs.size + 1)) { s with heap := sortedAll s.heap us (List.toArray out) }) :
    wpAny (model prog w) A (call (.builtin "sorted") [.ref t]) Q E s := by
  have er' := er.mono fun v b (x : ∃ as, Reads s.heap v (enc b) as) => (⟨x.choose, PyProof.Rows.Reads.keeps (fun _ _ => sorting_copy_old) x.choose_spec⟩ : ∃ as, Reads (sortingHeap (copyHeap s.heap us) (s.heap.objs.size + 1) us) v (enc b) as)
  have len : us.length ≤ sizeLine := by rw [e.length]; exact room
  have S : SortsAt prog w A.in1.in1 { s with heap := sortingHeap (copyHeap s.heap us) (s.heap.objs.size + 1) us } _ us := SortsAt.data (s := { s with heap := sortingHeap (copyHeap s.heap us) (s.heap.objs.size + 1) us })
    (each_map (R := fun v d => ∃ as, Reads (sortingHeap (copyHeap s.heap us) (s.heap.objs.size + 1) us) v d as) enc er') alike able (bound_map deep)
  exact by_sort ht len fun _ => list_sort_vals (s := { s with heap := copyHeap s.heap us }) (copyHeap_at s.heap us) S len ⟨rfl, fin _ (by rw [sortVals_length false rfl]; exact e.length) (sortVals_data false e er' alike)⟩
end
end DTS
namespace DL
open PySem PySem.Spec PyProof.Rows L2
open Classical
noncomputable section
section
variable {X : Cx} {cls : Nat → Addr} {E : XK}
def dSortedA (x : D) : M D := fun S => match x with
  | .tup ds => if Sort1 S ds then .ok (.loc S.length) (S ++ [.lst (ds.mergeSort (PySem.W.dataLe false (encS S)))]) else .stuck
  | y => dSorted y S
theorem bj_sortedA (hu : X.A.units + 66 < cLine) : CallR X (.builtin "sorted") (rCJ X.K cls E (op1 dSortedA)) := fun pins s σ H vs us Q I rv hh => by
  obtain ⟨ρ, S, x, v, rfl, m, r, k⟩ := rc1 hh
  by_cases hx : ∃ ds, x = .tup ds
  · obtain ⟨ds, rfl⟩ := hx
    obtain ⟨u, rfl, rx⟩ := vals1 rv
    obtain ⟨a, xs, rfl, ea, ra⟩ := r
    cases rx
    dsimp only [dSortedA] at k
    by_cases hs : Sort1 S ds
    · rw [if_pos hs] at k
      obtain ⟨hp, hal, hso, hlen, hdep⟩ := hs
      obtain ⟨its, rvl, pt, hz⟩ := I.tuple (SqT.of ea)
      refine DTS.by_data pt (each_of ra rvl) (each_reads I m hp ra rvl) hal hso hlen (fun d hd => by have := hdep d hd; omega) fun out ho he => ?_
      obtain ⟨ys, r3, r4⟩ := of_each he
      obtain ⟨ep, hat⟩ := PyProof.Rows.sortedAll_at s.heap its out.toArray
      have hfr := I.hok.fresh (Nat.le_succ s.heap.objs.size)
      have hy : ys.length ≤ sizeLine := by rw [r3.length, List.length_mergeSort]; exact hlen
      refine ⟨.ref (s.heap.objs.size + 1), upd H (s.heap.objs.size + 1) (.lst ys), I.laid (t' := s.toks) (fun _ _ => PyProof.Rows.sortedAll_old) (Nat.le_succ _) ⟨hy, out, ep, r4, hat⟩, rfl, ?_⟩
      exact new_lst m r3 k _ hfr
    · rw [if_neg hs] at k
      exact k.elim
  · have e : dSortedA x S = dSorted x S := by
      unfold dSortedA
      split
      · exact absurd ⟨_, rfl⟩ hx
      · rfl
    rw [e] at k
    exact bj_sorted (cls := cls) (E := E) hu pins s σ H _ us Q I rv ⟨ρ, S, [x], m, ⟨_, _, rfl, r, rfl⟩, k⟩
end
end
end DL
set_option Elab.async false
set_option linter.all false
set_option maxRecDepth 100000
namespace Y
open PySem PySem.Spec PyProof.Rows L2 DL
noncomputable section
def b_is_number : SS := sRet (eAnd (eCall (op2 dIsi) (aCons (eVar 0) (aCons (eC (.ty "int")) (aNil)))) (eNot (eCall (op2 dIsi) (aCons (eVar 0) (aCons (eC (.ty "bool")) (aNil))))))
def F_is_number : OpN := fnB 1 b_is_number
def b_is_index : SS := sRet (eAnd (eFn F_is_number (aCons (eVar 0) (aNil))) (eChain dLeA dLtA (eC (.int 0)) (eVar 0) (eVar 1)))
def F_is_index : OpN := fnB 2 b_is_index
def b_is_pair : SS := sRet (eAnd (eCall (op2 dIsi) (aCons (eVar 0) (aCons (eC (.ty "tuple")) (aNil)))) (eBin dEq (eCall (op1 dLen) (aCons (eVar 0) (aNil))) (eC (.int 2))))
def F_is_pair : OpN := fnB 1 b_is_pair
def b_bad_rise : SS := sSeq (sAsg (eNeg (eC (.int 1))) (gN 2)) (sSeq (sFor (iEnumD (eVar 0)) (gTp 2 (gsCons (gN 3) (gsCons (gN 4) (gsNil)))) (sSeq (sIf (tOrT (tNotT (tTru (eFn F_is_index (aCons (eVar 4) (aCons (eVar 1) (aNil)))))) (tOf (eBin dLeA (eVar 4) (eVar 2)))) (sRet (eVar 3)) (sNext)) (sAsg (eVar 4) (gN 2)))) (sRet (eC .non)))
def F_bad_rise : OpN := fnB 5 b_bad_rise
def b_is_rising : SS := sRet (eAnd (eCall (op2 dIsi) (aCons (eVar 0) (aCons (eC (.ty "tuple")) (aNil)))) (eBin (dIsN false) (eFn F_bad_rise (aCons (eVar 0) (aCons (eVar 1) (aNil)))) (eC .non)))
def F_is_rising : OpN := fnB 2 b_is_rising
def b_is_size : SS := sRet (eAnd (eFn F_is_number (aCons (eVar 0) (aNil))) (eChain dLeA dLeA (eC (.int 1)) (eVar 0) (eC (.int 10))))
def F_is_size : OpN := fnB 1 b_is_size
def b_is_road : SS := sRet (eAnd (eFn F_is_pair (aCons (eVar 1) (aNil))) (eAnd (eFn F_is_index (aCons (eBin dIx (eVar 1) (eC (.int 1))) (aCons (eVar 0) (aNil)))) (eFn F_is_index (aCons (eBin dIx (eVar 1) (eC (.int 0))) (aCons (eBin dIx (eVar 1) (eC (.int 1))) (aNil))))))
def F_is_road : OpN := fnB 2 b_is_road
def b_road_fits : SS := sRet (eAnd (eFn F_is_road (aCons (eVar 0) (aCons (eVar 2) (aNil)))) (eOr (eBin dEq (eCall (op1 dLen) (aCons (eVar 1) (aNil))) (eC (.int 0))) (eBin dGtA (eVar 2) (eBin dIx (eVar 1) (eNeg (eC (.int 1)))))))
def F_road_fits : OpN := fnB 3 b_road_fits
def b_bad_road : SS := sSeq (sFor (iEnumD (eVar 1)) (gTp 2 (gsCons (gN 2) (gsCons (gN 3) (gsNil)))) (sIf (tNotT (tTru (eFn F_road_fits (aCons (eVar 0) (aCons (eSl (eVar 1) (oNone) ((oSome (eVar 2)))) (aCons (eVar 3) (aNil))))))) (sRet (eVar 2)) (sNext))) (sRet (eC .non))
def F_bad_road : OpN := fnB 4 b_bad_road
def b_check_web : SS := sSeq (sIf (tNotT (tTru (eFn F_is_size (aCons (eVar 0) (aNil))))) (sRaise 2 (eVar 0)) (sNext)) (sSeq (sAsg (eFn F_bad_road (aCons (eVar 0) (aCons (eVar 1) (aNil)))) (gN 2)) (sIf (tOf (eBin (dIsN true) (eVar 2) (eC .non))) (sRaise 3 (eVar 2)) (sNext)))
def F_check_web : OpN := fnX 3 b_check_web
def b_is_star : SS := sRet (eCall (op1 dAny) (aCons (eLc (iSeq (eBin dIx (eVar 0) (eBin dIx (eVar 1) (eC (.int 0))))) (gN 2) (tTrue) (eCall (op1 dAll) (aCons (eLc (iSeq (eVar 1)) (gN 3) (tTrue) (eBin dIn (eVar 2) (eBin dIx (eVar 0) (eVar 3))) [3]) (aNil))) [2]) (aNil)))
def F_is_star : OpN := fnB 4 b_is_star
def b_is_triangle : SS := sRet (eAnd (eBin dEq (eCall (op1 dLen) (aCons (eVar 1) (aNil))) (eC (.int 3))) (eBin dEq (eLenS2 1 0 2 3) (eC (.int 3))))
def F_is_triangle : OpN := fnB 4 b_is_triangle
def b_is_part : SS := sSeq (sIf (tOrT (tNotT (tTru (eFn F_is_rising (aCons (eVar 1) (aCons (eCall (op1 dLen) (aCons (eVar 0) (aNil))) (aNil)))))) (tOf (eBin dEq (eCall (op1 dLen) (aCons (eVar 1) (aNil))) (eC (.int 0))))) (sRet (eC (.bl false))) (sNext)) (sRet (eOr (eFn F_is_star (aCons (eVar 0) (aCons (eVar 1) (aNil)))) (eFn F_is_triangle (aCons (eVar 0) (aCons (eVar 1) (aNil))))))
def F_is_part : OpN := fnB 2 b_is_part
def b_part_fits : SS := sSeq (sIf (tNotT (tTru (eFn F_is_part (aCons (eVar 0) (aCons (eVar 2) (aNil)))))) (sRet (eC (.bl false))) (sNext)) (sSeq (sIf (tAndT (tOf (eBin dGtA (eCall (op1 dLen) (aCons (eVar 1) (aNil))) (eC (.int 0)))) (tOf (eBin dLeA (eBin dIx (eVar 2) (eC (.int 0))) (eBin dIx (eBin dIx (eVar 1) (eNeg (eC (.int 1)))) (eC (.int 0)))))) (sRet (eC (.bl false))) (sNext)) (sRet (eNot (eCall (op1 dAny) (aCons (eLc2 (iSeq (eVar 1)) (gN 3) (tTrue) (iSeq (eVar 2)) (gN 4) (tTrue) (eBin dIn (eVar 4) (eVar 3)) [3, 4] [4]) (aNil))))))
def F_part_fits : OpN := fnB 5 b_part_fits
def b_all_taken : SS := sRet (eBin dEq (eCall (op1 dSumA) (aCons (eLc (iSeq (eVar 1)) (gN 2) (tTrue) (eCall (op1 dLen) (aCons (eVar 2) (aNil))) [2]) (aNil))) (eCall (op1 dLen) (aCons (eVar 0) (aNil))))
def F_all_taken : OpN := fnB 3 b_all_taken
def b_bad_part : SS := sSeq (sFor (iEnumD (eVar 1)) (gTp 2 (gsCons (gN 2) (gsCons (gN 3) (gsNil)))) (sIf (tNotT (tTru (eFn F_part_fits (aCons (eVar 0) (aCons (eSl (eVar 1) (oNone) ((oSome (eVar 2)))) (aCons (eVar 3) (aNil))))))) (sRet (eVar 2)) (sNext))) (sSeq (sIf (tNotT (tTru (eFn F_all_taken (aCons (eVar 0) (aCons (eVar 1) (aNil)))))) (sRet (eCall (op1 dLen) (aCons (eVar 1) (aNil)))) (sNext)) (sRet (eC .non)))
def F_bad_part : OpN := fnB 4 b_bad_part
def b_House___init__ : SS := sSeq (sFldD 0 "n" (eVar 0) (eVar 1)) (sSeq (sFldD 0 "roads" (eVar 0) (eVar 2)) (sFldD 0 "parts" (eVar 0) (eVar 3)))
def F_House___init__ : OpN := fnB 4 b_House___init__
def b_house : SS := sSeq (sDrop (eFnX F_check_web (aCons (eVar 0) (aCons (eVar 1) (aNil))))) (sSeq (sAsg (eFn F_bad_part (aCons (eVar 1) (aCons (eVar 2) (aNil)))) (gN 3)) (sSeq (sIf (tOf (eBin (dIsN true) (eVar 3) (eC .non))) (sRaise 4 (eVar 3)) (sNext)) (sRet (eMake 0 F_House___init__ (aCons (eVar 0) (aCons (eVar 1) (aCons (eVar 2) (aNil))))))))
def F_house : OpN := fnX 4 b_house
def b_part_of : SS := sSeq (sIf (tNotT (tTru (eFn F_is_index (aCons (eVar 1) (aCons (eCall (op1 dLen) (aCons (eFld 0 "roads" (eVar 0)) (aNil))) (aNil)))))) (sRaise 3 (eVar 1)) (sNext)) (sRet (eMth dIndex (eLc (iSeq (eFld 0 "parts" (eVar 0))) (gN 2) (tTrue) (eBin dIn (eVar 1) (eVar 2)) [2]) (aCons (eC (.bl true)) (aNil))))
def F_part_of : OpN := fnX 3 b_part_of
def b__law_pool : SS := sSeq (sAsg (eC (.int 0)) (gN 2)) (sSeq (sIf (tOf (eBin dLtA (eVar 1) (eCall (op1 dLen) (aCons (eVar 0) (aNil))))) (sAsg (eBin dIx (eVar 0) (eVar 1)) (gN 2)) (sIf (tTru (eVar 0)) (sAsg (eBin dIx (eVar 0) (eC (.int 0))) (gN 2)) (sNext))) (sSeq (sAsg (eCall (dMax) (aCons (eCall (op1 dInt) (aCons (eVar 2) (aNil))) (aCons (eCall (op1 dInt) (aCons (eBin dSub (eNeg (eC (.int 1))) (eVar 2)) (aNil))) (aNil)))) (gN 3)) (sSeq (sAsg (eBin dMod (eCall (op1 dInt) (aCons (eBin dMulT (eBin dAdd (eBin dAdd (eBin dAdd (eBin dMod (eCall (op1 dInt) (aCons (eVar 3) (aNil))) (eC (.int 2147483629))) (eBin dMulT (eBin dMulT (eC (.int 7919)) (eVar 1)) (eVar 1))) (eBin dMulT (eC (.int 31)) (eVar 1))) (eC (.int 17))) (eC (.int 48271))) (aNil))) (eC (.int 2147483647))) (gN 4)) (sRet (eLst (aCons (eBin dMulT (eVar 3) (eCall (op1 dInt) (aCons (eBin dGeA (eVar 3) (eBin dPow (eC (.int 10)) (eC (.int 18)))) (aNil)))) (aCons (eVar 4) (aNil))))))))
def F__law_pool : OpN := fnB 5 b__law_pool
def b__law_take : SS := sSeq (sIf (tOf (eBin dGtA (eBin dIx (eVar 0) (eC (.int 0))) (eC (.int 0)))) (sSeq (sAsg (eBin dMod (eCall (op1 dInt) (aCons (eBin dIx (eVar 0) (eC (.int 0))) (aNil))) (eVar 1)) (gN 2)) (sSeq (sAsg (eBin dFdiv (eBin dIx (eVar 0) (eC (.int 0))) (eVar 1)) (gSubD (eVar 0) (eC (.int 0)) dSet)) (sRet (eVar 2)))) (sNext)) (sSeq (sAsg (eBin dMod (eCall (op1 dInt) (aCons (eBin dAdd (eBin dMulT (eBin dIx (eVar 0) (eC (.int 1))) (eC (.int 39373))) (eC (.int 7))) (aNil))) (eC (.int 2147483647))) (gSubD (eVar 0) (eC (.int 1)) dSet)) (sRet (eBin dMod (eCall (op1 dInt) (aCons (eBin dFdiv (eBin dMod (eCall (op1 dInt) (aCons (eBin dMulT (eBin dIx (eVar 0) (eC (.int 1))) (eBin dIx (eVar 0) (eC (.int 1)))) (aNil))) (eC (.int 2147483629))) (eC (.int 32))) (aNil))) (eVar 1))))
def F__law_take : OpN := fnB 3 b__law_take
def b__law_one : SS := sRet (eBin dIx (eVar 1) (eFn F__law_take (aCons (eVar 0) (aCons (eCall (op1 dLen) (aCons (eVar 1) (aNil))) (aNil)))))
def F__law_one : OpN := fnB 2 b__law_one
def b_bad_meeting : SS := sSeq (sFor (iEnumD (eVar 1)) (gTp 2 (gsCons (gN 2) (gsCons (gN 3) (gsNil)))) (sIf (tNotT (tTru (eFn F_is_index (aCons (eVar 3) (aCons (eCall (op1 dLen) (aCons (eFld 0 "roads" (eVar 0)) (aNil))) (aNil)))))) (sRet (eVar 2)) (sNext))) (sRet (eC .non))
def F_bad_meeting : OpN := fnB 4 b_bad_meeting
def b_check_history : SS := sSeq (sIf (tOf (eBin dGtA (eCall (op1 dLen) (aCons (eVar 1) (aNil))) (eC (.int 200)))) (sRaise 12 (eCall (op1 dLen) (aCons (eVar 1) (aNil)))) (sNext)) (sSeq (sAsg (eFn F_bad_meeting (aCons (eVar 0) (aCons (eVar 1) (aNil)))) (gN 2)) (sIf (tOf (eBin (dIsN true) (eVar 2) (eC .non))) (sRaise 6 (eVar 2)) (sNext)))
def F_check_history : OpN := fnX 3 b_check_history
def b_greater : SS := sRet (eCall (op1 dTuple) (aCons (eLc (iZipD (eVar 0) (eVar 1)) (gTp 2 (gsCons (gN 2) (gsCons (gN 3) (gsNil)))) (tTrue) (eCall (dMax) (aCons (eVar 2) (aCons (eVar 3) (aNil)))) [2, 3]) (aNil)))
def F_greater : OpN := fnB 4 b_greater
def b_made_mark : SS := sSeq (sAsg (eCall (op1 dList) (aCons (eFn F_greater (aCons (eVar 0) (aCons (eVar 1) (aNil)))) (aNil))) (gN 3)) (sSeq (sAugS (eVar 3) (eVar 2) (eC (.int 1)) (iOp (fun _ _ => True) fun i j => .int (i + j))) (sRet (eCall (op1 dTuple) (aCons (eVar 3) (aNil)))))
def F_made_mark : OpN := fnB 4 b_made_mark
def b_marks_and_clocks : SS := sSeq (sDrop (eFnX F_check_history (aCons (eVar 0) (aCons (eVar 1) (aNil))))) (sSeq (sAsg (eBin dMulT (eLst (aCons (eBin dMulT (eTup (aCons (eC (.int 0)) (aNil))) (eCall (op1 dLen) (aCons (eFld 0 "parts" (eVar 0)) (aNil)))) (aNil))) (eFld 0 "n" (eVar 0))) (gN 2)) (sSeq (sAsg (eLst (aNil)) (gN 3)) (sSeq (sFor (iSeq (eVar 1)) (gN 4) (sSeq (sAsg (eBin dIx (eFld 0 "roads" (eVar 0)) (eVar 4)) (gTp 2 (gsCons (gN 5) (gsCons (gN 6) (gsNil))))) (sSeq (sAsg (eFn F_made_mark (aCons (eBin dIx (eVar 2) (eVar 5)) (aCons (eBin dIx (eVar 2) (eVar 6)) (aCons (eFnX F_part_of (aCons (eVar 0) (aCons (eVar 4) (aNil)))) (aNil))))) (gN 7)) (sSeq (sAsg (eVar 7) (gSubD (eVar 2) (eVar 5) dSet)) (sSeq (sAsg (eVar 7) (gSubD (eVar 2) (eVar 6) dSet)) (sDrop (eMth dAppend (eVar 3) (aCons (eVar 7) (aNil))))))))) (sRet (eTup (aCons (eCall (op1 dTuple) (aCons (eVar 3) (aNil))) (aCons (eCall (op1 dTuple) (aCons (eVar 2) (aNil))) (aNil))))))))
def F_marks_and_clocks : OpN := fnX 8 b_marks_and_clocks
def b_marks : SS := sRet (eBin dIx (eFnX F_marks_and_clocks (aCons (eVar 0) (aCons (eVar 1) (aNil)))) (eC (.int 0)))
def F_marks : OpN := fnX 2 b_marks
def b__law_web : SS := sSeq (sPar 2 3 (aCons (eFn F__law_one (aCons (eVar 0) (aCons (eVar 1) (aNil)))) (aCons (eLst (aNil)) (aNil)))) (sSeq (sFor (iRg2 (eC (.int 1)) (eVar 2)) (gN 4) (sIf (tOf (eBin dGtA (eFn F__law_take (aCons (eVar 0) (aCons (eC (.int 6)) (aNil)))) (eC (.int 0)))) (sDrop (eMth dAppend (eVar 3) (aCons (eTup (aCons (eFn F__law_take (aCons (eVar 0) (aCons (eVar 4) (aNil)))) (aCons (eVar 4) (aNil)))) (aNil)))) (sNext))) (sSeq (sFor (iRg1 (eFn F__law_take (aCons (eVar 0) (aCons (eC (.int 3)) (aNil))))) (gN 5) (sIf (tOf (eBin dGtA (eVar 2) (eC (.int 1)))) (sSeq (sAsg (eFn F__law_take (aCons (eVar 0) (aCons (eBin dSub (eVar 2) (eC (.int 1))) (aNil)))) (gN 6)) (sDrop (eMth dAppend (eVar 3) (aCons (eTup (aCons (eVar 6) (aCons (eBin dAdd (eBin dAdd (eVar 6) (eC (.int 1))) (eFn F__law_take (aCons (eVar 0) (aCons (eBin dSub (eBin dSub (eVar 2) (eC (.int 1))) (eVar 6)) (aNil))))) (aNil)))) (aNil))))) (sNext))) (sRet (eTup (aCons (eVar 2) (aCons (eCall (op1 dTuple) (aCons (eCall (op1 dSortedD) (aCons (eCall (op1 dDictT) (aCons (eLc (iSeq (eVar 3)) (gN 7) (tTrue) (eTup (aCons (eVar 7) (aCons (eC (.bl true)) (aNil)))) [7]) (aNil))) (aNil))) (aNil))) (aNil)))))))
def F__law_web : OpN := fnB 8 b__law_web
def b__law_fits : SS := sSeq (sAsg (eDnK) (gN 2)) (sSeq (sFor (iSeq (eVar 1)) (gN 3) (sFor (iSeq (eBin dIx (eVar 0) (eVar 3))) (gN 4) (sDPutD (eVar 2) (eVar 4) (eBin dAdd (eDGetD (eVar 2) (eVar 4) (eC (.int 0))) (eC (.int 1)))))) (sRet (eOr (eBin dEq (eCall (dMax) (aCons (eLcK 2 (gN 4) (tTrue) (eBin dDGet (eVar 2) (eVar 4)) [4]) (aNil))) (eCall (op1 dLen) (aCons (eVar 1) (aNil)))) (eAnd (eBin dEq (eCall (op1 dLen) (aCons (eVar 1) (aNil))) (eC (.int 3))) (eBin dEq (eCall (op1 dLen) (aCons (eVar 2) (aNil))) (eC (.int 3)))))))
def F__law_fits : OpN := fnB 5 b__law_fits
def b__law_parts : SS := sSeq (sAsg (eLst (aNil)) (gN 2)) (sSeq (sFor (iRg1 (eCall (op1 dLen) (aCons (eVar 1) (aNil)))) (gN 3) (sSeq (sAsg (eLc (iRg1 (eCall (op1 dLen) (aCons (eVar 2) (aNil)))) (gN 5) (tTru (eFn F__law_fits (aCons (eVar 1) (aCons (eBin dAdd (eBin dIx (eVar 2) (eVar 5)) (eLst (aCons (eVar 3) (aNil)))) (aNil))))) (eVar 5) [5]) (gN 4)) (sIf (tAndT (tOf (eBin dNe (eVar 4) (eLst (aNil)))) (tOf (eBin dGtA (eFn F__law_take (aCons (eVar 0) (aCons (eC (.int 3)) (aNil)))) (eC (.int 0))))) (sDrop (eMth dAppend (eBin dIx (eVar 2) (eFn F__law_one (aCons (eVar 0) (aCons (eVar 4) (aNil))))) (aCons (eVar 3) (aNil)))) (sDrop (eMth dAppend (eVar 2) (aCons (eLst (aCons (eVar 3) (aNil))) (aNil))))))) (sRet (eCall (op1 dTuple) (aCons (eCall (op1 dSortedA) (aCons (eLc (iSeq (eVar 2)) (gN 6) (tTrue) (eCall (op1 dTuple) (aCons (eVar 6) (aNil))) [6]) (aNil))) (aNil)))))
def F__law_parts : OpN := fnB 7 b__law_parts
def b__law_history : SS := sSeq (sIf (tOf (eBin dEq (eBin dIx (eVar 1) (eC (.int 1))) (eTup (aNil)))) (sRet (eTup (aNil))) (sNext)) (sRet (eCall (op1 dTuple) (aCons (eLc (iRg1 (eFn F__law_take (aCons (eVar 0) (aCons (eBin dAdd (eVar 2) (eC (.int 1))) (aNil))))) (gN 3) (tTrue) (eFn F__law_take (aCons (eVar 0) (aCons (eCall (op1 dLen) (aCons (eBin dIx (eVar 1) (eC (.int 1))) (aNil))) (aNil)))) [3]) (aNil))))
def F__law_history : OpN := fnB 4 b__law_history
def b__law_is_next : SS := sRet (eOr (eBin dIn (eBin dIx (eBin dIx (eBin dIx (eVar 0) (eC (.int 1))) (eVar 1)) (eC (.int 0))) (eBin dIx (eBin dIx (eVar 0) (eC (.int 1))) (eVar 2))) (eBin dIn (eBin dIx (eBin dIx (eBin dIx (eVar 0) (eC (.int 1))) (eVar 1)) (eC (.int 1))) (eBin dIx (eBin dIx (eVar 0) (eC (.int 1))) (eVar 2))))
def F__law_is_next : OpN := fnB 3 b__law_is_next
def b__law_pasts : SS := sSeq (sAsg (eLst (aNil)) (gN 2)) (sSeq (sFor (iRg1 (eCall (op1 dLen) (aCons (eVar 1) (aNil)))) (gN 3) (sSeq (sAsg (eDnK) (gN 4)) (sSeq (sFor (iRg1 (eVar 3)) (gN 5) (sIf (tTru (eFn F__law_is_next (aCons (eVar 0) (aCons (eBin dIx (eVar 1) (eVar 5)) (aCons (eBin dIx (eVar 1) (eVar 3)) (aNil)))))) (sSeq (sDPutD (eVar 4) (eVar 5) (eC (.bl true))) (sFor (iSeq (eBin dIx (eVar 2) (eVar 5))) (gN 6) (sDPutD (eVar 4) (eVar 6) (eC (.bl true))))) (sNext))) (sDrop (eMth dAppend (eVar 2) (aCons (eCall (op1 dSortedD) (aCons (eVar 4) (aNil))) (aNil))))))) (sRet (eVar 2)))
def F__law_pasts : OpN := fnB 7 b__law_pasts
def b_is_mark : SS := sRet (eAnd (eCall (op2 dIsi) (aCons (eVar 0) (aCons (eC (.ty "tuple")) (aNil)))) (eCall (op1 dAll) (aCons (eLc (iSeq (eVar 0)) (gN 1) (tTrue) (eAnd (eFn F_is_number (aCons (eVar 1) (aNil))) (eBin dGeA (eVar 1) (eC (.int 0)))) [1]) (aNil))))
def F_is_mark : OpN := fnB 2 b_is_mark
def b_at_most : SS := sRet (eCall (op1 dAll) (aCons (eLc (iZipD (eVar 0) (eVar 1)) (gTp 2 (gsCons (gN 2) (gsCons (gN 3) (gsNil)))) (tTrue) (eBin dLeA (eVar 2) (eVar 3)) [2, 3]) (aNil)))
def F_at_most : OpN := fnB 4 b_at_most
def b_ahead : SS := sSeq (sIf (tNotT (tTru (eFn F_is_mark (aCons (eVar 0) (aNil))))) (sRaise 7 (eC (.int 0))) (sNext)) (sSeq (sIf (tOrT (tNotT (tTru (eFn F_is_mark (aCons (eVar 1) (aNil))))) (tOf (eBin dNe (eCall (op1 dLen) (aCons (eVar 1) (aNil))) (eCall (op1 dLen) (aCons (eVar 0) (aNil)))))) (sRaise 7 (eC (.int 1))) (sNext)) (sRet (eAnd (eFn F_at_most (aCons (eVar 0) (aCons (eVar 1) (aNil)))) (eBin dNe (eVar 0) (eVar 1)))))
def F_ahead : OpN := fnX 2 b_ahead
def b_check_index : SS := sSeq (sDrop (eFnX F_check_history (aCons (eVar 0) (aCons (eVar 1) (aNil))))) (sIf (tNotT (tTru (eFn F_is_index (aCons (eVar 2) (aCons (eCall (op1 dLen) (aCons (eVar 1) (aNil))) (aNil)))))) (sRaise 6 (eVar 2)) (sNext))
def F_check_index : OpN := fnX 3 b_check_index
def b_past : SS := sSeq (sDrop (eFnX F_check_index (aCons (eVar 0) (aCons (eVar 1) (aCons (eVar 2) (aNil)))))) (sSeq (sAsg (eFnX F_marks (aCons (eVar 0) (aCons (eVar 1) (aNil)))) (gN 3)) (sRet (eCall (op1 dTuple) (aCons (eLc (iRg1 (eVar 2)) (gN 4) (tTru (eFn F_at_most (aCons (eBin dIx (eVar 3) (eVar 4)) (aCons (eBin dIx (eVar 3) (eVar 2)) (aNil))))) (eVar 4) [4]) (aNil)))))
def F_past : OpN := fnX 5 b_past
def b_depth : SS := sSeq (sDrop (eFnX F_check_index (aCons (eVar 0) (aCons (eVar 1) (aCons (eVar 2) (aNil)))))) (sSeq (sAsg (eBin dMulT (eLst (aCons (eC (.int 0)) (aNil))) (eFld 0 "n" (eVar 0))) (gN 3)) (sSeq (sFor (iSeq (eSl (eVar 1) (oNone) ((oSome (eBin dAdd (eVar 2) (eC (.int 1))))))) (gN 4) (sSeq (sAsg (eBin dIx (eFld 0 "roads" (eVar 0)) (eVar 4)) (gTp 2 (gsCons (gN 5) (gsCons (gN 6) (gsNil))))) (sSeq (sAsg (eBin dAdd (eCall (dMax) (aCons (eBin dIx (eVar 3) (eVar 5)) (aCons (eBin dIx (eVar 3) (eVar 6)) (aNil)))) (eC (.int 1))) (gSubD (eVar 3) (eVar 5) dSet)) (sAsg (eBin dIx (eVar 3) (eVar 5)) (gSubD (eVar 3) (eVar 6) dSet))))) (sRet (eBin dIx (eVar 3) (eBin dIx (eBin dIx (eFld 0 "roads" (eVar 0)) (eBin dIx (eVar 1) (eVar 2))) (eC (.int 0)))))))
def F_depth : OpN := fnX 7 b_depth
def b_first_beside : SS := sSeq (sAsg (eFnX F_marks (aCons (eVar 0) (aCons (eVar 1) (aNil)))) (gN 2)) (sSeq (sFor (iEnumD (eVar 2)) (gTp 2 (gsCons (gN 3) (gsCons (gN 4) (gsNil)))) (sFor (iRg2 (eBin dAdd (eVar 3) (eC (.int 1))) (eCall (op1 dLen) (aCons (eVar 2) (aNil)))) (gN 5) (sIf (tNotT (tTru (eFn F_at_most (aCons (eVar 4) (aCons (eBin dIx (eVar 2) (eVar 5)) (aNil)))))) (sRet (eTup (aCons (eVar 3) (aCons (eVar 5) (aNil))))) (sNext)))) (sRet (eC .non)))
def F_first_beside : OpN := fnX 6 b_first_beside
def b__law_made : SS := sRet (eFn F_house (aCons (eBin dIx (eVar 0) (eC (.int 0))) (aCons (eBin dIx (eVar 0) (eC (.int 1))) (aCons (eBin dIx (eVar 0) (eC (.int 2))) (aNil)))))
def F__law_made : OpN := fnB 1 b__law_made
def b__law_depth : SS := sSeq (sAsg (eLst (aNil)) (gN 2)) (sSeq (sFor (iRg1 (eBin dAdd (eVar 1) (eC (.int 1)))) (gN 3) (sDrop (eMth dAppend (eVar 2) (aCons (eBin dAdd (eC (.int 1)) (eCall (dMax) (aCons (eBin dAdd (eLst (aCons (eC (.int 0)) (aNil))) (eLc (iSeq (eBin dIx (eVar 0) (eVar 3))) (gN 4) (tTrue) (eBin dIx (eVar 2) (eVar 4)) [4])) (aNil)))) (aNil))))) (sRet (eBin dIx (eVar 2) (eVar 1))))
def F__law_depth : OpN := fnB 5 b__law_depth
def b__law_first : SS := sSeq (sFor (iRg1 (eCall (op1 dLen) (aCons (eVar 0) (aNil)))) (gN 1) (sFor (iRg2 (eBin dAdd (eVar 1) (eC (.int 1))) (eCall (op1 dLen) (aCons (eVar 0) (aNil)))) (gN 2) (sIf (tOf (eBin dNotIn (eVar 1) (eBin dIx (eVar 0) (eVar 2)))) (sRet (eTup (aCons (eVar 1) (aCons (eVar 2) (aNil))))) (sNext)))) (sRet (eC .non))
def F__law_first : OpN := fnB 3 b__law_first
def b__law_right_v3 : SS := sSeq (sAsg (eFn F__law_made (aCons (eVar 0) (aNil))) (gN 3)) (sSeq (sAsg (eFnK F_marks [1, 0] aNil (aCons (eVar 1) (aCons (eVar 3) (aNil)))) (gN 4)) (sSeq (sFor (iRg1 (eCall (op1 dLen) (aCons (eVar 1) (aNil)))) (gN 5) (sSeq (sIf (tOrT (tOf (eBin dNe (eFn F_past (aCons (eVar 3) (aCons (eVar 1) (aCons (eVar 5) (aNil))))) (eCall (op1 dTuple) (aCons (eBin dIx (eVar 2) (eVar 5)) (aNil))))) (tOf (eBin dNe (eFn F_depth (aCons (eVar 3) (aCons (eVar 1) (aCons (eVar 5) (aNil))))) (eFn F__law_depth (aCons (eVar 2) (aCons (eVar 5) (aNil))))))) (sRet (eC (.bl false))) (sNext)) (sFor (iRg1 (eCall (op1 dLen) (aCons (eVar 1) (aNil)))) (gN 6) (sIf (tOf (eBin dNe (eFn F_ahead (aCons (eBin dIx (eVar 4) (eVar 6)) (aCons (eBin dIx (eVar 4) (eVar 5)) (aNil)))) (eBin dIn (eVar 6) (eBin dIx (eVar 2) (eVar 5))))) (sRet (eC (.bl false))) (sNext))))) (sRet (eBin dEq (eFn F_first_beside (aCons (eVar 3) (aCons (eVar 1) (aNil)))) (eFn F__law_first (aCons (eVar 2) (aNil)))))))
def F__law_right_v3 : OpN := fnB 7 b__law_right_v3
def b_law_k18 : SS := sSeq (sAsg (eFn F__law_pool (aCons (eVar 0) (aCons (eC (.int 0)) (aNil)))) (gN 1)) (sSeq (sFor (iRg1 (eC (.int 2))) (gN 2) (sSeq (sAsg (eFn F__law_web (aCons (eVar 1) (aCons (eLst (aCons (eC (.int 4)) (aCons (eC (.int 3)) (aCons (eC (.int 5)) (aCons (eC (.int 2)) (aCons (eC (.int 1)) (aCons (eC (.int 6)) (aCons (eC (.int 4)) (aNil))))))))) (aNil)))) (gTp 2 (gsCons (gN 3) (gsCons (gN 4) (gsNil))))) (sSeq (sAsg (eCall (op1 dTuple) (aCons (eLc (iRg1 (eCall (op1 dLen) (aCons (eVar 4) (aNil)))) (gN 9) (tTrue) (eTup (aCons (eVar 9) (aNil))) [9]) (aNil))) (gN 5)) (sSeq (sAsg (eFn F__law_history (aCons (eVar 1) (aCons (eTup (aCons (eVar 3) (aCons (eVar 4) (aCons (eVar 5) (aNil))))) (aCons (eC (.int 10)) (aNil))))) (gN 6)) (sSeq (sAsg (eFn F__law_pasts (aCons (eTup (aCons (eVar 3) (aCons (eVar 4) (aCons (eVar 5) (aNil))))) (aCons (eVar 6) (aNil)))) (gN 7)) (sFor (iSeq (eLst (aCons (eFn F__law_parts (aCons (eVar 1) (aCons (eVar 4) (aNil)))) (aCons (eFn F__law_one (aCons (eVar 1) (aCons (eLst (aCons (eVar 5) (aCons (eFn F__law_parts (aCons (eVar 1) (aCons (eVar 4) (aNil)))) (aNil)))) (aNil)))) (aNil))))) (gN 8) (sIf (tNotT (tTru (eFn F__law_right_v3 (aCons (eTup (aCons (eVar 3) (aCons (eVar 4) (aCons (eVar 8) (aNil))))) (aCons (eVar 6) (aCons (eVar 7) (aNil))))))) (sRet (eC (.bl false))) (sNext)))))))) (sRet (eC (.bl true))))
def F_law_k18 : OpN := fnB 10 b_law_k18
end
end Y
set_option Elab.async false
set_option linter.all false
set_option maxRecDepth 100000
/-! DW5: outcomes that raise; try -/
namespace DL
open PySem PySem.Spec PyProof.Rows L2
open Classical
noncomputable section
/-- r raises, and Q holds of class, thing and store -/
def Xc {α : Type} (r : Res α) (Q : Nat → D → Store → Prop) : Prop := match r with
  | .exc c w S => Q c w S
  | _ => False
section
variable {α β : Type} {S S1 S2 S' : Store} {Q Q' : Nat → D → Store → Prop} {δ : Env} {f g : SE} {t tk : SA} {a b : SS} {p : ST} {O : Out → Store → Prop} {d : D} {ds : List D} {i n c : Nat} {sg : SG}
theorem Xc.mono {r : Res α} (h : Xc r Q) (k : ∀ c w S, Q c w S → Q' c w S) : Xc r Q' := by
  cases r with
  | ok a S => exact h
  | exc c w S => exact k c w S h
  | stuck => exact h
theorem ok_fnx {F : OpN} {Q : D → Store → Prop} : Ok (eFnX F t δ S) Q = Ok (t δ S) fun xs S1 => Ok (F xs S1) Q := by unfold eFnX; rw [ok_bnd]
theorem ok_fnX {body : SS} {P : D → Prop} (h : Ok (body (ds.map some ++ List.replicate (n - ds.length) none) S) fun o S' => (match o with | .nx _ => P .non | .rt d => P d | _ => False) ∧ Pre S S') :
    Ok (fnX n body ds S) fun d S' => P d ∧ Pre S S' := by
  unfold fnX
  refine ok_gcP ?_
  unfold runB
  rw [ok_bnd]
  refine h.mono fun o S' ⟨p, q⟩ => ?_
  cases o with
  | nx δ => exact ⟨p, q⟩
  | rt d => exact ⟨p, q⟩
  | bk δ => exact p.elim
  | ct δ => exact p.elim
end
end
end DL
set_option Elab.async false
set_option linter.all false
/-! DW6: while; three names at once -/
namespace DL
open PySem PySem.Spec PyProof.Rows L2
open Classical
end DL
set_option Elab.async false
set_option linter.all false
set_option maxRecDepth 100000
/-! DW7: comprehensions over lists of any kind of things: what the list holds -/
namespace DL
open PySem PySem.Spec PyProof.Rows L2
open Classical
noncomputable section
theorem lcT_aux {α : Type} {l : Store → Prop} {g : SG} {p : ST} {elt : SE} {δ : Env} (en : α → D) (c : α → Bool) (e : α → D) : ∀ (xs : List α) (acc : List D) (S0 S1 : Store), S0.length < S1.length → Pre S0 S1 → S1[S0.length]? = some (.lst acc) → xs.length + acc.length ≤ sizeLine →
    (∀ S2, Pre S0 S2 → l S2) → (∀ x ∈ xs, ∀ S2, Pre S0 S2 → Ok (g (en x) δ S2) fun δ1 S3 => S3 = S2 ∧ Ok (p δ1 S2) fun k S4 => k = c x ∧ Pre S2 S4 ∧ (c x = true → Ok (elt δ1 S4) fun z S5 => z = e x ∧ Pre S4 S5)) →
    Ok (lcL l g p elt S0.length δ (xs.map en) acc S1) fun d S' => d = .loc S0.length ∧ Pre S0 S' ∧ S'[S0.length]? = some (.lst (acc ++ (xs.filter c).map e))
  | [], acc, S0, S1, hlt, pre, hg, hz, hl, hs => by
    rw [List.map_nil]
    unfold lcL
    rw [if_pos ⟨hl S1 pre, hg⟩]
    exact ⟨rfl, pre, by simpa using hg⟩
  | x :: r, acc, S0, S1, hlt, pre, hg, hz, hl, hs => by
    rw [List.map_cons]
    unfold lcL
    rw [if_pos (hl S1 pre), ok_bnd]
    refine (hs x List.mem_cons_self S1 pre).mono fun δ1 S3 ⟨h0, h⟩ => ?_
    subst h0
    rw [ok_bnd]
    refine h.mono fun k S4 ⟨hk, p4, h4⟩ => ?_
    subst hk
    have hs' := fun y (hy : y ∈ r) => hs y (List.mem_cons_of_mem _ hy)
    cases hc : c x with
    | false =>
      rw [if_neg (by simp), List.filter_cons_of_neg (by simp [hc])]
      exact lcT_aux en c e r acc S0 S4 (Nat.lt_of_lt_of_le hlt p4.len) (pre.trans p4) (p4.get hg) (by simp at hz; omega) hl hs'
    | true =>
      rw [if_pos rfl, ok_bnd]
      refine (h4 hc).mono fun z S5 ⟨h0, p5⟩ => ?_
      subst h0
      have hg5 := p5.get (p4.get hg)
      have hlt5 := Nat.lt_of_lt_of_le (Nat.lt_of_lt_of_le hlt p4.len) p5.len
      rw [if_pos ⟨hg5, by simp at hz; omega⟩, List.filter_cons_of_pos hc]
      have := lcT_aux en c e r (acc ++ [e x]) S0 (S5.set S0.length (.lst (acc ++ [e x]))) (by simpa using hlt5) (((pre.trans p4).trans p5).set (Nat.le_refl _)) (set_get hlt5) (by simp at hz ⊢; omega) hl hs'
      simpa using this
/-- a comprehension over xs: which ones pass, what they give -/
theorem ok_lcT {α : Type} {it : Env → M Src} {g : SG} {p : ST} {elt : SE} {vs : List Nat} {δ : Env} {S : Store} {l : Store → Prop} {Q : D → Store → Prop} (xs : List α) (en : α → D) (c : α → Bool) (e : α → D)
    (hi : Ok (it δ S) fun src S1 => src = ⟨xs.map en, l⟩ ∧ Pre S S1) (hz : xs.length ≤ sizeLine) (hl : ∀ S2, Pre S S2 → l S2)
    (hs : ∀ x ∈ xs, ∀ S2, Pre S S2 → Ok (g (en x) (wipeD δ vs) S2) fun δ1 S3 => S3 = S2 ∧ Ok (p δ1 S2) fun k S4 => k = c x ∧ Pre S2 S4 ∧ (c x = true → Ok (elt δ1 S4) fun z S5 => z = e x ∧ Pre S4 S5))
    (fin : ∀ n S', S.length ≤ n → Pre S S' → S'[n]? = some (.lst ((xs.filter c).map e)) → Q (.loc n) S') : Ok (eLc it g p elt vs δ S) Q := by
  unfold eLc
  rw [ok_bnd]
  refine hi.mono fun src S1 ⟨h0, p1⟩ => ?_
  subst h0
  dsimp only
  have key : Ok (lcL l g (fun δ => noX (p δ)) (fun δ => noX (elt δ)) S1.length (wipeD δ vs) (xs.map en) [] (S1 ++ [.lst []])) fun d S' => d = .loc S1.length ∧ Pre S1 S' ∧ S'[S1.length]? = some (.lst ([] ++ (xs.filter c).map e)) := by
    refine lcT_aux en c e xs [] S1 (S1 ++ [.lst []]) (by simp) (Pre.push .refl) (by simp) (by simpa using hz) (fun S2 q => hl S2 (p1.trans q)) fun x hx S2 q => ?_
    refine (hs x hx S2 (p1.trans q)).mono fun δ1 S3 ⟨h0, h⟩ => ⟨h0, ?_⟩
    rw [ok_noX]
    refine h.mono fun k S4 ⟨h1, h2, h3⟩ => ⟨h1, h2, fun hc => ?_⟩
    rw [ok_noX]
    exact h3 hc
  refine key.mono fun d S' h => ?_
  rw [h.1]
  exact fin _ _ p1.len (p1.trans h.2.1) (by simpa using h.2.2)
/-! two fors -/
theorem inT_aux {β : Type} {l : Store → Prop} {g : SG} {p : ST} {elt : SE} {δ : Env} (en : β → D) (c : β → Bool) (e : β → D) : ∀ (xs : List β) (acc : List D) (S0 S1 : Store), S0.length < S1.length → Pre S0 S1 → S1[S0.length]? = some (.lst acc) → xs.length + acc.length ≤ sizeLine →
    (∀ S2, Pre S0 S2 → l S2) → (∀ x ∈ xs, ∀ S2, Pre S0 S2 → Ok (g (en x) δ S2) fun δ1 S3 => S3 = S2 ∧ Ok (p δ1 S2) fun k S4 => k = c x ∧ Pre S2 S4 ∧ (c x = true → Ok (elt δ1 S4) fun z S5 => z = e x ∧ Pre S4 S5)) →
    Ok (inL l g p elt S0.length δ (xs.map en) acc S1) fun a S' => a = acc ++ (xs.filter c).map e ∧ S0.length < S'.length ∧ Pre S0 S' ∧ S'[S0.length]? = some (.lst (acc ++ (xs.filter c).map e))
  | [], acc, S0, S1, hlt, pre, hg, hz, hl, hs => by
    rw [List.map_nil]
    unfold inL
    rw [if_pos (hl S1 pre)]
    exact ⟨by simp, hlt, pre, by simpa using hg⟩
  | x :: r, acc, S0, S1, hlt, pre, hg, hz, hl, hs => by
    rw [List.map_cons]
    unfold inL
    rw [if_pos (hl S1 pre), ok_bnd]
    refine (hs x List.mem_cons_self S1 pre).mono fun δ1 S3 ⟨h0, h⟩ => ?_
    subst h0
    rw [ok_bnd]
    refine h.mono fun k S4 ⟨hk, p4, h4⟩ => ?_
    subst hk
    have hs' := fun y (hy : y ∈ r) => hs y (List.mem_cons_of_mem _ hy)
    cases hc : c x with
    | false =>
      rw [if_neg (by simp), List.filter_cons_of_neg (by simp [hc])]
      exact inT_aux en c e r acc S0 S4 (Nat.lt_of_lt_of_le hlt p4.len) (pre.trans p4) (p4.get hg) (by simp at hz; omega) hl hs'
    | true =>
      rw [if_pos rfl, ok_bnd]
      refine (h4 hc).mono fun z S5 ⟨h0, p5⟩ => ?_
      subst h0
      have hg5 := p5.get (p4.get hg)
      have hlt5 := Nat.lt_of_lt_of_le (Nat.lt_of_lt_of_le hlt p4.len) p5.len
      rw [if_pos ⟨hg5, by simp at hz; omega⟩, List.filter_cons_of_pos hc]
      have := inT_aux en c e r (acc ++ [e x]) S0 (S5.set S0.length (.lst (acc ++ [e x]))) (by simpa using hlt5) (((pre.trans p4).trans p5).set (Nat.le_refl _)) (set_get hlt5) (by simp at hz ⊢; omega) hl hs'
      simpa using this
theorem outT_aux {α β : Type} {l : Store → Prop} {g : SG} {p : ST} {f1 : Env → M Src} {vs1 : List Nat} {g1 : SG} {p1 : ST} {elt : SE} {δ : Env} (en : α → D) (c : α → Bool) (ys : α → List β) (en1 : α → β → D) (c1 : α → β → Bool) (e : α → β → D) (m : Nat) :
    ∀ (xs : List α) (acc : List D) (S0 S1 : Store), S0.length < S1.length → Pre S0 S1 → S1[S0.length]? = some (.lst acc) → xs.length * m + acc.length ≤ sizeLine →
    (∀ S2, Pre S0 S2 → l S2) → (∀ x ∈ xs, (ys x).length ≤ m) → (∀ x ∈ xs, ∀ S2, Pre S0 S2 → Ok (g (en x) δ S2) fun δ1 S3 => S3 = S2 ∧ Ok (p δ1 S2) fun k S4 => k = c x ∧ Pre S2 S4 ∧ (c x = true → Ok (f1 δ1 S4) fun src S5 => ∃ l1, src = ⟨(ys x).map (en1 x), l1⟩ ∧ Pre S4 S5 ∧ (∀ S6, Pre S0 S6 → l1 S6) ∧
      ∀ y ∈ ys x, ∀ S6, Pre S0 S6 → Ok (g1 (en1 x y) (wipeD δ1 vs1) S6) fun δ2 S7 => S7 = S6 ∧ Ok (p1 δ2 S6) fun k S8 => k = c1 x y ∧ Pre S6 S8 ∧ (c1 x y = true → Ok (elt δ2 S8) fun z S9 => z = e x y ∧ Pre S8 S9))) →
    Ok (outL l g p f1 vs1 g1 p1 elt S0.length δ (xs.map en) acc S1) fun d S' => d = .loc S0.length ∧ Pre S0 S' ∧ S'[S0.length]? = some (.lst (acc ++ (xs.filter c).flatMap fun x => ((ys x).filter (c1 x)).map (e x)))
  | [], acc, S0, S1, hlt, pre, hg, hz, hl, hm, hs => by
    rw [List.map_nil]
    unfold outL
    rw [if_pos ⟨hl S1 pre, hg⟩]
    exact ⟨rfl, pre, by simpa using hg⟩
  | x :: r, acc, S0, S1, hlt, pre, hg, hz, hl, hm, hs => by
    rw [List.map_cons]
    unfold outL
    rw [if_pos (hl S1 pre), ok_bnd]
    refine (hs x List.mem_cons_self S1 pre).mono fun δ1 S3 ⟨h0, h⟩ => ?_
    subst h0
    rw [ok_bnd]
    refine h.mono fun k S4 ⟨hk, p4, h4⟩ => ?_
    subst hk
    have hs' := fun y (hy : y ∈ r) => hs y (List.mem_cons_of_mem _ hy)
    have hm' := fun y (hy : y ∈ r) => hm y (List.mem_cons_of_mem _ hy)
    rw [List.length_cons, Nat.add_mul, Nat.one_mul] at hz
    cases hc : c x with
    | false =>
      rw [if_neg (by simp), List.filter_cons_of_neg (by simp [hc])]
      exact outT_aux en c ys en1 c1 e m r acc S0 S4 (Nat.lt_of_lt_of_le hlt p4.len) (pre.trans p4) (p4.get hg) (by omega) hl hm' hs'
    | true =>
      rw [if_pos rfl, ok_bnd]
      refine (h4 hc).mono fun src S5 ⟨l1, h0, p5, hl1, h5⟩ => ?_
      subst h0
      have hx := hm x List.mem_cons_self
      dsimp only
      rw [ok_bnd]
      refine (inT_aux (en1 x) (c1 x) (e x) (ys x) acc S0 S5 (Nat.lt_of_lt_of_le (Nat.lt_of_lt_of_le hlt p4.len) p5.len) ((pre.trans p4).trans p5) (p5.get (p4.get hg)) (by omega) hl1 h5).mono fun a S6 ⟨h0, hlt6, p6, hg6⟩ => ?_
      subst h0
      rw [List.filter_cons_of_pos hc, List.flatMap_cons, ← List.append_assoc]
      have hle : (((ys x).filter (c1 x)).map (e x)).length ≤ m := by rw [List.length_map]; exact Nat.le_trans (List.length_filter_le _ _) hx
      exact outT_aux en c ys en1 c1 e m r _ S0 S6 hlt6 p6 hg6 (by rw [List.length_append]; omega) hl hm' hs'
/-- a comprehension with two fors -/
theorem ok_lc2T {α β : Type} {it : Env → M Src} {g : SG} {p : ST} {f1 : Env → M Src} {g1 : SG} {p1 : ST} {elt : SE} {vs vs1 : List Nat} {δ : Env} {S : Store} {l : Store → Prop} {Q : D → Store → Prop} (xs : List α) (en : α → D) (c : α → Bool) (ys : α → List β) (en1 : α → β → D) (c1 : α → β → Bool) (e : α → β → D) (m : Nat)
    (hi : Ok (it δ S) fun src S1 => src = ⟨xs.map en, l⟩ ∧ Pre S S1) (hz : xs.length * m ≤ sizeLine) (hl : ∀ S2, Pre S S2 → l S2) (hm : ∀ x ∈ xs, (ys x).length ≤ m)
    (hs : ∀ x ∈ xs, ∀ S2, Pre S S2 → Ok (g (en x) (wipeD δ vs) S2) fun δ1 S3 => S3 = S2 ∧ Ok (p δ1 S2) fun k S4 => k = c x ∧ Pre S2 S4 ∧ (c x = true → Ok (f1 δ1 S4) fun src S5 => ∃ l1, src = ⟨(ys x).map (en1 x), l1⟩ ∧ Pre S4 S5 ∧ (∀ S6, Pre S S6 → l1 S6) ∧
      ∀ y ∈ ys x, ∀ S6, Pre S S6 → Ok (g1 (en1 x y) (wipeD δ1 vs1) S6) fun δ2 S7 => S7 = S6 ∧ Ok (p1 δ2 S6) fun k S8 => k = c1 x y ∧ Pre S6 S8 ∧ (c1 x y = true → Ok (elt δ2 S8) fun z S9 => z = e x y ∧ Pre S8 S9)))
    (fin : ∀ n S', S.length ≤ n → Pre S S' → S'[n]? = some (.lst ((xs.filter c).flatMap fun x => ((ys x).filter (c1 x)).map (e x))) → Q (.loc n) S') : Ok (eLc2 it g p f1 g1 p1 elt vs vs1 δ S) Q := by
  unfold eLc2
  rw [ok_bnd]
  refine hi.mono fun src S1 ⟨h0, q1⟩ => ?_
  subst h0
  dsimp only
  refine (outT_aux (l := l) (g := g) (p := fun δ => noX (p δ)) (f1 := fun δ => noX (f1 δ)) (vs1 := vs1) (g1 := g1) (p1 := fun δ => noX (p1 δ)) (elt := fun δ => noX (elt δ)) (δ := wipeD δ vs) en c ys en1 c1 e m xs [] S1 (S1 ++ [.lst []]) (by simp) (Pre.push .refl) (by simp) (by simpa using hz) (fun S2 q => hl S2 (q1.trans q)) hm ?_).mono ?_
  · intro x hx S2 q2
    refine (hs x hx S2 (q1.trans q2)).mono fun δ1 S3 ⟨h0, h⟩ => ⟨h0, ?_⟩
    rw [ok_noX]
    refine h.mono fun k S4 ⟨h1, h2, h3⟩ => ⟨h1, h2, fun hc => ?_⟩
    rw [ok_noX]
    refine (h3 hc).mono fun src S5 ⟨l1, h4, h5, h6, h7⟩ => ⟨l1, h4, h5, fun S6 q6 => h6 S6 (q1.trans q6), fun y hy S6 q6 => ?_⟩
    refine (h7 y hy S6 (q1.trans q6)).mono fun δ2 S7 ⟨h8, h9⟩ => ⟨h8, ?_⟩
    rw [ok_noX]
    refine h9.mono fun k S8 ⟨k1, k2, k3⟩ => ⟨k1, k2, fun hc => ?_⟩
    rw [ok_noX]
    exact k3 hc
  · rintro d S' ⟨h0, q, hg⟩
    rw [h0]
    exact fin _ _ q1.len (q1.trans q) (by simpa using hg)
theorem flT {α : Type} (l : List α) : l.filter (fun _ => true) = l := List.filter_eq_self.mpr fun _ _ => rfl
/-- a comprehension without a test -/
theorem ok_lcM {α : Type} {it : Env → M Src} {g : SG} {elt : SE} {vs : List Nat} {δ : Env} {S : Store} {l : Store → Prop} {Q : D → Store → Prop} (xs : List α) (en : α → D) (e : α → D)
    (hi : Ok (it δ S) fun src S1 => src = ⟨xs.map en, l⟩ ∧ Pre S S1) (hz : xs.length ≤ sizeLine) (hl : ∀ S2, Pre S S2 → l S2)
    (hs : ∀ x ∈ xs, ∀ S2, Pre S S2 → Ok (g (en x) (wipeD δ vs) S2) fun δ1 S3 => S3 = S2 ∧ Ok (elt δ1 S2) fun z S5 => z = e x ∧ Pre S2 S5)
    (fin : ∀ n S', S.length ≤ n → Pre S S' → S'[n]? = some (.lst (xs.map e)) → Q (.loc n) S') : Ok (eLc it g tTrue elt vs δ S) Q :=
  ok_lcT xs en (fun _ => true) e hi hz hl (fun x hx S2 q => (hs x hx S2 q).mono fun δ1 S3 ⟨h0, h⟩ => ⟨h0, by rw [ok_ttrue]; exact ⟨rfl, .refl, fun _ => h⟩⟩) fun n S' h1 h2 h3 => fin n S' h1 h2 (by simpa only [flT] using h3)
/-- two fors without tests -/
theorem ok_lc2M {α β : Type} {it : Env → M Src} {g : SG} {f1 : Env → M Src} {g1 : SG} {elt : SE} {vs vs1 : List Nat} {δ : Env} {S : Store} {l : Store → Prop} {Q : D → Store → Prop} (xs : List α) (en : α → D) (ys : α → List β) (en1 : α → β → D) (e : α → β → D) (m : Nat)
    (hi : Ok (it δ S) fun src S1 => src = ⟨xs.map en, l⟩ ∧ Pre S S1) (hz : xs.length * m ≤ sizeLine) (hl : ∀ S2, Pre S S2 → l S2) (hm : ∀ x ∈ xs, (ys x).length ≤ m)
    (hs : ∀ x ∈ xs, ∀ S2, Pre S S2 → Ok (g (en x) (wipeD δ vs) S2) fun δ1 S3 => S3 = S2 ∧ Ok (f1 δ1 S2) fun src S5 => ∃ l1, src = ⟨(ys x).map (en1 x), l1⟩ ∧ Pre S2 S5 ∧ (∀ S6, Pre S S6 → l1 S6) ∧
      ∀ y ∈ ys x, ∀ S6, Pre S S6 → Ok (g1 (en1 x y) (wipeD δ1 vs1) S6) fun δ2 S7 => S7 = S6 ∧ Ok (elt δ2 S6) fun z S9 => z = e x y ∧ Pre S6 S9)
    (fin : ∀ n S', S.length ≤ n → Pre S S' → S'[n]? = some (.lst (xs.flatMap fun x => (ys x).map (e x))) → Q (.loc n) S') : Ok (eLc2 it g tTrue f1 g1 tTrue elt vs vs1 δ S) Q :=
  ok_lc2T xs en (fun _ => true) ys en1 (fun _ _ => true) e m hi hz hl hm (fun x hx S2 q => (hs x hx S2 q).mono fun δ1 S3 ⟨h0, h⟩ => ⟨h0, by
    rw [ok_ttrue]
    exact ⟨rfl, .refl, fun _ => h.mono fun src S5 ⟨l1, h1, h2, h3, h4⟩ => ⟨l1, h1, h2, h3, fun y hy S6 q6 => (h4 y hy S6 q6).mono fun δ2 S7 ⟨k0, k⟩ => ⟨k0, by rw [ok_ttrue]; exact ⟨rfl, .refl, fun _ => k⟩⟩⟩⟩⟩) fun n S' h1 h2 h3 => fin n S' h1 h2 (by simpa only [flT] using h3)
end
end DL
set_option Elab.async false
set_option linter.all false
set_option maxRecDepth 100000
/-! DW8: names read by their place; one set of rules for a walk -/
namespace DL
open PySem PySem.Spec PyProof.Rows L2
open Classical
noncomputable section
section
variable {S : Store} {Q : D → Store → Prop} {d d' : D} {a0 a1 a2 a3 a4 a5 a6 a7 a8 a9 a10 a11 : Option D} {r : List (Option D)}
theorem va0 : Ok (eVar 0 (some d :: r) S) Q = Q d S := rfl
theorem va1 : Ok (eVar 1 (a0 :: some d :: r) S) Q = Q d S := rfl
theorem va2 : Ok (eVar 2 (a0 :: a1 :: some d :: r) S) Q = Q d S := rfl
theorem va3 : Ok (eVar 3 (a0 :: a1 :: a2 :: some d :: r) S) Q = Q d S := rfl
theorem va4 : Ok (eVar 4 (a0 :: a1 :: a2 :: a3 :: some d :: r) S) Q = Q d S := rfl
theorem va5 : Ok (eVar 5 (a0 :: a1 :: a2 :: a3 :: a4 :: some d :: r) S) Q = Q d S := rfl
theorem va6 : Ok (eVar 6 (a0 :: a1 :: a2 :: a3 :: a4 :: a5 :: some d :: r) S) Q = Q d S := rfl
theorem va7 : Ok (eVar 7 (a0 :: a1 :: a2 :: a3 :: a4 :: a5 :: a6 :: some d :: r) S) Q = Q d S := rfl
theorem va8 : Ok (eVar 8 (a0 :: a1 :: a2 :: a3 :: a4 :: a5 :: a6 :: a7 :: some d :: r) S) Q = Q d S := rfl
theorem va9 : Ok (eVar 9 (a0 :: a1 :: a2 :: a3 :: a4 :: a5 :: a6 :: a7 :: a8 :: some d :: r) S) Q = Q d S := rfl
theorem va10 : Ok (eVar 10 (a0 :: a1 :: a2 :: a3 :: a4 :: a5 :: a6 :: a7 :: a8 :: a9 :: some d :: r) S) Q = Q d S := rfl
theorem va11 : Ok (eVar 11 (a0 :: a1 :: a2 :: a3 :: a4 :: a5 :: a6 :: a7 :: a8 :: a9 :: a10 :: some d :: r) S) Q = Q d S := rfl
theorem va12 : Ok (eVar 12 (a0 :: a1 :: a2 :: a3 :: a4 :: a5 :: a6 :: a7 :: a8 :: a9 :: a10 :: a11 :: some d :: r) S) Q = Q d S := rfl
end
section
variable {S : Store} {δ : Env} {f g h : SE} {t : SA} {p q : ST} {a b : SS} {i n : Nat} {d x y : D} {ds : List D} {Q : D → Store → Prop} {B : Bool → Store → Prop} {O : Out → Store → Prop} {G : Env → Store → Prop} {sg : SG} {sgs : SGs} {u v : Int} {k : Bool} {F : OpN}
theorem ok_gtp' : Ok (gTp n sgs (.tup ds) δ S) G = if ds.length = n then Ok (sgs ds δ S) G else False := by
  by_cases c : ds.length = n
  · rw [if_pos c, ok_gtp c]
  · rw [if_neg c]
    unfold gTp
    simp only [if_neg c]
    rfl
theorem wip0 {δ : Env} : wipeD δ [] = δ := rfl
theorem wip1 {δ : Env} {i : Nat} {vs : List Nat} : wipeD δ (i :: vs) = wipeD (δ.set i none) vs := rfl
theorem ok_sumL {ns : List Int} (h : S[n]? = some (.lst (ns.map D.int))) : Ok (dSumA (.loc n) S) Q = Q (.int ns.sum) S := by
  show Ok (dSum (.loc n) S) Q = _
  unfold dSum withInts lstInts
  simp only [h, asInts_map, if_true]
  rfl
theorem dInts_map : ∀ ns : List Int, dInts (ns.map D.int) = some ns
  | [] => rfl
  | n :: r => by show (dInts (r.map D.int)).map (n :: ·) = _; rw [dInts_map r]; rfl
theorem ok_sumV {ns : List Int} : Ok (dSumA (vec ns) S) Q = Q (.int ns.sum) S := by
  unfold dSumA vec
  simp only [dInts_map]
  rfl
theorem ok_isN : Ok (dIsN false .non .non S) Q = Q (.bl true) S := rfl
theorem ok_isnt : Ok (dIsN true .non .non S) Q = Q (.bl false) S := rfl
theorem ok_eqA : Ok (dEq (.int u) (.int v) S) Q = Q (.bl (decide (u = v))) S := ok_eqI
theorem ok_neA : Ok (dNe (.int u) (.int v) S) Q = Q (.bl (!decide (u = v))) S := ok_neI
theorem ok_lenV (ns : List Int) : Ok (dLen (vec ns) S) Q = Q (.int (ns.length : Nat)) S := by unfold vec; rw [ok_lenT, List.length_map]
theorem ok_lenR {ds : List D} : Ok (dLen (.rol ds) S) Q = Q (.int (ds.length : Nat)) S := rfl
theorem ok_pure {α : Type} {a : α} {Q : α → Store → Prop} : Ok (.ok a S) Q = Q a S := rfl
end
end
end DL
set_option Elab.async false
set_option linter.all false
set_option maxRecDepth 100000
namespace Y
open PySem PySem.Spec PyProof.Rows L2 DL
open Classical
noncomputable section
variable {S : Store}
local macro_rules
  | `(tactic| infer_instance) => `(tactic| simp only [ok_sret, ok_snext, ok_sbrk, ok_scnt, ok_sretN, ok_sseq, ok_sdrop, ok_sasg, ok_sif, ok_gn, ok_gcons, ok_gnil, ok_augS, ok_aug, ok_ttrue, ok_ttru, ok_tand, ok_tor, ok_tnot, ok_asb, ok_eand, ok_eor, ok_enot, ok_eif, ok_chain, ok_elst, ok_etup, ok_op1, ok_op2, ok_le, ok_lt, ok_gt, ok_ge, ok_sub, ok_addI, ok_max2, ok_fn, ok_fnx, ok_trub, ok_neg, ok_eqI, ok_neI, ok_eqA, ok_neA, ok_call, ok_bin, ok_acons, ok_anil, ok_c, ok_tof, ok_gtp', ok_mth, ok_gsub, ok_iseq, ok_seqT, ok_lenV, ok_lenT, ok_lenR, ok_isN, ok_isnt, ok_pure, ok_sumV, wip0, wip1, va0, va1, va2, va3, va4, va5, va6, va7, va8, va9, va10, va11, va12, List.set_cons_succ, List.set_cons_zero, List.map_cons, List.map_nil, List.length_cons, List.length_nil, List.replicate_succ, List.replicate_zero, List.cons_append, List.nil_append, if_true, if_false, Bool.false_eq_true, Bool.true_eq_false, Bool.not_true, Bool.not_false, Nat.reduceAdd, Nat.reduceSub, Nat.reduceEqDiff, Nat.reduceLeDiff])
/-- no entry of xs is above that of ys -/
def leV (xs ys : List Int) : Bool := (xs.zip ys).all fun p => decide (p.1 ≤ p.2)
theorem p_at_most (xs ys : List Int) (hx : xs.length ≤ sizeLine) : Ok (F_at_most [vec xs, vec ys] S) fun d S' => d = .bl (leV xs ys) ∧ Pre S S' := by
  refine ok_fnB ?_
  show Ok (b_at_most [some (vec xs), some (vec ys), none, none] S) _
  unfold b_at_most
  rw [ok_sret, ok_call]
  simp only [ok_acons, ok_anil, ok_op1]
  have hz : (zipD (xs.map D.int) (ys.map D.int)).length ≤ sizeLine := by
    rw [zip_vec, List.length_map, List.length_zip]; omega
  refine (ok_eLc (S := S) (fun z => match z with | .tup [.int a, .int b] => some (.bl (decide (a ≤ b))) | _ => none) (items := zipD (xs.map D.int) (ys.map D.int)) (l := fun _ => True) ?_ hz (fun _ _ => True.intro) ?_).mono ?_
  · rw [ok_izip rfl rfl]; exact ⟨rfl, .refl⟩
  · intro z hz S2 q
    rw [zip_vec] at hz
    obtain ⟨p, hp, rfl⟩ := List.mem_map.mp hz
    rw [ok_gtp (n := 2) (ds := [D.int p.1, D.int p.2]) rfl, ok_gcons, ok_gn, ok_gcons, ok_gn, ok_gnil]
    refine ⟨rfl, ?_⟩
    rw [ok_ttrue]
    refine ⟨.refl, rfl, ?_⟩
    rw [ok_bin, ok_var (d := .int p.1) rfl, ok_var (d := .int p.2) rfl, ok_le]
    exact ⟨rfl, .refl⟩
  · rintro d S' ⟨n, rfl, hn, pre, hg⟩
    have e : (zipD (xs.map D.int) (ys.map D.int)).filterMap (fun z => match z with | .tup [.int a, .int b] => some (D.bl (decide (a ≤ b))) | _ => none) = ((xs.zip ys).map fun p => decide (p.1 ≤ p.2)).map D.bl := by
      rw [zip_vec, List.map_map]
      refine fm_all _ _ _ ?_ _
      intro p; rfl
    rw [e] at hg
    rw [ok_allL hg]
    refine ⟨?_, pre⟩
    show D.bl _ = D.bl _
    rw [List.all_map]; rfl
/-- the entrywise greatest, with one more at q -/
def mkV (xs ys : List Int) (q : Nat) : List Int := let ms := (xs.zip ys).map fun p => max p.1 p.2
  ms.set q (ms.getD q 0 + 1)
theorem p_greater (xs ys : List Int) (hx : xs.length ≤ sizeLine) : Ok (F_greater [vec xs, vec ys] S) fun d S' => d = vec ((xs.zip ys).map fun p => max p.1 p.2) ∧ Pre S S' := by
  refine ok_fnB ?_
  unfold b_greater
  infer_instance
  refine ok_lcM (xs.zip ys) (fun p => .tup [.int p.1, .int p.2]) (fun p => .int (max p.1 p.2)) (l := fun _ => True) ?_ (by rw [List.length_zip]; omega) (fun _ _ => True.intro) ?_ ?_
  · rw [ok_izip (xs := xs.map D.int) (ys := ys.map D.int) rfl rfl, zip_vec]; exact ⟨rfl, .refl⟩
  · intro p hp S2 q2
    try infer_instance
    exact ⟨trivial, trivial, .refl⟩
  · intro n S' hn q hg
    rw [ok_tupL hg]
    refine ⟨?_, q⟩
    unfold vec
    rw [List.map_map]
    rfl
theorem p_made_mark (xs ys : List Int) (q : Nat) (hx : xs.length ≤ sizeLine) (hl : xs.length = ys.length) (hq : q < xs.length) : Ok (F_made_mark [vec xs, vec ys, .int (q : Nat)] S) fun d S' => d = vec (mkV xs ys q) ∧ Pre S S' := by
  refine ok_fnB ?_
  unfold b_made_mark
  try infer_instance
  refine (p_greater xs ys hx).pure fun S1 q1 => ?_
  generalize hms : ((xs.zip ys).map fun p => max p.1 p.2) = ms
  have hlen : ms.length = xs.length := by rw [← hms]; simp [hl]
  have hq' : q < ms.length := by omega
  unfold vec
  rw [show Ok (dList (.tup (ms.map D.int)) S1) = fun Q => Q (.loc S1.length) (S1 ++ [.lst (ms.map D.int)]) from rfl]
  dsimp only
  have g1 : (S1 ++ [MO.lst (ms.map D.int)])[S1.length]? = some (.lst (ms.map D.int)) := by simp
  have q2 : Pre S (S1 ++ [MO.lst (ms.map D.int)]) := q1.push
  generalize S1 ++ [MO.lst (ms.map D.int)] = S2 at g1 q2 ⊢
  try infer_instance
  rw [ok_ixL g1 (ixN_lt (by simpa using hq')) (e := .int ms[q]) (by rw [List.getElem?_map, List.getElem?_eq_getElem hq']; rfl)]
  try infer_instance
  rw [ok_setL g1 (ixN_lt (by simpa using hq'))]
  have hns : S1.length < S2.length := (List.getElem?_eq_some_iff.mp g1).1
  rw [ok_tupL (set_get hns)]
  refine ⟨?_, q2.set (by have := q1.len; omega)⟩
  show D.tup _ = D.tup _
  unfold mkV
  simp only [hms]
  rw [show (D.int (ms[q] + 1)) = D.int (ms.getD q 0 + 1) from by rw [List.getD_eq_getElem?_getD, List.getElem?_eq_getElem hq']; rfl, List.map_set]
end
end Y
set_option Elab.async false
set_option linter.all false
set_option maxRecDepth 100000
namespace Y
open PySem PySem.Spec PyProof.Rows L2 DL
open Classical
noncomputable section
variable {S : Store}
theorem p_is_number (u : Int) : Ok (F_is_number [.int u] S) fun d S' => d = .bl true ∧ Pre S S' := by
  refine ok_fnB ?_
  show Ok (b_is_number [some (.int u)] S) _
  unfold b_is_number
  simp only [ok_sret, ok_eand, ok_call, ok_acons, ok_anil, ok_op2, ok_c, ok_enot]
  rw [ok_var (d := .int u) rfl, ok_isi isi_int, ok_asb, if_pos rfl, ok_var (d := .int u) rfl, ok_isi isi_intB, ok_asb]
  exact ⟨rfl, .refl⟩
theorem p_is_index (u m : Int) : Ok (F_is_index [.int u, .int m] S) fun d S' => d = .bl (decide (0 ≤ u ∧ u < m)) ∧ Pre S S' := by
  refine ok_fnB ?_
  show Ok (b_is_index [some (.int u), some (.int m)] S) _
  unfold b_is_index
  rw [ok_sret, ok_eand, ok_fn, ok_acons, ok_var (d := .int u) rfl, ok_anil]
  refine (p_is_number u).pure fun S1 q1 => ?_
  rw [ok_asb, if_pos rfl, ok_chain, ok_c, ok_var (d := .int u) rfl, ok_le, ok_asb]
  by_cases h0 : 0 ≤ u
  · rw [if_pos (by simp [h0]), ok_var (d := .int m) rfl, ok_lt]
    exact ⟨by simp [h0], q1⟩
  · rw [if_neg (by simp [h0])]
    exact ⟨by simp [h0], q1⟩
/-- strictly ascending, from above a on -/
def Asc : Int → List Int → Prop
  | _, [] => True
  | a, x :: r => a < x ∧ Asc x r
theorem p_bad_rise (ns : List Int) (m : Int) (ha : Asc (-1) ns) (hm : ∀ x ∈ ns, x < m) : Ok (F_bad_rise [vec ns, .int m] S) fun d S' => d = .non ∧ Pre S S' := by
  refine ok_fnB ?_
  show Ok (b_bad_rise [some (vec ns), some (.int m), none, none, none] S) _
  unfold b_bad_rise
  rw [ok_sseq, ok_sasg, ok_neg, ok_gn]
  dsimp only
  rw [ok_sseq, ok_sfor, ok_enumT (ds := ns.map D.int) rfl]
  refine ok_for (fun items δ S' => ∃ (r : List Int) (a : Int) (i : Nat) (z z' : Option D), items = enumD i (r.map D.int) ∧ δ = [some (vec ns), some (.int m), some (.int a), z, z'] ∧ Asc a r ∧ -1 ≤ a ∧ (∀ x ∈ r, x < m) ∧ Pre S S') ?_ ?_ _ _ _ ⟨ns, -1, 0, none, none, rfl, rfl, ha, by omega, hm, .refl⟩
  · rintro x r δ S1 ⟨r0, a, i, z, z', e, rfl, has, hn, hb, p1⟩
    cases r0 with
    | nil => cases e
    | cons y r0 =>
      cases e
      refine ⟨True.intro, ?_⟩
      rw [ok_gtp (n := 2) (ds := [D.int (i : Nat), D.int y]) rfl, ok_gcons, ok_gn, ok_gcons, ok_gn, ok_gnil]
      obtain ⟨h1, h2⟩ := has
      have hy := hb y List.mem_cons_self
      rw [ok_sseq, ok_sif, ok_tor, ok_tnot, ok_ttru, ok_fn, ok_acons, ok_var (d := .int y) rfl, ok_acons, ok_var (d := .int m) rfl, ok_anil]
      refine (p_is_index y m).pure fun S2 q2 => ?_
      rw [ok_trub, if_neg (by simp; omega), ok_tof, ok_bin, ok_var (d := .int y) rfl, ok_var (d := .int a) rfl, ok_le, ok_asb, if_neg (by simp; omega), ok_snext]
      dsimp only
      rw [ok_sasg, ok_var (d := .int y) rfl, ok_gn]
      exact ⟨r0, y, i + 1, _, some (.int y), rfl, rfl, h2, by omega, fun x hx => hb x (List.mem_cons_of_mem _ hx), p1.trans q2⟩
  · rintro δ S1 ⟨r0, a, i, z, z', e, rfl, has, hn, hb, p1⟩
    refine ⟨True.intro, ?_⟩
    dsimp only
    rw [ok_sret, ok_c]
    exact ⟨rfl, p1⟩
theorem p_is_rising (ns : List Int) (m : Int) (ha : Asc (-1) ns) (hm : ∀ x ∈ ns, x < m) : Ok (F_is_rising [vec ns, .int m] S) fun d S' => d = .bl true ∧ Pre S S' := by
  refine ok_fnB ?_
  show Ok (b_is_rising [some (vec ns), some (.int m)] S) _
  unfold b_is_rising
  rw [ok_sret, ok_eand, ok_call, ok_acons, ok_var (d := vec ns) rfl, ok_acons, ok_c, ok_anil, ok_op2, ok_isi (x := vec ns) isi_tup, ok_asb, if_pos rfl, ok_bin, ok_fn, ok_acons, ok_var (d := vec ns) rfl, ok_acons, ok_var (d := .int m) rfl, ok_anil]
  refine (p_bad_rise ns m ha hm).pure fun S2 q2 => ?_
  rw [ok_c]
  exact ⟨rfl, q2⟩
end
end Y
set_option Elab.async false
set_option linter.all false
set_option maxRecDepth 100000
namespace Y
open PySem PySem.Spec PyProof.Rows L2 DL
open Classical
noncomputable section
variable {S S' : Store} {k : Nat}
abbrev iN (n : Nat) : Int := n
/-- a vector of naturals -/
def vecN (ns : List Nat) : D := vec (ns.map iN)
abbrev Roads := List (Nat × Nat)
def rdD (r : Nat × Nat) : D := vecN [r.1, r.2]
def roadsD (R : Roads) : D := .tup (R.map rdD)
def partsD (P : List (List Nat)) : D := .tup (P.map vecN)
def houseO (n : Nat) (R : Roads) (P : List (List Nat)) : MO := .ins 0 [("n", .int (n : Nat)), ("roads", roadsD R), ("parts", partsD P)]
theorem look_n {n : Nat} {R : Roads} {P : List (List Nat)} : ([("n", D.int (n : Nat)), ("roads", roadsD R), ("parts", partsD P)] : List (Str × D)).lookup ("n" : Str) = some (.int (n : Nat)) := by
  simp [List.lookup]
theorem ne1 : (("roads" : Str) == "n") = false := by decide +kernel
theorem ne2 : (("parts" : Str) == "n") = false := by decide +kernel
theorem ne3 : (("parts" : Str) == "roads") = false := by decide +kernel
theorem look_roads {n : Nat} {R : Roads} {P : List (List Nat)} : ([("n", D.int (n : Nat)), ("roads", roadsD R), ("parts", partsD P)] : List (Str × D)).lookup ("roads" : Str) = some (roadsD R) := by
  simp [List.lookup, ne1]
theorem look_parts {n : Nat} {R : Roads} {P : List (List Nat)} : ([("n", D.int (n : Nat)), ("roads", roadsD R), ("parts", partsD P)] : List (Str × D)).lookup ("parts" : Str) = some (partsD P) := by
  simp [List.lookup, ne2, ne3]
theorem ok_lenV (ns : List Int) {Q : D → Store → Prop} : Ok (dLen (vec ns) S) Q = Q (.int (ns.length : Nat)) S := by
  unfold vec; rw [ok_lenT, List.length_map]
theorem p_bad_meeting {n : Nat} {R : Roads} {P : List (List Nat)} (h : List Nat) (hk : S[k]? = some (houseO n R P)) (hh : ∀ x ∈ h, x < R.length) : Ok (F_bad_meeting [.loc k, vecN h] S) fun d S' => d = .non ∧ Pre S S' := by
  refine ok_fnB ?_
  show Ok (b_bad_meeting [some (.loc k), some (vecN h), none, none] S) _
  unfold b_bad_meeting
  rw [ok_sseq, ok_sfor, ok_enumT (ds := (h.map iN).map D.int) rfl]
  refine ok_for (fun items δ S' => ∃ (r : List Nat) (j : Nat) (z1 z2 : Option D), items = enumD j ((r.map iN).map D.int) ∧ δ = [some (.loc k), some (vecN h), z1, z2] ∧ (∀ x ∈ r, x < R.length) ∧ Pre S S') ?_ ?_ _ _ _ ⟨h, 0, none, none, rfl, rfl, hh, .refl⟩
  · rintro x r δ S1 ⟨r0, j, z1, z2, e, rfl, hb, p1⟩
    cases r0 with
    | nil => cases e
    | cons y r0 =>
      cases e
      refine ⟨True.intro, ?_⟩
      rw [ok_gtp (n := 2) (ds := [D.int (j : Nat), D.int (iN y)]) rfl, ok_gcons, ok_gn, ok_gcons, ok_gn, ok_gnil]
      rw [ok_sif, ok_tnot, ok_ttru, ok_fn, ok_acons, ok_var (d := .int (iN y)) rfl, ok_acons, ok_call, ok_acons, ok_fld (k := k) (p1.get hk) look_roads rfl, ok_anil, ok_op1]
      unfold roadsD
      rw [ok_lenT, ok_anil]
      refine (p_is_index _ _).pure fun S2 q2 => ?_
      have hy := hb y List.mem_cons_self
      have e2 : decide (0 ≤ iN y ∧ iN y < ((R.map rdD).length : Nat)) = true := by
        rw [List.length_map]; simp [iN]; omega
      rw [ok_trub, e2, if_neg (by simp), ok_snext]
      exact ⟨r0, j + 1, _, _, rfl, rfl, fun x hx => hb x (List.mem_cons_of_mem _ hx), p1.trans q2⟩
  · rintro δ S1 ⟨r0, j, z1, z2, e, rfl, hb, p1⟩
    refine ⟨True.intro, ?_⟩
    dsimp only
    rw [ok_sret, ok_c]
    exact ⟨rfl, p1⟩
theorem p_check_history {n : Nat} {R : Roads} {P : List (List Nat)} (h : List Nat) (hk : S[k]? = some (houseO n R P)) (hh : ∀ x ∈ h, x < R.length) (hl : h.length ≤ 200) : Ok (F_check_history [.loc k, vecN h] S) fun d S' => d = .non ∧ Pre S S' := by
  refine ok_fnX ?_
  show Ok (b_check_history [some (.loc k), some (vecN h), none] S) _
  unfold b_check_history
  rw [ok_sseq, ok_sif, ok_tof, ok_bin, ok_call, ok_acons, ok_var (d := vecN h) rfl, ok_anil, ok_op1]
  unfold vecN vec
  rw [ok_lenT, ok_c, ok_gt, ok_asb, if_neg (by simp; omega), ok_snext]
  dsimp only
  rw [ok_sseq, ok_sasg, ok_fn, ok_acons, ok_var (d := .loc k) rfl, ok_acons, ok_var (d := vecN h) rfl, ok_anil]
  refine (p_bad_meeting h hk hh).pure fun S2 q2 => ?_
  rw [ok_gn]
  dsimp only
  rw [ok_sif, ok_tof, ok_bin, ok_var (d := .non) rfl, ok_c, ok_isnN, ok_asb, if_neg (by simp), ok_snext]
  exact ⟨rfl, q2⟩
theorem p_check_index {n : Nat} {R : Roads} {P : List (List Nat)} (h : List Nat) (i : Nat) (hk : S[k]? = some (houseO n R P)) (hh : ∀ x ∈ h, x < R.length) (hl : h.length ≤ 200) (hi : i < h.length) : Ok (F_check_index [.loc k, vecN h, .int (i : Nat)] S) fun d S' => d = .non ∧ Pre S S' := by
  refine ok_fnX ?_
  show Ok (b_check_index [some (.loc k), some (vecN h), some (.int (i : Nat))] S) _
  unfold b_check_index
  rw [ok_sseq, ok_sdrop, ok_fnx, ok_acons, ok_var (d := .loc k) rfl, ok_acons, ok_var (d := vecN h) rfl, ok_anil]
  refine (p_check_history h hk hh hl).pure fun S2 q2 => ?_
  dsimp only
  rw [ok_sif, ok_tnot, ok_ttru, ok_fn, ok_acons, ok_var (d := .int (i : Nat)) rfl, ok_acons, ok_call, ok_acons, ok_var (d := vecN h) rfl, ok_anil, ok_op1]
  unfold vecN vec
  rw [ok_lenT, ok_anil]
  refine (p_is_index _ _).pure fun S3 q3 => ?_
  have e2 : decide (0 ≤ iN i ∧ iN i < (((h.map iN).map D.int).length : Nat)) = true := by simp [iN]; omega
  rw [ok_trub, e2, if_neg (by simp), ok_snext]
  exact ⟨rfl, q2.trans q3⟩
end
end Y
set_option Elab.async false
set_option linter.all false
set_option maxRecDepth 100000
namespace Y
open PySem PySem.Spec PyProof.Rows L2 DL
open Classical
noncomputable section
variable {S S' : Store} {k n : Nat} {R : Roads} {P : List (List Nat)}
/-- the part that has a road -/
def partIx (P : List (List Nat)) (q : Nat) : Nat := P.findIdx fun p => decide (q ∈ p)
theorem find_map (P : List (List Nat)) (q : Nat) : (P.map fun p => decide (q ∈ p)).findIdx id = partIx P q := by
  unfold partIx
  induction P with
  | nil => rfl
  | cons p r ih => simp only [List.map_cons, List.findIdx_cons, ih, id]
theorem mem_iN (q : Nat) (p : List Nat) : decide (iN q ∈ p.map iN) = decide (q ∈ p) := by
  congr 1
  simp only [List.mem_map, eq_iff_iff]
  constructor
  · rintro ⟨x, hx, e⟩
    have : x = q := Int.ofNat.inj e
    rw [← this]; exact hx
  · exact fun h => ⟨q, h, rfl⟩
theorem dInts_map : ∀ ns : List Int, dInts (ns.map D.int) = some ns
  | [] => rfl
  | n :: r => by simp [dInts, dInts_map r]
/-- the ints of a vector -/
def intsOf : D → List Int
  | .tup ds => (dInts ds).getD []
  | _ => []
theorem intsOf_vec (ns : List Int) : intsOf (vec ns) = ns := by show (dInts (ns.map D.int)).getD [] = ns; rw [dInts_map]; rfl
theorem p_part_of (q : Nat) (hk : S[k]? = some (houseO n R P)) (hq : q < R.length) (hp : ∃ p ∈ P, q ∈ p) (hl : P.length ≤ sizeLine) : Ok (F_part_of [.loc k, .int (iN q)] S) fun d S' => d = .int (partIx P q : Nat) ∧ Pre S S' := by
  refine ok_fnX ?_
  show Ok (b_part_of [some (.loc k), some (.int (iN q)), none] S) _
  unfold b_part_of
  rw [ok_sseq, ok_sif, ok_tnot, ok_ttru, ok_fn, ok_acons, ok_var (d := .int (iN q)) rfl, ok_acons, ok_call, ok_acons, ok_fld (k := k) hk look_roads rfl, ok_anil, ok_op1]
  unfold roadsD
  rw [ok_lenT, ok_anil]
  refine (p_is_index _ _).pure fun S2 q2 => ?_
  have e2 : decide (0 ≤ iN q ∧ iN q < ((R.map rdD).length : Nat)) = true := by
    rw [List.length_map]; simp [iN]; omega
  rw [ok_trub, e2, if_neg (by simp), ok_snext]
  dsimp only
  rw [ok_sret, ok_mth]
  refine (ok_eLc (S := S2) (fun z => some (.bl (decide (iN q ∈ intsOf z)))) (items := P.map vecN) (l := fun _ => True) ?_ (by simpa using hl) (fun _ _ => True.intro) ?_).mono ?_
  · rw [ok_iseq, ok_fld (k := k) (q2.get hk) look_parts rfl]; exact ⟨rfl, .refl⟩
  · intro z hz S3 q3
    obtain ⟨p, hp, rfl⟩ := List.mem_map.mp hz
    rw [ok_gn]
    refine ⟨rfl, ?_⟩
    rw [ok_ttrue]
    refine ⟨.refl, rfl, ?_⟩
    rw [ok_bin, ok_var (d := .int (iN q)) rfl, ok_var (d := vecN p) rfl]
    unfold vecN
    rw [ok_inV, intsOf_vec]
    exact ⟨rfl, .refl⟩
  · rintro d S3 ⟨m, rfl, hm, pre, hg⟩
    have e : (P.map vecN).filterMap (fun z => some (D.bl (decide (iN q ∈ intsOf z)))) = (P.map fun p => decide (q ∈ p)).map D.bl := by
      rw [List.map_map]; refine fm_all _ _ _ ?_ _; intro p
      show some (D.bl _) = some (D.bl _)
      unfold vecN
      rw [intsOf_vec, mem_iN]
    rw [e] at hg
    rw [ok_isl hg, ok_acons, ok_c, ok_anil, ok_indexT hg ?_, find_map]
    · exact ⟨rfl, q2.trans pre⟩
    · obtain ⟨p, h1, h2⟩ := hp
      exact List.mem_map.mpr ⟨p, h1, by simp [h2]⟩
/-! ### marks -/
/-- the marks of a history, from given clocks on -/
def runM (R : Roads) (P : List (List Nat)) : List Nat → List (List Int) → List (List Int) × List (List Int)
  | [], cl => ([], cl)
  | x :: h, cl =>
    let r := R.getD x (0, 0)
    let m := mkV (cl.getD r.1 []) (cl.getD r.2 []) (partIx P x)
    let z := runM R P h ((cl.set r.1 m).set r.2 m)
    (m :: z.1, z.2)
/-- a house as it is made -/
structure Sound (n : Nat) (R : Roads) (P : List (List Nat)) : Prop where
  n10 : n ≤ 10
  hand : ∀ r ∈ R, r.1 < n ∧ r.2 < n
  cover : ∀ x, x < R.length → ∃ p ∈ P, x ∈ p
  len : P.length ≤ 1000
theorem partIx_lt {q : Nat} (h : ∃ p ∈ P, q ∈ p) : partIx P q < P.length := by
  obtain ⟨p, h1, h2⟩ := h
  exact List.findIdx_lt_length_of_exists ⟨p, h1, by simp [h2]⟩
theorem mkV_len (xs ys : List Int) (q : Nat) (h : xs.length = ys.length) : (mkV xs ys q).length = xs.length := by
  unfold mkV; simp [h]
def clocks0 (n m : Nat) : List (List Int) := List.replicate n (List.replicate m 0)
theorem ok_mulL {ds : List D} {u : Int} {j : Nat} {Q : D → Store → Prop} (h : S[j]? = some (.lst ds)) (h1 : -(2 ^ 63) ≤ u ∧ u < 2 ^ 63 ∧ ds.length * u.toNat ≤ sizeLine) : Ok (dMulT (.loc j) (.int u) S) Q = Q (.loc S.length) (S ++ [.lst (List.replicate u.toNat ds).flatten]) := by
  show Ok (dMul (.loc j) (.int u) S) Q = _
  unfold dMul
  simp only [h, if_pos h1]
  rfl
theorem rep_one {α : Type} (a : α) (m : Nat) : (List.replicate m [a]).flatten = List.replicate m a := by
  induction m with
  | zero => rfl
  | succ m ih => simp [List.replicate_succ, ih]
theorem runM_len (R : Roads) (P : List (List Nat)) : ∀ (h : List Nat) (cl : List (List Int)), (runM R P h cl).1.length = h.length
  | [], cl => rfl
  | x :: h, cl => by simp [runM, runM_len R P h]
theorem p_marks_and_clocks (so : Sound n R P) (h : List Nat) (hk : S[k]? = some (houseO n R P)) (hh : ∀ x ∈ h, x < R.length) (hl : h.length ≤ 200) :
    Ok (F_marks_and_clocks [.loc k, vecN h] S) fun d S' => d = .tup [.tup ((runM R P h (clocks0 n P.length)).1.map vec), .tup ((runM R P h (clocks0 n P.length)).2.map vec)] ∧ Pre S S' := by
  refine ok_fnX ?_
  show Ok (b_marks_and_clocks [some (.loc k), some (vecN h), none, none, none, none, none, none] S) _
  unfold b_marks_and_clocks
  rw [ok_sseq, ok_sdrop, ok_fnx, ok_acons, ok_var (d := .loc k) rfl, ok_acons, ok_var (d := vecN h) rfl, ok_anil]
  refine (p_check_history h hk hh hl).pure fun S1 q1 => ?_
  dsimp only
  have hk1 := q1.get hk
  have hsz : sizeLine = 16777216 := rfl
  have n10 := so.n10
  have pl := so.len
  rw [ok_sseq, ok_sasg, ok_bin, ok_elst, ok_acons, ok_bin, ok_etup, ok_acons, ok_c, ok_anil, if_pos (by simp; omega), ok_call, ok_acons, ok_fld (k := k) hk1 look_parts rfl, ok_anil, ok_op1]
  unfold partsD
  rw [ok_lenT, List.length_map, ok_mulT (by simp) (by omega) (by simp), ok_anil, if_pos (by simp; omega)]
  have hk2 : (S1 ++ [MO.lst [D.tup (List.replicate ((P.length : Nat) : Int).toNat [D.int 0]).flatten]])[k]? = some (houseO n R P) := (Pre.push .refl).get hk1
  rw [ok_fld (k := k) hk2 look_n rfl, ok_mulL (ds := [D.tup (List.replicate ((P.length : Nat) : Int).toNat [D.int 0]).flatten]) (by simp) (by simp; omega), ok_gn]
  dsimp only
  rw [ok_sseq, ok_sasg, ok_elst, ok_anil, if_pos (by simp), ok_gn]
  dsimp only
  -- the store from here
  generalize hS3 : (S1 ++ [MO.lst [D.tup (List.replicate ((P.length : Nat) : Int).toNat [D.int 0]).flatten]] ++ [MO.lst (List.replicate ((n : Nat) : Int).toNat [D.tup (List.replicate ((P.length : Nat) : Int).toNat [D.int 0]).flatten]).flatten] ++ [MO.lst []]) = S3
  have l3 : S3.length = S1.length + 3 := by rw [← hS3]; simp
  have q3 : Pre S S3 := by rw [← hS3]; exact ((q1.push).push).push
  have c0 : (clocks0 n P.length).map vec = (List.replicate ((n : Nat) : Int).toNat [D.tup (List.replicate ((P.length : Nat) : Int).toNat [D.int 0]).flatten]).flatten := by
    unfold clocks0 vec
    simp [rep_one]
  have gc : S3[S1.length + 1]? = some (.lst ((clocks0 n P.length).map vec)) := by
    rw [c0, ← hS3, List.getElem?_append_left (by simp), List.getElem?_append_right (by simp)]
    simp
  have gf : S3[S1.length + 2]? = some (.lst []) := by
    rw [← hS3, List.getElem?_append_right (by simp)]
    simp
  have e1 : (S1 ++ [MO.lst [D.tup (List.replicate ((P.length : Nat) : Int).toNat [D.int 0]).flatten]]).length = S1.length + 1 := by simp
  have e2 : (S1 ++ [MO.lst [D.tup (List.replicate ((P.length : Nat) : Int).toNat [D.int 0]).flatten]] ++ [MO.lst (List.replicate ((n : Nat) : Int).toNat [D.tup (List.replicate ((P.length : Nat) : Int).toNat [D.int 0]).flatten]).flatten]).length = S1.length + 2 := by simp
  rw [e1, e2]
  generalize hc : S1.length + 1 = c at gc ⊢
  generalize hf : S1.length + 2 = fd at gf ⊢
  have hc0 : S.length ≤ c := by have := q1.len; omega
  have hf0 : S.length ≤ fd := by have := q1.len; omega
  have hcf : c ≠ fd := by omega
  rw [ok_sseq, ok_sfor, ok_iseq, ok_var (d := vecN h) rfl]
  show Ok (forL _ _ _ ((h.map iN).map D.int) _ S3) _
  refine ok_for (fun items δ S' => ∃ (r : List Nat) (cl ms : List (List Int)) (z4 z5 z6 z7 : Option D), items = (r.map iN).map D.int ∧ δ = [some (.loc k), some (vecN h), some (.loc c), some (.loc fd), z4, z5, z6, z7] ∧ (∀ x ∈ r, x < R.length) ∧ Pre S S' ∧
    S'[c]? = some (.lst (cl.map vec)) ∧ S'[fd]? = some (.lst (ms.map vec)) ∧ cl.length = n ∧ (∀ m ∈ cl, m.length = P.length) ∧ ms.length + r.length = h.length ∧ runM R P h (clocks0 n P.length) = (ms ++ (runM R P r cl).1, (runM R P r cl).2)) ?_ ?_ _ _ _
    ⟨h, clocks0 n P.length, [], none, none, none, none, rfl, rfl, hh, q3, gc, gf, by simp [clocks0], fun m hm => by rw [List.eq_of_mem_replicate hm]; simp, by simp, by simp⟩
  · rintro x r δ S4 ⟨r0, cl, ms, z4, z5, z6, z7, e, rfl, hb, p4, g4, f4, hcl, hcm, hms, hrun⟩
    cases r0 with
    | nil => cases e
    | cons y r0 =>
      cases e
      refine ⟨True.intro, ?_⟩
      have hy := hb y List.mem_cons_self
      have hrd := so.hand R[y] (List.getElem_mem hy)
      have hsound := so.cover y hy
      have hpi := partIx_lt hsound
      have ea : R.getD y (0, 0) = R[y] := by rw [List.getD_eq_getElem?_getD, List.getElem?_eq_getElem hy]; rfl
      have h1 : R[y].1 < cl.length := by omega
      have h2 : R[y].2 < cl.length := by omega
      have m1 := hcm _ (List.getElem_mem h1)
      have m2 := hcm _ (List.getElem_mem h2)
      rw [ok_gn]
      rw [ok_sseq, ok_sasg, ok_bin, ok_fld (k := k) (p4.get hk) look_roads rfl, ok_var (d := .int (iN y)) rfl]
      unfold roadsD
      rw [ok_ixT (e := rdD R[y]) (ixN_lt (by simpa using hy)) (by rw [List.getElem?_map, List.getElem?_eq_getElem hy]; rfl)]
      rw [show rdD R[y] = .tup [.int (iN R[y].1), .int (iN R[y].2)] from rfl, ok_gtp (n := 2) rfl, ok_gcons, ok_gn, ok_gcons, ok_gn, ok_gnil]
      dsimp only
      rw [ok_sseq, ok_sasg, ok_fn, ok_acons, ok_bin, ok_var (d := .loc c) rfl, ok_var (d := .int (iN R[y].1)) rfl, ok_ixL (e := vec cl[R[y].1]) g4 (ixN_lt (by simpa using h1)) (by rw [List.getElem?_map, List.getElem?_eq_getElem h1]; rfl)]
      rw [ok_acons, ok_bin, ok_var (d := .loc c) rfl, ok_var (d := .int (iN R[y].2)) rfl, ok_ixL (e := vec cl[R[y].2]) g4 (ixN_lt (by simpa using h2)) (by rw [List.getElem?_map, List.getElem?_eq_getElem h2]; rfl)]
      rw [ok_acons, ok_fnx, ok_acons, ok_var (d := .loc k) rfl, ok_acons, ok_var (d := .int (iN y)) rfl, ok_anil]
      refine (p_part_of y (p4.get hk) hy hsound (by omega)).pure fun S5 q5 => ?_
      rw [ok_anil]
      refine (p_made_mark cl[R[y].1] cl[R[y].2] (partIx P y) (by omega) (by omega) (by omega)).pure fun S6 q6 => ?_
      have p6 := (p4.trans q5).trans q6
      have g6 := q6.get (q5.get g4)
      have f6 := q6.get (q5.get f4)
      generalize hm : mkV cl[R[y].1] cl[R[y].2] (partIx P y) = m
      have lm : m.length = P.length := by rw [← hm, mkV_len _ _ _ (by omega)]; exact m1
      have lc6 : c < S6.length := (List.getElem?_eq_some_iff.mp g6).1
      rw [ok_gn]
      dsimp only
      rw [ok_sseq, ok_sasg, ok_var (d := vec m) rfl, ok_gsub, ok_var (d := .loc c) rfl, ok_var (d := .int (iN R[y].1)) rfl, ok_setL g6 (ixN_lt (by simpa using h1))]
      dsimp only
      have g7 : (S6.set c (.lst ((cl.map vec).set R[y].1 (vec m))))[c]? = _ := set_get lc6
      rw [ok_sseq, ok_sasg, ok_var (d := vec m) rfl, ok_gsub, ok_var (d := .loc c) rfl, ok_var (d := .int (iN R[y].2)) rfl, ok_setL g7 (ixN_lt (by simpa using h2))]
      dsimp only
      have f8 : ((S6.set c (.lst ((cl.map vec).set R[y].1 (vec m)))).set c (.lst (((cl.map vec).set R[y].1 (vec m)).set R[y].2 (vec m))))[fd]? = some (.lst (ms.map vec)) := by
        rw [List.getElem?_set_ne hcf, List.getElem?_set_ne hcf]; exact f6
      rw [ok_sdrop, ok_mth, ok_var (d := .loc fd) rfl, ok_isl f8, ok_acons, ok_var (d := vec m) rfl, ok_anil, ok_app f8 (by simp at hms ⊢; omega)]
      generalize hS8 : (S6.set c (.lst ((cl.map vec).set R[y].1 (vec m)))).set c (.lst (((cl.map vec).set R[y].1 (vec m)).set R[y].2 (vec m))) = S8 at f8 ⊢
      have p8 : Pre S S8 := by rw [← hS8]; exact (p6.set hc0).set hc0
      have g8 : S8[c]? = some (.lst (((cl.set R[y].1 m).set R[y].2 m).map vec)) := by
        rw [← hS8, set_get (by simpa using lc6), List.map_set, List.map_set]
      refine ⟨r0, (cl.set R[y].1 m).set R[y].2 m, ms ++ [m], _, _, _, _, rfl, rfl, fun x hx => hb x (List.mem_cons_of_mem _ hx), p8.set hf0, ?_, ?_, by simp [hcl], ?_, by simp at hms ⊢; omega, ?_⟩
      · rw [List.getElem?_set_ne (Ne.symm hcf)]; exact g8
      · rw [set_get (List.getElem?_eq_some_iff.mp f8).1]; simp
      · intro z hz
        rcases List.mem_or_eq_of_mem_set hz with hz | rfl
        · rcases List.mem_or_eq_of_mem_set hz with hz | rfl
          · exact hcm z hz
          · exact lm
        · exact lm
      · rw [hrun]
        simp only [runM, ea]
        rw [List.getD_eq_getElem?_getD, List.getD_eq_getElem?_getD, List.getElem?_eq_getElem h1, List.getElem?_eq_getElem h2]
        simp only [Option.getD_some, hm]
        simp
  · rintro δ S4 ⟨r0, cl, ms, z4, z5, z6, z7, e, rfl, hb, p4, g4, f4, hcl, hcm, hms, hrun⟩
    refine ⟨True.intro, ?_⟩
    cases r0 with
    | cons y r0 => cases e
    | nil =>
      dsimp only
      rw [ok_sret, ok_etup, ok_acons, ok_call, ok_acons, ok_var (d := .loc fd) rfl, ok_anil, ok_op1, ok_tupL f4, ok_acons, ok_call, ok_acons, ok_var (d := .loc c) rfl, ok_anil, ok_op1, ok_tupL g4, ok_anil, if_pos (by simp; omega)]
      refine ⟨?_, p4⟩
      rw [hrun]
      simp [runM]
end
end Y
set_option Elab.async false
set_option linter.all false
set_option maxRecDepth 100000
namespace Y
open PySem PySem.Spec PyProof.Rows L2 DL
open Classical
noncomputable section
variable {S S' : Store} {k n : Nat} {R : Roads} {P : List (List Nat)}
/-- the marks of a history -/
def marksN (n : Nat) (R : Roads) (P : List (List Nat)) (h : List Nat) : List (List Int) := (runM R P h (clocks0 n P.length)).1
theorem marksN_len (n : Nat) (R : Roads) (P : List (List Nat)) (h : List Nat) : (marksN n R P h).length = h.length := runM_len R P h _
def vecsD (ms : List (List Int)) : D := .tup (ms.map vec)
theorem p_marks (so : Sound n R P) (h : List Nat) (hk : S[k]? = some (houseO n R P)) (hh : ∀ x ∈ h, x < R.length) (hl : h.length ≤ 200) :
    Ok (F_marks [.loc k, vecN h] S) fun d S' => d = vecsD (marksN n R P h) ∧ Pre S S' := by
  refine ok_fnX ?_
  show Ok (b_marks [some (.loc k), some (vecN h)] S) _
  unfold b_marks
  rw [ok_sret, ok_bin, ok_fnx, ok_acons, ok_var (d := .loc k) rfl, ok_acons, ok_var (d := vecN h) rfl, ok_anil]
  refine (p_marks_and_clocks so h hk hh hl).pure fun S1 q1 => ?_
  rw [ok_c, ok_ixT (u := 0) (j := 0) (e := vecsD (marksN n R P h)) rfl rfl]
  exact ⟨rfl, q1⟩
/-- all marks have an entry for each part, from 0 on -/
theorem mkV_pos (xs ys : List Int) (q : Nat) (hx : ∀ a ∈ xs, 0 ≤ a) : ∀ a ∈ mkV xs ys q, 0 ≤ a := by
  intro a ha
  unfold mkV at ha
  have hz : ∀ b ∈ (xs.zip ys).map fun p => max p.1 p.2, 0 ≤ b := by
    intro b hb
    obtain ⟨p, hp, rfl⟩ := List.mem_map.mp hb
    have := hx p.1 (List.of_mem_zip hp).1
    omega
  rcases List.mem_or_eq_of_mem_set ha with h | h
  · exact hz a h
  · rw [h, List.getD_eq_getElem?_getD]
    cases hq : ((xs.zip ys).map fun p => max p.1 p.2)[q]? with
    | none => simp
    | some b => have := hz b (List.mem_of_getElem? hq); simp; omega
theorem runM_ok (so : Sound n R P) : ∀ (h : List Nat) (cl : List (List Int)), (∀ x ∈ h, x < R.length) → cl.length = n → (∀ m ∈ cl, m.length = P.length ∧ ∀ a ∈ m, 0 ≤ a) → ∀ m ∈ (runM R P h cl).1, m.length = P.length ∧ ∀ a ∈ m, 0 ≤ a
  | [], cl, _, _, _, m, hm => by simp [runM] at hm
  | x :: h, cl, hh, hc, hcl, m, hm => by
    have hx := hh x List.mem_cons_self
    have hrd := so.hand R[x] (List.getElem_mem hx)
    have ea : R.getD x (0, 0) = R[x] := by rw [List.getD_eq_getElem?_getD, List.getElem?_eq_getElem hx]; rfl
    have h1 : R[x].1 < cl.length := by omega
    have h2 : R[x].2 < cl.length := by omega
    have g1 := hcl _ (List.getElem_mem h1)
    have g2 := hcl _ (List.getElem_mem h2)
    have e1 : cl.getD R[x].1 [] = cl[R[x].1] := by rw [List.getD_eq_getElem?_getD, List.getElem?_eq_getElem h1]; rfl
    have e2 : cl.getD R[x].2 [] = cl[R[x].2] := by rw [List.getD_eq_getElem?_getD, List.getElem?_eq_getElem h2]; rfl
    have new : (mkV (cl.getD R[x].1 []) (cl.getD R[x].2 []) (partIx P x)).length = P.length ∧ ∀ a ∈ mkV (cl.getD R[x].1 []) (cl.getD R[x].2 []) (partIx P x), 0 ≤ a := by
      rw [e1, e2]
      exact ⟨by rw [mkV_len _ _ _ (by omega)]; exact g1.1, mkV_pos _ _ _ g1.2⟩
    simp only [runM, ea] at hm
    rcases List.mem_cons.mp hm with rfl | hm
    · exact new
    · refine runM_ok so h _ (fun y hy => hh y (List.mem_cons_of_mem _ hy)) (by simp [hc]) (fun z hz => ?_) m hm
      rcases List.mem_or_eq_of_mem_set hz with hz | rfl
      · rcases List.mem_or_eq_of_mem_set hz with hz | rfl
        · exact hcl z hz
        · exact new
      · exact new
theorem marksN_ok (so : Sound n R P) (h : List Nat) (hh : ∀ x ∈ h, x < R.length) : ∀ m ∈ marksN n R P h, m.length = P.length ∧ ∀ a ∈ m, 0 ≤ a :=
  runM_ok so h _ hh (by simp [clocks0]) fun m hm => by
    rw [List.eq_of_mem_replicate hm]
    exact ⟨by simp, fun a ha => by rw [List.eq_of_mem_replicate ha]; exact Int.le_refl _⟩
theorem ok_vecs {ms : List (List Int)} {i : Nat} {Q : D → Store → Prop} (hi : i < ms.length) : Ok (dIx (vecsD ms) (.int (iN i)) S) Q = Q (vec ms[i]) S := by
  unfold vecsD
  rw [ok_ixT (e := vec ms[i]) (ixN_lt (by simpa using hi)) (by rw [List.getElem?_map, List.getElem?_eq_getElem hi]; rfl)]
def natOf : D → Nat
  | .int u => u.toNat
  | _ => 0
theorem rng_map (m : Nat) : rngD 0 ((m : Nat) : Int).toNat = (List.range m).map fun i => .int (iN i) := by
  unfold rngD; simp
theorem fm_if {α β : Type} (g : α → β) (f : β → Option β) (p : α → Bool) (e : ∀ x, f (g x) = if p x = true then some (g x) else none) : ∀ l : List α, (l.map g).filterMap f = (l.filter p).map g
  | [] => rfl
  | x :: l => by
    rw [List.map_cons, List.filter_cons]
    cases hp : p x with
    | true => rw [List.filterMap_cons_some (b := g x) (by rw [e, if_pos hp]), fm_if g f p e l]; simp
    | false => rw [List.filterMap_cons_none (by rw [e, hp]; simp), fm_if g f p e l]; simp
theorem p_past (so : Sound n R P) (h : List Nat) (i : Nat) (hk : S[k]? = some (houseO n R P)) (hh : ∀ x ∈ h, x < R.length) (hl : h.length ≤ 200) (hi : i < h.length) :
    Ok (F_past [.loc k, vecN h, .int (iN i)] S) fun d S' => d = vecN ((List.range i).filter fun j => leV ((marksN n R P h).getD j []) ((marksN n R P h).getD i [])) ∧ Pre S S' := by
  refine ok_fnX ?_
  show Ok (b_past [some (.loc k), some (vecN h), some (.int (iN i)), none, none] S) _
  unfold b_past
  rw [ok_sseq, ok_sdrop, ok_fnx, ok_acons, ok_var (d := .loc k) rfl, ok_acons, ok_var (d := vecN h) rfl, ok_acons, ok_var (d := .int (iN i)) rfl, ok_anil]
  refine (p_check_index h i hk hh hl hi).pure fun S1 q1 => ?_
  dsimp only
  rw [ok_sseq, ok_sasg, ok_fnx, ok_acons, ok_var (d := .loc k) rfl, ok_acons, ok_var (d := vecN h) rfl, ok_anil]
  refine (p_marks so h (q1.get hk) hh hl).pure fun S2 q2 => ?_
  rw [ok_gn]
  dsimp only
  rw [ok_sret, ok_call, ok_acons]
  have ml := marksN_len n R P h
  have hsz : sizeLine = 16777216 := rfl
  refine (ok_eLc (S := S2) (fun z => if leV ((marksN n R P h).getD (natOf z) []) ((marksN n R P h).getD i []) = true then some z else none) (items := rngD 0 ((i : Nat) : Int).toNat) (l := fun _ => True) ?_ (by unfold rngD; simp; omega) (fun _ _ => True.intro) ?_).mono ?_
  · rw [ok_rg1 (u := iN i) rfl (by simp [iN]; omega)]; exact ⟨rfl, .refl⟩
  · intro z hz S3 q3
    rw [rng_map] at hz
    obtain ⟨j, hj, rfl⟩ := List.mem_map.mp hz
    have hj := List.mem_range.mp hj
    have e1 : (marksN n R P h).getD j [] = (marksN n R P h)[j] := by rw [List.getD_eq_getElem?_getD, List.getElem?_eq_getElem (by omega)]; rfl
    have e2 : (marksN n R P h).getD i [] = (marksN n R P h)[i] := by rw [List.getD_eq_getElem?_getD, List.getElem?_eq_getElem (by omega)]; rfl
    rw [ok_gn]
    refine ⟨rfl, ?_⟩
    rw [ok_ttru, ok_fn, ok_acons, ok_bin, ok_var (d := vecsD (marksN n R P h)) rfl, ok_var (d := .int (iN j)) rfl, ok_vecs (by omega), ok_acons, ok_bin, ok_var (d := vecsD (marksN n R P h)) rfl, ok_var (d := .int (iN i)) rfl, ok_vecs (by omega), ok_anil]
    have mo := marksN_ok so h hh _ (List.getElem_mem (show j < (marksN n R P h).length by omega))
    have pl := so.len
    refine (p_at_most _ _ (by omega)).pure fun S4 q4 => ?_
    rw [ok_trub]
    refine ⟨q4, ?_⟩
    have en : natOf (.int (iN j)) = j := by simp [natOf, iN]
    simp only [en, e1, e2]
    cases hb : leV (marksN n R P h)[j] (marksN n R P h)[i] with
    | true => rw [if_pos rfl]; exact ⟨rfl, by rw [ok_var (d := .int (iN j)) rfl]; exact ⟨rfl, .refl⟩⟩
    | false => rw [if_neg (by simp)]
  · rintro d S3 ⟨m, rfl, hm, pre, hg⟩
    rw [ok_anil, ok_op1, ok_tupL hg]
    refine ⟨?_, (q1.trans q2).trans pre⟩
    show D.tup _ = D.tup _
    rw [rng_map, fm_if _ _ (fun j => leV ((marksN n R P h).getD j []) ((marksN n R P h).getD i []))]
    · rw [List.map_map]; rfl
    · intro j
      rw [show natOf (.int (iN j)) = j by simp [natOf, iN]]
end
end Y
set_option Elab.async false
set_option linter.all false
set_option maxRecDepth 100000
namespace Y
open PySem PySem.Spec PyProof.Rows L2 DL
open Classical
noncomputable section
variable {S S' : Store} {k n : Nat} {R : Roads} {P : List (List Nat)}
/-- longest lines by hand -/
def runD (R : Roads) : List Nat → List Int → List Int
  | [], l => l
  | x :: h, l =>
    let r := R.getD x (0, 0)
    let v := max (l.getD r.1 0) (l.getD r.2 0) + 1
    runD R h ((l.set r.1 v).set r.2 v)
theorem getD_at {α : Type} {l : List α} {i : Nat} (d : α) (h : i < l.length) : l.getD i d = l[i] := by rw [List.getD_eq_getElem?_getD, List.getElem?_eq_getElem h]; rfl
theorem cut_take (ds : List D) (m : Nat) : DL.cutD ds none (some (iN m)) = ds.take m := by
  unfold DL.cutD
  rw [HT.sIx_none]
  have := HT.sIx_nat ds.length ds.length m
  rw [show (some (iN m) : Option Int) = some (m : Int) from rfl, this]
  rw [List.drop_zero, Nat.sub_zero]
  rcases Nat.le_total m ds.length with h | h
  · rw [Nat.min_eq_left h]
  · rw [Nat.min_eq_right h, List.take_length, List.take_of_length_le h]
theorem p_depth (so : Sound n R P) (h : List Nat) (i : Nat) (hk : S[k]? = some (houseO n R P)) (hh : ∀ x ∈ h, x < R.length) (hl : h.length ≤ 200) (hi : i < h.length) :
    Ok (F_depth [.loc k, vecN h, .int (iN i)] S) fun d S' => d = .int ((runD R (h.take (i + 1)) (List.replicate n 0)).getD (R.getD (h.getD i 0) (0, 0)).1 0) ∧ Pre S S' := by
  refine ok_fnX ?_
  show Ok (b_depth [some (.loc k), some (vecN h), some (.int (iN i)), none, none, none, none] S) _
  unfold b_depth
  rw [ok_sseq, ok_sdrop, ok_fnx, ok_acons, ok_var (d := .loc k) rfl, ok_acons, ok_var (d := vecN h) rfl, ok_acons, ok_var (d := .int (iN i)) rfl, ok_anil]
  refine (p_check_index h i hk hh hl hi).pure fun S1 q1 => ?_
  dsimp only
  have hsz : sizeLine = 16777216 := rfl
  have n10 := so.n10
  rw [ok_sseq, ok_sasg, ok_bin, ok_elst, ok_acons, ok_c, ok_anil, if_pos (by simp; omega)]
  have hk2 : (S1 ++ [MO.lst [D.int 0]])[k]? = some (houseO n R P) := (Pre.push .refl).get (q1.get hk)
  rw [ok_fld (k := k) hk2 look_n rfl, ok_mulL (ds := [D.int 0]) (by simp) (by simp; omega), ok_gn]
  dsimp only
  generalize hS3 : (S1 ++ [MO.lst [D.int 0]] ++ [MO.lst (List.replicate ((n : Nat) : Int).toNat [D.int 0]).flatten]) = S3
  have q3 : Pre S S3 := by rw [← hS3]; exact (q1.push).push
  have gc : S3[S1.length + 1]? = some (.lst ((List.replicate n (0 : Int)).map D.int)) := by
    rw [← hS3, List.getElem?_append_right (by simp)]
    simp [rep_one]
  have e1 : (S1 ++ [MO.lst [D.int 0]]).length = S1.length + 1 := by simp
  rw [e1]
  generalize hc : S1.length + 1 = c at gc ⊢
  have hc0 : S.length ≤ c := by have := q1.len; omega
  rw [ok_sseq, ok_sfor, ok_iseq]
  unfold eSl oNone oSome
  simp only [ok_bnd, ok_ret, ok_bin]
  rw [ok_var (d := vecN h) rfl, ok_var (d := .int (iN i)) rfl, ok_c]
  rw [show Ok (dAdd (.int (iN i)) (.int 1) S3) = fun Q => Q (.int (iN (i + 1))) S3 from by funext Q; show Q (.int (iN i + 1)) S3 = _; simp [iN]]
  dsimp only
  rw [ok_ret]
  rw [show dSlice (vecN h) none (some (iN (i + 1))) S3 = .ok (.tup (((h.take (i + 1)).map iN).map D.int)) S3 from by
    show Res.ok (D.tup (DL.cutD ((h.map iN).map D.int) none (some (iN (i + 1))))) S3 = _
    rw [cut_take, List.map_take, List.map_take]]
  rw [ok_ok]
  show Ok (forL _ _ _ (((h.take (i + 1)).map iN).map D.int) _ S3) _
  refine ok_for (fun items δ S' => ∃ (r : List Nat) (l : List Int) (z4 z5 z6 : Option D), items = (r.map iN).map D.int ∧ δ = [some (.loc k), some (vecN h), some (.int (iN i)), some (.loc c), z4, z5, z6] ∧ (∀ x ∈ r, x < R.length) ∧ Pre S S' ∧
    S'[c]? = some (.lst (l.map D.int)) ∧ l.length = n ∧ runD R (h.take (i + 1)) (List.replicate n 0) = runD R r l) ?_ ?_ _ _ _
    ⟨h.take (i + 1), List.replicate n 0, none, none, none, rfl, rfl, fun x hx => hh x (List.mem_of_mem_take hx), q3, gc, by simp, rfl⟩
  · rintro x r δ S4 ⟨r0, l, z4, z5, z6, e, rfl, hb, p4, g4, hln, hrun⟩
    cases r0 with
    | nil => cases e
    | cons y r0 =>
      cases e
      refine ⟨True.intro, ?_⟩
      have hy := hb y List.mem_cons_self
      have hrd := so.hand R[y] (List.getElem_mem hy)
      have h1 : R[y].1 < l.length := by omega
      have h2 : R[y].2 < l.length := by omega
      rw [ok_gn]
      rw [ok_sseq, ok_sasg, ok_bin, ok_fld (k := k) (p4.get hk) look_roads rfl, ok_var (d := .int (iN y)) rfl]
      unfold roadsD
      rw [ok_ixT (e := rdD R[y]) (ixN_lt (by simpa using hy)) (by rw [List.getElem?_map, List.getElem?_eq_getElem hy]; rfl)]
      rw [show rdD R[y] = .tup [.int (iN R[y].1), .int (iN R[y].2)] from rfl, ok_gtp (n := 2) rfl, ok_gcons, ok_gn, ok_gcons, ok_gn, ok_gnil]
      dsimp only
      rw [ok_sseq, ok_sasg, ok_bin, ok_call, ok_acons, ok_bin, ok_var (d := .loc c) rfl, ok_var (d := .int (iN R[y].1)) rfl, ok_ixL (e := .int l[R[y].1]) g4 (ixN_lt (by simpa using h1)) (by rw [List.getElem?_map, List.getElem?_eq_getElem h1]; rfl)]
      rw [ok_acons, ok_bin, ok_var (d := .loc c) rfl, ok_var (d := .int (iN R[y].2)) rfl, ok_ixL (e := .int l[R[y].2]) g4 (ixN_lt (by simpa using h2)) (by rw [List.getElem?_map, List.getElem?_eq_getElem h2]; rfl), ok_anil, ok_max2, ok_c]
      rw [show Ok (dAdd (.int (max l[R[y].1] l[R[y].2])) (.int 1) S4) = fun Q => Q (.int (max l[R[y].1] l[R[y].2] + 1)) S4 from rfl]
      dsimp only
      generalize hv : max l[R[y].1] l[R[y].2] + 1 = v
      rw [ok_gsub, ok_var (d := .loc c) rfl, ok_var (d := .int (iN R[y].1)) rfl, ok_setL g4 (ixN_lt (by simpa using h1))]
      have lc4 : c < S4.length := (List.getElem?_eq_some_iff.mp g4).1
      have g5 : (S4.set c (.lst ((l.map D.int).set R[y].1 (.int v))))[c]? = some (.lst ((l.set R[y].1 v).map D.int)) := by rw [set_get lc4, List.map_set]
      generalize hS5 : S4.set c (.lst ((l.map D.int).set R[y].1 (.int v))) = S5 at g5 ⊢
      have p5 : Pre S S5 := by rw [← hS5]; exact p4.set hc0
      have lc5 : c < S5.length := (List.getElem?_eq_some_iff.mp g5).1
      have e3 : (l.set R[y].1 v)[R[y].1]? = some v := List.getElem?_set_self h1
      rw [ok_sasg, ok_bin, ok_var (d := .loc c) rfl, ok_var (d := .int (iN R[y].1)) rfl, ok_ixL (e := .int v) g5 (ixN_lt (by simpa using h1)) (by rw [List.getElem?_map, e3]; rfl)]
      rw [ok_gsub, ok_var (d := .loc c) rfl, ok_var (d := .int (iN R[y].2)) rfl, ok_setL g5 (ixN_lt (by simpa using h2))]
      dsimp only
      refine ⟨r0, (l.set R[y].1 v).set R[y].2 v, _, _, _, rfl, rfl, fun x hx => hb x (List.mem_cons_of_mem _ hx), p5.set hc0, by rw [set_get lc5, ← List.map_set], by simp [hln], ?_⟩
      rw [hrun]
      simp only [runD]
      rw [getD_at _ hy, getD_at _ h1, getD_at _ h2, hv]
  · rintro δ S4 ⟨r0, l, z4, z5, z6, e, rfl, hb, p4, g4, hln, hrun⟩
    refine ⟨True.intro, ?_⟩
    cases r0 with
    | cons y r0 => cases e
    | nil =>
      have hy := hh h[i] (List.getElem_mem hi)
      have hrd := so.hand R[h[i]] (List.getElem_mem hy)
      have h1 : R[h[i]].1 < l.length := by omega
      dsimp only
      rw [ok_sret, ok_bin, ok_var (d := .loc c) rfl, ok_bin, ok_bin, ok_fld (k := k) (p4.get hk) look_roads rfl, ok_bin, ok_var (d := vecN h) rfl, ok_var (d := .int (iN i)) rfl]
      unfold vecN vec roadsD
      rw [ok_ixT (e := .int (iN h[i])) (ixN_lt (by simpa using hi)) (by simp [hi])]
      rw [ok_ixT (e := rdD R[h[i]]) (ixN_lt (by simpa using hy)) (by rw [List.getElem?_map, List.getElem?_eq_getElem hy]; rfl), ok_c]
      rw [show rdD R[h[i]] = .tup [.int (iN R[h[i]].1), .int (iN R[h[i]].2)] from rfl, ok_ixT (u := 0) (j := 0) (e := .int (iN R[h[i]].1)) rfl rfl]
      rw [ok_ixL (e := .int l[R[h[i]].1]) g4 (ixN_lt (by simpa using h1)) (by rw [List.getElem?_map, List.getElem?_eq_getElem h1]; rfl)]
      refine ⟨?_, p4⟩
      rw [hrun]
      simp only [runD]
      rw [getD_at _ hi, getD_at _ hy, getD_at _ h1]
end
end Y
set_option Elab.async false
set_option linter.all false
set_option maxRecDepth 100000
namespace Y
open PySem PySem.Spec PyProof.Rows L2 DL
open Classical
noncomputable section
variable {S S' : Store} {k n : Nat} {R : Roads} {P : List (List Nat)}
/-- the first j from j on, of m, for which p holds -/
def inB (p : Nat → Bool) : Nat → Nat → Option Nat
  | _, 0 => none
  | j, m + 1 => if p j = true then some j else inB p (j + 1) m
/-- the first pair i < j for which p holds -/
def outB (len : Nat) (p : Nat → Nat → Bool) : Nat → Nat → Option (Nat × Nat)
  | _, 0 => none
  | i, m + 1 => match inB (p i) (i + 1) (len - (i + 1)) with
    | some j => some (i, j)
    | none => outB len p (i + 1) m
def pairD : Option (Nat × Nat) → D
  | none => .non
  | some (i, j) => vecN [i, j]
theorem rng_cons (lo : Int) (m : Nat) : rngD lo (m + 1) = .int lo :: rngD (lo + 1) m := by
  unfold rngD
  rw [List.range_succ_eq_map, List.map_cons, List.map_map]
  congr 1
  · simp
  · apply List.map_congr_left
    intro i _
    show D.int (lo + ((i + 1 : Nat) : Int)) = D.int (lo + 1 + (i : Int))
    congr 1; omega
theorem ok_rg2 {δ : DL.Env} {f g : SE} {u v : Int} {kk : Src → Store → Prop} {S : Store} (hf : Ok (f δ S) = fun Q => Q (.int u) S) (hg : Ok (g δ S) = fun Q => Q (.int v) S) (h : -(2 ^ 62) ≤ u ∧ u < 2 ^ 62 ∧ -(2 ^ 62) ≤ v ∧ v < 2 ^ 62) : Ok (iRg2 f g δ S) kk = kk ⟨rngD u (v - u).toNat, fun _ => True⟩ S := by
  unfold iRg2
  simp only [ok_bnd, hf, hg, if_pos (show Small u ∧ Small v from ⟨⟨h.1, h.2.1⟩, h.2.2.1, h.2.2.2⟩)]
  rfl
theorem p_first_beside (so : Sound n R P) (h : List Nat) (hk : S[k]? = some (houseO n R P)) (hh : ∀ x ∈ h, x < R.length) (hl : h.length ≤ 200) :
    Ok (F_first_beside [.loc k, vecN h] S) fun d S' => d = pairD (outB h.length (fun i j => !leV ((marksN n R P h).getD i []) ((marksN n R P h).getD j [])) 0 h.length) ∧ Pre S S' := by
  refine ok_fnX ?_
  show Ok (b_first_beside [some (.loc k), some (vecN h), none, none, none, none] S) _
  unfold b_first_beside
  rw [ok_sseq, ok_sasg, ok_fnx, ok_acons, ok_var (d := .loc k) rfl, ok_acons, ok_var (d := vecN h) rfl, ok_anil]
  refine (p_marks so h hk hh hl).pure fun S1 q1 => ?_
  have ml := marksN_len n R P h
  have mo := marksN_ok so h hh
  generalize marksN n R P h = ms at ml mo ⊢
  have hsz : sizeLine = 16777216 := rfl
  have pl := so.len
  rw [ok_gn]
  dsimp only
  rw [ok_sseq, ok_sfor, ok_enumT (ds := ms.map vec) rfl]
  refine ok_for (fun items δ S' => ∃ (r : List (List Int)) (i : Nat) (z3 z4 z5 : Option D), items = enumD i (r.map vec) ∧ δ = [some (.loc k), some (vecN h), some (vecsD ms), z3, z4, z5] ∧ r = ms.drop i ∧ i + r.length = h.length ∧ Pre S S' ∧
    outB h.length (fun i j => !leV (ms.getD i []) (ms.getD j [])) 0 h.length = outB h.length (fun i j => !leV (ms.getD i []) (ms.getD j [])) i r.length) ?_ ?_ _ _ _ ⟨ms, 0, none, none, none, rfl, rfl, by simp, by simp [ml], q1, by rw [ml]⟩
  · rintro x r δ S2 ⟨r0, i, z3, z4, z5, e, rfl, hr, hi, p2, hob⟩
    cases r0 with
    | nil => cases e
    | cons m r0 =>
      cases e
      refine ⟨True.intro, ?_⟩
      have hi' : i < ms.length := by simp at hi; omega
      have hm : m = ms[i] := by
        have := List.drop_eq_getElem_cons hi'
        rw [this] at hr
        exact (List.cons.inj hr).1
      have hr0 : r0 = ms.drop (i + 1) := by
        have := List.drop_eq_getElem_cons hi'
        rw [this] at hr
        exact (List.cons.inj hr).2
      have em : ms.getD i [] = m := by rw [getD_at _ hi', hm]
      have hii : i + (r0.length + 1) = h.length := by simpa using hi
      have hbd : -(2 ^ 62) ≤ iN (i + 1) ∧ iN (i + 1) < 2 ^ 62 ∧ -(2 ^ 62) ≤ iN h.length ∧ iN h.length < 2 ^ 62 := by
        simp only [iN]
        omega
      rw [ok_gtp (n := 2) (ds := [D.int (iN i), vec m]) rfl, ok_gcons, ok_gn, ok_gcons, ok_gn, ok_gnil]
      dsimp only
      rw [ok_sfor, ok_rg2 (u := iN (i + 1)) (v := iN h.length) ?_ ?_ hbd]
      rotate_left
      · funext Q; rw [ok_bin, ok_var (d := .int (iN i)) rfl, ok_c]; show Q (.int (iN i + 1)) S2 = _; simp [iN]
      · funext Q; rw [ok_call, ok_acons, ok_var (d := vecsD ms) rfl, ok_anil, ok_op1]; unfold vecsD; rw [ok_lenT]; simp [iN, ml]
      have er : (iN h.length - iN (i + 1)).toNat = h.length - (i + 1) := by simp [iN]; omega
      rw [er]
      have hfin : outB h.length (fun i j => !leV (ms.getD i []) (ms.getD j [])) i (m :: r0).length = match inB (fun j => !leV (ms.getD i []) (ms.getD j [])) (i + 1) (h.length - (i + 1)) with
        | some j => some (i, j)
        | none => outB h.length (fun i j => !leV (ms.getD i []) (ms.getD j [])) (i + 1) r0.length := rfl
      rw [hfin] at hob
      refine ok_for (fun items δ S' => ∃ (q j : Nat) (z5 : Option D), items = rngD (iN j) q ∧ δ = [some (.loc k), some (vecN h), some (vecsD ms), some (.int (iN i)), some (vec m), z5] ∧ j + q = h.length ∧ Pre S S' ∧
        inB (fun j => !leV (ms.getD i []) (ms.getD j [])) (i + 1) (h.length - (i + 1)) = inB (fun j => !leV (ms.getD i []) (ms.getD j [])) j q) ?_ ?_ _ _ _ ⟨h.length - (i + 1), i + 1, z5, rfl, rfl, by simp at hi; omega, p2, rfl⟩
      · rintro x r δ S3 ⟨q, j, z5, e, rfl, hjq, p3, hib⟩
        cases q with
        | zero => cases e
        | succ q =>
          rw [rng_cons] at e
          cases e
          refine ⟨True.intro, ?_⟩
          have hj : j < ms.length := by omega
          rw [ok_gn, ok_sif, ok_tnot, ok_ttru, ok_fn, ok_acons, ok_var (d := vec m) rfl, ok_acons, ok_bin, ok_var (d := vecsD ms) rfl, ok_var (d := .int (iN j)) rfl, ok_vecs hj, ok_anil]
          refine (p_at_most m ms[j] (by have := (mo m (by rw [hm]; exact List.getElem_mem hi')).1; omega)).pure fun S4 q4 => ?_
          rw [ok_trub]
          have ib : inB (fun j => !leV (ms.getD i []) (ms.getD j [])) j (q + 1) = if (!leV m ms[j]) = true then some j else inB (fun j => !leV (ms.getD i []) (ms.getD j [])) (j + 1) q := by
            show (if (!leV (ms.getD i []) (ms.getD j [])) = true then _ else _) = _
            rw [em, getD_at _ hj]
          rw [ib] at hib
          cases hb : leV m ms[j] with
          | true =>
            rw [if_neg (by simp), ok_snext]
            rw [hb, if_neg (by simp)] at hib
            exact ⟨q, j + 1, _, by simp [iN], rfl, by omega, p3.trans q4, hib⟩
          | false =>
            rw [if_pos (by simp), ok_sret, ok_etup, ok_acons, ok_var (d := .int (iN i)) rfl, ok_acons, ok_var (d := .int (iN j)) rfl, ok_anil, if_pos (by simp; omega)]
            rw [hb, if_pos (by simp)] at hib
            rw [hib] at hob
            dsimp only at hob
            show D.tup _ = _ ∧ Pre S S4
            rw [hob]
            exact ⟨rfl, p3.trans q4⟩
      · rintro δ S3 ⟨q, j, z5, e, rfl, hjq, p3, hib⟩
        refine ⟨True.intro, ?_⟩
        cases q with
        | succ q => rw [rng_cons] at e; cases e
        | zero =>
          rw [show inB (fun j => !leV (ms.getD i []) (ms.getD j [])) j 0 = none from rfl] at hib
          rw [hib] at hob
          exact ⟨r0, i + 1, _, _, _, rfl, rfl, hr0, by simp at hi; omega, p3, hob⟩
  · rintro δ S2 ⟨r0, i, z3, z4, z5, e, rfl, hr, hi, p2, hob⟩
    refine ⟨True.intro, ?_⟩
    cases r0 with
    | cons m r0 => cases e
    | nil =>
      dsimp only
      rw [ok_sret, ok_c]
      refine ⟨?_, p2⟩
      rw [hob]
      rfl
end
end Y
set_option Elab.async false
set_option linter.all false
set_option maxRecDepth 100000
namespace Y
open PySem PySem.Spec PyProof.Rows L2 DL
open Classical
noncomputable section
variable {S S' : Store} {k n : Nat} {R : Roads} {P : List (List Nat)}
local macro_rules
  | `(tactic| infer_instance) => `(tactic| simp only [ok_sret, ok_snext, ok_sbrk, ok_scnt, ok_sretN, ok_sseq, ok_sdrop, ok_sasg, ok_sif, ok_gn, ok_gcons, ok_gnil, ok_augS, ok_aug, ok_ttrue, ok_ttru, ok_tand, ok_tor, ok_tnot, ok_asb, ok_eand, ok_eor, ok_enot, ok_eif, ok_chain, ok_elst, ok_etup, ok_op1, ok_op2, ok_le, ok_lt, ok_gt, ok_ge, ok_sub, ok_addI, ok_max2, ok_fn, ok_fnx, ok_trub, ok_neg, ok_eqI, ok_neI, ok_eqA, ok_neA, ok_call, ok_bin, ok_acons, ok_anil, ok_c, ok_tof, ok_gtp', ok_mth, ok_gsub, ok_iseq, ok_seqT, ok_lenV, ok_lenT, ok_lenR, ok_isN, ok_isnt, ok_pure, ok_sumV, wip0, wip1, va0, va1, va2, va3, va4, va5, va6, va7, va8, va9, va10, va11, va12, List.set_cons_succ, List.set_cons_zero, List.map_cons, List.map_nil, List.length_cons, List.length_nil, List.replicate_succ, List.replicate_zero, List.cons_append, List.nil_append, if_true, if_false, Bool.false_eq_true, Bool.true_eq_false, Bool.not_true, Bool.not_false, Nat.reduceAdd, Nat.reduceSub, Nat.reduceEqDiff, Nat.reduceLeDiff])
theorem p_is_pair (a b : Int) : Ok (F_is_pair [vec [a, b]] S) fun d S' => d = .bl true ∧ Pre S S' := by
  refine ok_fnB ?_
  show Ok (b_is_pair [some (vec [a, b])] S) _
  unfold b_is_pair
  rw [ok_sret, ok_eand, ok_call, ok_acons, ok_var (d := vec [a, b]) rfl, ok_acons, ok_c, ok_anil, ok_op2, ok_isi (x := vec [a, b]) isi_tup, ok_asb, if_pos rfl, ok_bin, ok_call, ok_acons, ok_var (d := vec [a, b]) rfl, ok_anil, ok_op1, ok_lenV, ok_c, ok_eqI]
  exact ⟨rfl, .refl⟩
theorem p_is_size (h1 : 1 ≤ n) (h2 : n ≤ 10) : Ok (F_is_size [.int (iN n)] S) fun d S' => d = .bl true ∧ Pre S S' := by
  refine ok_fnB ?_
  show Ok (b_is_size [some (.int (iN n))] S) _
  unfold b_is_size
  rw [ok_sret, ok_eand, ok_fn, ok_acons, ok_var (d := .int (iN n)) rfl, ok_anil]
  refine (p_is_number _).pure fun S1 q1 => ?_
  rw [ok_asb, if_pos rfl, ok_chain, ok_c, ok_var (d := .int (iN n)) rfl, ok_le, ok_asb, if_pos (by simp [iN]; omega), ok_c, ok_le]
  exact ⟨by simp [iN]; omega, q1⟩
theorem p_is_road (r : Nat × Nat) (h1 : r.1 < r.2) (h2 : r.2 < n) : Ok (F_is_road [.int (iN n), rdD r] S) fun d S' => d = .bl true ∧ Pre S S' := by
  refine ok_fnB ?_
  show Ok (b_is_road [some (.int (iN n)), some (rdD r)] S) _
  unfold b_is_road
  rw [ok_sret, ok_eand, ok_fn, ok_acons, ok_var (d := rdD r) rfl, ok_anil]
  refine (p_is_pair (iN r.1) (iN r.2)).pure fun S1 q1 => ?_
  rw [ok_asb, if_pos rfl, ok_eand, ok_fn, ok_acons, ok_bin, ok_var (d := rdD r) rfl, ok_c]
  rw [show rdD r = .tup [.int (iN r.1), .int (iN r.2)] from rfl]
  rw [ok_ixT (u := 1) (j := 1) (e := .int (iN r.2)) rfl rfl, ok_acons, ok_var (d := .int (iN n)) rfl, ok_anil]
  refine (p_is_index _ _).pure fun S2 q2 => ?_
  rw [ok_asb, if_pos (by simp [iN]; omega), ok_fn, ok_acons, ok_bin, ok_var (d := .tup [.int (iN r.1), .int (iN r.2)]) rfl, ok_c, ok_ixT (u := 0) (j := 0) (e := .int (iN r.1)) rfl rfl, ok_acons, ok_bin, ok_var (d := .tup [.int (iN r.1), .int (iN r.2)]) rfl, ok_c, ok_ixT (u := 1) (j := 1) (e := .int (iN r.2)) rfl rfl, ok_anil]
  exact (p_is_index _ _).mono fun d S3 ⟨e, q3⟩ => ⟨by rw [e]; simp [iN]; omega, (q1.trans q2).trans q3⟩
def ltP (r q : Nat × Nat) : Prop := r.1 < q.1 ∨ (r.1 = q.1 ∧ r.2 < q.2)
/-- a web's roads: pairs of hands, strictly ascending -/
structure Web (n : Nat) (R : Roads) : Prop where
  n1 : 1 ≤ n
  n10 : n ≤ 10
  hand : ∀ r ∈ R, r.1 < r.2 ∧ r.2 < n
  asc : ∀ i (h : i + 1 < R.length), ltP (R[i]'(by omega)) R[i + 1]
theorem lexGt_two (a b c d : Int) : lexGt [a, b] [c, d] = decide (c < a ∨ (a = c ∧ d < b)) := by
  have e : lexGt [a, b] [c, d] = if decide (a = c) = true then (if decide (b = d) = true then decide (2 > 2) else decide (d < b)) else decide (c < a) := rfl
  rw [e]
  by_cases h1 : a = c
  · rw [if_pos (by simp [h1])]
    by_cases h2 : b = d
    · rw [if_pos (by simp [h2])]
      subst h1 h2; simp
    · rw [if_neg (by simp [h2])]
      subst h1
      simp
  · rw [if_neg (by simp [h1])]
    simp [h1]
theorem ok_slTake {δ : DL.Env} {i j : Nat} {ds : List D} {a : Nat} {Q : D → Store → Prop} (h1 : δ[i]? = some (some (.tup ds))) (h2 : δ[j]? = some (some (.int (iN a)))) : Ok (eSl (eVar i) oNone (oSome (eVar j)) δ S) Q = Q (.tup (ds.take a)) S := by
  unfold eSl oNone oSome
  simp only [ok_bnd, ok_ret, ok_var h1, ok_var h2]
  rw [show dSlice (.tup ds) none (some (iN a)) S = .ok (.tup (ds.take a)) S from by
    show Res.ok (D.tup (DL.cutD ds none (some (iN a)))) S = _
    rw [cut_take]]
  rfl
theorem ok_srcVN {p : List Nat} {k : Src → Store → Prop} : Ok (srcOf (vecN p) S) k = k ⟨p.map fun i => .int (iN i), fun _ => True⟩ S := by
  unfold vecN vec
  rw [ok_seqT, List.map_map]
  rfl
theorem ok_lenVN {p : List Nat} {Q : D → Store → Prop} : Ok (dLen (vecN p) S) Q = Q (.int (iN p.length)) S := by unfold vecN; rw [ok_lenV, List.length_map]
theorem ok_inVN {p : List Nat} {i : Nat} {Q : D → Store → Prop} : Ok (dInG false (.int (iN i)) (vecN p) S) Q = Q (.bl (decide (i ∈ p))) S := by unfold vecN; rw [ok_inV, mem_iN]
theorem ok_inVNa {p : List Nat} {i : Nat} {Q : D → Store → Prop} : Ok (dIn (.int (iN i)) (vecN p) S) Q = Q (.bl (decide (i ∈ p))) S := ok_inVN
theorem getLastD {α : Type} (l : List α) (h : l ≠ []) : ixN l.length (-1) = some (l.length - 1) := by
  have h0 : 0 < l.length := List.length_pos_iff.mpr h
  unfold ixN
  rw [if_neg (by omega), if_pos (by omega)]
  congr 1
  omega
theorem p_road_fits (w : Web n R) {i : Nat} (hi : i < R.length) : Ok (F_road_fits [.int (iN n), roadsD (R.take i), rdD R[i]] S) fun d S' => d = .bl true ∧ Pre S S' := by
  refine ok_fnB ?_
  unfold b_road_fits
  have hw := w.hand R[i] (List.getElem_mem hi)
  infer_instance
  refine (p_is_road R[i] hw.1 hw.2).pure fun S1 q1 => ?_
  unfold roadsD
  infer_instance
  rw [List.length_map, List.length_take]
  cases i with
  | zero => exact ⟨by simp, q1⟩
  | succ i =>
    have ha := w.asc i hi
    rw [if_neg (by simp only [decide_eq_true_eq]; omega)]
    have hne : (R.take (i + 1)).map rdD ≠ [] := by
      intro h
      have := congrArg List.length h
      rw [List.length_map, List.length_take, List.length_nil] at this
      omega
    rw [ok_ixT (getLastD _ hne) (e := rdD R[i]) (by rw [List.length_map, List.length_take, Nat.min_eq_left (by omega)]; simp [show i < R.length by omega])]
    rw [show Ok (dGtA (rdD R[i + 1]) (rdD R[i]) S1) = fun Q => Q (.bl (lexGt [iN R[i + 1].1, iN R[i + 1].2] [iN R[i].1, iN R[i].2])) S1 from rfl]
    dsimp only
    refine ⟨?_, q1⟩
    rw [lexGt_two]
    unfold ltP at ha
    congr 1
    simp only [iN, decide_eq_true_eq]
    omega
theorem p_bad_road (w : Web n R) : Ok (F_bad_road [.int (iN n), roadsD R] S) fun d S' => d = .non ∧ Pre S S' := by
  refine ok_fnB ?_
  unfold b_bad_road
  infer_instance
  rw [ok_sfor, ok_enumT (ds := R.map rdD) rfl]
  refine ok_for (fun items δ S' => ∃ (r : Roads) (i : Nat) (z1 z2 : Option D), items = enumD i (r.map rdD) ∧ δ = [some (.int (iN n)), some (roadsD R), z1, z2] ∧ r = R.drop i ∧ i + r.length = R.length ∧ Pre S S') ?_ ?_ _ _ _ ⟨R, 0, none, none, rfl, rfl, by simp, by simp, .refl⟩
  · rintro x r δ S1 ⟨r0, i, z1, z2, e, rfl, hr, hi, p1⟩
    cases r0 with
    | nil => cases e
    | cons y r0 =>
      cases e
      refine ⟨True.intro, ?_⟩
      have hii : i + (r0.length + 1) = R.length := by simpa using hi
      have hi' : i < R.length := by omega
      rw [List.drop_eq_getElem_cons hi'] at hr
      have hy : y = R[i] := (List.cons.inj hr).1
      have hr0 : r0 = R.drop (i + 1) := (List.cons.inj hr).2
      subst hy
      infer_instance
      rw [ok_slTake (ds := R.map rdD) (a := i) rfl rfl, ← List.map_take]
      refine (p_road_fits w hi').pure fun S2 q2 => ?_
      infer_instance
      exact ⟨r0, i + 1, _, _, rfl, rfl, hr0, by omega, p1.trans q2⟩
  · rintro δ S1 ⟨r0, i, z1, z2, e, rfl, hr, hi, p1⟩
    cases r0 with
    | cons y r0 => cases e
    | nil =>
      refine ⟨True.intro, ?_⟩
      infer_instance
      exact ⟨trivial, p1⟩
theorem p_check_web (w : Web n R) : Ok (F_check_web [.int (iN n), roadsD R] S) fun d S' => d = .non ∧ Pre S S' := by
  refine ok_fnX ?_
  show Ok (b_check_web [some (.int (iN n)), some (roadsD R), none] S) _
  unfold b_check_web
  rw [ok_sseq, ok_sif, ok_tnot, ok_ttru, ok_fn, ok_acons, ok_var (d := .int (iN n)) rfl, ok_anil]
  refine (p_is_size w.n1 w.n10).pure fun S1 q1 => ?_
  rw [ok_trub, if_neg (by simp), ok_snext]
  dsimp only
  rw [ok_sseq, ok_sasg, ok_fn, ok_acons, ok_var (d := .int (iN n)) rfl, ok_acons, ok_var (d := roadsD R) rfl, ok_anil]
  refine (p_bad_road w).pure fun S2 q2 => ?_
  rw [ok_gn]
  dsimp only
  rw [ok_sif, ok_tof, ok_bin, ok_var (d := .non) rfl, ok_c, ok_isnN, ok_asb, if_neg (by simp), ok_snext]
  exact ⟨rfl, q1.trans q2⟩
end
end Y
set_option Elab.async false
set_option linter.all false
set_option maxRecDepth 100000
namespace Y
open PySem PySem.Spec PyProof.Rows L2 DL
open Classical
noncomputable section
variable {S S' : Store} {k n : Nat} {R : Roads} {P : List (List Nat)}
/-- a hand is one of a road's -/
def inR (u : Int) (r : Nat × Nat) : Bool := decide (u ∈ [iN r.1, iN r.2])
def rdAt (R : Roads) (i : Nat) : Nat × Nat := R.getD i (0, 0)
def starB (R : Roads) (p : List Nat) : Bool := [iN (rdAt R (p.getD 0 0)).1, iN (rdAt R (p.getD 0 0)).2].any fun u => p.all fun i => inR u (rdAt R i)
def intOf : D → Int
  | .int u => u
  | _ => 0
theorem ok_road {i : Nat} {Q : D → Store → Prop} (hi : i < R.length) : Ok (dIx (roadsD R) (.int (iN i)) S) Q = Q (rdD (rdAt R i)) S := by
  unfold roadsD rdAt
  rw [ok_ixT (e := rdD R[i]) (ixN_lt (by simpa using hi)) (by rw [List.getElem?_map, List.getElem?_eq_getElem hi]; rfl), getD_at _ hi]
theorem ok_vecN {p : List Nat} {i : Nat} {Q : D → Store → Prop} (hi : i < p.length) : Ok (dIx (vecN p) (.int (iN i)) S) Q = Q (.int (iN (p.getD i 0))) S := by
  unfold vecN vec
  rw [ok_ixT (e := .int (iN p[i])) (ixN_lt (by simpa using hi)) (by simp [hi]), getD_at _ hi]
theorem p_is_star (p : List Nat) (hp : p ≠ []) (hr : ∀ x ∈ p, x < R.length) (hl : p.length ≤ 1000) : Ok (F_is_star [roadsD R, vecN p] S) fun d S' => d = .bl (starB R p) ∧ Pre S S' := by
  refine ok_fnB ?_
  show Ok (b_is_star [some (roadsD R), some (vecN p), none, none] S) _
  unfold b_is_star
  have hsz : sizeLine = 16777216 := rfl
  have h0 : 0 < p.length := List.length_pos_iff.mpr hp
  have hx : p.getD 0 0 < R.length := by rw [getD_at _ h0]; exact hr _ (List.getElem_mem h0)
  rw [ok_sret, ok_call, ok_acons]
  refine (ok_eLc (S := S) (fun z => some (.bl (p.all fun i => inR (intOf z) (rdAt R i)))) (items := [.int (iN (rdAt R (p.getD 0 0)).1), .int (iN (rdAt R (p.getD 0 0)).2)]) (l := fun _ => True) ?_ (by simp; omega) (fun _ _ => True.intro) ?_).mono ?_
  · rw [ok_iseq, ok_bin, ok_var (d := roadsD R) rfl, ok_bin, ok_var (d := vecN p) rfl, ok_c]
    rw [show (D.int 0) = .int (iN 0) from rfl, ok_vecN h0, ok_road hx]
    exact ⟨rfl, .refl⟩
  · intro z hz S2 q2
    obtain ⟨u, rfl⟩ : ∃ u, z = .int u := by
      rcases List.mem_cons.mp hz with h | h
      · exact ⟨_, h⟩
      · exact ⟨_, List.mem_singleton.mp h⟩
    rw [ok_gn]
    refine ⟨rfl, ?_⟩
    rw [ok_ttrue]
    refine ⟨.refl, rfl, ?_⟩
    rw [ok_call, ok_acons]
    refine (ok_eLc (S := S2) (fun z => some (.bl (inR u (rdAt R (natOf z))))) (items := (p.map iN).map D.int) (l := fun _ => True) ?_ (by simp; omega) (fun _ _ => True.intro) ?_).mono ?_
    · rw [ok_iseq, ok_var (d := vecN p) rfl]; exact ⟨rfl, .refl⟩
    · intro z hz S3 q3
      rw [List.map_map] at hz
      obtain ⟨i, hi, rfl⟩ := List.mem_map.mp hz
      show Ok (gN 3 (.int (iN i)) _ S3) _
      rw [ok_gn]
      refine ⟨rfl, ?_⟩
      rw [ok_ttrue]
      refine ⟨.refl, rfl, ?_⟩
      rw [ok_bin, ok_var (d := .int u) rfl, ok_bin, ok_var (d := roadsD R) rfl, ok_var (d := .int (iN i)) rfl, ok_road (hr i hi)]
      rw [show rdD (rdAt R i) = vec [iN (rdAt R i).1, iN (rdAt R i).2] from rfl, ok_inV]
      refine ⟨?_, .refl⟩
      show D.bl _ = D.bl (inR u (rdAt R (natOf (.int (iN i)))))
      rw [show natOf (.int (iN i)) = i by simp [natOf, iN]]
      rfl
    · rintro d S3 ⟨m, rfl, hm, pre, hg⟩
      have e : ((p.map iN).map D.int).filterMap (fun z => some (D.bl (inR u (rdAt R (natOf z))))) = (p.map fun i => inR u (rdAt R i)).map D.bl := by
        rw [List.map_map, List.map_map]; refine fm_all _ _ _ ?_ _; intro i
        show some (D.bl (inR u (rdAt R (natOf (.int (iN i)))))) = _
        rw [show natOf (.int (iN i)) = i by simp [natOf, iN]]; rfl
      rw [e] at hg
      rw [ok_anil, ok_op1, ok_allL hg]
      refine ⟨?_, pre⟩
      show D.bl _ = D.bl _
      rw [List.all_map]; rfl
  · rintro d S2 ⟨m, rfl, hm, pre, hg⟩
    have hg : S2[m]? = some (.lst (([iN (rdAt R (p.getD 0 0)).1, iN (rdAt R (p.getD 0 0)).2].map fun u => p.all fun i => inR u (rdAt R i)).map D.bl)) := hg
    rw [ok_anil, ok_op1, ok_anyL hg]
    refine ⟨?_, pre⟩
    show D.bl _ = D.bl _
    rw [List.any_map]; rfl
/-- the hands of some roads, each once -/
def handsOf (R : Roads) (p : List Nat) : List Int := p.foldl (fun acc i => [iN (rdAt R i).1, iN (rdAt R i).2].foldl addI acc) []
def triB (R : Roads) (p : List Nat) : Bool := decide ((p.length : Int) = 3) && decide (((handsOf R p).length : Int) = 3)
theorem s2L_is (hR : R.length ≤ 1000) : ∀ (p : List Nat) (acc : List Int), (∀ x ∈ p, x < R.length) → acc.length + 2 * p.length ≤ 3000 → s2L (R.map rdD) ((p.map iN).map D.int) acc = some (p.foldl (fun acc i => [iN (rdAt R i).1, iN (rdAt R i).2].foldl addI acc) acc)
  | [], acc, _, _ => rfl
  | x :: p, acc, hp, hl => by
    have hx := hp x List.mem_cons_self
    have e1 : ixN (R.map rdD).length (iN x) = some x := ixN_lt (by simpa using hx)
    have e2 : (R.map rdD)[x]? = some (.tup [.int (iN (rdAt R x).1), .int (iN (rdAt R x).2)]) := by
      rw [List.getElem?_map, List.getElem?_eq_getElem hx]
      show some (rdD R[x]) = some (rdD (rdAt R x))
      unfold rdAt
      rw [getD_at _ hx]
    have hsb : scanBound = 4096 := rfl
    have hf := foldl_addI_len [iN (rdAt R x).1, iN (rdAt R x).2] acc
    simp only [List.length_cons, List.length_nil] at hf hl
    simp only [List.map_cons, s2L, e1, e2]
    have e3 : dInts [D.int (iN (rdAt R x).1), D.int (iN (rdAt R x).2)] = some [iN (rdAt R x).1, iN (rdAt R x).2] := rfl
    simp only [e3]
    rw [if_pos (by simp; omega), s2L_is hR p _ (fun y hy => hp y (List.mem_cons_of_mem _ hy)) (by omega)]
    rfl
theorem p_is_triangle (p : List Nat) (hr : ∀ x ∈ p, x < R.length) (hR : R.length ≤ 1000) (hl : p.length ≤ 1000) : Ok (F_is_triangle [roadsD R, vecN p] S) fun d S' => d = .bl (triB R p) ∧ Pre S S' := by
  refine ok_fnB ?_
  show Ok (b_is_triangle [some (roadsD R), some (vecN p), none, none] S) _
  unfold b_is_triangle
  rw [ok_sret, ok_eand, ok_bin, ok_call, ok_acons, ok_var (d := vecN p) rfl, ok_anil, ok_op1]
  unfold vecN
  rw [ok_lenV, ok_c, ok_eqI, ok_asb, List.length_map]
  unfold triB
  cases h3 : decide ((p.length : Int) = 3) with
  | false => rw [if_neg (by simp)]; exact ⟨by simp, .refl⟩
  | true =>
    rw [if_pos rfl, ok_bin]
    have h3 := of_decide_eq_true h3
    have e : Ok (eLenS2 1 0 2 3 [some (roadsD R), some (vec (p.map iN)), none, none] S) = fun Q => Q (.int (((handsOf R p).length : Nat) : Int)) S := by
      funext Q
      have h := s2L_is hR p [] hr (by simp; omega)
      unfold eLenS2
      show Ok (if 2 < 4 ∧ 3 < 4 ∧ 1 ≠ 2 ∧ 1 ≠ 3 ∧ 0 ≠ 2 ∧ 0 ≠ 3 ∧ 2 ≠ 3 then match s2L (R.map rdD) ((p.map iN).map D.int) [] with | some acc => Res.ok (.int (acc.length : Nat)) S | none => .stuck else .stuck) Q = _
      rw [if_pos (by simp), h]
      rfl
    rw [e]
    dsimp only
    rw [ok_c, ok_eqI]
    exact ⟨by simp, .refl⟩
end
end Y
set_option Elab.async false
set_option linter.all false
set_option maxRecDepth 100000
namespace Y
open PySem PySem.Spec PyProof.Rows L2 DL
open Classical
noncomputable section
variable {S S' : Store} {k n : Nat} {R : Roads} {P : List (List Nat)}
local macro_rules
  | `(tactic| infer_instance) => `(tactic| simp only [ok_sret, ok_snext, ok_sbrk, ok_scnt, ok_sretN, ok_sseq, ok_sdrop, ok_sasg, ok_sif, ok_gn, ok_gcons, ok_gnil, ok_augS, ok_aug, ok_ttrue, ok_ttru, ok_tand, ok_tor, ok_tnot, ok_asb, ok_eand, ok_eor, ok_enot, ok_eif, ok_chain, ok_elst, ok_etup, ok_op1, ok_op2, ok_le, ok_lt, ok_gt, ok_ge, ok_sub, ok_addI, ok_max2, ok_fn, ok_fnx, ok_trub, ok_neg, ok_eqI, ok_neI, ok_eqA, ok_neA, ok_call, ok_bin, ok_acons, ok_anil, ok_c, ok_tof, ok_gtp', ok_mth, ok_gsub, ok_iseq, ok_seqT, ok_lenV, ok_lenT, ok_lenR, ok_isN, ok_isnt, ok_pure, ok_sumV, wip0, wip1, va0, va1, va2, va3, va4, va5, va6, va7, va8, va9, va10, va11, va12, List.set_cons_succ, List.set_cons_zero, List.map_cons, List.map_nil, List.length_cons, List.length_nil, List.replicate_succ, List.replicate_zero, List.cons_append, List.nil_append, if_true, if_false, Bool.false_eq_true, Bool.true_eq_false, Bool.not_true, Bool.not_false, Nat.reduceAdd, Nat.reduceSub, Nat.reduceEqDiff, Nat.reduceLeDiff, ok_srcVN, ok_lenVN, ok_inVN, ok_inVNa])
structure PartOk (R : Roads) (p : List Nat) : Prop where
  ne : p ≠ []
  asc : Asc (-1) (p.map iN)
  lt : ∀ x ∈ p, x < R.length
  form : (starB R p || triB R p) = true
  len : p.length ≤ 1000
theorem p_is_part (p : List Nat) (w : PartOk R p) (hR : R.length ≤ 1000) : Ok (F_is_part [roadsD R, vecN p] S) fun d S' => d = .bl true ∧ Pre S S' := by
  refine ok_fnB ?_
  show Ok (b_is_part [some (roadsD R), some (vecN p)] S) _
  unfold b_is_part
  have h0 : 0 < p.length := List.length_pos_iff.mpr w.ne
  rw [ok_sseq, ok_sif, ok_tor, ok_tnot, ok_ttru, ok_fn, ok_acons, ok_var (d := vecN p) rfl, ok_acons, ok_call, ok_acons, ok_var (d := roadsD R) rfl, ok_anil, ok_op1]
  rw [show Ok (dLen (roadsD R) S) = fun Q => Q (.int (iN R.length)) S from by funext Q; unfold roadsD; rw [ok_lenT, List.length_map]]
  dsimp only
  rw [ok_anil]
  refine (p_is_rising (p.map iN) (iN R.length) w.asc (fun x hx => ?_)).pure fun S1 q1 => ?_
  · obtain ⟨y, hy, rfl⟩ := List.mem_map.mp hx
    have := w.lt y hy
    simp [iN]; omega
  rw [ok_trub, if_neg (by simp), ok_tof, ok_bin, ok_call, ok_acons, ok_var (d := vecN p) rfl, ok_anil, ok_op1]
  unfold vecN
  rw [ok_lenV, ok_c, ok_eqI, ok_asb, List.length_map, if_neg (by simp; exact w.ne), ok_snext]
  dsimp only
  rw [ok_sret, ok_eor, ok_fn, ok_acons, ok_var (d := roadsD R) rfl, ok_acons, ok_var (d := vec (p.map iN)) rfl, ok_anil]
  refine (p_is_star p w.ne w.lt w.len).pure fun S2 q2 => ?_
  rw [ok_asb]
  cases hs : starB R p with
  | true => rw [if_pos rfl]; exact ⟨rfl, q1.trans q2⟩
  | false =>
    have ht : triB R p = true := by have := w.form; rw [hs] at this; simpa using this
    rw [if_neg (by simp), ok_fn, ok_acons, ok_var (d := roadsD R) rfl, ok_acons, ok_var (d := vec (p.map iN)) rfl, ok_anil]
    exact (p_is_triangle p w.lt hR w.len).mono fun d S3 ⟨e, q3⟩ => ⟨by rw [e, ht], (q1.trans q2).trans q3⟩
structure Parts (R : Roads) (P : List (List Nat)) : Prop where
  ok : ∀ p ∈ P, PartOk R p
  firsts : ∀ i (h : i + 1 < P.length), (P[i]'(by omega)).getD 0 0 < (P[i + 1]).getD 0 0
  nd : P.flatten.Nodup
  all : R.length ≤ P.flatten.length
  len : P.flatten.length ≤ 1000
theorem Parts.flat (w : Parts R P) {i : Nat} (hi : i < P.length) : ∀ x ∈ P[i], ∀ p ∈ P.take i, x ∉ p := by
  intro x hx p hp hxp
  have nd := w.nd
  have e : P = P.take i ++ (P[i] :: P.drop (i + 1)) := by rw [← List.drop_eq_getElem_cons hi, List.take_append_drop]
  rw [e, List.flatten_append, List.flatten_cons] at nd
  exact (List.nodup_append.mp nd).2.2 x (List.mem_flatten.mpr ⟨p, hp, hxp⟩) x (List.mem_append_left _ hx) rfl
theorem p_part_fits (w : Parts R P) (hR : R.length ≤ 1000) {i : Nat} (hi : i < P.length) : Ok (F_part_fits [roadsD R, partsD (P.take i), vecN P[i]] S) fun d S' => d = .bl true ∧ Pre S S' := by
  refine ok_fnB ?_
  unfold b_part_fits
  have hsz : sizeLine = 16777216 := rfl
  have wp := w.ok P[i] (List.getElem_mem hi)
  have h0 : 0 < P[i].length := List.length_pos_iff.mpr wp.ne
  have hPl : P.length ≤ 1000 := by
    have h1 : ∀ (L : List (List Nat)), (∀ p ∈ L, p ≠ []) → L.length ≤ L.flatten.length := fun L => by
      induction L with
      | nil => intro _; simp
      | cons a L ih =>
        intro h
        have ha := List.length_pos_iff.mpr (h a List.mem_cons_self)
        have := ih fun p hp => h p (List.mem_cons_of_mem _ hp)
        simp at this ⊢
        omega
    have := h1 P fun p hp => (w.ok p hp).ne
    have := w.len
    omega
  infer_instance
  refine (p_is_part P[i] wp hR).pure fun S1 q1 => ?_
  infer_instance
  unfold partsD
  infer_instance
  rw [List.length_map, List.length_take]
  -- the last step
  have last : Ok (eLc2 (iSeq (eVar 1)) (gN 3) tTrue (iSeq (eVar 2)) (gN 4) tTrue (eBin dIn (eVar 4) (eVar 3)) [3, 4] [4] [some (roadsD R), some (.tup ((P.take i).map vecN)), some (vecN P[i]), none, none] S1) fun x S2 => Ok (dAny x S2) fun x S3 => Ok (asB x S3) fun k S4 => (D.bl !k) = .bl true ∧ Pre S S4 := by
    refine ok_lc2M (P.take i) vecN (fun _ => P[i]) (fun _ j => .int (iN j)) (fun p j => .bl (decide (j ∈ p))) P[i].length (l := fun _ => True) ?_ ?_ (fun _ _ => True.intro) (fun _ _ => Nat.le_refl _) ?_ ?_
    · infer_instance
      exact ⟨trivial, .refl⟩
    · have := wp.len
      have h2 : (P.take i).length ≤ 1000 := by rw [List.length_take]; omega
      exact Nat.le_trans (Nat.mul_le_mul h2 this) (by omega)
    · intro p hp S2 q2
      infer_instance
      refine ⟨trivial, _, rfl, .refl, fun _ _ => True.intro, ?_⟩
      intro j hj S3 q3
      exact ⟨trivial, trivial, .refl⟩
    · intro n S2 hn q2 hg
      have e : ((P.take i).flatMap fun p => P[i].map fun j => D.bl (decide (j ∈ p))) = ((P.take i).flatMap fun p => P[i].map fun j => decide (j ∈ p)).map D.bl := by
        rw [List.map_flatMap]; simp only [List.map_map, Function.comp_def]
      rw [e] at hg
      rw [ok_anyL hg]
      infer_instance
      refine ⟨?_, q1.trans q2⟩
      congr 1
      rw [Bool.not_eq_true', List.any_eq_false]
      intro b hb
      obtain ⟨p, hp, hb⟩ := List.mem_flatMap.mp hb
      obtain ⟨j, hj, rfl⟩ := List.mem_map.mp hb
      simp only [id, decide_eq_true_eq]
      exact w.flat hi j hj p hp
  cases i with
  | zero =>
    rw [if_neg (by simp)]
    exact last
  | succ i =>
    have hf := w.firsts i hi
    have wq := w.ok P[i] (List.getElem_mem (by omega))
    have hq0 : 0 < P[i].length := List.length_pos_iff.mpr wq.ne
    have hne : (P.take (i + 1)).map vecN ≠ [] := by
      intro h
      have := congrArg List.length h
      rw [List.length_map, List.length_take, List.length_nil] at this
      omega
    rw [if_pos (by simp only [decide_eq_true_eq]; omega)]
    rw [show (D.int 0) = .int (iN 0) from rfl, ok_vecN h0]
    rw [ok_ixT (getLastD _ hne) (e := vecN P[i]) (by rw [List.length_map, List.length_take, Nat.min_eq_left (by omega)]; simp [show i < P.length by omega])]
    rw [ok_vecN hq0]
    infer_instance
    rw [if_neg (by simp only [iN, decide_eq_true_eq]; omega)]
    exact last
theorem sum_len {α : Type} (L : List (List α)) : (L.map fun p => (iN p.length)).sum = iN L.flatten.length := by
  induction L with
  | nil => rfl
  | cons a L ih => rw [List.map_cons, List.sum_cons, ih, List.flatten_cons, List.length_append]; simp [iN]
theorem p_all_taken (w : Parts R P) (hR : R.length ≤ 1000) (hlt : P.flatten.length ≤ R.length) : Ok (F_all_taken [roadsD R, partsD P] S) fun d S' => d = .bl true ∧ Pre S S' := by
  refine ok_fnB ?_
  unfold b_all_taken
  have hsz : sizeLine = 16777216 := rfl
  infer_instance
  refine ok_lcM P vecN (fun p => .int (iN p.length)) (l := fun _ => True) ?_ ?_ (fun _ _ => True.intro) ?_ ?_
  · unfold partsD
    infer_instance
    exact ⟨trivial, .refl⟩
  · have h1 : ∀ (L : List (List Nat)), (∀ p ∈ L, p ≠ []) → L.length ≤ L.flatten.length := fun L => by
      induction L with
      | nil => intro _; simp
      | cons a L ih =>
        intro h
        have ha := List.length_pos_iff.mpr (h a List.mem_cons_self)
        have := ih fun p hp => h p (List.mem_cons_of_mem _ hp)
        simp at this ⊢
        omega
    have := h1 P fun p hp => (w.ok p hp).ne
    omega
  · intro p hp S2 q2
    infer_instance
    exact ⟨trivial, trivial, .refl⟩
  · intro n S2 hn q2 hg
    have e : (P.map fun p => D.int (iN p.length)) = (P.map fun p => iN p.length).map D.int := by rw [List.map_map]; rfl
    rw [e] at hg
    rw [ok_sumL hg]
    unfold roadsD
    infer_instance
    refine ⟨?_, q2⟩
    rw [sum_len, List.length_map, Nat.le_antisymm hlt w.all]
    simp [iN]
theorem p_bad_part (w : Parts R P) (hR : R.length ≤ 1000) : Ok (F_bad_part [roadsD R, partsD P] S) fun d S' => d = .non ∧ Pre S S' := by
  refine ok_fnB ?_
  unfold b_bad_part
  infer_instance
  rw [ok_sfor, ok_enumT (ds := P.map vecN) rfl]
  refine ok_for (fun items δ S' => ∃ (r : List (List Nat)) (i : Nat) (z1 z2 : Option D), items = enumD i (r.map vecN) ∧ δ = [some (roadsD R), some (partsD P), z1, z2] ∧ r = P.drop i ∧ i + r.length = P.length ∧ Pre S S') ?_ ?_ _ _ _ ⟨P, 0, none, none, rfl, rfl, by simp, by simp, .refl⟩
  · rintro x r δ S1 ⟨r0, i, z1, z2, e, rfl, hr, hi, p1⟩
    cases r0 with
    | nil => cases e
    | cons y r0 =>
      cases e
      refine ⟨True.intro, ?_⟩
      have hii : i + (r0.length + 1) = P.length := by simpa using hi
      have hi' : i < P.length := by omega
      rw [List.drop_eq_getElem_cons hi'] at hr
      have hy : y = P[i] := (List.cons.inj hr).1
      have hr0 : r0 = P.drop (i + 1) := (List.cons.inj hr).2
      subst hy
      infer_instance
      rw [ok_slTake (ds := P.map vecN) (a := i) rfl rfl, ← List.map_take]
      refine (p_part_fits w hR hi').pure fun S2 q2 => ?_
      infer_instance
      exact ⟨r0, i + 1, _, _, rfl, rfl, hr0, by omega, p1.trans q2⟩
  · rintro δ S1 ⟨r0, i, z1, z2, e, rfl, hr, hi, p1⟩
    cases r0 with
    | cons y r0 => cases e
    | nil =>
      refine ⟨True.intro, ?_⟩
      infer_instance
      refine (p_all_taken w hR ?_).pure fun S2 q2 => ?_
      · have := List.Nodup.length_le_of_subset w.nd (l₂ := List.range R.length) fun x hx => by
          obtain ⟨p, hp, hx⟩ := List.mem_flatten.mp hx
          exact List.mem_range.mpr ((w.ok p hp).lt x hx)
        simpa using this
      · exact ⟨trivial, p1.trans q2⟩
end
end Y
set_option Elab.async false
set_option linter.all false
set_option maxRecDepth 100000
namespace Y
open PySem PySem.Spec PyProof.Rows L2 DL
open Classical
noncomputable section
variable {S S' : Store} {k n : Nat} {R : Roads} {P : List (List Nat)}
theorem sn1 : ¬ (("n" : Str) = "roads") := by decide +kernel
theorem sn2 : ¬ (("n" : Str) = "parts") := by decide +kernel
theorem sn3 : ¬ (("roads" : Str) = "parts") := by decide +kernel
theorem ok_sfld {c i j : Nat} {nm : Str} {fs : List (Str × D)} {d : D} {δ : DL.Env} {O : Out → Store → Prop} (h : S[k]? = some (.ins c fs)) (hl : fs.length < 1000) (hi : δ[i]? = some (some (.loc k))) (hj : δ[j]? = some (some d)) :
    Ok (sFldD c nm (eVar i) (eVar j) δ S) O = O (.nx δ) (S.set k (.ins c (putFD nm d fs))) := by
  unfold sFldD
  simp only [ok_bnd, ok_var hi, ok_var hj, h]
  rw [if_pos ⟨trivial, hl⟩]
  rfl
theorem ok_make {c : Nat} {F : OpN} {t : SA} {δ : DL.Env} {Q : D → Store → Prop} : Ok (eMake c F t δ S) Q = Ok (t δ S) fun ds S1 => Ok (F (.loc S1.length :: ds) (S1 ++ [.ins c []])) fun r S2 => match r with
    | .non => Q (.loc S1.length) S2
    | _ => False := by
  unfold eMake
  rw [ok_bnd]
  congr 1; funext ds S1
  rw [ok_bnd, ok_noX]
  congr 1; funext r S2
  cases r <;> rfl
theorem p_init : Ok (F_House___init__ [.loc S.length, .int (iN n), roadsD R, partsD P] (S ++ [.ins 0 []])) fun d S' => d = .non ∧ S' = S ++ [houseO n R P] := by
  show Ok (gc (noX (runB 4 b_House___init__ [.loc S.length, .int (iN n), roadsD R, partsD P])) _) _
  refine ok_gc ?_
  rw [ok_noX]
  unfold runB
  rw [ok_bnd]
  show Ok (b_House___init__ [some (.loc S.length), some (.int (iN n)), some (roadsD R), some (partsD P)] (S ++ [.ins 0 []])) _
  unfold b_House___init__
  have g0 : (S ++ [MO.ins 0 []])[S.length]? = some (.ins 0 []) := by simp
  have st : ∀ (o o' : MO), (S ++ [o]).set S.length o' = S ++ [o'] := fun o o' => by simp
  have gg : ∀ (o : MO), (S ++ [o])[S.length]? = some o := fun o => by simp
  rw [ok_sseq, ok_sfld (k := S.length) g0 (by simp) rfl (d := .int (iN n)) rfl, st]
  dsimp only
  rw [show putFD "n" (D.int (iN n)) [] = [(("n" : Str), D.int (iN n))] from rfl]
  rw [ok_sseq, ok_sfld (k := S.length) (gg _) (by simp) rfl (d := roadsD R) rfl, st]
  dsimp only
  have e1 : putFD "roads" (roadsD R) [(("n" : Str), D.int (iN n))] = [(("n" : Str), D.int (iN n)), ("roads", roadsD R)] := by
    simp only [putFD, if_neg sn1]
  rw [e1, ok_sfld (k := S.length) (gg _) (by simp) rfl (d := partsD P) rfl, st]
  have e2 : putFD "parts" (partsD P) [(("n" : Str), D.int (iN n)), ("roads", roadsD R)] = [(("n" : Str), D.int (iN n)), ("roads", roadsD R), ("parts", partsD P)] := by
    simp only [putFD, if_neg sn2, if_neg sn3]
  rw [e2]
  exact ⟨⟨rfl, rfl⟩, fun _ _ => ⟨rfl, by rw [List.take_of_length_le (by simp)]; rfl⟩⟩
theorem p_house (w : Web n R) (v : Parts R P) (hR : R.length ≤ 1000) : Ok (F_house [.int (iN n), roadsD R, partsD P] S) fun d S' => ∃ k, d = .loc k ∧ S.length ≤ k ∧ Pre S S' ∧ S'[k]? = some (houseO n R P) := by
  show Ok (gc (runB 4 b_house [.int (iN n), roadsD R, partsD P]) _) _
  have main : Ok (runB 4 b_house [.int (iN n), roadsD R, partsD P] S) fun d S' => ∃ k, d = .loc k ∧ S.length ≤ k ∧ Pre S S' ∧ S'[k]? = some (houseO n R P) := by
    unfold runB
    rw [ok_bnd]
    show Ok (b_house [some (.int (iN n)), some (roadsD R), some (partsD P), none] S) _
    unfold b_house
    rw [ok_sseq, ok_sdrop, ok_fnx, ok_acons, ok_var (d := .int (iN n)) rfl, ok_acons, ok_var (d := roadsD R) rfl, ok_anil]
    refine (p_check_web w).pure fun S1 q1 => ?_
    dsimp only
    rw [ok_sseq, ok_sasg, ok_fn, ok_acons, ok_var (d := roadsD R) rfl, ok_acons, ok_var (d := partsD P) rfl, ok_anil]
    refine (p_bad_part v hR).pure fun S2 q2 => ?_
    rw [ok_gn]
    dsimp only
    rw [ok_sseq, ok_sif, ok_tof, ok_bin, ok_var (d := .non) rfl, ok_c, ok_isnN, ok_asb, if_neg (by simp), ok_snext]
    dsimp only
    rw [ok_sret, ok_make, ok_acons, ok_var (d := .int (iN n)) rfl, ok_acons, ok_var (d := roadsD R) rfl, ok_acons, ok_var (d := partsD P) rfl, ok_anil]
    refine p_init.mono fun d S3 ⟨e1, e2⟩ => ?_
    subst e1 e2
    exact ⟨S2.length, rfl, (q1.trans q2).len, (q1.trans q2).push, by simp⟩
  refine ok_gc ?_
  refine main.mono fun d S' ⟨k, e, h1, h2, h3⟩ => ⟨⟨k, e, h1, h2, h3⟩, fun _ lo => ?_⟩
  subst e
  exact absurd lo (Nat.not_lt.mpr h1)
end
end Y
set_option Elab.async false
set_option linter.all false
set_option maxRecDepth 100000
namespace Y
open PySem PySem.Spec PyProof.Rows L2 DL
open Classical
noncomputable section
variable {S S' S1 S2 : Store} {m : Nat}
/-- the source of draws stands at m -/
def SrcAt (m : Nat) (S : Store) : Prop := ∃ a b : Int, S[m]? = some (.lst [.int a, .int b]) ∧ 0 ≤ b ∧ b < 2147483647
/-- all but the source is as it was, things may have been added -/
structure Keeps (m : Nat) (S S' : Store) : Prop where
  len : S.length ≤ S'.length
  old : ∀ j o, j ≠ m → S[j]? = some o → S'[j]? = some o
  src : SrcAt m S'
theorem SrcAt.lt (h : SrcAt m S) : m < S.length := let ⟨_, _, e, _⟩ := h; (List.getElem?_eq_some_iff.mp e).1
theorem Keeps.refl (h : SrcAt m S) : Keeps m S S := ⟨Nat.le_refl _, fun _ _ _ e => e, h⟩
theorem Keeps.trans (h : Keeps m S S1) (k : Keeps m S1 S2) : Keeps m S S2 := ⟨Nat.le_trans h.len k.len, fun j o hj e => k.old j o hj (h.old j o hj e), k.src⟩
theorem Keeps.pre (h : SrcAt m S) (p : Pre S S1) : Keeps m S S1 := ⟨p.len, fun _ _ _ e => p.get e, let ⟨a, b, e, hb⟩ := h; ⟨a, b, p.get e, hb⟩⟩
theorem Keeps.set (h : Keeps m S S1) {a b : Int} (h0 : 0 ≤ b) (h1 : b < 2147483647) : Keeps m S (S1.set m (.lst [.int a, .int b])) :=
  ⟨by simpa using h.len, fun j o hj e => by rw [List.getElem?_set_ne (Ne.symm hj)]; exact h.old j o hj e, a, b, set_get h.src.lt, h0, h1⟩
theorem Keeps.take (hs : m < S.length) (h : Keeps m S S1) : Keeps m S (S1.take S.length) := by
  have hl : ∀ j, j < S.length → (S1.take S.length)[j]? = S1[j]? := fun j hj => by rw [List.getElem?_take_of_lt hj]
  refine ⟨by rw [List.length_take]; have := h.len; omega, fun j o hj e => ?_, ?_⟩
  · rw [hl j (List.getElem?_eq_some_iff.mp e).1]; exact h.old j o hj e
  · obtain ⟨a, b, e, hb⟩ := h.src
    exact ⟨a, b, by rw [hl m hs]; exact e, hb⟩
/-- a def that draws and tells what is no object -/
theorem ok_fnK {n : Nat} {body : SS} {ds : List D} {Q : D → Prop} (hs : m < S.length) (h : Ok (body (ds.map some ++ List.replicate (n - ds.length) none) S) fun o S' => (match o with | .nx _ => Q .non | .rt d => Q d | _ => False) ∧ Keeps m S S') :
    Ok (fnB n body ds S) fun d S' => Q d ∧ Keeps m S S' := by
  unfold fnB
  refine ok_gc ?_
  rw [ok_noX]
  unfold runB
  rw [ok_bnd]
  refine h.mono fun o S' ⟨p, q⟩ => ?_
  cases o with
  | nx δ => exact ⟨⟨p, q⟩, fun _ _ => ⟨p, q.take hs⟩⟩
  | rt d => exact ⟨⟨p, q⟩, fun _ _ => ⟨p, q.take hs⟩⟩
  | bk δ => exact p.elim
  | ct δ => exact p.elim
theorem ok_int {u : Int} {Q : D → Store → Prop} : Ok (dInt (.int u) S) Q = Q (.int u) S := rfl
theorem ok_mulI {u v : Int} {Q : D → Store → Prop} (h : CMul u v) : Ok (dMulT (.int u) (.int v) S) Q = Q (.int (u * v)) S := by
  show Ok (dMul (.int u) (.int v) S) Q = _
  unfold dMul; simp only [if_pos h]; rfl
theorem ok_addII {u v : Int} {Q : D → Store → Prop} : Ok (dAdd (.int u) (.int v) S) Q = Q (.int (u + v)) S := rfl
theorem ok_fdiv {u v : Int} {Q : D → Store → Prop} (h : CDiv u v) : Ok (dFdiv (.int u) (.int v) S) Q = Q (.int (u / v)) S := by simp [dFdiv, iOp, ok_ok, h]
theorem p_take (t : Int) (hs : SrcAt m S) (h0 : 0 < t) (h1 : t ≤ 1000000000) : Ok (F__law_take [.loc m, .int t] S) fun d S' => (∃ u : Nat, d = .int (iN u) ∧ (u : Int) < t) ∧ Keeps m S S' := by
  refine ok_fnK hs.lt ?_
  show Ok (b__law_take [some (.loc m), some (.int t), none] S) _
  have hk := Keeps.refl hs
  obtain ⟨a, b, e, hb0, hb1⟩ := hs
  have hnat : ∀ z : Int, ∃ u : Nat, D.int (z % t) = .int (iN u) ∧ (u : Int) < t := fun z => by
    have g1 := Int.emod_nonneg z (show t ≠ 0 by omega)
    have g2 := Int.emod_lt_of_pos z h0
    exact ⟨(z % t).toNat, by simp only [iN]; rw [Int.toNat_of_nonneg g1], by omega⟩
  unfold b__law_take
  rw [ok_sseq, ok_sif, ok_tof, ok_bin, ok_bin, ok_var (d := .loc m) rfl, ok_c, ok_ixL (u := 0) (j := 0) (e := .int a) e rfl rfl, ok_c, ok_gt, ok_asb]
  by_cases ha : 0 < a
  · rw [if_pos (by simp [ha]), ok_sseq, ok_sasg, ok_bin, ok_call, ok_acons, ok_bin, ok_var (d := .loc m) rfl, ok_c, ok_ixL (u := 0) (j := 0) (e := .int a) e rfl rfl, ok_anil, ok_op1, ok_int, ok_var (d := .int t) rfl, ok_mod h0, ok_gn]
    dsimp only
    rw [ok_sseq, ok_sasg, ok_bin, ok_bin, ok_var (d := .loc m) rfl, ok_c, ok_ixL (u := 0) (j := 0) (e := .int a) e rfl rfl, ok_var (d := .int t) rfl, ok_fdiv ⟨h0, by omega⟩, ok_gsub, ok_var (d := .loc m) rfl, ok_c, ok_setL (u := 0) (j := 0) e rfl]
    dsimp only
    rw [ok_sret, ok_var (d := .int (a % t)) rfl]
    exact ⟨hnat a, hk.set hb0 hb1⟩
  · rw [if_neg (by simp [ha]), ok_snext]
    dsimp only
    rw [ok_sseq, ok_sasg, ok_bin, ok_call, ok_acons, ok_bin, ok_bin, ok_bin, ok_var (d := .loc m) rfl, ok_c, ok_ixL (u := 1) (j := 1) (e := .int b) e rfl rfl, ok_c, ok_mulI (.inr (by omega)), ok_c, ok_addII, ok_anil, ok_op1, ok_int, ok_c, ok_mod (by omega), ok_gsub, ok_var (d := .loc m) rfl, ok_c, ok_setL (u := 1) (j := 1) e rfl]
    dsimp only
    have c0 : 0 ≤ (b * 39373 + 7) % 2147483647 := Int.emod_nonneg _ (by omega)
    have c1 : (b * 39373 + 7) % 2147483647 < 2147483647 := Int.emod_lt_of_pos _ (by omega)
    generalize (b * 39373 + 7) % 2147483647 = c at c0 c1 ⊢
    have e2 : (S.set m (.lst ([D.int a, D.int b].set 1 (.int c))))[m]? = some (.lst [.int a, .int c]) := set_get (List.getElem?_eq_some_iff.mp e).1
    rw [ok_sret, ok_bin, ok_call, ok_acons, ok_bin, ok_bin, ok_call, ok_acons, ok_bin, ok_bin, ok_var (d := .loc m) rfl, ok_c, ok_ixL (u := 1) (j := 1) (e := .int c) e2 rfl rfl, ok_bin, ok_var (d := .loc m) rfl, ok_c, ok_ixL (u := 1) (j := 1) (e := .int c) e2 rfl rfl, ok_mulI (.inr (by omega)), ok_anil, ok_op1, ok_int, ok_c, ok_mod (by omega), ok_c, ok_fdiv ⟨by omega, by omega⟩, ok_anil, ok_op1, ok_int, ok_var (d := .int t) rfl, ok_mod h0]
    exact ⟨hnat _, hk.set c0 c1⟩
end
end Y
set_option Elab.async false
set_option linter.all false
set_option maxRecDepth 100000
namespace Y
open PySem PySem.Spec PyProof.Rows L2 DL
open Classical
noncomputable section
variable {S S' S1 S2 : Store} {m k n : Nat} {R : Roads} {P : List (List Nat)}
theorem ok_lenR {ds : List D} {Q : D → Store → Prop} : Ok (dLen (.rol ds) S) Q = Q (.int (ds.length : Nat)) S := rfl
theorem ok_truR {ds : List D} {B : Bool → Store → Prop} : Ok (dTru (.rol ds) S) B = B (!ds.isEmpty) S := rfl
theorem ok_ixR {ds : List D} {u : Int} {j : Nat} {e : D} {Q : D → Store → Prop} (h1 : ixN ds.length u = some j) (h2 : ds[j]? = some e) : Ok (dIx (.rol ds) (.int u) S) Q = Q e S := by
  have : atI ds u = some e := by unfold atI; rw [h1]; exact h2
  unfold dIx; simp only [this, ok_ok]
theorem ok_intB {b : Bool} {Q : D → Store → Prop} : Ok (dInt (.bl b) S) Q = Q (.int (if b then 1 else 0)) S := rfl
theorem ok_pow {u v : Int} {Q : D → Store → Prop} (h : CPow u v) : Ok (dPow (.int u) (.int v) S) Q = Q (.int (u ^ v.toNat)) S := by simp [dPow, iOp, ok_ok, h]
theorem p_pool (ns : List Int) (hn : ns.length ≤ 63) (k : Nat) (hk : k ≤ 10) : Ok (F__law_pool [.rol (ns.map D.int), .int (iN k)] S) fun d S' => ∃ m, d = .loc m ∧ S.length ≤ m ∧ Pre S S' ∧ SrcAt m S' := by
  show Ok (gc (noX (runB 5 b__law_pool [.rol (ns.map D.int), .int (iN k)])) _) _
  have hki : 0 ≤ iN k ∧ iN k ≤ 10 := by simp only [iN]; omega
  have main : Ok (runB 5 b__law_pool [.rol (ns.map D.int), .int (iN k)] S) fun d S' => ∃ m, d = .loc m ∧ S.length ≤ m ∧ Pre S S' ∧ SrcAt m S' := by
    unfold runB
    rw [ok_bnd]
    show Ok (b__law_pool [some (.rol (ns.map D.int)), some (.int (iN k)), none, none, none] S) _
    unfold b__law_pool
    rw [ok_sseq, ok_sasg, ok_c, ok_gn]
    dsimp only
    -- the cell
    have rest : ∀ cell : Int, Ok (sSeq (sAsg (eCall (dMax) (aCons (eCall (op1 dInt) (aCons (eVar 2) (aNil))) (aCons (eCall (op1 dInt) (aCons (eBin dSub (eNeg (eC (.int 1))) (eVar 2)) (aNil))) (aNil)))) (gN 3)) (sSeq (sAsg (eBin dMod (eCall (op1 dInt) (aCons (eBin dMulT (eBin dAdd (eBin dAdd (eBin dAdd (eBin dMod (eCall (op1 dInt) (aCons (eVar 3) (aNil))) (eC (.int 2147483629))) (eBin dMulT (eBin dMulT (eC (.int 7919)) (eVar 1)) (eVar 1))) (eBin dMulT (eC (.int 31)) (eVar 1))) (eC (.int 17))) (eC (.int 48271))) (aNil))) (eC (.int 2147483647))) (gN 4)) (sRet (eLst (aCons (eBin dMulT (eVar 3) (eCall (op1 dInt) (aCons (eBin dGeA (eVar 3) (eBin dPow (eC (.int 10)) (eC (.int 18)))) (aNil)))) (aCons (eVar 4) (aNil)))))) [some (.rol (ns.map D.int)), some (.int (iN k)), some (.int cell), none, none] S) fun o S' => Ok ((match o with
        | .nx _ => ret .non
        | .rt d => ret d
        | _ => stuck : M D) S') fun d S' => ∃ m, d = .loc m ∧ S.length ≤ m ∧ Pre S S' ∧ SrcAt m S' := fun cell => by
      rw [ok_sseq, ok_sasg, ok_call, ok_acons, ok_call, ok_acons, ok_var (d := .int cell) rfl, ok_anil, ok_op1, ok_int, ok_acons, ok_call, ok_acons, ok_bin, ok_neg, ok_var (d := .int cell) rfl, ok_sub, ok_anil, ok_op1, ok_int, ok_anil, ok_max2, ok_gn]
      dsimp only
      generalize max cell (-1 - cell) = big
      rw [ok_sseq, ok_sasg, ok_bin, ok_call, ok_acons, ok_bin, ok_bin, ok_bin, ok_bin, ok_bin, ok_call, ok_acons, ok_var (d := .int big) rfl, ok_anil, ok_op1, ok_int, ok_c, ok_mod (by omega), ok_bin, ok_bin, ok_c, ok_var (d := .int (iN k)) rfl, ok_mulI (.inr (by omega)), ok_var (d := .int (iN k)) rfl, ok_mulI (.inr (by omega)), ok_addII, ok_bin, ok_c, ok_var (d := .int (iN k)) rfl, ok_mulI (.inr (by omega)), ok_addII, ok_c, ok_addII, ok_c, ok_mulI (.inr (by omega)), ok_anil, ok_op1, ok_int, ok_c, ok_mod (by omega), ok_gn]
      dsimp only
      have c0 : 0 ≤ ((big % 2147483629 + 7919 * iN k * iN k + 31 * iN k + 17) * 48271) % 2147483647 := Int.emod_nonneg _ (by omega)
      have c1 : ((big % 2147483629 + 7919 * iN k * iN k + 31 * iN k + 17) * 48271) % 2147483647 < 2147483647 := Int.emod_lt_of_pos _ (by omega)
      generalize ((big % 2147483629 + 7919 * iN k * iN k + 31 * iN k + 17) * 48271) % 2147483647 = c at c0 c1 ⊢
      rw [ok_sret, ok_elst, ok_acons, ok_bin, ok_var (d := .int big) rfl, ok_call, ok_acons, ok_bin, ok_var (d := .int big) rfl, ok_bin, ok_c, ok_c, ok_pow (by unfold CPow; omega), ok_ge, ok_anil, ok_op1, ok_intB, ok_mulI (.inr (by split <;> omega)), ok_acons, ok_var (d := .int c) rfl, ok_anil, if_pos (by show 2 ≤ 16777216; omega)]
      dsimp only
      rw [ok_ret]
      exact ⟨S.length, rfl, Nat.le_refl _, Pre.push .refl, _, c, by rw [List.getElem?_append_right (Nat.le_refl _), Nat.sub_self]; rfl, c0, c1⟩
    rw [ok_sseq, ok_sif, ok_tof, ok_bin, ok_var (d := .int (iN k)) rfl, ok_call, ok_acons, ok_var (d := .rol (ns.map D.int)) rfl, ok_anil, ok_op1, ok_lenR, ok_lt, ok_asb, List.length_map]
    by_cases c : k < ns.length
    · rw [if_pos (decide_eq_true (by simp only [iN]; omega)), ok_sasg, ok_bin, ok_var (d := .rol (ns.map D.int)) rfl, ok_var (d := .int (iN k)) rfl, ok_ixR (u := iN k) (j := k) (e := .int ns[k]) (ixN_lt (by simpa using c)) (by rw [List.getElem?_map, List.getElem?_eq_getElem c]; rfl), ok_gn]
      dsimp only
      exact rest ns[k]
    · rw [if_neg (by simp only [iN, decide_eq_true_eq]; omega), ok_sif, ok_ttru, ok_var (d := .rol (ns.map D.int)) rfl, ok_truR]
      cases ns with
      | nil =>
        rw [if_neg (by simp), ok_snext]
        dsimp only
        exact rest 0
      | cons x r =>
        rw [if_pos (by simp), ok_sasg, ok_bin, ok_var (d := .rol ((x :: r).map D.int)) rfl, ok_c, ok_ixR (u := 0) (j := 0) (e := .int x) (ixN_lt (j := 0) (by simp)) rfl, ok_gn]
        dsimp only
        exact rest x
  refine ok_gc ?_
  rw [ok_noX]
  refine main.mono fun d S' ⟨m, e, h1, h2, h3⟩ => ⟨⟨m, e, h1, h2, h3⟩, fun _ lo => ?_⟩
  subst e
  exact absurd lo (Nat.not_lt.mpr h1)
end
end Y
set_option Elab.async false
set_option linter.all false
set_option maxRecDepth 100000
namespace Y
open PySem PySem.Spec PyProof.Rows L2 DL
open Classical
noncomputable section
variable {S S' S1 S2 : Store} {m k n : Nat} {R : Roads} {P : List (List Nat)}
theorem Keeps.setN {o : MO} (hs : m < S.length) (h : Keeps m S S1) (hn : S.length ≤ n) : Keeps m S (S1.set n o) :=
  ⟨by simpa using h.len, fun j o' hj e => by
    have := (List.getElem?_eq_some_iff.mp e).1
    rw [List.getElem?_set_ne (by omega)]; exact h.old j o' hj e, by
    obtain ⟨a, b, e, hb⟩ := h.src
    exact ⟨a, b, by rw [List.getElem?_set_ne (by omega)]; exact e, hb⟩⟩
theorem ok_lcK {l : Store → Prop} {g : SG} {p : ST} {elt : SE} {δ : DL.Env} (Y : D → Prop) : ∀ (items : List D) (acc : List D) (S0 S1 : Store), m < S0.length → Keeps m S0 S1 → S1[S0.length]? = some (.lst acc) → items.length + acc.length ≤ sizeLine →
    (∀ S2, Keeps m S0 S2 → l S2) → (∀ x ∈ items, ∀ S2, Keeps m S0 S2 → Ok (g x δ S2) fun δ1 S3 => S3 = S2 ∧ Ok (p δ1 S2) fun k S4 => k = true ∧ S4 = S2 ∧ Ok (elt δ1 S2) fun y S5 => Y y ∧ Keeps m S2 S5) →
    Ok (lcL l g p elt S0.length δ items acc S1) fun d S' => d = .loc S0.length ∧ Keeps m S0 S' ∧ ∃ ys, S'[S0.length]? = some (.lst (acc ++ ys)) ∧ ys.length = items.length ∧ ∀ y ∈ ys, Y y
  | [], acc, S0, S1, hm, kp, hg, hz, hl, hs => by
    unfold lcL
    rw [if_pos ⟨hl S1 kp, hg⟩]
    exact ⟨rfl, kp, [], by simpa using hg, rfl, fun y hy => by simp at hy⟩
  | x :: r, acc, S0, S1, hm, kp, hg, hz, hl, hs => by
    unfold lcL
    rw [if_pos (hl S1 kp), ok_bnd]
    refine (hs x List.mem_cons_self S1 kp).mono fun δ1 S3 ⟨e, h⟩ => ?_
    subst e
    rw [ok_bnd]
    refine h.mono fun k S4 ⟨e1, e2, h4⟩ => ?_
    subst e1 e2
    rw [if_pos rfl, ok_bnd]
    refine h4.mono fun y S5 ⟨hy, k5⟩ => ?_
    have hg5 := k5.old _ _ (by omega) hg
    have kp5 := kp.trans k5
    rw [if_pos ⟨hg5, by simp at hz; omega⟩]
    have := ok_lcK Y r (acc ++ [y]) S0 (S5.set S0.length (.lst (acc ++ [y]))) hm (kp5.setN hm (Nat.le_refl _)) (set_get (List.getElem?_eq_some_iff.mp hg5).1) (by simp at hz ⊢; omega) hl fun z hz => hs z (List.mem_cons_of_mem _ hz)
    refine this.mono fun d S' ⟨h1, h2, ys, h3, h5, h6⟩ => ⟨h1, h2, y :: ys, by simpa using h3, by simp [h5], fun z hz => ?_⟩
    rcases List.mem_cons.mp hz with rfl | hz
    · exact hy
    · exact h6 z hz
theorem ok_eLcK {it : DL.Env → M Src} {g : SG} {p : ST} {elt : SE} {vs : List Nat} {δ : DL.Env} (Y : D → Prop) (hm : m < S.length) (q : Nat) (hq : q ≤ sizeLine) (hi : Ok (it δ S) fun src S1 => src.items.length ≤ q ∧ (∀ S2, src.live S2) ∧ Keeps m S S1)
    (hs : ∀ x S2, Keeps m S S2 → Ok (g x (wipeD δ vs) S2) fun δ1 S3 => S3 = S2 ∧ Ok (p δ1 S2) fun k S4 => k = true ∧ S4 = S2 ∧ Ok (elt δ1 S2) fun y S5 => Y y ∧ Keeps m S2 S5) :
    Ok (eLc it g p elt vs δ S) fun d S' => ∃ j ys, d = .loc j ∧ S.length ≤ j ∧ Keeps m S S' ∧ S'[j]? = some (.lst ys) ∧ ys.length ≤ q ∧ ∀ y ∈ ys, Y y := by
  unfold eLc
  rw [ok_bnd]
  refine hi.mono fun src S1 ⟨h1, h2, k1⟩ => ?_
  have hm1 : m < S1.length := by have := k1.len; omega
  have kp : Keeps m S1 (S1 ++ [.lst []]) := Keeps.pre k1.src (Pre.push .refl)
  have key : Ok (lcL src.live g (fun δ => noX (p δ)) (fun δ => noX (elt δ)) S1.length (wipeD δ vs) src.items [] (S1 ++ [.lst []])) fun d S' => d = .loc S1.length ∧ Keeps m S1 S' ∧ ∃ ys, S'[S1.length]? = some (.lst ([] ++ ys)) ∧ ys.length = src.items.length ∧ ∀ y ∈ ys, Y y := by
    refine ok_lcK Y src.items [] S1 _ hm1 kp (by simp) (by simp; omega) (fun S2 _ => h2 S2) fun x _ S2 k2 => ?_
    refine (hs x S2 (k1.trans k2)).mono fun δ1 S3 ⟨e, h⟩ => ⟨e, ?_⟩
    rw [ok_noX]
    refine h.mono fun k S4 ⟨e1, e2, h4⟩ => ⟨e1, e2, ?_⟩
    rw [ok_noX]
    exact h4
  exact key.mono fun d S' ⟨e, k2, ys, h3, h4, h5⟩ => ⟨_, ys, e, k1.len, k1.trans k2, by simpa using h3, by omega, h5⟩
theorem pys_roads {gg : Nat → Option PyData} : ∀ R : Roads, toPysW gg (R.map rdD) = some (R.map fun r => PyData.tuple [.int (iN r.1), .int (iN r.2)])
  | [] => rfl
  | r :: R => by
    have e : toPyW gg (rdD r) = some (PyData.tuple [.int (iN r.1), .int (iN r.2)]) := by simp [rdD, vecN, vec, toPyW, toPysW]
    simp [toPysW, e, pys_roads R]
theorem can_roads : ∀ R : Roads, PyData.canLayAll0 (R.map fun r => PyData.tuple [.int (iN r.1), .int (iN r.2)]) = true
  | [] => rfl
  | r :: R => by simp [PyData.canLayAll0, PyData.canLay0, can_roads R]
theorem dep_roads : ∀ R : Roads, PyData.depthAll (R.map fun r => PyData.tuple [.int (iN r.1), .int (iN r.2)]) ≤ 1
  | [] => by simp [PyData.depthAll]
  | r :: R => by
    have := dep_roads R
    simp [PyData.depthAll, PyData.depth]
    omega
theorem ok_eqR {Q : D → Store → Prop} : Ok (dEqG false (roadsD R) (.tup []) S) Q = Q (.bl (decide (R = []))) S := by
  have e1 : toPy S (roadsD R) = some (.tuple (R.map fun r => PyData.tuple [.int (iN r.1), .int (iN r.2)])) := by unfold toPy roadsD; simp [toPyW, pys_roads]
  have e2 : toPy S (.tup []) = some (.tuple []) := rfl
  have e3 : SeqAt.shaped (.tuple (R.map fun r => PyData.tuple [.int (iN r.1), .int (iN r.2)])) = true := by
    have := dep_roads R
    simp [SeqAt.shaped, PyData.canLay0, PyData.depth, can_roads]
    omega
  have e4 : SeqAt.shaped (.tuple []) = true := by simp [SeqAt.shaped, PyData.canLay0, PyData.canLayAll0, PyData.depth, PyData.depthAll]
  unfold dEqG
  simp only [e1, e2, e3, e4, and_self, if_true]
  show Q (.bl (PyData.eqvAll _ [])) S = _
  congr 2
  cases R <;> simp [PyData.eqvAll]
theorem nats_of {b : Nat} : ∀ ys : List D, (∀ y ∈ ys, ∃ u : Nat, y = .int (iN u) ∧ (u : Int) < (b : Int)) → ∃ h : List Nat, ys = (h.map iN).map D.int ∧ h.length = ys.length ∧ ∀ x ∈ h, x < b
  | [], _ => ⟨[], rfl, rfl, fun x hx => by simp at hx⟩
  | y :: ys, hy => by
    obtain ⟨u, rfl, hu⟩ := hy y List.mem_cons_self
    obtain ⟨h, rfl, hl, hb⟩ := nats_of ys fun z hz => hy z (List.mem_cons_of_mem _ hz)
    refine ⟨u :: h, rfl, by simpa using hl, fun x hx => ?_⟩
    rcases List.mem_cons.mp hx with rfl | hx
    · omega
    · exact hb x hx
/-- a drawn history: roads of the web -/
theorem p_history (most : Nat) (hs : SrcAt m S) (hR : R.length ≤ 1000) (hmo : most ≤ 1000) (a b : D) : Ok (F__law_history [.loc m, .tup [a, roadsD R, b], .int (iN most)] S) fun d S' => (∃ h : List Nat, d = vecN h ∧ h.length ≤ most ∧ ∀ x ∈ h, x < R.length) ∧ Keeps m S S' := by
  refine ok_fnK hs.lt ?_
  show Ok (b__law_history [some (.loc m), some (.tup [a, roadsD R, b]), some (.int (iN most)), none] S) _
  have hsz : sizeLine = 16777216 := rfl
  unfold b__law_history
  rw [ok_sseq, ok_sif, ok_tof, ok_bin, ok_bin, ok_var (d := .tup [a, roadsD R, b]) rfl, ok_c, ok_ixT (u := 1) (j := 1) (e := roadsD R) rfl rfl, ok_etup, ok_anil, if_pos (by simp), ok_eqR, ok_asb]
  by_cases hr : R = []
  · rw [if_pos (by simp [hr]), ok_sret, ok_etup, ok_anil, if_pos (by simp)]
    exact ⟨⟨[], rfl, by simp, fun x hx => by simp at hx⟩, Keeps.refl hs⟩
  · rw [if_neg (by simp [hr]), ok_snext]
    dsimp only
    have hpos : 0 < R.length := List.length_pos_iff.mpr hr
    rw [ok_sret, ok_call, ok_acons]
    refine (ok_eLcK (S := S) (m := m) (fun y => ∃ u : Nat, y = .int (iN u) ∧ (u : Int) < (R.length : Int)) hs.lt most (by omega) ?_ ?_).mono ?_
    · unfold iRg1
      rw [ok_bnd, ok_fn, ok_acons, ok_var (d := .loc m) rfl, ok_acons, ok_bin, ok_var (d := .int (iN most)) rfl, ok_c, ok_addII, ok_anil]
      refine (p_take (iN most + 1) hs (by simp only [iN]; omega) (by simp only [iN]; omega)).mono fun d S1 ⟨⟨u, e, hu⟩, k1⟩ => ?_
      subst e
      simp only [iN] at hu
      rw [show (D.int (iN u)) = .int (u : Int) from rfl]
      dsimp only
      rw [if_pos (show Small u from ⟨by omega, by omega⟩)]
      exact ⟨by simp [rngD]; omega, fun _ => True.intro, k1⟩
    · intro x S2 k2
      rw [ok_gn]
      refine ⟨rfl, ?_⟩
      rw [ok_ttrue]
      refine ⟨rfl, rfl, ?_⟩
      rw [ok_fn, ok_acons, ok_var (d := .loc m) rfl, ok_acons, ok_call, ok_acons, ok_bin, ok_var (d := .tup [a, roadsD R, b]) rfl, ok_c, ok_ixT (u := 1) (j := 1) (e := roadsD R) rfl rfl, ok_anil, ok_op1]
      rw [show Ok (dLen (roadsD R) S2) = fun Q => Q (.int (iN R.length)) S2 from by funext Q; unfold roadsD; rw [ok_lenT, List.length_map]]
      dsimp only
      rw [ok_anil]
      exact p_take (iN R.length) k2.src (by simp only [iN]; omega) (by simp only [iN]; omega)
    · rintro d S2 ⟨j, ys, rfl, hj, k2, hg, hl, hy⟩
      rw [ok_anil, ok_op1, ok_tupL hg]
      obtain ⟨h, rfl, h1, h2⟩ := nats_of ys hy
      exact ⟨⟨h, rfl, by omega, h2⟩, k2⟩
end
end Y
set_option Elab.async false
set_option linter.all false
set_option maxRecDepth 100000
namespace Y
open PySem PySem.Spec PyProof.Rows L2 DL
open Classical
noncomputable section
variable {S S' S1 S2 : Store} {m k n : Nat} {R : Roads} {P : List (List Nat)}
/-- two roads have a common hand -/
def nextB (R : Roads) (x y : Nat) : Bool := inR (iN (rdAt R x).1) (rdAt R y) || inR (iN (rdAt R x).2) (rdAt R y)
theorem p_is_next (a b : D) (x y : Nat) (hx : x < R.length) (hy : y < R.length) : Ok (F__law_is_next [.tup [a, roadsD R, b], .int (iN x), .int (iN y)] S) fun d S' => d = .bl (nextB R x y) ∧ Pre S S' := by
  refine ok_fnB ?_
  show Ok (b__law_is_next [some (.tup [a, roadsD R, b]), some (.int (iN x)), some (.int (iN y))] S) _
  unfold b__law_is_next
  have hI : ∀ (u : Int) (r : Nat × Nat) (Q : D → Store → Prop), Ok (dIn (.int u) (rdD r) S) Q = Q (.bl (inR u r)) S := fun u r Q => by
    show Ok (dInG false (.int u) (vec [iN r.1, iN r.2]) S) Q = _
    rw [ok_inV]; rfl
  have h0 : ∀ (r : Nat × Nat) (Q : D → Store → Prop), Ok (dIx (rdD r) (.int 0) S) Q = Q (.int (iN r.1)) S := fun r Q => ok_ixT (u := 0) (j := 0) (e := .int (iN r.1)) rfl rfl
  have h1 : ∀ (r : Nat × Nat) (Q : D → Store → Prop), Ok (dIx (rdD r) (.int 1) S) Q = Q (.int (iN r.2)) S := fun r Q => ok_ixT (u := 1) (j := 1) (e := .int (iN r.2)) rfl rfl
  have ht : ∀ (Q : D → Store → Prop), Ok (dIx (.tup [a, roadsD R, b]) (.int 1) S) Q = Q (roadsD R) S := fun Q => ok_ixT (u := 1) (j := 1) (e := roadsD R) rfl rfl
  rw [ok_sret, ok_eor, ok_bin, ok_bin, ok_bin, ok_bin, ok_var (d := .tup [a, roadsD R, b]) rfl, ok_c, ht, ok_var (d := .int (iN x)) rfl, ok_road hx, ok_c, h0, ok_bin, ok_bin, ok_var (d := .tup [a, roadsD R, b]) rfl, ok_c, ht, ok_var (d := .int (iN y)) rfl, ok_road hy, hI, ok_asb]
  unfold nextB
  cases inR (iN (rdAt R x).1) (rdAt R y) with
  | true => rw [if_pos rfl]; exact ⟨rfl, .refl⟩
  | false =>
    rw [if_neg (by simp), ok_bin, ok_bin, ok_bin, ok_bin, ok_var (d := .tup [a, roadsD R, b]) rfl, ok_c, ht, ok_var (d := .int (iN x)) rfl, ok_road hx, ok_c, h1, ok_bin, ok_bin, ok_var (d := .tup [a, roadsD R, b]) rfl, ok_c, ht, ok_var (d := .int (iN y)) rfl, ok_road hy, hI]
    exact ⟨by simp, .refl⟩
end
end Y
set_option linter.all false
/-! KM1: what hands have heard of, and what marks count (plain mathematics, no program) -/
namespace Mk
open Classical
noncomputable section
variable (hd : Nat → Nat × Nat) (pt : Nat → Nat)
/-- ahead of the meeting t, hand a has heard of the meeting i -/
def K : Nat → Nat → Nat → Prop
  | 0, _, _ => False
  | t + 1, a, i => if a = (hd t).1 ∨ a = (hd t).2 then K t (hd t).1 i ∨ K t (hd t).2 i ∨ i = t else K t a i
/-- the meeting i is j or ahead of it -/
def Mm (j i : Nat) : Prop := K hd j (hd j).1 i ∨ K hd j (hd j).2 i ∨ i = j
/-- two meetings share a hand -/
def Sh (i j : Nat) : Prop := (hd i).1 = (hd j).1 ∨ (hd i).1 = (hd j).2 ∨ (hd i).2 = (hd j).1 ∨ (hd i).2 = (hd j).2
variable {hd pt}
theorem K_at {t a i : Nat} (h : a = (hd t).1 ∨ a = (hd t).2) : K hd (t + 1) a i = Mm hd t i := by show (if _ then _ else _) = _; rw [if_pos h]; rfl
theorem K_off {t a i : Nat} (h : ¬ (a = (hd t).1 ∨ a = (hd t).2)) : K hd (t + 1) a i = K hd t a i := by show (if _ then _ else _) = _; rw [if_neg h]
theorem K_lt : ∀ {t a i : Nat}, K hd t a i → i < t
  | 0, _, _, h => h.elim
  | t + 1, a, i, h => by
    by_cases c : a = (hd t).1 ∨ a = (hd t).2
    · rw [K_at c] at h
      rcases h with h | h | h
      · have := K_lt h; omega
      · have := K_lt h; omega
      · omega
    · rw [K_off c] at h
      have := K_lt h; omega
theorem M_le {j i : Nat} (h : Mm hd j i) : i ≤ j := by
  rcases h with h | h | h
  · have := K_lt h; omega
  · have := K_lt h; omega
  · omega
theorem M_self (j : Nat) : Mm hd j j := .inr (.inr rfl)
/-- a hand has heard of nothing, or of just what its last meeting knew -/
theorem K_last : ∀ (t a : Nat), (∀ i, ¬ K hd t a i) ∨ ∃ l, l < t ∧ (a = (hd l).1 ∨ a = (hd l).2) ∧ ∀ i, K hd t a i ↔ Mm hd l i
  | 0, a => .inl fun i h => h
  | t + 1, a => by
    by_cases c : a = (hd t).1 ∨ a = (hd t).2
    · exact .inr ⟨t, by omega, c, fun i => by rw [K_at c]⟩
    · rcases K_last t a with h | ⟨l, h1, h2, h3⟩
      · exact .inl fun i => by rw [K_off c]; exact h i
      · exact .inr ⟨l, by omega, h2, fun i => by rw [K_off c]; exact h3 i⟩
/-- what a hand has heard of stays heard of -/
theorem K_mono1 {t a i : Nat} (h : K hd t a i) : K hd (t + 1) a i := by
  by_cases c : a = (hd t).1 ∨ a = (hd t).2
  · rw [K_at c]
    rcases c with rfl | rfl
    · exact .inl h
    · exact .inr (.inl h)
  · rw [K_off c]; exact h
theorem K_mono {a i : Nat} : ∀ {t u : Nat}, t ≤ u → K hd t a i → K hd u a i
  | t, u, h, k => by
    induction u with
    | zero => have : t = 0 := by omega
              subst this; exact k
    | succ u ih =>
      by_cases e : t = u + 1
      · subst e; exact k
      · exact K_mono1 (ih (by omega))
/-- a hand has heard of its own meetings, and of all that they knew -/
theorem K_own {t a i k : Nat} (hk : k < t) (ha : a = (hd k).1 ∨ a = (hd k).2) (h : Mm hd k i) : K hd t a i :=
  K_mono (show k + 1 ≤ t by omega) (by rw [K_at ha]; exact h)
/-- all that is ahead of what a hand has heard of, it has heard of -/
theorem M_trans : ∀ (j : Nat) {k i : Nat}, Mm hd j k → Mm hd k i → Mm hd j i := by
  intro j
  induction j using Nat.strongRecOn with
  | ind j ih =>
    intro k i h1 h2
    have sub : ∀ a, K hd j a k → K hd j a i := fun a h => by
      rcases K_last (hd := hd) j a with q | ⟨l, hl, _, hq⟩
      · exact absurd h (q k)
      · exact (hq i).mpr (ih l hl ((hq k).mp h) h2)
    rcases h1 with h | h | h
    · exact .inl (sub _ h)
    · exact .inr (.inl (sub _ h))
    · subst h; exact h2
theorem K_closed {t a k i : Nat} (h1 : K hd t a k) (h2 : Mm hd k i) : K hd t a i := by
  rcases K_last (hd := hd) t a with q | ⟨l, hl, _, hq⟩
  · exact absurd h1 (q k)
  · exact (hq i).mpr (M_trans l ((hq k).mp h1) h2)
/-- meetings that share a hand stand one ahead of the other -/
theorem M_share {i j : Nat} (h : i < j) (s : Sh hd i j) : Mm hd j i := by
  have z := M_self (hd := hd) i
  rcases s with s | s | s | s
  · exact .inl (K_own h (.inl s.symm) z)
  · exact .inr (.inl (K_own h (.inl s.symm) z))
  · exact .inl (K_own h (.inr s.symm) z)
  · exact .inr (.inl (K_own h (.inr s.symm) z))
/-- ahead of j: j itself, or what a meeting ahead that shares a hand with j knew -/
theorem M_iff {i j : Nat} : Mm hd j i ↔ i = j ∨ ∃ k, k < j ∧ Sh hd k j ∧ Mm hd k i := by
  constructor
  · intro h
    have one : ∀ a, (a = (hd j).1 ∨ a = (hd j).2) → K hd j a i → ∃ k, k < j ∧ Sh hd k j ∧ Mm hd k i := fun a ha hk => by
      rcases K_last (hd := hd) j a with q | ⟨l, hl, hal, hq⟩
      · exact absurd hk (q i)
      · refine ⟨l, hl, ?_, (hq i).mp hk⟩
        rcases hal with e | e <;> rcases ha with f | f
        · exact .inl (e.symm.trans f)
        · exact .inr (.inl (e.symm.trans f))
        · exact .inr (.inr (.inl (e.symm.trans f)))
        · exact .inr (.inr (.inr (e.symm.trans f)))
    rcases h with h | h | h
    · exact .inr (one _ (.inl rfl) h)
    · exact .inr (one _ (.inr rfl) h)
    · exact .inl h
  · rintro (h | ⟨k, hk, hs, hm⟩)
    · subst h; exact M_self i
    · exact M_trans j (M_share hk hs) hm
/-! ### counting -/
/-- how many of the first n there are -/
def cnt (p : Nat → Prop) : Nat → Nat
  | 0 => 0
  | n + 1 => cnt p n + if p n then 1 else 0
theorem cnt_mono {p q : Nat → Prop} : ∀ {n : Nat}, (∀ i, i < n → p i → q i) → cnt p n ≤ cnt q n
  | 0, _ => Nat.le_refl _
  | n + 1, h => by
    have h1 := cnt_mono (p := p) (q := q) (n := n) fun i hi => h i (by omega)
    unfold cnt
    by_cases c : p n
    · rw [if_pos c, if_pos (h n (by omega) c)]; omega
    · rw [if_neg c]; omega
theorem cnt_congr {p q : Nat → Prop} {n : Nat} (h : ∀ i, i < n → (p i ↔ q i)) : cnt p n = cnt q n :=
  Nat.le_antisymm (cnt_mono fun i hi => (h i hi).mp) (cnt_mono fun i hi => (h i hi).mpr)
theorem cnt_lt {p q : Nat → Prop} : ∀ {n : Nat}, (∀ i, i < n → p i → q i) → (∃ i, i < n ∧ q i ∧ ¬ p i) → cnt p n < cnt q n
  | 0, _, ⟨i, hi, _⟩ => by omega
  | n + 1, h, ⟨i, hi, hq, hp⟩ => by
    unfold cnt
    by_cases e : i = n
    · subst e
      have h1 := cnt_mono (p := p) (q := q) (n := i) fun j hj => h j (by omega)
      rw [if_neg hp, if_pos hq]; omega
    · have h1 := cnt_lt (p := p) (q := q) (n := n) (fun j hj => h j (by omega)) ⟨i, by omega, hq, hp⟩
      by_cases c : p n
      · rw [if_pos c, if_pos (h n (by omega) c)]; omega
      · rw [if_neg c]; split <;> omega
end
end Mk
set_option linter.all false
/-! KM2: marks count what a meeting has heard of; one is at most another just if it is ahead or the same -/
namespace Mk
open Classical
noncomputable section
variable {hd : Nat → Nat × Nat} {pt : Nat → Nat}
/-- any two meetings of one part share a hand -/
def OneLine (hd : Nat → Nat × Nat) (pt : Nat → Nat) : Prop := ∀ i j, pt i = pt j → Sh hd i j
/-- of each part the first ones -/
def Seg (pt : Nat → Nat) (A : Nat → Prop) : Prop := ∀ i j, A i → pt j = pt i → j < i → A j
theorem seg_M (o : OneLine hd pt) (j : Nat) : Seg pt (Mm hd j) := fun i k hi hp hk => M_trans j hi (M_share hk (o k i hp))
theorem seg_K (o : OneLine hd pt) (t a : Nat) : Seg pt (K hd t a) := fun i k hi hp hk => K_closed hi (M_share hk (o k i hp))
/-- how many of the part q there are among the first n -/
def cq (pt : Nat → Nat) (A : Nat → Prop) (q n : Nat) : Nat := cnt (fun i => A i ∧ pt i = q) n
theorem cq_max {A B : Nat → Prop} (ha : Seg pt A) (hb : Seg pt B) (q n : Nat) : max (cq pt A q n) (cq pt B q n) = cq pt (fun i => A i ∨ B i) q n := by
  have h1 : cq pt A q n ≤ cq pt (fun i => A i ∨ B i) q n := cnt_mono fun i _ h => ⟨.inl h.1, h.2⟩
  have h2 : cq pt B q n ≤ cq pt (fun i => A i ∨ B i) q n := cnt_mono fun i _ h => ⟨.inr h.1, h.2⟩
  by_cases c : ∀ i, pt i = q → A i → B i
  · have h3 : cq pt (fun i => A i ∨ B i) q n ≤ cq pt B q n := cnt_mono fun i _ h => ⟨h.1.elim (c i h.2) id, h.2⟩
    omega
  · have ⟨a, hc⟩ := Classical.not_forall.mp c
    have ⟨hq, hc⟩ := Classical.not_imp.mp hc
    have ⟨hA, hB⟩ := Classical.not_imp.mp hc
    have sub : ∀ b, pt b = q → B b → A b := fun b hb' hBb => by
      rcases Nat.lt_trichotomy a b with h | h | h
      · exact absurd (hb b a hBb (hq.trans hb'.symm) h) hB
      · subst h; exact hA
      · exact ha a b hA (hb'.trans hq.symm) h
    have h3 : cq pt (fun i => A i ∨ B i) q n ≤ cq pt A q n := cnt_mono fun i _ h => ⟨h.1.elim id (sub i h.2), h.2⟩
    omega
theorem cnt_succ {p : Nat → Prop} {n : Nat} : cnt p (n + 1) = cnt p n + @ite Nat (p n) (propDecidable _) 1 0 := rfl
theorem cnt_one {p : Nat → Prop} {j : Nat} (hj : ¬ p j) : ∀ {n : Nat}, j < n → cnt (fun i => p i ∨ i = j) n = cnt p n + 1
  | 0, h => by omega
  | n + 1, h => by
    by_cases e : j = n
    · subst e
      have h1 : cnt (fun i => p i ∨ i = j) j = cnt p j := cnt_congr fun i hi => ⟨fun z => z.elim id fun z => by omega, .inl⟩
      rw [cnt_succ, cnt_succ, h1, if_pos (Or.inr rfl), if_neg hj]
    · have h1 := cnt_one hj (show j < n by omega)
      rw [cnt_succ, cnt_succ, h1]
      by_cases c : p n
      · rw [if_pos (Or.inl c), if_pos c]
      · rw [if_neg (fun z => z.elim c fun z => e z.symm), if_neg c]
/-- the mark of a meeting, from both clocks -/
theorem cq_mark (o : OneLine hd pt) (j q n : Nat) (hj : j < n) : cq pt (Mm hd j) q n = max (cq pt (K hd j (hd j).1) q n) (cq pt (K hd j (hd j).2) q n) + (if q = pt j then 1 else 0) := by
  rw [cq_max (seg_K o _ _) (seg_K o _ _)]
  have nj : ∀ a, ¬ K hd j a j := fun a h => by have := K_lt h; omega
  by_cases e : q = pt j
  · rw [if_pos e]
    have h1 := cnt_one (p := fun i => (K hd j (hd j).1 i ∨ K hd j (hd j).2 i) ∧ pt i = q) (j := j) (fun h => h.1.elim (nj _) (nj _)) hj
    have h2 : cq pt (Mm hd j) q n = cnt (fun i => ((K hd j (hd j).1 i ∨ K hd j (hd j).2 i) ∧ pt i = q) ∨ i = j) n := cnt_congr fun i _ => by
      constructor
      · rintro ⟨h, hp⟩
        rcases h with h | h | h
        · exact .inl ⟨.inl h, hp⟩
        · exact .inl ⟨.inr h, hp⟩
        · exact .inr h
      · rintro (⟨h, hp⟩ | h)
        · exact ⟨h.elim .inl fun z => .inr (.inl z), hp⟩
        · subst h; exact ⟨M_self i, e.symm⟩
    rw [h2, h1]; rfl
  · rw [if_neg e]
    exact cnt_congr fun i _ => by
      constructor
      · rintro ⟨h, hp⟩
        rcases h with h | h | h
        · exact ⟨.inl h, hp⟩
        · exact ⟨.inr h, hp⟩
        · subst h; exact absurd hp.symm e
      · rintro ⟨h, hp⟩
        exact ⟨h.elim .inl fun z => .inr (.inl z), hp⟩
/-- one mark is at most another just if the meeting is ahead of it or the same -/
theorem mark_le (o : OneLine hd pt) {i j n : Nat} (hi : i < n) : (∀ q, cq pt (Mm hd i) q n ≤ cq pt (Mm hd j) q n) ↔ Mm hd j i := by
  constructor
  · intro h
    refine Classical.byContradiction fun hn => ?_
    have lt : cq pt (Mm hd j) (pt i) n < cq pt (Mm hd i) (pt i) n := cnt_lt (fun k _ hk => ⟨?_, hk.2⟩) ⟨i, hi, ⟨M_self i, rfl⟩, fun z => hn z.1⟩
    · have := h (pt i); omega
    · rcases Nat.lt_trichotomy k i with c | c | c
      · exact M_share c (o k i hk.2)
      · subst c; exact absurd hk.1 hn
      · exact absurd (seg_M o j k i hk.1 hk.2.symm c) hn
  · exact fun h q => cnt_mono fun k _ hk => ⟨M_trans j h hk.1, hk.2⟩
/-- the part of a meeting counts enough -/
theorem mark_le' (o : OneLine hd pt) {i j n : Nat} (hi : i < n) : cq pt (Mm hd i) (pt i) n ≤ cq pt (Mm hd j) (pt i) n ↔ Mm hd j i := by
  constructor
  · intro h
    refine Classical.byContradiction fun hn => ?_
    have lt : cq pt (Mm hd j) (pt i) n < cq pt (Mm hd i) (pt i) n := cnt_lt (fun k _ hk => ⟨?_, hk.2⟩) ⟨i, hi, ⟨M_self i, rfl⟩, fun z => hn z.1⟩
    · omega
    · rcases Nat.lt_trichotomy k i with c | c | c
      · exact M_share c (o k i hk.2)
      · subst c; exact absurd hk.1 hn
      · exact absurd (seg_M o j k i hk.1 hk.2.symm c) hn
  · exact fun h => cnt_mono fun k _ hk => ⟨M_trans j h hk.1, hk.2⟩
end
end Mk
set_option Elab.async false
set_option linter.all false
set_option maxRecDepth 100000
namespace Y
open PySem PySem.Spec PyProof.Rows L2 DL
open Classical
noncomputable section
variable {n : Nat} {R : Roads} {P : List (List Nat)}
/-- the hands and the part of the meeting i of a history -/
def hdF (R : Roads) (h : List Nat) : Nat → Nat × Nat := fun i => rdAt R (h.getD i 0)
def ptF (P : List (List Nat)) (h : List Nat) : Nat → Nat := fun i => partIx P (h.getD i 0)
def clkT (n : Nat) (R : Roads) (P : List (List Nat)) (h : List Nat) (t : Nat) : List (List Int) := (List.range n).map fun a => (List.range P.length).map fun q => ((Mk.cq (ptF P h) (Mk.K (hdF R h) t a) q h.length : Nat) : Int)
def mkT (R : Roads) (P : List (List Nat)) (h : List Nat) (j : Nat) : List Int := (List.range P.length).map fun q => ((Mk.cq (ptF P h) (Mk.Mm (hdF R h) j) q h.length : Nat) : Int)
theorem getD_map_range {α : Type} (f : Nat → α) (d : α) {m i : Nat} (h : i < m) : ((List.range m).map f).getD i d = f i := by
  rw [getD_at _ (by simpa using h)]
  simp
theorem mkV_is (f g : Nat → Nat) {m q0 : Nat} (hq : q0 < m) : mkV ((List.range m).map fun q => ((f q : Nat) : Int)) ((List.range m).map fun q => ((g q : Nat) : Int)) q0 = (List.range m).map fun q => ((max (f q) (g q) + (if q = q0 then 1 else 0) : Nat) : Int) := by
  have e : (((List.range m).map fun q => ((f q : Nat) : Int)).zip ((List.range m).map fun q => ((g q : Nat) : Int))).map (fun p => max p.1 p.2) = (List.range m).map fun q => ((max (f q) (g q) : Nat) : Int) := by
    apply List.ext_getElem
    · simp
    · intro i h1 h2
      simp
      omega
  unfold mkV
  rw [e]
  dsimp only
  rw [getD_map_range _ _ hq]
  apply List.ext_getElem
  · simp
  · intro i h1 h2
    rw [List.getElem_set]
    by_cases c : q0 = i
    · subst c; simp
    · have c' : ¬ i = q0 := fun z => c z.symm
      simp [c, c']
theorem link (so : Sound n R P) (h : List Nat) (hh : ∀ x ∈ h, x < R.length) (o : Mk.OneLine (hdF R h) (ptF P h)) : ∀ m t, t + m = h.length → runM R P (h.drop t) (clkT n R P h t) = ((List.range' t m).map (mkT R P h), clkT n R P h h.length)
  | 0, t, e => by
    have : t = h.length := by omega
    subst this
    rw [List.drop_length]; rfl
  | m + 1, t, e => by
    have ht : t < h.length := by omega
    rw [List.drop_eq_getElem_cons ht]
    have hx := hh h[t] (List.getElem_mem ht)
    have hr := so.hand R[h[t]] (List.getElem_mem hx)
    have ehd : hdF R h t = R[h[t]] := by unfold hdF rdAt; rw [getD_at _ ht, getD_at _ hx]
    have ept : ptF P h t = partIx P h[t] := by unfold ptF; rw [getD_at _ ht]
    have hp := partIx_lt (so.cover h[t] hx)
    have ea : R.getD h[t] (0, 0) = R[h[t]] := getD_at _ hx
    have em : mkV ((clkT n R P h t).getD R[h[t]].1 []) ((clkT n R P h t).getD R[h[t]].2 []) (partIx P h[t]) = mkT R P h t := by
      unfold clkT mkT
      rw [getD_map_range _ _ hr.1, getD_map_range _ _ hr.2, mkV_is _ _ hp]
      apply List.map_congr_left
      intro q _
      rw [Mk.cq_mark o t q h.length ht, ehd, ept]
    have ec : ((clkT n R P h t).set R[h[t]].1 (mkT R P h t)).set R[h[t]].2 (mkT R P h t) = clkT n R P h (t + 1) := by
      apply List.ext_getElem
      · simp [clkT]
      · intro a h1 h2
        rw [List.getElem_set, List.getElem_set]
        have gen : (clkT n R P h (t + 1))[a] = (List.range P.length).map fun q => ((Mk.cq (ptF P h) (Mk.K (hdF R h) (t + 1) a) q h.length : Nat) : Int) := by simp [clkT]
        rw [gen]
        by_cases c : a = (hdF R h t).1 ∨ a = (hdF R h t).2
        · have eK : Mk.K (hdF R h) (t + 1) a = Mk.Mm (hdF R h) t := funext fun i => Mk.K_at c
          rw [eK]
          rw [ehd] at c
          by_cases c2 : R[h[t]].2 = a
          · rw [if_pos c2]; rfl
          · have c1 : R[h[t]].1 = a := c.elim (fun z => z.symm) fun z => absurd z.symm c2
            rw [if_neg c2, if_pos c1]; rfl
        · have eK : Mk.K (hdF R h) (t + 1) a = Mk.K (hdF R h) t a := funext fun i => Mk.K_off c
          rw [eK]
          rw [ehd] at c
          rw [if_neg (fun z => c (.inr z.symm)), if_neg (fun z => c (.inl z.symm))]
          simp [clkT]
    simp only [runM, ea]
    rw [em, ec, link so h hh o m (t + 1) (by omega)]
    rfl
theorem clk0 (h : List Nat) : clkT n R P h 0 = clocks0 n P.length := by
  unfold clkT clocks0
  have e : ∀ (q : Nat) (a : Nat), Mk.cq (ptF P h) (Mk.K (hdF R h) 0 a) q h.length = 0 := fun q a => by
    have : ∀ m, Mk.cq (ptF P h) (Mk.K (hdF R h) 0 a) q m = 0 := fun m => by
      induction m with
      | zero => rfl
      | succ m ih =>
        unfold Mk.cq at ih ⊢
        rw [Mk.cnt_succ, ih, if_neg (fun z => z.1)]
    exact this _
  apply List.ext_getElem
  · simp
  · intro a h1 h2
    simp only [List.getElem_map, List.getElem_replicate, e]
    apply List.ext_getElem
    · simp
    · intro q h3 h4; simp
theorem marks_are (so : Sound n R P) (h : List Nat) (hh : ∀ x ∈ h, x < R.length) (o : Mk.OneLine (hdF R h) (ptF P h)) : marksN n R P h = (List.range h.length).map (mkT R P h) := by
  unfold marksN
  have := link so h hh o h.length 0 (by omega)
  rw [List.drop_zero, clk0] at this
  rw [this, List.range_eq_range']
end
end Y
set_option Elab.async false
set_option linter.all false
set_option maxRecDepth 100000
namespace Y
open PySem PySem.Spec PyProof.Rows L2 DL
open Classical
noncomputable section
variable {n : Nat} {R : Roads} {P : List (List Nat)}
theorem leV_iff (f g : Nat → Nat) (m : Nat) : leV ((List.range m).map fun q => ((f q : Nat) : Int)) ((List.range m).map fun q => ((g q : Nat) : Int)) = true ↔ ∀ q, q < m → f q ≤ g q := by
  unfold leV
  rw [List.all_eq_true]
  constructor
  · intro h q hq
    have := h (((f q : Nat) : Int), ((g q : Nat) : Int)) (by
      rw [List.mem_iff_getElem]
      exact ⟨q, by simpa using hq, by simp⟩)
    simpa using this
  · intro h p hp
    obtain ⟨i, hi, e⟩ := List.mem_iff_getElem.mp hp
    subst e
    have hi' : i < m := by simpa using hi
    simpa using h i hi'
/-- one mark is at most another just if its meeting is ahead of that one, or the same -/
theorem leV_mk (so : Sound n R P) (h : List Nat) (hh : ∀ x ∈ h, x < R.length) (o : Mk.OneLine (hdF R h) (ptF P h)) {i j : Nat} (hi : i < h.length) : leV (mkT R P h i) (mkT R P h j) = true ↔ Mk.Mm (hdF R h) j i := by
  unfold mkT
  rw [leV_iff]
  have hx := hh h[i] (List.getElem_mem hi)
  have hp : ptF P h i < P.length := by unfold ptF; rw [getD_at _ hi]; exact partIx_lt (so.cover _ hx)
  exact ⟨fun z => (Mk.mark_le' o hi).mp (z _ hp), fun z q _ => (Mk.mark_le o hi).mpr z q⟩
/-! ### any two roads of a part share a hand -/
def shR (r q : Nat × Nat) : Prop := r.1 = q.1 ∨ r.1 = q.2 ∨ r.2 = q.1 ∨ r.2 = q.2
theorem inR_iff (u : Nat) (r : Nat × Nat) : inR (iN u) r = true ↔ u = r.1 ∨ u = r.2 := by
  unfold inR
  simp only [decide_eq_true_eq, List.mem_cons, List.not_mem_nil, or_false, iN]
  omega
theorem star_share {p : List Nat} (hs : starB R p = true) {x y : Nat} (hx : x ∈ p) (hy : y ∈ p) : shR (rdAt R x) (rdAt R y) := by
  unfold starB at hs
  rw [List.any_eq_true] at hs
  obtain ⟨u, hu, ha⟩ := hs
  rw [List.all_eq_true] at ha
  have hu' : ∃ v : Nat, u = iN v := by
    rcases List.mem_cons.mp hu with e | e
    · exact ⟨_, e⟩
    · exact ⟨_, List.mem_singleton.mp e⟩
  obtain ⟨v, rfl⟩ := hu'
  have h1 := (inR_iff v _).mp (ha x hx)
  have h2 := (inR_iff v _).mp (ha y hy)
  unfold shR
  rcases h1 with h1 | h1 <;> rcases h2 with h2 | h2
  · exact .inl (h1.symm.trans h2)
  · exact .inr (.inl (h1.symm.trans h2))
  · exact .inr (.inr (.inl (h1.symm.trans h2)))
  · exact .inr (.inr (.inr (h1.symm.trans h2)))
theorem addI_mem {acc : List Int} {k u : Int} : u ∈ addI acc k ↔ u ∈ acc ∨ u = k := by
  unfold addI
  by_cases c : k ∈ acc
  · rw [if_pos c]; exact ⟨.inl, fun z => z.elim id fun e => e ▸ c⟩
  · rw [if_neg c]; simp
theorem two_mem {acc : List Int} {a b u : Int} : u ∈ [a, b].foldl addI acc ↔ u ∈ acc ∨ u = a ∨ u = b := by
  show u ∈ addI (addI acc a) b ↔ _
  rw [addI_mem, addI_mem, or_assoc]
theorem hands_mem : ∀ (p : List Nat) (acc : List Int) (u : Int), u ∈ p.foldl (fun acc i => [iN (rdAt R i).1, iN (rdAt R i).2].foldl addI acc) acc ↔ u ∈ acc ∨ ∃ x ∈ p, u = iN (rdAt R x).1 ∨ u = iN (rdAt R x).2
  | [], acc, u => by simp
  | x :: p, acc, u => by
    rw [List.foldl_cons, hands_mem p, two_mem]
    constructor
    · rintro ((h | h) | ⟨y, hy, h⟩)
      · exact .inl h
      · exact .inr ⟨x, List.mem_cons_self, h⟩
      · exact .inr ⟨y, List.mem_cons_of_mem _ hy, h⟩
    · rintro (h | ⟨y, hy, h⟩)
      · exact .inl (.inl h)
      · rcases List.mem_cons.mp hy with rfl | hy
        · exact .inl (.inr h)
        · exact .inr ⟨y, hy, h⟩
/-- unlike things in a list are at most as many as it has places -/
theorem four_le {l : List Int} {a b c d : Int} (ha : a ∈ l) (hb : b ∈ l) (hc : c ∈ l) (hd : d ∈ l) (h1 : a ≠ b) (h2 : a ≠ c) (h3 : a ≠ d) (h4 : b ≠ c) (h5 : b ≠ d) (h6 : c ≠ d) : 4 ≤ l.length := by
  have er : ∀ (l : List Int) (x : Int), x ∈ l → (l.erase x).length + 1 = l.length := fun l x hx => by
    rw [List.length_erase_of_mem hx]
    have := List.length_pos_of_mem hx
    omega
  have e1 := er l a ha
  have hb' := (List.mem_erase_of_ne (Ne.symm h1)).mpr hb
  have hc' := (List.mem_erase_of_ne (Ne.symm h2)).mpr hc
  have hd' := (List.mem_erase_of_ne (Ne.symm h3)).mpr hd
  have e2 := er _ b hb'
  have hc2 := (List.mem_erase_of_ne (Ne.symm h4)).mpr hc'
  have hd2 := (List.mem_erase_of_ne (Ne.symm h5)).mpr hd'
  have e3 := er _ c hc2
  have hd3 := (List.mem_erase_of_ne (Ne.symm h6)).mpr hd2
  have e4 := er _ d hd3
  omega
theorem tri_share (w : Web n R) {p : List Nat} (hp : ∀ x ∈ p, x < R.length) (ht : triB R p = true) {x y : Nat} (hx : x ∈ p) (hy : y ∈ p) : shR (rdAt R x) (rdAt R y) := by
  unfold triB at ht
  have h3 : ((handsOf R p).length : Int) = 3 := by simp only [Bool.and_eq_true, decide_eq_true_eq] at ht; exact ht.2
  have mem : ∀ z ∈ p, iN (rdAt R z).1 ∈ handsOf R p ∧ iN (rdAt R z).2 ∈ handsOf R p := fun z hz =>
    ⟨(hands_mem p [] _).mpr (.inr ⟨z, hz, .inl rfl⟩), (hands_mem p [] _).mpr (.inr ⟨z, hz, .inr rfl⟩)⟩
  have rd : ∀ z ∈ p, (rdAt R z).1 < (rdAt R z).2 := fun z hz => by
    unfold rdAt; rw [getD_at _ (hp z hz)]
    exact (w.hand _ (List.getElem_mem _)).1
  refine Classical.byContradiction fun hn => ?_
  unfold shR at hn
  have hx' := rd x hx
  have hy' := rd y hy
  have := four_le (mem x hx).1 (mem x hx).2 (mem y hy).1 (mem y hy).2 (by simp only [iN]; omega) (by simp only [iN]; omega) (by simp only [iN]; omega) (by simp only [iN]; omega) (by simp only [iN]; omega) (by simp only [iN]; omega)
  omega
theorem part_share (w : Web n R) {p : List Nat} (ok : PartOk R p) {x y : Nat} (hx : x ∈ p) (hy : y ∈ p) : shR (rdAt R x) (rdAt R y) := by
  have := ok.form
  rw [Bool.or_eq_true] at this
  exact this.elim (fun z => star_share z hx hy) fun z => tri_share w ok.lt z hx hy
theorem partIx_mem {q : Nat} (h : ∃ p ∈ P, q ∈ p) : ∃ p, P[partIx P q]? = some p ∧ q ∈ p := by
  have hl := partIx_lt h
  refine ⟨P[partIx P q], List.getElem?_eq_getElem hl, ?_⟩
  have this : decide (q ∈ P[partIx P q]) = true := List.findIdx_getElem (p := fun p => decide (q ∈ p)) (xs := P) (w := hl)
  exact of_decide_eq_true this
/-- meetings of one part share a hand -/
theorem one_line (w : Web n R) (so : Sound n R P) (ok : ∀ p ∈ P, PartOk R p) (h : List Nat) (hh : ∀ x ∈ h, x < R.length) (hR : 0 < R.length) : Mk.OneLine (hdF R h) (ptF P h) := by
  have ix : ∀ i, h.getD i 0 < R.length := fun i => by
    by_cases c : i < h.length
    · rw [getD_at _ c]; exact hh _ (List.getElem_mem c)
    · rw [List.getD_eq_getElem?_getD, List.getElem?_eq_none (by omega)]; exact hR
  intro i j e
  unfold ptF at e
  unfold Mk.Sh hdF
  obtain ⟨p, g1, m1⟩ := partIx_mem (so.cover _ (ix i))
  obtain ⟨q, g2, m2⟩ := partIx_mem (so.cover _ (ix j))
  rw [e, g2] at g1
  cases g1
  exact part_share w (ok _ (List.mem_of_getElem? g2)) m1 m2
end
end Y
set_option linter.all false
/-! KM3: longest lines -/
namespace Mk
open Classical
noncomputable section
variable (hd : Nat → Nat × Nat)
/-- the longest line that ends with the last meeting of hand a, ahead of t -/
def L : Nat → Nat → Nat
  | 0, _ => 0
  | t + 1, a => if a = (hd t).1 ∨ a = (hd t).2 then max (L t (hd t).1) (L t (hd t).2) + 1 else L t a
def dp (j : Nat) : Nat := max (L hd j (hd j).1) (L hd j (hd j).2) + 1
variable {hd}
theorem L_at {t a : Nat} (h : a = (hd t).1 ∨ a = (hd t).2) : L hd (t + 1) a = dp hd t := by show (if _ then _ else _) = _; rw [if_pos h]; rfl
theorem L_off {t a : Nat} (h : ¬ (a = (hd t).1 ∨ a = (hd t).2)) : L hd (t + 1) a = L hd t a := by show (if _ then _ else _) = _; rw [if_neg h]
theorem L_last : ∀ (t a : Nat), ((∀ i, ¬ K hd t a i) ∧ L hd t a = 0) ∨ ∃ l, l < t ∧ (a = (hd l).1 ∨ a = (hd l).2) ∧ (∀ i, K hd t a i ↔ Mm hd l i) ∧ L hd t a = dp hd l
  | 0, a => .inl ⟨fun i h => h, rfl⟩
  | t + 1, a => by
    by_cases c : a = (hd t).1 ∨ a = (hd t).2
    · exact .inr ⟨t, by omega, c, fun i => by rw [K_at c], L_at c⟩
    · rcases L_last t a with ⟨h, e⟩ | ⟨l, h1, h2, h3, e⟩
      · exact .inl ⟨fun i => by rw [K_off c]; exact h i, by rw [L_off c]; exact e⟩
      · exact .inr ⟨l, by omega, h2, fun i => by rw [K_off c]; exact h3 i, by rw [L_off c]; exact e⟩
theorem dp_lt : ∀ (j : Nat) {i : Nat}, Mm hd j i → i ≠ j → dp hd i < dp hd j := by
  intro j
  induction j using Nat.strongRecOn with
  | ind j ih =>
    intro i h ne
    have one : ∀ a, K hd j a i → dp hd i ≤ L hd j a := fun a hk => by
      rcases L_last (hd := hd) j a with ⟨q, _⟩ | ⟨l, hl, _, hq, e⟩
      · exact absurd hk (q i)
      · rw [e]
        by_cases c : i = l
        · subst c; exact Nat.le_refl _
        · exact Nat.le_of_lt (ih l hl ((hq i).mp hk) c)
    unfold dp
    rcases h with h | h | h
    · have := one _ h; unfold dp at this; omega
    · have := one _ h; unfold dp at this; omega
    · exact absurd h ne
theorem dp_top (j : Nat) : dp hd j = 1 ∨ ∃ i, i ≠ j ∧ Mm hd j i ∧ dp hd j = dp hd i + 1 := by
  have one : ∀ a, L hd j a = 0 ∨ ∃ i, K hd j a i ∧ L hd j a = dp hd i := fun a => by
    rcases L_last (hd := hd) j a with ⟨_, e⟩ | ⟨l, hl, _, hq, e⟩
    · exact .inl e
    · exact .inr ⟨l, (hq l).mpr (M_self l), e⟩
  have big : ∀ a, (a = (hd j).1 ∨ a = (hd j).2) → dp hd j = L hd j a + 1 → dp hd j = 1 ∨ ∃ i, i ≠ j ∧ Mm hd j i ∧ dp hd j = dp hd i + 1 := fun a ha e => by
    rcases one a with z | ⟨i, hk, z⟩
    · exact .inl (by omega)
    · have := K_lt hk
      refine .inr ⟨i, by omega, ?_, by omega⟩
      rcases ha with rfl | rfl
      · exact .inl hk
      · exact .inr (.inl hk)
  rcases Nat.le_total (L hd j (hd j).1) (L hd j (hd j).2) with c | c
  · exact big _ (.inr rfl) (by unfold dp; rw [Nat.max_eq_right c])
  · exact big _ (.inl rfl) (by unfold dp; rw [Nat.max_eq_left c])
/-- whatever counts one more than the most of all that is ahead is this -/
theorem dp_is {D : Nat → Nat} {N : Nat} (h1 : ∀ k, k < N → ∀ i, i ≠ k → Mm hd k i → D i < D k) (h2 : ∀ k, k < N → D k = 1 ∨ ∃ i, i ≠ k ∧ Mm hd k i ∧ D k = D i + 1) : ∀ k, k < N → D k = dp hd k := by
  intro k
  induction k using Nat.strongRecOn with
  | ind k ih =>
    intro hk
    have lt : ∀ i, i ≠ k → Mm hd k i → i < k := fun i ne h => by have := M_le h; omega
    have pos : 1 ≤ dp hd k := by unfold dp; omega
    have pos' : 1 ≤ D k := by rcases h2 k hk with z | ⟨i, _, _, z⟩ <;> omega
    rcases h2 k hk with z | ⟨i, ne, hm, z⟩
    · rcases dp_top (hd := hd) k with y | ⟨i, ne, hm, y⟩
      · omega
      · have := h1 k hk i ne hm
        have e := ih i (lt i ne hm) (by have := lt i ne hm; omega)
        have : 1 ≤ dp hd i := by unfold dp; omega
        omega
    · have e := ih i (lt i ne hm) (by have := lt i ne hm; omega)
      have := dp_lt k hm ne
      rcases dp_top (hd := hd) k with y | ⟨i', ne', hm', y⟩
      · have : 1 ≤ dp hd i := by unfold dp; omega
        omega
      · have := h1 k hk i' ne' hm'
        have e' := ih i' (lt i' ne' hm') (by have := lt i' ne' hm'; omega)
        omega
end
end Mk
set_option Elab.async false
set_option linter.all false
set_option maxRecDepth 100000
namespace Y
open PySem PySem.Spec PyProof.Rows L2 DL
open Classical
noncomputable section
variable {n : Nat} {R : Roads} {P : List (List Nat)} {S : Store} {k : Nat}
def lT (n : Nat) (R : Roads) (h : List Nat) (t : Nat) : List Int := (List.range n).map fun a => ((Mk.L (hdF R h) t a : Nat) : Int)
theorem linkD (so : Sound n R P) (h : List Nat) (hh : ∀ x ∈ h, x < R.length) : ∀ m t, t + m ≤ h.length → runD R ((h.drop t).take m) (lT n R h t) = lT n R h (t + m)
  | 0, t, _ => by rw [List.take_zero]; rfl
  | m + 1, t, e => by
    have ht : t < h.length := by omega
    rw [List.drop_eq_getElem_cons ht, List.take_succ_cons]
    have hx := hh h[t] (List.getElem_mem ht)
    have hr := so.hand R[h[t]] (List.getElem_mem hx)
    have ehd : hdF R h t = R[h[t]] := by unfold hdF rdAt; rw [getD_at _ ht, getD_at _ hx]
    have ea : R.getD h[t] (0, 0) = R[h[t]] := getD_at _ hx
    have ev : max ((lT n R h t).getD R[h[t]].1 0) ((lT n R h t).getD R[h[t]].2 0) + 1 = ((Mk.dp (hdF R h) t : Nat) : Int) := by
      unfold lT Mk.dp
      rw [getD_map_range _ _ hr.1, getD_map_range _ _ hr.2, ehd]
      omega
    have ec : ((lT n R h t).set R[h[t]].1 ((Mk.dp (hdF R h) t : Nat) : Int)).set R[h[t]].2 ((Mk.dp (hdF R h) t : Nat) : Int) = lT n R h (t + 1) := by
      apply List.ext_getElem
      · simp [lT]
      · intro a h1 h2
        rw [List.getElem_set, List.getElem_set]
        have gen : (lT n R h (t + 1))[a] = ((Mk.L (hdF R h) (t + 1) a : Nat) : Int) := by simp [lT]
        rw [gen]
        by_cases c : a = (hdF R h t).1 ∨ a = (hdF R h t).2
        · rw [Mk.L_at c]
          rw [ehd] at c
          by_cases c2 : R[h[t]].2 = a
          · rw [if_pos c2]
          · have c1 : R[h[t]].1 = a := c.elim (fun z => z.symm) fun z => absurd z.symm c2
            rw [if_neg c2, if_pos c1]
        · rw [Mk.L_off c]
          rw [ehd] at c
          rw [if_neg (fun z => c (.inr z.symm)), if_neg (fun z => c (.inl z.symm))]
          simp [lT]
    simp only [runD, ea]
    rw [ev, ec, linkD so h hh m (t + 1) (by omega), show t + 1 + m = t + (m + 1) by omega]
/-- depth tells the longest line -/
theorem depth_is (so : Sound n R P) (h : List Nat) (i : Nat) (hk : S[k]? = some (houseO n R P)) (hh : ∀ x ∈ h, x < R.length) (hl : h.length ≤ 200) (hi : i < h.length) :
    Ok (F_depth [.loc k, vecN h, .int (iN i)] S) fun d S' => d = .int (iN (Mk.dp (hdF R h) i)) ∧ Pre S S' := by
  refine (p_depth so h i hk hh hl hi).mono fun d S' ⟨e, q⟩ => ⟨?_, q⟩
  rw [e]
  have hx := hh h[i] (List.getElem_mem hi)
  have hr := so.hand R[h[i]] (List.getElem_mem hx)
  have e0 : List.replicate n (0 : Int) = lT n R h 0 := by
    unfold lT
    apply List.ext_getElem
    · simp
    · intro a h1 h2; simp [Mk.L]
  have := linkD so h hh (i + 1) 0 (by omega)
  rw [List.drop_zero, ← e0] at this
  have ehd : hdF R h i = R[h[i]] := by unfold hdF rdAt; rw [getD_at _ hi, getD_at _ hx]
  rw [this, getD_at (0 : Nat) hi, getD_at _ hx]
  unfold lT
  rw [getD_map_range _ _ hr.1, Nat.zero_add, Mk.L_at (.inl (by rw [ehd]))]
/-- past tells just what is ahead -/
theorem past_is (so : Sound n R P) (h : List Nat) (i : Nat) (hk : S[k]? = some (houseO n R P)) (hh : ∀ x ∈ h, x < R.length) (hl : h.length ≤ 200) (hi : i < h.length) (o : Mk.OneLine (hdF R h) (ptF P h)) :
    Ok (F_past [.loc k, vecN h, .int (iN i)] S) fun d S' => d = vecN ((List.range i).filter fun j => decide (Mk.Mm (hdF R h) i j)) ∧ Pre S S' := by
  refine (p_past so h i hk hh hl hi).mono fun d S' ⟨e, q⟩ => ⟨?_, q⟩
  rw [e]
  congr 1
  apply List.filter_congr
  intro j hj
  have hj := List.mem_range.mp hj
  rw [marks_are so h hh o, getD_map_range _ _ (by omega), getD_map_range _ _ (by omega)]
  have := leV_mk so h hh o (i := j) (j := i) (by omega)
  by_cases c : Mk.Mm (hdF R h) i j
  · rw [this.mpr c]; simp [c]
  · have hf : leV (mkT R P h j) (mkT R P h i) = false := by
      cases hb : leV (mkT R P h j) (mkT R P h i) with
      | false => rfl
      | true => exact absurd (this.mp hb) c
    rw [hf]; simp [c]
end
end Y
set_option Elab.async false
set_option linter.all false
set_option maxRecDepth 100000
namespace Y
open PySem PySem.Spec PyProof.Rows L2 DL
open Classical
noncomputable section
variable {n : Nat} {R : Roads} {P : List (List Nat)} {S : Store} {k : Nat}
theorem bool_iff {b : Bool} {p : Prop} [Decidable p] (h : b = true ↔ p) : b = decide p := by
  cases b with
  | true => rw [decide_eq_true (h.mp rfl)]
  | false => rw [decide_eq_false fun z => by cases h.mpr z]
theorem mk_eq (so : Sound n R P) (h : List Nat) (hh : ∀ x ∈ h, x < R.length) (o : Mk.OneLine (hdF R h) (ptF P h)) {i j : Nat} (hi : i < h.length) (hj : j < h.length) (e : mkT R P h i = mkT R P h j) : i = j := by
  have h1 := (leV_mk so h hh o (j := j) hi).mp (by rw [e]; unfold mkT; rw [leV_iff]; exact fun _ _ => Nat.le_refl _)
  have h2 := (leV_mk so h hh o (j := i) hj).mp (by rw [← e]; unfold mkT; rw [leV_iff]; exact fun _ _ => Nat.le_refl _)
  have := Mk.M_le h1
  have := Mk.M_le h2
  omega
/-- the first pair of which neither is ahead -/
theorem inB_congr {p q : Nat → Bool} : ∀ (m j : Nat), (∀ i, j ≤ i → i < j + m → p i = q i) → inB p j m = inB q j m
  | 0, _, _ => rfl
  | m + 1, j, h => by
    unfold inB
    rw [h j (by omega) (by omega), inB_congr m (j + 1) fun i h1 h2 => h i (by omega) (by omega)]
theorem outB_congr {len : Nat} {p q : Nat → Nat → Bool} (h : ∀ i j, i < j → j < len → p i j = q i j) : ∀ (m i : Nat), outB len p i m = outB len q i m
  | 0, _ => rfl
  | m + 1, i => by
    unfold outB
    rw [inB_congr (p := p i) (q := q i) _ _ fun j h1 h2 => h i j (by omega) (by omega), outB_congr h m (i + 1)]
theorem first_is (so : Sound n R P) (h : List Nat) (hk : S[k]? = some (houseO n R P)) (hh : ∀ x ∈ h, x < R.length) (hl : h.length ≤ 200) (o : Mk.OneLine (hdF R h) (ptF P h)) :
    Ok (F_first_beside [.loc k, vecN h] S) fun d S' => d = pairD (outB h.length (fun i j => !decide (Mk.Mm (hdF R h) j i)) 0 h.length) ∧ Pre S S' := by
  refine (p_first_beside so h hk hh hl).mono fun d S' ⟨e, q⟩ => ⟨?_, q⟩
  rw [e]
  congr 1
  apply outB_congr
  intro i j hij hj
  rw [marks_are so h hh o, getD_map_range _ _ (by omega), getD_map_range _ _ hj, bool_iff (leV_mk so h hh o (i := i) (j := j) (by omega))]
/-- what a house's roads and parts are -/
theorem sound_of (w : Web n R) (v : Parts R P) (hc : ∀ x, x < R.length → ∃ p ∈ P, x ∈ p) : Sound n R P where
  n10 := w.n10
  hand := fun r hr => by have := w.hand r hr; omega
  cover := hc
  len := by
    have : P.length ≤ P.flatten.length := by
      have : ∀ Q : List (List Nat), (∀ p ∈ Q, p ≠ []) → Q.length ≤ Q.flatten.length := fun Q => by
        induction Q with
        | nil => intro _; simp
        | cons p Q ih =>
          intro h
          have h1 := ih fun q hq => h q (List.mem_cons_of_mem _ hq)
          have h2 := List.length_pos_iff.mpr (h p List.mem_cons_self)
          simp only [List.length_cons, List.flatten_cons, List.length_append]
          omega
      exact this P fun p hp => (v.ok p hp).ne
    have := v.len
    omega
end
end Y
set_option Elab.async false
set_option linter.all false
set_option maxRecDepth 100000
namespace Y
open PySem PySem.Spec PyProof.Rows L2 DL
open Classical
noncomputable section
variable {n : Nat} {R : Roads} {P : List (List Nat)} {S S1 : Store} {k : Nat}
/-- a list of lists of indexes stands at f -/
structure PastsAt (S : Store) (f : Nat) (ps : List (List Nat)) : Prop where
  ex : ∃ ls : List Nat, S[f]? = some (.lst (ls.map D.loc)) ∧ ls.length = ps.length ∧ ∀ j (h1 : j < ls.length) (h2 : j < ps.length), S[ls[j]]? = some (.lst ((ps[j].map iN).map D.int))
theorem PastsAt.pre {f : Nat} {ps : List (List Nat)} (h : PastsAt S f ps) (q : Pre S S1) : PastsAt S1 f ps :=
  let ⟨ls, h1, h2, h3⟩ := h.ex
  ⟨ls, q.get h1, h2, fun j a b => q.get (h3 j a b)⟩
theorem PastsAt.len {f : Nat} {ps : List (List Nat)} (h : PastsAt S f ps) {Q : D → Store → Prop} : Ok (dLen (.loc f) S) Q = Q (.int (iN ps.length)) S := by
  obtain ⟨ls, h1, h2, _⟩ := h.ex
  rw [ok_lenL h1, List.length_map, h2]
/-- the list at a place -/
theorem PastsAt.row {f : Nat} {ps : List (List Nat)} (h : PastsAt S f ps) {j : Nat} (hj : j < ps.length) : ∃ l, S[l]? = some (.lst ((ps[j].map iN).map D.int)) ∧ ∀ Q : D → Store → Prop, Ok (dIx (.loc f) (.int (iN j)) S) Q = Q (.loc l) S := by
  obtain ⟨ls, h1, h2, h3⟩ := h.ex
  have hj' : j < ls.length := by omega
  exact ⟨ls[j], h3 j hj' hj, fun Q => ok_ixL (e := .loc ls[j]) h1 (ixN_lt (by simpa using hj')) (by rw [List.getElem?_map, List.getElem?_eq_getElem hj']; rfl)⟩
theorem ok_ninL {m : Nat} {u : Int} {ns : List Int} {Q : D → Store → Prop} (h : S[m]? = some (.lst (ns.map D.int))) : Ok (dInG true (.int u) (.loc m) S) Q = Q (.bl (!decide (u ∈ ns))) S := by
  unfold dInG
  simp only [toPy_lst h, toPy_int, sh_lst, sh_int, and_self, if_true]
  show Q (.bl (!((ns.map PyData.int).any _))) S = _
  rw [DL.any_ints]
theorem ok_rg1F {δ : DL.Env} {f : SE} {u : Int} {kk : Src → Store → Prop} (hf : Ok (f δ S) = fun Q => Q (.int u) S) (h : -(2 ^ 62) ≤ u ∧ u < 2 ^ 62) : Ok (iRg1 f δ S) kk = kk ⟨rngD 0 u.toNat, fun _ => True⟩ S := by
  unfold iRg1
  simp only [ok_bnd, hf, if_pos (show Small u from h)]
  rfl
end
end Y
set_option Elab.async false
set_option linter.all false
set_option maxRecDepth 100000
/-! KM4: what dicts hold, what sorting gives -/
namespace DL
open PySem PySem.Spec PyProof.Rows L2
open Classical
noncomputable section
section
variable {κ : Type} [DecidableEq κ]
theorem putD_keys (kvs : List (κ × D)) (k : κ) (v : D) : (putD kvs k v).map (·.1) = if k ∈ kvs.map (·.1) then kvs.map (·.1) else kvs.map (·.1) ++ [k] := by
  unfold putD
  by_cases c : k ∈ kvs.map (·.1)
  · have c' : (kvs.any fun p => decide (p.1 = k)) = true := by
      rw [List.any_eq_true]
      obtain ⟨p, hp, e⟩ := List.mem_map.mp c
      exact ⟨p, hp, decide_eq_true e⟩
    rw [if_pos c', if_pos c, List.map_map]
    apply List.map_congr_left
    intro p _
    show (if p.1 = k then (p.1, v) else p).1 = p.1
    split <;> rfl
  · have c' : ¬ (kvs.any fun p => decide (p.1 = k)) = true := by
      rw [List.any_eq_true]
      rintro ⟨p, hp, e⟩
      exact c (List.mem_map.mpr ⟨p, hp, of_decide_eq_true e⟩)
    rw [if_neg c', if_neg c, List.map_append]
    rfl
end
/-! ### counts in a dict -/
def hsL (L : List Int) : List Int := L.foldl addI []
theorem addI_mem' {acc : List Int} {k u : Int} : u ∈ addI acc k ↔ u ∈ acc ∨ u = k := by
  unfold addI
  by_cases c : k ∈ acc
  · rw [if_pos c]; exact ⟨.inl, fun z => z.elim id fun e => e ▸ c⟩
  · rw [if_neg c]; simp
theorem hs_mem' : ∀ (L acc : List Int) (u : Int), u ∈ L.foldl addI acc ↔ u ∈ acc ∨ u ∈ L
  | [], acc, u => by simp
  | x :: L, acc, u => by
    rw [List.foldl_cons, hs_mem' L, addI_mem', List.mem_cons, or_assoc]
theorem hsL_mem {L : List Int} {u : Int} : u ∈ hsL L ↔ u ∈ L := by unfold hsL; rw [hs_mem']; simp
theorem hsL_snoc (L : List Int) (h : Int) : hsL (L ++ [h]) = addI (hsL L) h := by unfold hsL; rw [List.foldl_append]; rfl
def cntD (L : List Int) : List (Key × D) := (hsL L).map fun h => (.inl h, .int ((L.count h : Nat) : Int))
theorem cntD_keys (L : List Int) : (cntD L).map (·.1) = (hsL L).map Sum.inl := by unfold cntD; rw [List.map_map]; rfl
theorem cntD_in {L : List Int} {h : Int} : (Sum.inl h : Key) ∈ (cntD L).map (·.1) ↔ h ∈ L := by
  rw [cntD_keys, List.mem_map]
  constructor
  · rintro ⟨u, hu, e⟩
    cases e
    exact hsL_mem.mp hu
  · intro hh
    exact ⟨h, hsL_mem.mpr hh, rfl⟩
theorem find_cnt (f : Int → D) (h : Int) : ∀ l : List Int, ((l.map fun u => ((Sum.inl u : Key), f u)).find? fun p => decide (p.1 = Sum.inl h)).map (·.2) = if h ∈ l then some (f h) else none
  | [] => rfl
  | x :: l => by
    rw [List.map_cons, List.find?_cons]
    by_cases c : x = h
    · subst c
      rw [decide_eq_true rfl]
      simp
    · have c' : ¬ ((Sum.inl x : Key) = Sum.inl h) := fun e => c (Sum.inl.inj e)
      rw [decide_eq_false c']
      dsimp only
      rw [find_cnt f h l]
      have : h ∈ x :: l ↔ h ∈ l := by rw [List.mem_cons]; exact ⟨fun z => z.elim (fun e => absurd e.symm c) id, .inr⟩
      by_cases d : h ∈ l
      · rw [if_pos d, if_pos (this.mpr d)]
      · rw [if_neg d, if_neg fun z => d (this.mp z)]
theorem cntD_val (L : List Int) (h : Int) : valD (cntD L) (Sum.inl h) = if h ∈ L then some (.int ((L.count h : Nat) : Int)) else none := by
  unfold valD cntD
  rw [find_cnt (fun u => .int ((L.count u : Nat) : Int))]
  by_cases c : h ∈ L
  · rw [if_pos c, if_pos (hsL_mem.mpr c)]
  · rw [if_neg c, if_neg fun z => c (hsL_mem.mp z)]
theorem cntD_put (L : List Int) (h : Int) : putD (cntD L) (Sum.inl h) (.int ((L.count h : Nat) + 1 : Int)) = cntD (L ++ [h]) := by
  have cnt : ∀ u, (L ++ [h]).count u = L.count u + if u = h then 1 else 0 := fun u => by
    rw [List.count_append]
    by_cases c : u = h
    · subst c; simp
    · have : ¬ h = u := fun e => c e.symm
      simp [c, this, List.count_cons]
  by_cases c : h ∈ L
  · have hs : hsL (L ++ [h]) = hsL L := by rw [hsL_snoc]; unfold addI; rw [if_pos (hsL_mem.mpr c)]
    have c' : ((cntD L).any fun p => decide (p.1 = Sum.inl h)) = true := by
      rw [List.any_eq_true]
      obtain ⟨p, hp, e⟩ := List.mem_map.mp (cntD_in.mpr c)
      exact ⟨p, hp, decide_eq_true e⟩
    unfold putD
    rw [if_pos c']
    unfold cntD
    rw [hs, List.map_map]
    apply List.map_congr_left
    intro u _
    show (if (Sum.inl u : Key) = Sum.inl h then ((Sum.inl u : Key), D.int ((L.count h : Nat) + 1 : Int)) else (Sum.inl u, D.int ((L.count u : Nat) : Int))) = (Sum.inl u, D.int (((L ++ [h]).count u : Nat) : Int))
    rw [cnt]
    by_cases d : u = h
    · subst d; rw [if_pos rfl, if_pos rfl]; simp
    · rw [if_neg fun e => d (Sum.inl.inj e), if_neg d]; simp
  · have hs : hsL (L ++ [h]) = hsL L ++ [h] := by rw [hsL_snoc]; unfold addI; rw [if_neg fun z => c (hsL_mem.mp z)]
    have c' : ¬ ((cntD L).any fun p => decide (p.1 = Sum.inl h)) = true := by
      rw [List.any_eq_true]
      rintro ⟨p, hp, e⟩
      exact c (cntD_in.mp (List.mem_map.mpr ⟨p, hp, of_decide_eq_true e⟩))
    unfold putD
    rw [if_neg c']
    unfold cntD
    rw [hs, List.map_append]
    congr 1
    · apply List.map_congr_left
      intro u hu
      have d : ¬ u = h := fun e => c (e ▸ hsL_mem.mp hu)
      rw [cnt, if_neg d]; simp
    · rw [List.map_cons, List.map_nil, cnt, if_pos rfl]; simp
/-! ### sorting -/
section
variable {S : Store}
theorem all_like {ds : List D} (h : ∀ x ∈ ds, ∀ y ∈ ds, PySem.W.alike (encS S x) (encS S y) = true) : PySem.W.AllAlike (ds.map (encS S)) := by
  intro d hd d' hd'
  obtain ⟨x, hx, rfl⟩ := List.mem_map.mp hd
  obtain ⟨y, hy, rfl⟩ := List.mem_map.mp hd'
  exact h x hx y hy
theorem enc_int (u : Int) : encS S (.int u) = .int u := rfl
theorem enc_vec (ns : List Int) : encS S (.tup (ns.map D.int)) = .tuple (ns.map PyData.int) := by unfold encS; rw [toPy_vec]; rfl
theorem sort1_ints (ks : List Int) (h : ks.length ≤ sizeLine) : Sort1 S (ks.map D.int) := by
  have mem : ∀ d ∈ ks.map D.int, ∃ u, d = .int u := fun d hd => let ⟨u, _, e⟩ := List.mem_map.mp hd; ⟨u, e.symm⟩
  refine ⟨fun d hd => ?_, all_like fun x hx y hy => ?_, .inr fun d hd => ?_, by simpa using h, fun d hd => ?_⟩
  · obtain ⟨u, rfl⟩ := mem d hd; exact ⟨_, rfl⟩
  · obtain ⟨u, rfl⟩ := mem x hx
    obtain ⟨v, rfl⟩ := mem y hy
    rfl
  · obtain ⟨x, hx, rfl⟩ := List.mem_map.mp hd
    obtain ⟨u, rfl⟩ := mem x hx
    rw [enc_int]
    exact ⟨fun z => (by cases z), fun xs z => (by cases z)⟩
  · obtain ⟨u, rfl⟩ := mem d hd
    rw [enc_int]; simp [PyData.depth]
theorem ms_ints (ks : List Int) : (ks.map D.int).mergeSort (PySem.W.dataLe false (encS S)) = (ks.mergeSort fun a b => decide (a ≤ b)).map D.int := by
  rw [List.map_mergeSort]
  intro a _ b _
  rw [PySem.W.dataLe_eq]
  show decide (a ≤ b) = !PySem.W.dataLt (encS S (.int b)) (encS S (.int a))
  rw [enc_int, enc_int, PySem.W.dataLt_int]
  by_cases c : a ≤ b
  · rw [decide_eq_true c, decide_eq_false (by omega)]; rfl
  · rw [decide_eq_false c, decide_eq_true (by omega)]; rfl
theorem alike_ints : ∀ xs ys : List Int, PySem.W.alikeAll (xs.map PyData.int) (ys.map PyData.int) = true
  | [], _ => by simp [PySem.W.alikeAll]
  | _ :: _, [] => by simp [PySem.W.alikeAll]
  | x :: xs, y :: ys => by simp [PySem.W.alikeAll, PySem.W.alike, alike_ints xs ys]
theorem sort1_vecs (vs : List (List Int)) (h : vs.length ≤ sizeLine) (ne : ∀ v ∈ vs, v ≠ []) : Sort1 S (vs.map vec) := by
  have mem : ∀ d ∈ vs.map vec, ∃ u, u ∈ vs ∧ d = .tup (u.map D.int) := fun d hd => let ⟨u, hu, e⟩ := List.mem_map.mp hd; ⟨u, hu, e.symm⟩
  refine ⟨fun d hd => ?_, all_like fun x hx y hy => ?_, .inl fun d hd => ?_, by simpa using h, fun d hd => ?_⟩
  · obtain ⟨u, _, rfl⟩ := mem d hd; exact ⟨_, toPy_vec u⟩
  · obtain ⟨u, _, rfl⟩ := mem x hx
    obtain ⟨v, _, rfl⟩ := mem y hy
    rw [enc_vec, enc_vec]
    exact alike_ints u v
  · obtain ⟨x, hx, rfl⟩ := List.mem_map.mp hd
    obtain ⟨u, hu, rfl⟩ := mem x hx
    cases u with
    | nil => exact absurd rfl (ne _ hu)
    | cons a r => exact ⟨.int a, r.map PyData.int, by rw [enc_vec]; rfl⟩
  · obtain ⟨u, _, rfl⟩ := mem d hd
    rw [enc_vec]
    simp [PyData.depth, dep_ints]
/-- vectors sorted, as lists of ints are -/
theorem ms_vecs (vs : List (List Int)) : (vs.map vec).mergeSort (PySem.W.dataLe false (encS S)) = (vs.mergeSort fun a b => decide (a ≤ b)).map vec := by
  rw [List.map_mergeSort]
  intro a _ b _
  rw [PySem.W.dataLe_eq]
  have h := congrFun (congrFun (PySem.W.dataLe_rows (fun x : List Int => x)) a) b
  rw [PySem.W.dataLe_eq] at h
  show decide (a ≤ b) = !PySem.W.dataLt (encS S (.tup (b.map D.int))) (encS S (.tup (a.map D.int)))
  rw [enc_vec, enc_vec, PySem.W.dataLt_tuple, ← PySem.W.dataLt_list]
  exact h.symm
theorem ok_sortD {n : Nat} {kvs : List (Key × D)} {ks : List Int} {Q : D → Store → Prop} (h : S[n]? = some (.dik kvs)) (hk : kvs.map (·.1) = ks.map Sum.inl) (hl : ks.length ≤ sizeLine) :
    Ok (dSortedD (.loc n) S) Q = Q (.loc S.length) (S ++ [.lst ((ks.mergeSort fun a b => decide (a ≤ b)).map D.int)]) := by
  have e : keysD (.dik kvs) = some (ks.map D.int) := by
    show some (kvs.map fun q => keyD q.1) = _
    congr 1
    have : (kvs.map fun q => keyD q.1) = (kvs.map (·.1)).map keyD := by rw [List.map_map]; rfl
    rw [this, hk, List.map_map]
    rfl
  unfold dSortedD
  simp only [h, e, if_pos (sort1_ints (S := S) ks hl), ms_ints]
  rfl
theorem ok_sortV {n : Nat} {vs : List (List Int)} {Q : D → Store → Prop} (h : S[n]? = some (.lst (vs.map vec))) (hl : vs.length ≤ sizeLine) (ne : ∀ v ∈ vs, v ≠ []) :
    Ok (dSortedA (.loc n) S) Q = Q (.loc S.length) (S ++ [.lst ((vs.mergeSort fun a b => decide (a ≤ b)).map vec)]) := by
  show Ok (dSorted (.loc n) S) Q = _
  unfold dSorted
  simp only [h, if_pos (sort1_vecs (S := S) vs hl ne), ms_vecs]
  rfl
theorem ok_sortDT {n : Nat} {kvs : List (List Key × D)} {vs : List (List Int)} {Q : D → Store → Prop} (h : S[n]? = some (.dit kvs)) (hk : kvs.map (·.1) = vs.map fun v => v.map Sum.inl) (hl : vs.length ≤ sizeLine) (ne : ∀ v ∈ vs, v ≠ []) :
    Ok (dSortedD (.loc n) S) Q = Q (.loc S.length) (S ++ [.lst ((vs.mergeSort fun a b => decide (a ≤ b)).map vec)]) := by
  have e : keysD (.dit kvs) = some (vs.map vec) := by
    show some (kvs.map fun q => D.tup (q.1.map keyD)) = _
    congr 1
    have : (kvs.map fun q => D.tup (q.1.map keyD)) = (kvs.map (·.1)).map fun k => D.tup (k.map keyD) := by rw [List.map_map]; rfl
    rw [this, hk, List.map_map]
    apply List.map_congr_left
    intro v _
    show D.tup ((v.map Sum.inl).map keyD) = .tup (v.map D.int)
    rw [List.map_map]
    rfl
  unfold dSortedD
  simp only [h, e, if_pos (sort1_vecs (S := S) vs hl ne), ms_vecs]
  rfl
/-- sorted: in order, and as before but for the order -/
theorem ints_sorted (ks : List Int) : (ks.mergeSort fun a b => decide (a ≤ b)).Pairwise (· ≤ ·) := by
  have := List.pairwise_mergeSort (le := fun a b : Int => decide (a ≤ b)) (fun a b c h1 h2 => by simp at h1 h2 ⊢; omega) (fun a b => by simp; omega) ks
  exact this.imp fun h => by simpa using h
theorem vecs_sorted (vs : List (List Int)) : (vs.mergeSort fun a b => decide (a ≤ b)).Pairwise (· ≤ ·) := by
  have := List.pairwise_mergeSort (le := fun a b : List Int => decide (a ≤ b)) (fun a b c h1 h2 => by simp at h1 h2 ⊢; exact List.le_trans h1 h2) (fun a b => by simp; exact List.le_total a b) vs
  exact this.imp fun h => by simpa using h
theorem strict_ints {ks : List Int} (h : ks.Nodup) : (ks.mergeSort fun a b => decide (a ≤ b)).Pairwise (· < ·) := by
  have n : (ks.mergeSort fun a b => decide (a ≤ b)).Nodup := (List.mergeSort_perm ks _).nodup_iff.mpr h
  exact ((ints_sorted ks).and n).imp fun ⟨a, b⟩ => by omega
/-- the heads of unlike ones ascend -/
theorem head_lt {a b : Int} {r s : List Int} (h : (a :: r) ≤ (b :: s)) (ne : a ≠ b) : a < b := by
  rcases Int.lt_or_gt_of_ne ne with c | c
  · exact c
  · exact absurd (List.cons_lt_cons_iff.mpr (.inl c)) (List.not_lt.mpr h)
end
/-! ### a dict of roads -/
theorem keys_vec (ns : List Int) : asKeys (ns.map D.int) = some (ns.map Sum.inl) := by
  induction ns with
  | nil => rfl
  | cons n r ih => simp [asKeys, asKey, ih]
theorem pairs_vec (v : D) : ∀ vs : List (List Int), pairsT (vs.map fun x => .tup [vec x, v]) = some (vs.map fun x => (x.map Sum.inl, v))
  | [] => rfl
  | x :: vs => by
    have e : pairT (.tup [vec x, v]) = some (x.map Sum.inl, v) := by unfold pairT vec; simp [keys_vec]
    simp [pairsT, e, pairs_vec v vs]
theorem inl_inj : ∀ {x y : List Int}, x.map (Sum.inl : Int → Key) = y.map Sum.inl → x = y
  | [], [], _ => rfl
  | [], _ :: _, h => by cases h
  | _ :: _, [], h => by cases h
  | a :: x, b :: y, h => by
    have h1 := (List.cons.inj h).1
    have h2 := inl_inj (List.cons.inj h).2
    rw [Sum.inl.inj h1, h2]
theorem merge_keys (v : D) : ∀ (vs : List (List Int)) (acc : List (List Key × D)) (us : List (List Int)), acc.map (·.1) = us.map (fun x => x.map Sum.inl) → us.Nodup →
    ∃ ws : List (List Int), (mergeD acc (vs.map fun x => (x.map Sum.inl, v))).map (·.1) = ws.map (fun x => x.map Sum.inl) ∧ ws.Nodup ∧ (∀ x, x ∈ ws ↔ x ∈ us ∨ x ∈ vs) ∧ ws.length ≤ us.length + vs.length
  | [], acc, us, h, nd => ⟨us, h, nd, fun x => by simp, by simp⟩
  | y :: vs, acc, us, h, nd => by
    have hm : (y.map Sum.inl : List Key) ∈ acc.map (·.1) ↔ y ∈ us := by
      rw [h, List.mem_map]
      exact ⟨fun ⟨z, hz, e⟩ => inl_inj e ▸ hz, fun hy => ⟨y, hy, rfl⟩⟩
    have hk := putD_keys acc (y.map Sum.inl : List Key) v
    by_cases c : y ∈ us
    · rw [if_pos (hm.mpr c), h] at hk
      obtain ⟨ws, h1, h2, h3, h4⟩ := merge_keys v vs (putD acc (y.map Sum.inl) v) us hk nd
      refine ⟨ws, h1, h2, fun x => ?_, by simp only [List.length_cons]; omega⟩
      rw [h3, List.mem_cons]
      constructor
      · rintro (z | z)
        · exact .inl z
        · exact .inr (.inr z)
      · rintro (z | z | z)
        · exact .inl z
        · exact .inl (z ▸ c)
        · exact .inr z
    · rw [if_neg fun z => c (hm.mp z), h] at hk
      have nd' : (us ++ [y]).Nodup := by
        rw [List.nodup_append]
        refine ⟨nd, by simp, fun a ha b hb e => ?_⟩
        rw [List.mem_singleton] at hb
        subst hb; subst e; exact c ha
      obtain ⟨ws, h1, h2, h3, h4⟩ := merge_keys v vs (putD acc (y.map Sum.inl) v) (us ++ [y]) (by rw [hk, List.map_append]; rfl) nd'
      refine ⟨ws, h1, h2, fun x => ?_, by simp only [List.length_append, List.length_cons, List.length_nil] at h4 ⊢; omega⟩
      rw [h3, List.mem_cons, List.mem_append, List.mem_singleton, or_assoc]
theorem ok_dictT {S : Store} {n : Nat} {vs : List (List Int)} {v : D} {Q : D → Store → Prop} (h : S[n]? = some (.lst (vs.map fun x => .tup [vec x, v]))) :
    Ok (dDictT (.loc n) S) Q = Q (.loc S.length) (S ++ [.dit (mergeD [] (vs.map fun x => (x.map Sum.inl, v)))]) := by
  unfold dDictT
  simp only [h, pairs_vec]
  rfl
end
end DL
set_option Elab.async false
set_option linter.all false
set_option maxRecDepth 100000
namespace Y
open PySem PySem.Spec PyProof.Rows L2 DL
open Classical
noncomputable section
variable {n : Nat} {R : Roads} {P : List (List Nat)} {S S1 S2 : Store} {k m : Nat}
/-- something of a list, drawn -/
theorem p_law_one (hs : SrcAt m S) (hk : k ≠ m) {ds : List D} (h : S[k]? = some (.lst ds)) (h0 : 0 < ds.length) (h1 : ds.length < 1000000) : Ok (F__law_one [.loc m, .loc k] S) fun d S' => d ∈ ds ∧ Keeps m S S' := by
  refine ok_fnK hs.lt ?_
  show Ok (b__law_one [some (.loc m), some (.loc k)] S) _
  unfold b__law_one
  rw [ok_sret, ok_bin, ok_var (d := .loc k) rfl, ok_fn, ok_acons, ok_var (d := .loc m) rfl, ok_acons, ok_call, ok_acons, ok_var (d := .loc k) rfl, ok_anil, ok_op1, ok_lenL h, ok_anil]
  refine (p_take (ds.length : Nat) hs (by omega) (by omega)).mono fun d S1 ⟨⟨u, e, hu⟩, k1⟩ => ?_
  subst e
  have hu' : u < ds.length := by omega
  rw [ok_ixL (u := iN u) (j := u) (e := ds[u]) (k1.old _ _ hk h) (ixN_lt hu') (List.getElem?_eq_getElem hu')]
  exact ⟨List.getElem_mem hu', k1⟩
theorem ok_spar {i j : Nat} {t : SA} {δ : DL.Env} {O : Out → Store → Prop} {x y : D} (h : Ok (t δ S) fun ds S1 => ∃ x y, ds = [x, y] ∧ O (.nx ((δ.set i (some x)).set j (some y))) S1) : Ok (sPar i j t δ S) O := by
  unfold sPar
  rw [ok_bnd]
  refine h.mono fun ds S1 ⟨x, y, e, h1⟩ => ?_
  subst e
  exact h1
def vR (r : Nat × Nat) : List Int := [iN r.1, iN r.2]
def rV (v : List Int) : Nat × Nat := ((v.getD 0 0).toNat, (v.getD 1 0).toNat)
theorem rV_vR (r : Nat × Nat) : rV (vR r) = r := by simp [rV, vR, iN]
theorem vec_vR (r : Nat × Nat) : vec (vR r) = rdD r := rfl
/-- a drawn web: its roads from a dict, sorted -/
theorem web_of (h1 : 1 ≤ n) (h2 : n ≤ 10) {rs : Roads} (hr : ∀ r ∈ rs, r.1 < r.2 ∧ r.2 < n) {ws : List (List Int)} (nd : ws.Nodup) (hw : ∀ x ∈ ws, x ∈ rs.map vR) :
    ∃ R : Roads, (ws.mergeSort fun a b => decide (a ≤ b)).map vec = R.map rdD ∧ Web n R ∧ R.length = ws.length := by
  have hm : ∀ x ∈ (ws.mergeSort fun a b => decide (a ≤ b)), ∃ r ∈ rs, x = vR r := fun x hx => by
    obtain ⟨r, hr, e⟩ := List.mem_map.mp (hw x ((List.mergeSort_perm ws _).mem_iff.mp hx))
    exact ⟨r, hr, e.symm⟩
  have hs := vecs_sorted ws
  have hn : (ws.mergeSort fun a b => decide (a ≤ b)).Nodup := (List.mergeSort_perm ws _).nodup_iff.mpr nd
  have hl : (ws.mergeSort fun a b => decide (a ≤ b)).length = ws.length := (List.mergeSort_perm ws _).length_eq
  generalize (ws.mergeSort fun a b => decide (a ≤ b)) = us at hm hs hn hl
  have hv : ∀ x ∈ us, vR (rV x) = x := fun x hx => by
    obtain ⟨r, _, e⟩ := hm x hx
    rw [e, rV_vR]
  refine ⟨us.map rV, ?_, ?_, by rw [List.length_map, hl]⟩
  · rw [List.map_map]
    apply List.map_congr_left
    intro x hx
    show vec x = rdD (rV x)
    rw [← vec_vR, hv x hx]
  · refine ⟨h1, h2, fun r hr' => ?_, fun i hi => ?_⟩
    · obtain ⟨x, hx, e⟩ := List.mem_map.mp hr'
      obtain ⟨q, hq, e2⟩ := hm x hx
      subst e; rw [e2, rV_vR]
      exact hr q hq
    · have hi' : i + 1 < us.length := by simpa using hi
      have ple := (List.pairwise_iff_getElem.mp hs) i (i + 1) (by omega) hi' (by omega)
      have pne := (List.pairwise_iff_getElem.mp hn) i (i + 1) (by omega) hi' (by omega)
      obtain ⟨p, _, e1⟩ := hm us[i] (List.getElem_mem _)
      obtain ⟨q, _, e2⟩ := hm us[i + 1] (List.getElem_mem _)
      rw [e1, e2] at ple pne
      rw [List.getElem_map, List.getElem_map, e1, e2, rV_vR, rV_vR]
      unfold ltP
      by_cases c : p.1 = q.1
      · refine .inr ⟨c, ?_⟩
        by_cases d : p.2 = q.2
        · exact absurd (show vR p = vR q by unfold vR; rw [c, d]) pne
        · have e : vR p = [iN p.1, iN p.2] := rfl
          rcases Nat.lt_or_gt_of_ne d with z | z
          · exact z
          · refine absurd ?_ (List.not_lt.mpr ple)
            unfold vR
            rw [c]
            exact List.cons_lt_cons_iff.mpr (.inr ⟨rfl, List.cons_lt_cons_iff.mpr (.inl (by simp only [iN]; omega))⟩)
      · refine .inl ?_
        have := head_lt (a := iN p.1) (b := iN q.1) (r := [iN p.2]) (s := [iN q.2]) ple (by simp only [iN]; omega)
        simp only [iN] at this
        omega
theorem p_law_web (hs : SrcAt m S) (hk : k ≠ m) (menu : List Nat) (h : S[k]? = some (.lst ((menu.map iN).map D.int))) (h0 : menu ≠ []) (hl : menu.length ≤ 1000) (hm : ∀ x ∈ menu, 1 ≤ x ∧ x ≤ 6) :
    Ok (F__law_web [.loc m, .loc k] S) fun d S' => (∃ n R, d = .tup [.int (iN n), roadsD R] ∧ Web n R ∧ R.length ≤ 20) ∧ Keeps m S S' := by
  refine ok_fnK hs.lt ?_
  show Ok (b__law_web [some (.loc m), some (.loc k), none, none, none, none, none, none] S) _
  have hsz : sizeLine = 16777216 := rfl
  have hmS := hs.lt
  have hkp : 0 < menu.length := List.length_pos_iff.mpr h0
  unfold b__law_web
  rw [ok_sseq]
  refine ok_spar (x := .non) (y := .non) ?_
  rw [ok_acons, ok_fn, ok_acons, ok_var (d := .loc m) rfl, ok_acons, ok_var (d := .loc k) rfl, ok_anil]
  refine (p_law_one hs hk h (by simpa using hkp) (by simp; omega)).mono fun d S1 ⟨hd, k1⟩ => ?_
  rw [List.map_map] at hd
  obtain ⟨n, hn, rfl⟩ := List.mem_map.mp hd
  obtain ⟨n1, n6⟩ := hm n hn
  rw [ok_acons, ok_elst, ok_anil, if_pos (by simp), ok_anil]
  refine ⟨_, _, rfl, ?_⟩
  dsimp only
  have hF : S.length ≤ S1.length := k1.len
  have hFm : S1.length ≠ m := by omega
  have k2 : Keeps m S (S1 ++ [MO.lst []]) := k1.trans (Keeps.pre k1.src (Pre.push .refl))
  have g2 : (S1 ++ [MO.lst []])[S1.length]? = some (.lst ((([] : Roads)).map rdD)) := by simp
  generalize S1.length = F at hF hFm g2 ⊢
  generalize S1 ++ [MO.lst []] = S2 at k2 g2 ⊢
  rw [ok_sseq, ok_sfor, ok_rg2 (u := 1) (v := iN n) (by funext Q; rw [ok_c]) (by funext Q; exact ok_var (d := .int (iN n)) rfl) (by simp only [iN]; omega)]
  have e0 : rngD 1 (iN n - 1).toNat = rngD (iN 1) (n - 1) := by
    have : (iN n - 1).toNat = n - 1 := by simp only [iN]; omega
    rw [this]; rfl
  rw [e0]
  refine ok_for (fun items δ S' => ∃ (q b : Nat) (rs : Roads) (z4 : Option D), items = rngD (iN b) q ∧ δ = [some (.loc m), some (.loc k), some (.int (iN n)), some (.loc F), z4, none, none, none] ∧ 1 ≤ b ∧ b + q = n ∧ Keeps m S S' ∧ S'[F]? = some (.lst (rs.map rdD)) ∧ rs.length ≤ b ∧ ∀ r ∈ rs, r.1 < r.2 ∧ r.2 < n) ?_ ?_ _ _ _ ⟨n - 1, 1, [], none, rfl, rfl, by omega, by omega, k2, g2, by simp, fun r hr => by simp at hr⟩
  · rintro x r δ S3 ⟨q, b, rs, z4, e, rfl, hb1, hbq, k3, g3, hrl, hr⟩
    cases q with
    | zero => cases e
    | succ q =>
      rw [rng_cons] at e
      cases e
      refine ⟨True.intro, ?_⟩
      rw [ok_gn]
      rw [ok_sif, ok_tof, ok_bin, ok_fn, ok_acons, ok_var (d := .loc m) rfl, ok_acons, ok_c, ok_anil]
      refine (p_take 6 k3.src (by omega) (by omega)).mono fun d S4 ⟨⟨u, e, hu⟩, k4⟩ => ?_
      subst e
      have g4 := k4.old _ _ hFm g3
      rw [ok_c, ok_gt, ok_asb]
      by_cases c : 0 < iN u
      · rw [if_pos (decide_eq_true c), ok_sdrop, ok_mth, ok_var (d := .loc F) rfl, ok_isl g4, ok_acons, ok_etup, ok_acons, ok_fn, ok_acons, ok_var (d := .loc m) rfl, ok_acons, ok_var (d := .int (iN b)) rfl, ok_anil]
        refine (p_take (iN b) k4.src (by simp only [iN]; omega) (by simp only [iN]; omega)).mono fun d S5 ⟨⟨v, e, hv⟩, k5⟩ => ?_
        subst e
        have g5 := k5.old _ _ hFm g4
        rw [ok_acons, ok_var (d := .int (iN b)) rfl, ok_anil, if_pos (by simp; omega), ok_anil, ok_app g5 (by simp; omega)]
        refine ⟨q, b + 1, rs ++ [(v, b)], _, by simp [iN], rfl, by omega, by omega, ((k3.trans k4).trans k5).setN hmS (by omega), ?_, by simp; omega, fun r hr' => ?_⟩
        · rw [set_get (List.getElem?_eq_some_iff.mp g5).1, List.map_append]
          rfl
        · rcases List.mem_append.mp hr' with z | z
          · exact hr r z
          · rw [List.mem_singleton] at z
            subst z
            simp only [iN] at hv
            exact ⟨by show v < b; omega, by show b < n; omega⟩
      · rw [if_neg (by simpa using c), ok_snext]
        exact ⟨q, b + 1, rs, _, by simp [iN], rfl, by omega, by omega, k3.trans k4, g4, by omega, hr⟩
  · rintro δ S3 ⟨q, b, rs, z4, e, rfl, hb1, hbq, k3, g3, hrl, hr⟩
    refine ⟨True.intro, ?_⟩
    cases q with
    | succ q => rw [rng_cons] at e; cases e
    | zero =>
      dsimp only
      have hsrc := k3.src
      rw [ok_sseq, ok_sfor]
      have step2 : ∀ (T : Nat) (S4 : Store), T ≤ 3 → Keeps m S S4 → S4[F]? = some (.lst (rs.map rdD)) → Ok (forL (fun _ => True) (gN 5) (sIf (tOf (eBin dGtA (eVar 2) (eC (.int 1)))) (sSeq (sAsg (eFn F__law_take (aCons (eVar 0) (aCons (eBin dSub (eVar 2) (eC (.int 1))) (aNil)))) (gN 6)) (sDrop (eMth dAppend (eVar 3) (aCons (eTup (aCons (eVar 6) (aCons (eBin dAdd (eBin dAdd (eVar 6) (eC (.int 1))) (eFn F__law_take (aCons (eVar 0) (aCons (eBin dSub (eBin dSub (eVar 2) (eC (.int 1))) (eVar 6)) (aNil))))) (aNil)))) (aNil))))) (sNext)) (rngD 0 T) [some (.loc m), some (.loc k), some (.int (iN n)), some (.loc F), z4, none, none, none] S4)
          fun o S' => ∃ (rs : Roads) (z5 z6 : Option D), o = .nx [some (.loc m), some (.loc k), some (.int (iN n)), some (.loc F), z4, z5, z6, none] ∧ Keeps m S S' ∧ S'[F]? = some (.lst (rs.map rdD)) ∧ rs.length ≤ 20 ∧ ∀ r ∈ rs, r.1 < r.2 ∧ r.2 < n := by
        intro T S4 hT k4 g4
        refine ok_for (fun items δ S' => ∃ (q t : Nat) (rs : Roads) (z5 z6 : Option D), items = rngD (iN t) q ∧ δ = [some (.loc m), some (.loc k), some (.int (iN n)), some (.loc F), z4, z5, z6, none] ∧ t + q = T ∧ Keeps m S S' ∧ S'[F]? = some (.lst (rs.map rdD)) ∧ rs.length ≤ 10 + t ∧ ∀ r ∈ rs, r.1 < r.2 ∧ r.2 < n) ?_ ?_ _ _ _ ⟨T, 0, rs, none, none, rfl, rfl, by omega, k4, g4, by omega, hr⟩
        · rintro x r δ S5 ⟨q, t, rs, z5, z6, e, rfl, htq, k5, g5, hrl, hr⟩
          cases q with
          | zero => cases e
          | succ q =>
            rw [rng_cons] at e
            cases e
            refine ⟨True.intro, ?_⟩
            rw [ok_gn]
            rw [ok_sif, ok_tof, ok_bin, ok_var (d := .int (iN n)) rfl, ok_c, ok_gt, ok_asb]
            by_cases c : 1 < iN n
            · have c' : 1 < n := by simp only [iN] at c; omega
              rw [if_pos (decide_eq_true c), ok_sseq, ok_sasg, ok_fn, ok_acons, ok_var (d := .loc m) rfl, ok_acons, ok_bin, ok_var (d := .int (iN n)) rfl, ok_c, ok_sub, ok_anil]
              refine (p_take (iN n - 1) k5.src (by omega) (by simp only [iN]; omega)).mono fun d S6 ⟨⟨a, e, ha⟩, k6⟩ => ?_
              subst e
              have g6 := k6.old _ _ hFm g5
              rw [ok_gn]
              dsimp only
              rw [ok_sdrop, ok_mth, ok_var (d := .loc F) rfl, ok_isl g6, ok_acons, ok_etup, ok_acons, ok_var (d := .int (iN a)) rfl, ok_acons, ok_bin, ok_bin, ok_var (d := .int (iN a)) rfl, ok_c, ok_addII, ok_fn, ok_acons, ok_var (d := .loc m) rfl, ok_acons, ok_bin, ok_bin, ok_var (d := .int (iN n)) rfl, ok_c, ok_sub, ok_var (d := .int (iN a)) rfl, ok_sub, ok_anil]
              simp only [iN] at ha
              refine (p_take (iN n - 1 - iN a) k6.src (by simp only [iN]; omega) (by simp only [iN]; omega)).mono fun d S7 ⟨⟨b, e, hb⟩, k7⟩ => ?_
              subst e
              have g7 := k7.old _ _ hFm g6
              simp only [iN] at hb
              rw [ok_addII, ok_anil, if_pos (by simp; omega), ok_anil, ok_app g7 (by simp; omega)]
              refine ⟨q, t + 1, rs ++ [(a, a + 1 + b)], _, _, by simp [iN], rfl, by omega, ((k5.trans k6).trans k7).setN hmS (by omega), ?_, by simp; omega, fun r hr' => ?_⟩
              · rw [set_get (List.getElem?_eq_some_iff.mp g7).1, List.map_append]
                have : rdD (a, a + 1 + b) = .tup [.int (iN a), .int (iN a + 1 + iN b)] := by
                  show D.tup [.int (iN a), .int (iN (a + 1 + b))] = _
                  simp [iN]
                rw [List.map_cons, List.map_nil, this]
              · rcases List.mem_append.mp hr' with z | z
                · exact hr r z
                · rw [List.mem_singleton] at z
                  subst z
                  exact ⟨by show a < a + 1 + b; omega, by show a + 1 + b < n; omega⟩
            · rw [if_neg (by simpa using c), ok_snext]
              exact ⟨q, t + 1, rs, _, _, by simp [iN], rfl, by omega, k5, g5, by omega, hr⟩
        · rintro δ S5 ⟨q, t, rs, z5, z6, e, rfl, htq, k5, g5, hrl, hr⟩
          refine ⟨True.intro, ?_⟩
          exact ⟨rs, z5, z6, rfl, k5, g5, by omega, hr⟩
      unfold iRg1
      rw [ok_bnd, ok_fn, ok_acons, ok_var (d := .loc m) rfl, ok_acons, ok_c, ok_anil]
      refine (p_take 3 hsrc (by omega) (by omega)).mono fun d S4 ⟨⟨T, e, hT⟩, k4⟩ => ?_
      subst e
      rw [show (D.int (iN T)) = .int (T : Int) from rfl]
      dsimp only
      rw [if_pos (show Small T from ⟨by omega, by omega⟩)]
      refine (step2 T S4 (by omega) (k3.trans k4) (k4.old _ _ hFm g3)).mono fun o S5 ⟨rs, z5, z6, e, k5, g5, hrl, hr⟩ => ?_
      subst e
      dsimp only
      rw [ok_sret, ok_etup, ok_acons, ok_var (d := .int (iN n)) rfl, ok_acons, ok_call, ok_acons, ok_call, ok_acons, ok_call, ok_acons]
      refine (ok_eLc (S := S5) (fun z => some (D.tup [z, .bl true])) (items := rs.map rdD) (l := fun S => S[F]? = some (.lst (rs.map rdD))) ?_ (by simp; omega) (fun S6 q6 => q6.get g5) ?_).mono ?_
      · rw [ok_iseq, ok_var (d := .loc F) rfl]
        show Ok (srcOf (.loc F) S5) _
        unfold srcOf
        simp only [g5]
        exact ⟨rfl, .refl⟩
      · intro z hz S6 q6
        show Ok (gN 7 z _ S6) _
        rw [ok_gn]
        refine ⟨rfl, ?_⟩
        rw [ok_ttrue]
        refine ⟨.refl, rfl, ?_⟩
        rw [ok_etup, ok_acons, ok_var (d := z) rfl, ok_acons, ok_c, ok_anil, if_pos (by simp; omega)]
        exact ⟨rfl, .refl⟩
      · rintro d S6 ⟨j, rfl, hj, q6, g6⟩
        have eP : (rs.map rdD).filterMap (fun z => some (D.tup [z, .bl true])) = (rs.map vR).map fun x => D.tup [vec x, .bl true] := by
          rw [fm_all rdD _ (fun r => D.tup [rdD r, .bl true]) (fun x => rfl), List.map_map]
          rfl
        rw [eP] at g6
        rw [ok_anil, ok_op1, ok_dictT g6, ok_anil, ok_op1]
        obtain ⟨ws, w1, w2, w3, w4⟩ := merge_keys (.bl true) (rs.map vR) [] [] rfl (by simp)
        have wne : ∀ v ∈ ws, v ≠ [] := fun v hv => by
          rcases (w3 v).mp hv with z | z
          · simp at z
          · obtain ⟨r, _, rfl⟩ := List.mem_map.mp z
            simp [vR]
        simp only [List.length_nil, List.length_map] at w4
        have q7 : Pre S6 (S6 ++ [MO.dit (mergeD [] ((rs.map vR).map fun x => (x.map Sum.inl, .bl true)))]) := Pre.push .refl
        have g7 : (S6 ++ [MO.dit (mergeD [] ((rs.map vR).map fun x => (x.map Sum.inl, .bl true)))])[S6.length]? = some (.dit (mergeD [] ((rs.map vR).map fun x => (x.map Sum.inl, .bl true)))) := by simp
        generalize S6 ++ [MO.dit (mergeD [] ((rs.map vR).map fun x => (x.map Sum.inl, .bl true)))] = S7 at q7 g7 ⊢
        rw [ok_sortDT g7 w1 (by omega) wne, ok_anil, ok_op1]
        obtain ⟨R, r1, r2, r3⟩ := web_of n1 (by omega) hr w2 (fun x hx => ((w3 x).mp hx).elim (fun z => by simp at z) id)
        rw [r1]
        have q8 : Pre S7 (S7 ++ [MO.lst (R.map rdD)]) := Pre.push .refl
        have g8 : (S7 ++ [MO.lst (R.map rdD)])[S7.length]? = some (.lst (R.map rdD)) := by simp
        generalize S7 ++ [MO.lst (R.map rdD)] = S8 at q8 g8 ⊢
        rw [ok_tupL g8, ok_anil, if_pos (by simp; omega)]
        exact ⟨⟨n, R, rfl, r2, by omega⟩, k5.trans (Keeps.pre k5.src ((q6.trans q7).trans q8))⟩
end
end Y
set_option Elab.async false
set_option linter.all false
set_option maxRecDepth 100000
namespace Y
open PySem PySem.Spec PyProof.Rows L2 DL
open Classical
noncomputable section
variable {n : Nat} {R : Roads} {P : List (List Nat)} {S S' S1 S2 : Store} {k m : Nat}
theorem ok_dmaxL {m : Nat} {ns : List Int} {Q : D → Store → Prop} (h : S[m]? = some (.lst (ns.map D.int))) (hn : ns ≠ []) : Ok (dMax [.loc m] S) Q = Q (.int (DL.maxL ns)) S := by
  unfold dMax withInts lstInts
  simp only [h, asInts_map, if_pos hn]
  rfl
theorem ok_dputS {f g h : SE} {δ : DL.Env} {O : Out → Store → Prop} : Ok (sDPutD f g h δ S) O = Ok (h δ S) fun z S1 => Ok (f δ S1) fun x S2 => Ok (g δ S2) fun y S3 => Ok (dPutD x y z S3) fun _ S4 => O (.nx δ) S4 := by unfold sDPutD; simp only [ok_bnd, ok_ret]
theorem ok_putK {kvs : List (Key × D)} {u : Int} {z : D} {U : Unit → Store → Prop} (h : S[n]? = some (.dik kvs)) (hl : kvs.length < sizeLine) : Ok (dPutD (.loc n) (.int u) z S) U = U () (S.set n (.dik (putD kvs (.inl u) z))) := by
  unfold dPutD; simp only [h, asKey, if_pos hl]; rfl
theorem ok_dgetD {f g : SE} {d : D} {δ : DL.Env} {kvs : List (Key × D)} {u : Int} {Q : D → Store → Prop} (h : S[n]? = some (.dik kvs)) (hf : Ok (f δ S) = fun Q => Q (.loc n) S) (hg : Ok (g δ S) = fun Q => Q (.int u) S) : Ok (eDGetD f g (eC d) δ S) Q = Q ((valD kvs (.inl u)).getD d) S := by
  unfold eDGetD
  simp only [ok_bnd, hf, hg]
  rw [show Ok (isDct (.loc n) S) = fun U => U () S from by funext U; unfold isDct; simp only [h]; rfl]
  dsimp only
  rw [hg]
  dsimp only
  rw [ok_c]
  unfold dLook
  simp only [h, asKey]
  cases valD kvs (Sum.inl u) <;> rfl
theorem ok_lenK {kvs : List (Key × D)} {Q : D → Store → Prop} (h : S[n]? = some (.dik kvs)) : Ok (dLen (.loc n) S) Q = Q (.int (kvs.length : Nat)) S := by unfold dLen; simp only [h, ok_ok]
theorem pre_unlk {o o' : MO} (h : S[n]? = some o) (q : Pre (S.set n o') S') : Pre S (S'.set n o) := by
  obtain ⟨T, rfl⟩ := q
  have hn := (List.getElem?_eq_some_iff.mp h).1
  rw [List.set_append_left _ _ (by simpa using hn), List.set_set]
  refine ⟨T, ?_⟩
  congr 1
  apply List.ext_getElem?
  intro i
  by_cases c : n = i
  · subst c; rw [List.getElem?_set_self hn, h]
  · rw [List.getElem?_set_ne c]
/-- a list comprehension over the keys of a dict -/
theorem ok_lck {i : Nat} {g : SG} {p : ST} {elt : SE} {vs : List Nat} {δ : DL.Env} {kvs : List (Key × D)} (φ : D → Option D) (hv : δ[i]? = some (some (.loc n))) (h : S[n]? = some (.dik kvs)) (hz : kvs.length ≤ sizeLine)
    (hs : ∀ x ∈ kvs.map (fun q => keyD q.1), ∀ S2, Pre (S.set n (.lkd kvs)) S2 → Ok (g x (wipeD δ vs) S2) fun δ1 S3 => S3 = S2 ∧ Ok (p δ1 S2) fun k S4 => Pre S2 S4 ∧ match φ x with
      | some y => k = true ∧ Ok (elt δ1 S4) fun z S5 => z = y ∧ Pre S4 S5
      | none => k = false) : Ok (eLcK i g p elt vs δ S) fun d S' => ∃ j, d = .loc j ∧ S.length ≤ j ∧ Pre S S' ∧ S'[j]? = some (.lst ((kvs.map fun q => keyD q.1).filterMap φ)) := by
  have hn := (List.getElem?_eq_some_iff.mp h).1
  unfold eLcK
  simp only [hv, h]
  have key := ok_eLc (S := S.set n (.lkd kvs)) (it := fun _ S => .ok ⟨kvs.map fun q => keyD q.1, fun _ => True⟩ S) (g := g) (p := p) (elt := elt) (vs := vs) (δ := δ) (l := fun _ => True) φ ⟨rfl, .refl⟩ (by simpa using hz) (fun _ _ => True.intro) hs
  obtain ⟨d, S2, e, j, rfl, hj, q, gj⟩ := key.is
  rw [e]
  unfold unlk
  have hg : S2[n]? = some (.lkd kvs) := q.get (List.getElem?_set_self hn)
  simp only [if_pos hg]
  have hj' : S.length ≤ j := by simpa using hj
  refine ⟨j, rfl, hj', pre_unlk h q, ?_⟩
  rw [List.getElem?_set_ne (by omega)]
  exact gj
/-! ### fits -/
def flatR (R : Roads) (p : List Nat) : List Int := p.flatMap fun i => [iN (rdAt R i).1, iN (rdAt R i).2]
def fitsB (R : Roads) (p : List Nat) : Bool := decide (DL.maxL ((hsL (flatR R p)).map fun h => (((flatR R p).count h : Nat) : Int)) = (p.length : Nat)) || (decide ((p.length : Int) = 3) && decide (((hsL (flatR R p)).length : Int) = 3))
theorem flatR_len (p : List Nat) : (flatR R p).length = 2 * p.length := by
  unfold flatR
  induction p with
  | nil => rfl
  | cons x p ih => rw [List.flatMap_cons, List.length_append, ih]; simp; omega
theorem foldl_len : ∀ (L acc : List Int), (L.foldl addI acc).length ≤ acc.length + L.length
  | [], acc => by simp
  | x :: L, acc => by
    have h1 := foldl_len L (addI acc x)
    have h2 : (addI acc x).length ≤ acc.length + 1 := by unfold addI; split <;> simp
    rw [List.foldl_cons, List.length_cons]
    omega
theorem hsL_len (L : List Int) : (hsL L).length ≤ L.length := by
  have := foldl_len L []
  rw [List.length_nil, Nat.zero_add] at this
  exact this
theorem cntD_len (L : List Int) : (cntD L).length ≤ L.length := by unfold cntD; rw [List.length_map]; exact hsL_len L
theorem val_of (L : List Int) (h : Int) : (valD (cntD L) (Sum.inl h)).getD (.int 0) = .int ((L.count h : Nat) : Int) := by
  rw [cntD_val]
  by_cases c : h ∈ L
  · rw [if_pos c]; rfl
  · rw [if_neg c, List.count_eq_zero_of_not_mem c]; rfl
theorem p_law_fits (p : List Nat) (hk : S[k]? = some (.lst ((p.map iN).map D.int))) (hp : ∀ x ∈ p, x < R.length) (hne : p ≠ []) (hl : p.length ≤ 1000) :
    Ok (F__law_fits [roadsD R, .loc k] S) fun d S' => d = .bl (fitsB R p) ∧ Pre S S' := by
  refine ok_fnB ?_
  show Ok (b__law_fits [some (roadsD R), some (.loc k), none, none, none] S) _
  have hsz : sizeLine = 16777216 := rfl
  have hkS := (List.getElem?_eq_some_iff.mp hk).1
  unfold b__law_fits
  rw [ok_sseq, ok_sasg]
  show Ok (sSeq _ _ [some (roadsD R), some (.loc k), some (.loc S.length), none, none] (S ++ [.dik []])) _
  rw [ok_sseq, ok_sfor, ok_iseq, ok_var (d := .loc k) rfl]
  have q0 : Pre S (S ++ [MO.dik []]) := Pre.push .refl
  have g0 : (S ++ [MO.dik []])[S.length]? = some (.dik (cntD (flatR R []))) := by simp [flatR, cntD, hsL]
  generalize S ++ [MO.dik []] = S0 at q0 g0 ⊢
  have esrc : ∀ K : Src → Store → Prop, Ok (srcOf (.loc k) S0) K = K ⟨(p.map iN).map D.int, fun S => S[k]? = some (.lst ((p.map iN).map D.int))⟩ S0 := fun K => by
    unfold srcOf; simp only [q0.get hk]; rfl
  rw [esrc]
  refine ok_for (fun items δ S' => ∃ (done todo : List Nat) (z3 z4 : Option D), items = (todo.map iN).map D.int ∧ δ = [some (roadsD R), some (.loc k), some (.loc S.length), z3, z4] ∧ p = done ++ todo ∧ Pre S S' ∧ S'[S.length]? = some (.dik (cntD (flatR R done)))) ?_ ?_ _ _ _ ⟨[], p, none, none, rfl, rfl, rfl, q0, g0⟩
  · rintro x r δ S1 ⟨done, todo, z3, z4, e, rfl, hd, p1, g1⟩
    cases todo with
    | nil => cases e
    | cons y todo =>
      cases e
      refine ⟨p1.get hk, ?_⟩
      have hy : y < R.length := hp y (by rw [hd]; simp)
      have hdl : done.length ≤ 1000 := by have := congrArg List.length hd; simp at this; omega
      rw [ok_gn]
      rw [ok_sfor, ok_iseq, ok_bin, ok_var (d := roadsD R) rfl, ok_var (d := .int (iN y)) rfl, ok_road hy]
      show Ok (forL (fun _ => True) (gN 4) _ ([iN (rdAt R y).1, iN (rdAt R y).2].map D.int) _ S1) _
      refine ok_for (fun items δ S' => ∃ (d2 t2 : List Int) (z4 : Option D), items = t2.map D.int ∧ δ = [some (roadsD R), some (.loc k), some (.loc S.length), some (.int (iN y)), z4] ∧ [iN (rdAt R y).1, iN (rdAt R y).2] = d2 ++ t2 ∧ Pre S S' ∧ S'[S.length]? = some (.dik (cntD (flatR R done ++ d2)))) ?_ ?_ _ _ _ ⟨[], _, z4, rfl, rfl, rfl, p1, by rw [List.append_nil]; exact g1⟩
      · rintro x r δ S2 ⟨d2, t2, z4, e, rfl, hd2, p2, g2⟩
        cases t2 with
        | nil => cases e
        | cons u t2 =>
          cases e
          refine ⟨True.intro, ?_⟩
          rw [ok_gn]
          have hd2l : d2.length ≤ 2 := by have := congrArg List.length hd2; simp at this; omega
          have hfl : (flatR R done ++ d2).length ≤ 3000 := by rw [List.length_append, flatR_len]; omega
          have hcl := cntD_len (flatR R done ++ d2)
          rw [ok_dputS, ok_bin, ok_dgetD (n := S.length) (u := u) g2 (by funext Q; exact ok_var (d := .loc S.length) rfl) (by funext Q; exact ok_var (d := .int u) rfl), val_of, ok_c, ok_addII, ok_var (d := .loc S.length) rfl, ok_var (d := .int u) rfl, ok_putK g2 (by omega), cntD_put]
          refine ⟨d2 ++ [u], t2, _, rfl, rfl, by rw [hd2]; simp, p2.set (Nat.le_refl _), ?_⟩
          rw [set_get (List.getElem?_eq_some_iff.mp g2).1, List.append_assoc]
      · rintro δ S2 ⟨d2, t2, z4, e, rfl, hd2, p2, g2⟩
        refine ⟨True.intro, ?_⟩
        cases t2 with
        | cons u t2 => cases e
        | nil =>
          rw [List.append_nil] at hd2
          subst hd2
          refine ⟨done ++ [y], todo, _, _, rfl, rfl, by rw [hd]; simp, p2, ?_⟩
          rw [g2]
          unfold flatR
          rw [List.flatMap_append]
          simp
  · rintro δ S1 ⟨done, todo, z3, z4, e, rfl, hd, p1, g1⟩
    refine ⟨p1.get hk, ?_⟩
    cases todo with
    | cons y todo => cases e
    | nil =>
      rw [List.append_nil] at hd
      subst hd
      dsimp only
      have hcl := cntD_len (flatR R p)
      have hhl := hsL_len (flatR R p)
      rw [flatR_len] at hcl hhl
      rw [ok_sret, ok_eor, ok_bin, ok_call, ok_acons]
      refine (ok_lck (n := S.length) (fun z => some (.int (((flatR R p).count (intOf z) : Nat) : Int))) (i := 2) rfl g1 (by omega) ?_).mono ?_
      · intro x hx S2 q2
        obtain ⟨q, hq, rfl⟩ := List.mem_map.mp hx
        obtain ⟨u, hu, rfl⟩ := List.mem_map.mp hq
        have hu := hsL_mem.mp hu
        show Ok (gN 4 (.int u) _ S2) _
        rw [ok_gn]
        refine ⟨rfl, ?_⟩
        rw [ok_ttrue]
        refine ⟨.refl, rfl, ?_⟩
        have g2 : S2[S.length]? = some (.lkd (cntD (flatR R p))) := q2.get (List.getElem?_set_self (List.getElem?_eq_some_iff.mp g1).1)
        rw [ok_bin, ok_var (d := .loc S.length) rfl, ok_var (d := .int u) rfl]
        have : dDGet (.loc S.length) (.int u) S2 = .ok (.int (((flatR R p).count u : Nat) : Int)) S2 := by
          unfold dDGet dLook
          simp only [g2, asKey, cntD_val, if_pos hu]
        rw [this]
        exact ⟨rfl, .refl⟩
      · rintro d S2 ⟨j, rfl, hj, q2, g2⟩
        have ek : ((cntD (flatR R p)).map fun q => keyD q.1).filterMap (fun z => some (D.int (((flatR R p).count (intOf z) : Nat) : Int))) = ((hsL (flatR R p)).map fun h => (((flatR R p).count h : Nat) : Int)).map D.int := by
          have : ((cntD (flatR R p)).map fun q => keyD q.1) = (hsL (flatR R p)).map D.int := by
            unfold cntD; rw [List.map_map]; rfl
          rw [this, List.map_map]
          exact fm_all D.int _ (D.int ∘ fun h => (((flatR R p).count h : Nat) : Int)) (fun x => rfl) _
        rw [ek] at g2
        have hne2 : ((hsL (flatR R p)).map fun h => (((flatR R p).count h : Nat) : Int)) ≠ [] := by
          cases p with
          | nil => exact absurd rfl hne
          | cons x r =>
            have : iN (rdAt R x).1 ∈ hsL (flatR R (x :: r)) := hsL_mem.mpr (by unfold flatR; simp)
            intro z
            rw [List.map_eq_nil_iff] at z
            rw [z] at this
            simp at this
        have p2 := p1.trans q2
        have gH := q2.get g1
        have gk := p2.get hk
        rw [ok_anil, ok_dmaxL g2 hne2, ok_call, ok_acons, ok_var (d := .loc k) rfl, ok_anil, ok_op1, ok_lenL gk, ok_eqI, ok_asb]
        unfold fitsB
        rw [List.length_map, List.length_map]
        cases decide (DL.maxL ((hsL (flatR R p)).map fun h => (((flatR R p).count h : Nat) : Int)) = (p.length : Nat)) with
        | true => rw [if_pos rfl]; exact ⟨rfl, p2⟩
        | false =>
          rw [if_neg (by simp), ok_eand, ok_bin, ok_call, ok_acons, ok_var (d := .loc k) rfl, ok_anil, ok_op1, ok_lenL gk, ok_c, ok_eqI, ok_asb, List.length_map, List.length_map]
          cases decide ((p.length : Int) = 3) with
          | false => rw [if_neg (by simp)]; exact ⟨rfl, p2⟩
          | true =>
            rw [if_pos rfl, ok_bin, ok_call, ok_acons, ok_var (d := .loc S.length) rfl, ok_anil, ok_op1, ok_lenK gH, ok_c, ok_eqI]
            refine ⟨?_, p2⟩
            rw [show (cntD (flatR R p)).length = (hsL (flatR R p)).length by unfold cntD; rw [List.length_map]]
            rfl
/-! what fits is a star or a triangle -/
theorem hands_flat : ∀ (p : List Nat) (acc : List Int), p.foldl (fun acc i => [iN (rdAt R i).1, iN (rdAt R i).2].foldl addI acc) acc = (flatR R p).foldl addI acc
  | [], acc => rfl
  | x :: p, acc => by
    rw [List.foldl_cons, hands_flat p]
    unfold flatR
    rw [List.flatMap_cons, List.foldl_append]
theorem fits_form (hr : ∀ x, (rdAt R x).1 ≠ (rdAt R x).2 ∨ R.length ≤ x) (p : List Nat) (hp : ∀ x ∈ p, x < R.length) (hne : p ≠ []) (h : fitsB R p = true) : (starB R p || triB R p) = true := by
  unfold fitsB at h
  rw [Bool.or_eq_true] at h ⊢
  rcases h with h | h
  · left
    have h := of_decide_eq_true h
    have hne2 : ((hsL (flatR R p)).map fun h => (((flatR R p).count h : Nat) : Int)) ≠ [] := by
      cases p with
      | nil => exact absurd rfl hne
      | cons x r =>
        have : iN (rdAt R x).1 ∈ hsL (flatR R (x :: r)) := hsL_mem.mpr (by unfold flatR; simp)
        intro z
        rw [List.map_eq_nil_iff] at z
        rw [z] at this
        simp at this
    have hm := DL.maxL_mem hne2
    rw [h] at hm
    obtain ⟨u, hu, e⟩ := List.mem_map.mp hm
    have e' : (flatR R p).count u = p.length := by omega
    have hall : ∀ x ∈ p, inR u (rdAt R x) = true := by
      clear h hm hne2 hu e
      -- only roads of the web are looked at
      have gen : ∀ q : List Nat, (∀ x ∈ q, x < R.length) → (flatR R q).count u ≤ q.length ∧ ((flatR R q).count u = q.length → ∀ x ∈ q, inR u (rdAt R x) = true) := fun q hq => by
        induction q with
        | nil => exact ⟨by simp [flatR], fun _ x hx => by simp at hx⟩
        | cons y q ih =>
          obtain ⟨h1, h2⟩ := ih fun x hx => hq x (List.mem_cons_of_mem _ hx)
          have e : (flatR R (y :: q)).count u = (if iN (rdAt R y).1 = u then 1 else 0) + (if iN (rdAt R y).2 = u then 1 else 0) + (flatR R q).count u := by
            show ((y :: q).flatMap _).count u = _
            rw [List.flatMap_cons, List.count_append]
            show _ + (flatR R q).count u = _
            congr 1
            simp only [List.count_cons, List.count_nil, beq_iff_eq]
            omega
          have hy : (rdAt R y).1 ≠ (rdAt R y).2 := (hr y).elim id fun z => absurd (hq y List.mem_cons_self) (by omega)
          have ne : ¬ (iN (rdAt R y).1 = u ∧ iN (rdAt R y).2 = u) := fun ⟨a, b⟩ => hy (by simp only [iN] at a b; omega)
          have le1 : (if iN (rdAt R y).1 = u then 1 else 0) + (if iN (rdAt R y).2 = u then 1 else 0) ≤ 1 := by
            by_cases a : iN (rdAt R y).1 = u
            · rw [if_pos a, if_neg fun b => ne ⟨a, b⟩]; omega
            · rw [if_neg a]; split <;> omega
          rw [List.length_cons]
          refine ⟨by omega, fun he x hx => ?_⟩
          rcases List.mem_cons.mp hx with rfl | hx
          · have : (if iN (rdAt R x).1 = u then 1 else 0) + (if iN (rdAt R x).2 = u then 1 else 0) = 1 := by omega
            unfold inR
            simp only [decide_eq_true_eq, List.mem_cons, List.not_mem_nil, or_false]
            by_cases a : iN (rdAt R x).1 = u
            · exact .inl a.symm
            · rw [if_neg a] at this
              by_cases b : iN (rdAt R x).2 = u
              · exact .inr b.symm
              · rw [if_neg b] at this; omega
          · exact h2 (by omega) x hx
      exact (gen p hp).2 e'
    unfold starB
    rw [List.any_eq_true]
    have h0 : p.getD 0 0 ∈ p := by
      cases p with
      | nil => exact absurd rfl hne
      | cons x r => simp
    have := hall _ h0
    unfold inR at this
    exact ⟨u, of_decide_eq_true this, List.all_eq_true.mpr hall⟩
  · right
    unfold triB handsOf
    rw [hands_flat]
    exact h
end
end Y
set_option Elab.async false
set_option linter.all false
set_option maxRecDepth 100000
namespace Y
open PySem PySem.Spec PyProof.Rows L2 DL
open Classical
noncomputable section
variable {n : Nat} {R : Roads} {P : List (List Nat)} {S S' S1 S2 : Store} {k m : Nat}
theorem nodup_ix {l : List Nat} (h : l.Nodup) {i j : Nat} (hi : i < l.length) (hj : j < l.length) (e : l[i] = l[j]) : i = j :=
  (List.getElem?_inj hi h).mp (by rw [List.getElem?_eq_getElem hi, List.getElem?_eq_getElem hj, e])
/-- a list of lists, each an object of its own, all from b on -/
structure RowsAt (b : Nat) (S : Store) (F : Nat) (ls : List Nat) (qs : List (List Nat)) : Prop where
  top : S[F]? = some (.lst (ls.map D.loc))
  len : ls.length = qs.length
  row : ∀ j (h1 : j < ls.length) (h2 : j < qs.length), S[ls[j]]? = some (.lst ((qs[j].map iN).map D.int))
  nd : ls.Nodup
  nf : F ∉ ls
  ge : b ≤ F ∧ ∀ l ∈ ls, b ≤ l
theorem RowsAt.keep {b F : Nat} {ls : List Nat} {qs : List (List Nat)} (h : RowsAt b S F ls qs) (hm : m < b) (q : Keeps m S S') : RowsAt b S' F ls qs :=
  ⟨q.old _ _ (by have := h.ge.1; omega) h.top, h.len, fun j h1 h2 => q.old _ _ (by have := h.ge.2 _ (List.getElem_mem h1); omega) (h.row j h1 h2), h.nd, h.nf, h.ge⟩
theorem RowsAt.pre {b F : Nat} {ls : List Nat} {qs : List (List Nat)} (h : RowsAt b S F ls qs) (q : Pre S S') : RowsAt b S' F ls qs :=
  ⟨q.get h.top, h.len, fun j h1 h2 => q.get (h.row j h1 h2), h.nd, h.nf, h.ge⟩
theorem RowsAt.put {b F : Nat} {ls : List Nat} {qs : List (List Nat)} (h : RowsAt b S F ls qs) {j : Nat} (h1 : j < ls.length) (q : List Nat) : RowsAt b (S.set ls[j] (.lst ((q.map iN).map D.int))) F ls (qs.set j q) := by
  have hjF : ls[j] ≠ F := fun e => h.nf (e ▸ List.getElem_mem h1)
  refine ⟨by rw [List.getElem?_set_ne hjF]; exact h.top, by simp [h.len], fun i g1 g2 => ?_, h.nd, h.nf, h.ge⟩
  have g2' : i < qs.length := by simpa using g2
  by_cases c : j = i
  · subst c
    rw [List.getElem?_set_self (List.getElem?_eq_some_iff.mp (h.row j h1 (by rw [← h.len]; exact h1))).1, List.getElem_set_self]
  · have ne : ls[j] ≠ ls[i] := fun e => c (nodup_ix h.nd h1 g1 e)
    rw [List.getElem?_set_ne ne, h.row i g1 g2', List.getElem_set_ne c]
theorem RowsAt.new {b F : Nat} {ls : List Nat} {qs : List (List Nat)} (h : RowsAt b S F ls qs) (q : List Nat) : RowsAt b ((S ++ [MO.lst ((q.map iN).map D.int)]).set F (.lst ((ls ++ [S.length]).map D.loc))) F (ls ++ [S.length]) (qs ++ [q]) := by
  have hF := (List.getElem?_eq_some_iff.mp h.top).1
  have lt : ∀ l ∈ ls, l < S.length := fun l hl => by
    obtain ⟨i, hi, e⟩ := List.mem_iff_getElem.mp hl
    rw [← e]
    exact (List.getElem?_eq_some_iff.mp (h.row i hi (by rw [← h.len]; exact hi))).1
  refine ⟨set_get (by simp; omega), by simp [h.len], fun i g1 g2 => ?_, ?_, ?_, h.ge.1, fun l hl => ?_⟩
  · by_cases c : i < ls.length
    · have c2 : i < qs.length := by rw [← h.len]; exact c
      have ne : F ≠ ls[i] := fun e => h.nf (by rw [e]; exact List.getElem_mem c)
      rw [List.getElem_append_left c, List.getElem_append_left c2, List.getElem?_set_ne ne, List.getElem?_append_left (lt _ (List.getElem_mem c))]
      exact h.row i c c2
    · have ei : i = ls.length := by simp at g1; omega
      subst ei
      rw [List.getElem_append_right (Nat.le_refl _), List.getElem_append_right (by rw [h.len]; exact Nat.le_refl _)]
      simp only [Nat.sub_self, List.getElem_singleton]
      rw [List.getElem?_set_ne (by omega)]
      simp
  · rw [List.nodup_append]
    refine ⟨h.nd, by simp, fun a ha c hc e => ?_⟩
    rw [List.mem_singleton] at hc
    subst hc; subst e
    exact absurd (lt _ ha) (by omega)
  · rw [List.mem_append, List.mem_singleton]
    rintro (z | z)
    · exact h.nf z
    · omega
  · rcases List.mem_append.mp hl with z | z
    · exact h.ge.2 l z
    · rw [List.mem_singleton] at z
      have := h.ge.1
      omega
theorem RowsAt.ix {b F : Nat} {ls : List Nat} {qs : List (List Nat)} (h : RowsAt b S F ls qs) {j : Nat} (hj : j < ls.length) {Q : D → Store → Prop} : Ok (dIx (.loc F) (.int (iN j)) S) Q = Q (.loc ls[j]) S :=
  ok_ixL (e := .loc ls[j]) h.top (ixN_lt (by simpa using hj)) (by rw [List.getElem?_map, List.getElem?_eq_getElem hj]; rfl)
theorem ok_addLL {i j : Nat} {xs ys : List D} {Q : D → Store → Prop} (h1 : S[i]? = some (.lst xs)) (h2 : S[j]? = some (.lst ys)) (hl : xs.length + ys.length ≤ sizeLine) : Ok (dAdd (.loc i) (.loc j) S) Q = Q (.loc S.length) (S ++ [.lst (xs ++ ys)]) := by
  unfold dAdd; simp only [h1, h2, if_pos hl]; rfl
theorem ok_neLL {i j : Nat} {xs ys : List Int} {Q : D → Store → Prop} (h1 : S[i]? = some (.lst (xs.map D.int))) (h2 : S[j]? = some (.lst (ys.map D.int))) : Ok (dEqG true (.loc i) (.loc j) S) Q = Q (.bl (!decide (xs = ys))) S := by
  unfold dEqG
  simp only [toPy_lst h1, toPy_lst h2, sh_lst, and_self, if_true]
  show Q (.bl (!PyData.eqvAll _ _)) S = _
  rw [eqv_ints]
/-- a part drawn so far -/
structure PartSo (R : Roads) (t : Nat) (q : List Nat) : Prop where
  ne : q ≠ []
  asc : q.Pairwise (· < ·)
  lt : ∀ x ∈ q, x < t
  form : (starB R q || triB R q) = true
theorem asc_of : ∀ {q : List Nat} {a : Int}, q.Pairwise (· < ·) → (∀ x ∈ q, a < iN x) → Asc a (q.map iN)
  | [], _, _, _ => True.intro
  | x :: q, a, h, ha => ⟨ha x List.mem_cons_self, asc_of (List.pairwise_cons.mp h).2 fun y hy => by have := (List.pairwise_cons.mp h).1 y hy; simp only [iN]; omega⟩
theorem star_one (x : Nat) : starB R [x] = true := by
  unfold starB
  simp [inR]
theorem flatten_set : ∀ (qs : List (List Nat)) (j x : Nat) (h : j < qs.length), (qs.set j (qs[j] ++ [x])).flatten.Perm (x :: qs.flatten)
  | q :: qs, 0, x, _ => by
    show ((q ++ [x]) ++ qs.flatten).Perm (x :: (q ++ qs.flatten))
    rw [List.append_assoc]
    exact List.perm_middle
  | q :: qs, j + 1, x, h => by
    show (q ++ (qs.set j (qs[j]'(by simpa using h) ++ [x])).flatten).Perm (x :: (q ++ qs.flatten))
    exact ((flatten_set qs j x (by simpa using h)).append_left q).trans List.perm_middle
theorem len_flatten : ∀ Q : List (List Nat), (∀ p ∈ Q, p ≠ []) → Q.length ≤ Q.flatten.length
  | [], _ => by simp
  | p :: Q, h => by
    have h1 := len_flatten Q fun q hq => h q (List.mem_cons_of_mem _ hq)
    have h2 := List.length_pos_iff.mpr (h p List.mem_cons_self)
    simp only [List.length_cons, List.flatten_cons, List.length_append]
    omega
/-- what parts drawn make when they are sorted -/
theorem parts_of (hR : R.length ≤ 1000) {qs : List (List Nat)} (hq : ∀ q ∈ qs, PartSo R R.length q) (hp : qs.flatten.Perm (List.range R.length)) :
    ∃ P : List (List Nat), ((qs.map fun q => q.map iN).mergeSort fun a b => decide (a ≤ b)).map vec = P.map vecN ∧ Parts R P ∧ ∀ x, x < R.length → ∃ p ∈ P, x ∈ p := by
  have hperm : ((qs.map fun q => q.map iN).mergeSort fun a b => decide (a ≤ b)).Perm (qs.map fun q => q.map iN) := List.mergeSort_perm _ _
  have hs := vecs_sorted (qs.map fun q => q.map iN)
  generalize ((qs.map fun q => q.map iN).mergeSort fun a b => decide (a ≤ b)) = us at hperm hs
  have back : ∀ q : List Nat, (q.map iN).map Int.toNat = q := fun q => by
    rw [List.map_map]
    have : (Int.toNat ∘ iN) = id := by funext x; simp [iN]
    rw [this, List.map_id]
  have hP : (us.map fun v => v.map Int.toNat).Perm qs := by
    have := hperm.map fun v => v.map Int.toNat
    rw [List.map_map] at this
    have e : ((fun v : List Int => v.map Int.toNat) ∘ fun q : List Nat => q.map iN) = id := by funext q; exact back q
    rwa [e, List.map_id] at this
  have hm : ∀ v ∈ us, ∃ q ∈ qs, v = q.map iN := fun v hv => by
    obtain ⟨q, hq, e⟩ := List.mem_map.mp (hperm.mem_iff.mp hv)
    exact ⟨q, hq, e.symm⟩
  have hfl : (us.map fun v => v.map Int.toNat).flatten.Perm (List.range R.length) := hP.flatten.trans hp
  have nd : (us.map fun v => v.map Int.toNat).flatten.Nodup := hfl.nodup_iff.mpr List.nodup_range
  have lenf : (us.map fun v => v.map Int.toNat).flatten.length = R.length := by rw [hfl.length_eq, List.length_range]
  refine ⟨us.map fun v => v.map Int.toNat, ?_, ⟨fun p hp' => ?_, fun i hi => ?_, nd, by omega, by omega⟩, fun x hx => ?_⟩
  · rw [List.map_map]
    apply List.map_congr_left
    intro v hv
    obtain ⟨q, _, e⟩ := hm v hv
    subst e
    show vec (q.map iN) = vec (((q.map iN).map Int.toNat).map iN)
    rw [back]
  · have hq' := hq p (hP.mem_iff.mp hp')
    refine ⟨hq'.ne, asc_of hq'.asc fun x _ => by simp only [iN]; omega, hq'.lt, hq'.form, ?_⟩
    have : p.length ≤ (us.map fun v => v.map Int.toNat).flatten.length := (List.sublist_flatten_of_mem hp').length_le
    omega
  · have hi' : i + 1 < us.length := by simpa using hi
    have ple := (List.pairwise_iff_getElem.mp hs) i (i + 1) (by omega) hi' (by omega)
    obtain ⟨p, hp1, e1⟩ := hm us[i] (List.getElem_mem _)
    obtain ⟨q, hq1, e2⟩ := hm us[i + 1] (List.getElem_mem _)
    rw [e1, e2] at ple
    have nep := (hq p hp1).ne
    have neq := (hq q hq1).ne
    have dis : ∀ x ∈ p, x ∉ q := fun x h1 h2 => by
      have := (List.pairwise_flatten.mp nd).2
      have hh := (List.pairwise_iff_getElem.mp this) i (i + 1) (by simp; omega) (by simpa using hi) (by omega)
      rw [List.getElem_map, List.getElem_map, e1, e2, back, back] at hh
      exact hh x h1 x h2 rfl
    rw [List.getElem_map, List.getElem_map, e1, e2, back, back]
    cases p with
    | nil => exact absurd rfl nep
    | cons a r =>
      cases q with
      | nil => exact absurd rfl neq
      | cons b s =>
        have ne : a ≠ b := fun e => dis a List.mem_cons_self (by rw [e]; exact List.mem_cons_self)
        have := head_lt (a := iN a) (b := iN b) (r := r.map iN) (s := s.map iN) ple (by simp only [iN]; omega)
        simp only [iN] at this
        show a < b
        omega
  · have : x ∈ (us.map fun v => v.map Int.toNat).flatten := hfl.mem_iff.mpr (List.mem_range.mpr hx)
    exact List.mem_flatten.mp this
theorem rd_ne (w : Web n R) : ∀ x, (rdAt R x).1 ≠ (rdAt R x).2 ∨ R.length ≤ x := fun x => by
  by_cases c : x < R.length
  · left
    unfold rdAt
    rw [getD_at _ c]
    have := (w.hand _ (List.getElem_mem c)).1
    omega
  · right; omega
theorem p_law_parts (w : Web n R) (hR : R.length ≤ 1000) (hs : SrcAt m S) : Ok (F__law_parts [.loc m, roadsD R] S) fun d S' => (∃ P, d = partsD P ∧ Parts R P ∧ ∀ x, x < R.length → ∃ p ∈ P, x ∈ p) ∧ Keeps m S S' := by
  refine ok_fnK hs.lt ?_
  show Ok (b__law_parts [some (.loc m), some (roadsD R), none, none, none, none, none] S) _
  have hsz : sizeLine = 16777216 := rfl
  have hmS := hs.lt
  unfold b__law_parts
  rw [ok_sseq, ok_sasg, ok_elst, ok_anil, if_pos (by simp), ok_gn]
  dsimp only
  have k0 : Keeps m S (S ++ [MO.lst []]) := Keeps.pre hs (Pre.push .refl)
  have r0 : RowsAt S.length (S ++ [MO.lst []]) S.length [] [] := ⟨by simp, rfl, fun j h1 => by simp at h1, by simp, by simp, Nat.le_refl _, fun l hl => by simp at hl⟩
  generalize hF : S.length = F at r0 ⊢
  generalize S ++ [MO.lst []] = S0 at k0 r0 ⊢
  have elen : ∀ (S : Store) (Q : D → Store → Prop), Ok (dLen (roadsD R) S) Q = Q (.int (iN R.length)) S := fun S Q => by unfold roadsD; rw [ok_lenT, List.length_map]
  rw [ok_sseq, ok_sfor, ok_rg1F (u := iN R.length) (by funext Q; rw [ok_call, ok_acons, ok_var (d := roadsD R) rfl, ok_anil, ok_op1, elen]) (by simp only [iN]; omega)]
  have e0 : rngD 0 (iN R.length).toNat = rngD (iN 0) R.length := by simp [iN]
  rw [e0]
  refine ok_for (fun items δ S' => ∃ (q t : Nat) (ls : List Nat) (qs : List (List Nat)) (z3 z4 : Option D), items = rngD (iN t) q ∧ δ = [some (.loc m), some (roadsD R), some (.loc F), z3, z4, none, none] ∧ t + q = R.length ∧ Keeps m S S' ∧ RowsAt F S' F ls qs ∧ (∀ q ∈ qs, PartSo R t q) ∧ qs.flatten.Perm (List.range t)) ?_ ?_ _ _ _ ⟨R.length, 0, [], [], none, none, rfl, rfl, by omega, k0, r0, fun q hq => by simp at hq, by simp⟩
  · rintro x r δ S1 ⟨q, t, ls, qs, z3, z4, e, rfl, htq, k1, r1, hq, hp⟩
    cases q with
    | zero => cases e
    | succ q =>
      rw [rng_cons] at e
      cases e
      refine ⟨True.intro, ?_⟩
      have ht : t < R.length := by omega
      have hqs : qs.length ≤ 1000 := by
        have h1 := len_flatten qs fun q h => (hq q h).ne
        have h2 := hp.length_eq
        rw [List.length_range] at h2
        omega
      have hql : ∀ q ∈ qs, q.length ≤ 999 := fun q h => by
        have h1 := (List.sublist_flatten_of_mem h).length_le
        have h2 := hp.length_eq
        rw [List.length_range] at h2
        omega
      have more : ∀ j (h : j < qs.length), ∀ x ∈ qs[j] ++ [t], x < R.length := fun j h x hx => by
        rcases List.mem_append.mp hx with z | z
        · have := (hq _ (List.getElem_mem h)).lt x z; omega
        · rw [List.mem_singleton] at z; omega
      rw [ok_gn]
      rw [ok_sseq, ok_sasg]
      refine (ok_eLc (S := S1) (fun z => if fitsB R (qs.getD (natOf z) [] ++ [t]) = true then some z else none) (items := (List.range ls.length).map fun i => .int (iN i)) (l := fun _ => True) ?_ (by simp [r1.len]; omega) (fun _ _ => True.intro) ?_).mono ?_
      · rw [ok_rg1F (u := iN ls.length) (by funext Q; rw [ok_call, ok_acons, ok_var (d := .loc F) rfl, ok_anil, ok_op1, ok_lenL r1.top, List.length_map]) (by rw [r1.len]; simp only [iN]; omega)]
        refine ⟨?_, .refl⟩
        rw [show iN ls.length = ((ls.length : Nat) : Int) from rfl, rng_map]
      · intro z hz S2 q2
        obtain ⟨j, hj, rfl⟩ := List.mem_map.mp hz
        have hj := List.mem_range.mp hj
        have hj2 : j < qs.length := by rw [← r1.len]; exact hj
        have r2 := r1.pre q2
        show Ok (gN 5 (.int (iN j)) _ S2) _
        rw [ok_gn]
        refine ⟨rfl, ?_⟩
        rw [ok_ttru, ok_fn, ok_acons, ok_var (d := roadsD R) rfl, ok_acons, ok_bin, ok_bin, ok_var (d := .loc F) rfl, ok_var (d := .int (iN j)) rfl, r2.ix hj, ok_elst, ok_acons, ok_var (d := .int (iN t)) rfl, ok_anil, if_pos (by simp; omega)]
        have q3 : Pre S2 (S2 ++ [MO.lst [D.int (iN t)]]) := Pre.push .refl
        have g3 : (S2 ++ [MO.lst [D.int (iN t)]])[S2.length]? = some (.lst [D.int (iN t)]) := by simp
        generalize S2 ++ [MO.lst [D.int (iN t)]] = S3 at q3 g3 ⊢
        have gj := q3.get (r2.row j hj hj2)
        have hl := hql _ (List.getElem_mem hj2)
        rw [ok_addLL gj g3 (by simp; omega), ok_anil]
        have q4 : Pre S3 (S3 ++ [MO.lst (((qs[j]).map iN).map D.int ++ [D.int (iN t)])]) := Pre.push .refl
        have g4 : (S3 ++ [MO.lst (((qs[j]).map iN).map D.int ++ [D.int (iN t)])])[S3.length]? = some (.lst (((qs[j] ++ [t]).map iN).map D.int)) := by simp
        generalize S3 ++ [MO.lst (((qs[j]).map iN).map D.int ++ [D.int (iN t)])] = S4 at q4 g4 ⊢
        refine (p_law_fits (qs[j] ++ [t]) g4 (more j hj2) (by simp) (by simp; omega)).pure fun S5 q5 => ?_
        rw [ok_trub]
        refine ⟨(q3.trans q4).trans q5, ?_⟩
        have en : natOf (.int (iN j)) = j := by simp [natOf, iN]
        simp only [en, getD_at (l := qs) [] hj2]
        cases hb : fitsB R (qs[j] ++ [t]) with
        | false => simp
        | true =>
          simp only [if_true]
          refine ⟨trivial, ?_⟩
          rw [ok_var (d := .int (iN j)) rfl]
          exact ⟨rfl, .refl⟩
      · rintro d S2 ⟨L, rfl, hL, q2, g2⟩
        rw [fm_if (fun i => D.int (iN i)) _ (fun j => fitsB R (qs.getD j [] ++ [t])) (fun j => by simp [natOf, iN])] at g2
        rw [ok_gn]
        dsimp only
        have r2 := r1.pre q2
        have k2 : Keeps m S S2 := k1.trans (Keeps.pre k1.src q2)
        have hSL : S.length ≤ L := Nat.le_trans k1.len hL
        have hLm : L ≠ m := by omega
        generalize hsome : (List.range ls.length).filter (fun j => fitsB R (qs.getD j [] ++ [t])) = some' at g2
        have g2' : S2[L]? = some (.lst ((some'.map iN).map D.int)) := by rw [g2, List.map_map]; rfl
        -- the new part alone
        have alone : ∀ (S3 : Store), Keeps m S S3 → RowsAt F S3 F ls qs → Ok (sDrop (eMth dAppend (eVar 2) (aCons (eLst (aCons (eVar 3) (aNil))) (aNil))) [some (.loc m), some (roadsD R), some (.loc F), some (.int (iN t)), some (.loc L), none, none] S3)
            fun o S4 => ∃ ls' qs', o = Out.nx [some (.loc m), some (roadsD R), some (.loc F), some (.int (iN t)), some (.loc L), none, none] ∧ Keeps m S S4 ∧ RowsAt F S4 F ls' qs' ∧ (∀ q ∈ qs', PartSo R (t + 1) q) ∧ qs'.flatten.Perm (List.range (t + 1)) := by
          intro S3 k3 r3
          rw [ok_sdrop, ok_mth, ok_var (d := .loc F) rfl, ok_isl r3.top, ok_acons, ok_elst, ok_acons, ok_var (d := .int (iN t)) rfl, ok_anil, if_pos (by simp; omega), ok_anil]
          have gF : (S3 ++ [MO.lst [D.int (iN t)]])[F]? = some (.lst (ls.map D.loc)) := (Pre.push .refl).get r3.top
          rw [ok_app gF (by simp [r1.len]; omega)]
          refine ⟨ls ++ [S3.length], qs ++ [[t]], rfl, (k3.trans (Keeps.pre k3.src (Pre.push .refl))).setN hmS (by omega), ?_, fun q h => ?_, ?_⟩
          · have := r3.new [t]
            rw [List.map_append] at this
            exact this
          · rcases List.mem_append.mp h with z | z
            · have := hq q z
              exact ⟨this.ne, this.asc, fun x hx => by have := this.lt x hx; omega, this.form⟩
            · rw [List.mem_singleton] at z
              subst z
              exact ⟨by simp, by simp, fun x hx => by rw [List.mem_singleton] at hx; omega, by rw [star_one]; rfl⟩
          · rw [List.flatten_append, List.range_succ]
            exact hp.append_right _
        have fin : ∀ o S4, (∃ ls' qs', o = Out.nx [some (.loc m), some (roadsD R), some (.loc F), some (.int (iN t)), some (.loc L), none, none] ∧ Keeps m S S4 ∧ RowsAt F S4 F ls' qs' ∧ (∀ q ∈ qs', PartSo R (t + 1) q) ∧ qs'.flatten.Perm (List.range (t + 1))) → (match o with
            | .nx δ2 => ∃ (q' t' : Nat) (ls : List Nat) (qs : List (List Nat)) (z3 z4 : Option D), rngD (iN t + 1) q = rngD (iN t') q' ∧ δ2 = [some (.loc m), some (roadsD R), some (.loc F), z3, z4, none, none] ∧ t' + q' = R.length ∧ Keeps m S S4 ∧ RowsAt F S4 F ls qs ∧ (∀ q ∈ qs, PartSo R t' q) ∧ qs.flatten.Perm (List.range t')
            | _ => False) := by
          rintro o S4 ⟨ls', qs', rfl, k4, r4, hq4, hp4⟩
          exact ⟨q, t + 1, ls', qs', _, _, by simp [iN], rfl, by omega, k4, r4, hq4, hp4⟩
        have weak : ∀ (r : Res Out), Ok r (fun o S4 => ∃ ls' qs', o = Out.nx [some (.loc m), some (roadsD R), some (.loc F), some (.int (iN t)), some (.loc L), none, none] ∧ Keeps m S S4 ∧ RowsAt F S4 F ls' qs' ∧ (∀ q ∈ qs', PartSo R (t + 1) q) ∧ qs'.flatten.Perm (List.range (t + 1))) → Ok r (fun o S4 => match o with
            | .nx δ2 => ∃ (q' t' : Nat) (ls : List Nat) (qs : List (List Nat)) (z3 z4 : Option D), rngD (iN t + 1) q = rngD (iN t') q' ∧ δ2 = [some (.loc m), some (roadsD R), some (.loc F), z3, z4, none, none] ∧ t' + q' = R.length ∧ Keeps m S S4 ∧ RowsAt F S4 F ls qs ∧ (∀ q ∈ qs, PartSo R t' q) ∧ qs.flatten.Perm (List.range t')
            | .ct δ2 => ∃ (q' t' : Nat) (ls : List Nat) (qs : List (List Nat)) (z3 z4 : Option D), rngD (iN t + 1) q = rngD (iN t') q' ∧ δ2 = [some (.loc m), some (roadsD R), some (.loc F), z3, z4, none, none] ∧ t' + q' = R.length ∧ Keeps m S S4 ∧ RowsAt F S4 F ls qs ∧ (∀ q ∈ qs, PartSo R t' q) ∧ qs.flatten.Perm (List.range t')
            | .bk δ2 => False
            | .rt d => False) := by
          intro r h
          refine h.mono fun o S4 h4 => ?_
          have := fin o S4 h4
          cases o with
          | nx δ => exact this
          | rt d => exact this.elim
          | bk δ => exact this.elim
          | ct δ => exact this.elim
        refine Ok.mono (weak _ ?_) fun o S4 h => by
          cases o with
          | nx δ => exact h
          | rt d => exact h.elim
          | bk δ => exact h.elim
          | ct δ => exact h
        rw [ok_sif, ok_tand, ok_tof, ok_bin, ok_var (d := .loc L) rfl, ok_elst, ok_anil, if_pos (by simp)]
        have q3 : Pre S2 (S2 ++ [MO.lst []]) := Pre.push .refl
        have g3 : (S2 ++ [MO.lst []])[S2.length]? = some (.lst (([] : List Int).map D.int)) := by simp
        generalize S2 ++ [MO.lst []] = S3 at q3 g3 ⊢
        have gL := q3.get g2'
        have r3 := r2.pre q3
        have k3 : Keeps m S S3 := k2.trans (Keeps.pre k2.src q3)
        rw [ok_neLL gL g3, ok_asb]
        by_cases c : some'.map iN = []
        · rw [if_neg (by simp [c]), if_neg (by simp)]
          exact alone S3 k3 r3
        · rw [if_pos (by simp [c]), ok_tof, ok_bin, ok_fn, ok_acons, ok_var (d := .loc m) rfl, ok_acons, ok_c, ok_anil]
          refine (p_take 3 k3.src (by omega) (by omega)).mono fun d S4 ⟨⟨u, e, hu⟩, k4⟩ => ?_
          subst e
          have k4' := k3.trans k4
          have r4 := r3.keep (by omega) k4
          rw [ok_c, ok_gt, ok_asb]
          by_cases c2 : 0 < iN u
          · rw [if_pos (decide_eq_true c2), ok_sdrop, ok_mth, ok_bin, ok_var (d := .loc F) rfl, ok_fn, ok_acons, ok_var (d := .loc m) rfl, ok_acons, ok_var (d := .loc L) rfl, ok_anil]
            have sl : some'.length ≤ 1000 := by rw [← hsome]; have := List.length_filter_le (fun j => fitsB R (qs.getD j [] ++ [t])) (List.range ls.length); rw [List.length_range] at this; have := r1.len; omega
            have sp : 0 < some'.length := by
              cases some' with
              | nil => exact absurd rfl c
              | cons a b => simp
            refine (p_law_one k4.src hLm (k4.old _ _ hLm gL) (by simpa using sp) (by simp; omega)).mono fun d S5 ⟨hd, k5⟩ => ?_
            rw [List.map_map] at hd
            obtain ⟨j, hj, rfl⟩ := List.mem_map.mp hd
            rw [← hsome] at hj
            obtain ⟨hj1, hj2⟩ := List.mem_filter.mp hj
            have hj1 := List.mem_range.mp hj1
            have hjq : j < qs.length := by rw [← r1.len]; exact hj1
            rw [getD_at _ hjq] at hj2
            have r5 := r4.keep (by omega) k5
            have k5' := k4'.trans k5
            show Ok (dIx (.loc F) (.int (iN j)) S5) _
            have row := r5.row j hj1 hjq
            have hl := hql _ (List.getElem_mem hjq)
            rw [r5.ix hj1, ok_isl row, ok_acons, ok_var (d := .int (iN t)) rfl, ok_anil, ok_app row (by simp; omega)]
            have hge := r5.ge.2 _ (List.getElem_mem hj1)
            refine ⟨ls, qs.set j (qs[j] ++ [t]), rfl, k5'.setN hmS (by omega), ?_, fun q h => ?_, ?_⟩
            · have := r5.put hj1 (qs[j] ++ [t])
              rw [List.map_append, List.map_append] at this
              exact this
            · rcases List.mem_or_eq_of_mem_set h with z | z
              · have := hq q z
                exact ⟨this.ne, this.asc, fun x hx => by have := this.lt x hx; omega, this.form⟩
              · subst z
                have old := hq _ (List.getElem_mem hjq)
                refine ⟨by simp, ?_, fun x hx => ?_, fits_form (rd_ne w) _ (more j hjq) (by simp) hj2⟩
                · rw [List.pairwise_append]
                  refine ⟨old.asc, by simp, fun a ha b hb => ?_⟩
                  rw [List.mem_singleton] at hb
                  have := old.lt a ha
                  omega
                · rcases List.mem_append.mp hx with z | z
                  · have := old.lt x z; omega
                  · rw [List.mem_singleton] at z; omega
            · refine (flatten_set qs j t hjq).trans ?_
              rw [List.range_succ]
              exact (hp.cons t).trans (List.perm_append_singleton t _).symm
          · rw [if_neg (by simpa using c2)]
            exact alone S4 k4' r4
  · rintro δ S1 ⟨q, t, ls, qs, z3, z4, e, rfl, htq, k1, r1, hq, hp⟩
    refine ⟨True.intro, ?_⟩
    cases q with
    | succ q => rw [rng_cons] at e; cases e
    | zero =>
      have ht : t = R.length := by omega
      subst ht
      dsimp only
      have hqs : qs.length ≤ 1000 := by
        have h1 := len_flatten qs fun q h => (hq q h).ne
        have h2 := hp.length_eq
        rw [List.length_range] at h2
        omega
      rw [ok_sret, ok_call, ok_acons, ok_call, ok_acons]
      refine (ok_eLc (S := S1) (fun z => match z with
        | .loc l => match S1[l]? with
          | some (.lst ds) => some (.tup ds)
          | _ => none
        | _ => none) (items := ls.map D.loc) (l := fun S => S[F]? = some (.lst (ls.map D.loc))) ?_ (by simp [r1.len]; omega) (fun S6 q6 => q6.get r1.top) ?_).mono ?_
      · rw [ok_iseq, ok_var (d := .loc F) rfl]
        show Ok (srcOf (.loc F) S1) _
        unfold srcOf
        simp only [r1.top]
        exact ⟨rfl, .refl⟩
      · intro z hz S6 q6
        obtain ⟨l, hl, rfl⟩ := List.mem_map.mp hz
        obtain ⟨j, hj, e⟩ := List.mem_iff_getElem.mp hl
        have row := r1.row j hj (by rw [← r1.len]; exact hj)
        rw [e] at row
        show Ok (gN 6 (.loc l) _ S6) _
        rw [ok_gn]
        refine ⟨rfl, ?_⟩
        rw [ok_ttrue]
        refine ⟨.refl, ?_⟩
        simp only [row]
        refine ⟨trivial, ?_⟩
        rw [ok_call, ok_acons, ok_var (d := .loc l) rfl, ok_anil, ok_op1, ok_tupL (q6.get row)]
        exact ⟨rfl, .refl⟩
      · rintro d S6 ⟨j, rfl, hj, q6, g6⟩
        have eP : (ls.map D.loc).filterMap (fun z => match z with
            | .loc l => match S1[l]? with
              | some (.lst ds) => some (.tup ds)
              | _ => none
            | _ => none) = (qs.map fun q => q.map iN).map vec := by
          rw [List.filterMap_map]
          have : ∀ (ls : List Nat) (qs : List (List Nat)), ls.length = qs.length → (∀ j (h1 : j < ls.length) (h2 : j < qs.length), S1[ls[j]]? = some (.lst ((qs[j].map iN).map D.int))) → ls.filterMap ((fun z => match z with
            | .loc l => match S1[l]? with
              | some (.lst ds) => some (.tup ds)
              | _ => none
            | _ => none) ∘ D.loc) = (qs.map fun q => q.map iN).map vec := fun ls => by
            induction ls with
            | nil => intro qs h _; cases qs with
              | nil => rfl
              | cons a b => simp at h
            | cons l ls ih =>
              intro qs h hr
              cases qs with
              | nil => simp at h
              | cons a b =>
                have h0 := hr 0 (by simp) (by simp)
                simp only [List.getElem_cons_zero] at h0
                rw [List.filterMap_cons_some (b := .tup ((a.map iN).map D.int)) (by simp only [Function.comp, h0])]
                rw [ih b (by simpa using h) fun j h1 h2 => by have := hr (j + 1) (by simp; omega) (by simp; omega); simpa using this]
                rfl
          exact this ls qs r1.len r1.row
        rw [eP] at g6
        have ne : ∀ v ∈ qs.map (fun q => q.map iN), v ≠ [] := fun v hv => by
          obtain ⟨q, h, rfl⟩ := List.mem_map.mp hv
          have := (hq q h).ne
          simpa using this
        rw [ok_anil, ok_op1, ok_sortV g6 (by simp; omega) ne, ok_anil, ok_op1]
        obtain ⟨P, e1, hP, hc⟩ := parts_of hR hq hp
        rw [e1]
        rw [ok_tupL (S := S6 ++ [MO.lst (P.map vecN)]) (n := S6.length) (ds := P.map vecN) (by simp)]
        exact ⟨⟨P, rfl, hP, hc⟩, k1.trans (Keeps.pre k1.src (q6.trans (Pre.push .refl)))⟩
end
end Y
set_option Elab.async false
set_option linter.all false
set_option maxRecDepth 100000
namespace Y
open PySem PySem.Spec PyProof.Rows L2 DL
open Classical
noncomputable section
variable {n : Nat} {R : Roads} {P : List (List Nat)} {S S' S1 S2 : Store} {k m : Nat}
/-- a def that only adds and tells a new object -/
theorem ok_fnL {n : Nat} {body : SS} {ds : List D} {Q : Nat → Store → Prop} (h : Ok (body (ds.map some ++ List.replicate (n - ds.length) none) S) fun o S' => ∃ F, o = Out.rt (.loc F) ∧ S.length ≤ F ∧ Pre S S' ∧ Q F S') :
    Ok (fnB n body ds S) fun d S' => ∃ F, d = .loc F ∧ S.length ≤ F ∧ Pre S S' ∧ Q F S' := by
  unfold fnB
  refine ok_gc ?_
  rw [ok_noX]
  unfold runB
  rw [ok_bnd]
  refine h.mono fun o S' ⟨F, e, h1, h2, h3⟩ => ?_
  subst e
  exact ⟨⟨F, rfl, h1, h2, h3⟩, fun _ lo => absurd (show F < S.length from lo) (Nat.not_lt.mpr h1)⟩
theorem ok_dnK {δ : DL.Env} {Q : D → Store → Prop} : Ok (eDnK δ S) Q = Q (.loc S.length) (S ++ [.dik []]) := rfl
/-- the meetings ahead of t -/
def pst (R : Roads) (h : List Nat) (t : Nat) : List Nat := (List.range t).filter fun i => decide (Mk.Mm (hdF R h) t i)
def psts (R : Roads) (h : List Nat) (t : Nat) : List (List Nat) := (List.range t).map (pst R h)
theorem next_is (h : List Nat) {i j : Nat} (hi : i < h.length) (hj : j < h.length) : nextB R h[i] h[j] = true ↔ Mk.Sh (hdF R h) i j := by
  unfold nextB Mk.Sh hdF
  rw [getD_at _ hi, getD_at _ hj, Bool.or_eq_true, inR_iff, inR_iff, or_assoc]
/-- int keys, each once -/
structure KeysAt (S : Store) (B : Nat) (ks : List Nat) : Prop where
  ex : ∃ kvs : List (Key × D), S[B]? = some (.dik kvs) ∧ kvs.map (·.1) = (ks.map iN).map Sum.inl
  nd : ks.Nodup
theorem KeysAt.pre {B : Nat} {ks : List Nat} (h : KeysAt S B ks) (q : Pre S S') : KeysAt S' B ks := let ⟨kvs, a, b⟩ := h.ex; ⟨⟨kvs, q.get a, b⟩, h.nd⟩
theorem KeysAt.put {B : Nat} {ks : List Nat} (h : KeysAt S B ks) (hl : ks.length < 1000000) (u : Nat) (z : D) :
    ∃ S' ks', (∀ U : Unit → Store → Prop, Ok (dPutD (.loc B) (.int (iN u)) z S) U = U () S') ∧ KeysAt S' B ks' ∧ (∀ i, i ∈ ks' ↔ i ∈ ks ∨ i = u) ∧ ks'.length ≤ ks.length + 1 ∧ (∀ S0, Pre S0 S → S0.length ≤ B → Pre S0 S') := by
  obtain ⟨kvs, e1, e2⟩ := h.ex
  have hsz : sizeLine = 16777216 := rfl
  have hl2 : kvs.length = ks.length := by have := congrArg List.length e2; simpa using this
  have mem : ((Sum.inl (iN u) : Key) ∈ kvs.map (·.1)) ↔ u ∈ ks := by
    rw [e2, List.map_map, List.mem_map]
    constructor
    · rintro ⟨x, hx, e⟩
      have e : iN x = iN u := Sum.inl.inj e
      simp only [iN] at e
      have : x = u := by omega
      exact this ▸ hx
    · exact fun hu => ⟨u, hu, rfl⟩
  have hk := putD_keys kvs (Sum.inl (iN u) : Key) z
  by_cases c : u ∈ ks
  · rw [if_pos (mem.mpr c)] at hk
    refine ⟨_, ks, fun U => ok_putK e1 (by omega), ⟨⟨_, set_get (List.getElem?_eq_some_iff.mp e1).1, by rw [hk, e2]⟩, h.nd⟩, fun i => ⟨.inl, fun z => z.elim id fun e => e ▸ c⟩, by omega, fun S0 p hB => p.set hB⟩
  · rw [if_neg fun z => c (mem.mp z)] at hk
    refine ⟨_, ks ++ [u], fun U => ok_putK e1 (by omega), ⟨⟨_, set_get (List.getElem?_eq_some_iff.mp e1).1, by rw [hk, e2]; simp⟩, ?_⟩, fun i => by rw [List.mem_append, List.mem_singleton], by simp, fun S0 p hB => p.set hB⟩
    rw [List.nodup_append]
    refine ⟨h.nd, by simp, fun a ha b hb e => ?_⟩
    rw [List.mem_singleton] at hb
    subst hb; subst e; exact c ha
/-- two ascending lists of the same things are the same -/
theorem asc_eq {l l' : List Int} (h : l.Pairwise (· < ·)) (h' : l'.Pairwise (· < ·)) (e : ∀ x, x ∈ l ↔ x ∈ l') : l = l' := by
  have n : l.Nodup := h.imp fun z => by omega
  have n' : l'.Nodup := h'.imp fun z => by omega
  have p := (List.perm_ext_iff_of_nodup n n').mpr e
  exact p.eq_of_pairwise (le := (· < ·)) (fun a b _ _ x y => by omega) h h'
theorem keys_sorted (h : List Nat) (t : Nat) {ks : List Nat} (nd : ks.Nodup) (hm : ∀ i, i ∈ ks ↔ i < t ∧ Mk.Mm (hdF R h) t i) : ((ks.map iN).mergeSort fun a b => decide (a ≤ b)) = (pst R h t).map iN := by
  apply asc_eq
  · apply strict_ints
    rw [List.Nodup, List.pairwise_map]
    exact nd.imp fun z => by simp only [iN]; omega
  · rw [List.pairwise_map]
    have : (pst R h t).Pairwise (· < ·) := by
      unfold pst
      exact List.pairwise_lt_range.filter _
    exact this.imp fun z => by simp only [iN]; omega
  · intro x
    rw [(List.mergeSort_perm _ _).mem_iff, List.mem_map, List.mem_map]
    constructor
    · rintro ⟨i, hi, e⟩
      obtain ⟨h1, h2⟩ := (hm i).mp hi
      exact ⟨i, by unfold pst; rw [List.mem_filter, List.mem_range]; exact ⟨h1, decide_eq_true h2⟩, e⟩
    · rintro ⟨i, hi, e⟩
      unfold pst at hi
      rw [List.mem_filter, List.mem_range] at hi
      exact ⟨i, (hm i).mpr ⟨hi.1, of_decide_eq_true hi.2⟩, e⟩
theorem pst_len (h : List Nat) (t : Nat) : (pst R h t).length ≤ t := by
  unfold pst
  have := List.length_filter_le (fun i => decide (Mk.Mm (hdF R h) t i)) (List.range t)
  rwa [List.length_range] at this
/-- a list of lists, none of them itself, all from b on -/
structure RowsIn (b : Nat) (S : Store) (F : Nat) (ls : List Nat) (ps : List (List Nat)) : Prop where
  top : S[F]? = some (.lst (ls.map D.loc))
  len : ls.length = ps.length
  row : ∀ j (h1 : j < ls.length) (h2 : j < ps.length), S[ls[j]]? = some (.lst ((ps[j].map iN).map D.int))
  nf : F ∉ ls
  ge : b ≤ F ∧ ∀ l ∈ ls, b ≤ l
theorem RowsIn.pre {b F : Nat} {ls : List Nat} {ps : List (List Nat)} (h : RowsIn b S F ls ps) (q : Pre S S') : RowsIn b S' F ls ps := ⟨q.get h.top, h.len, fun j a b => q.get (h.row j a b), h.nf, h.ge⟩
theorem RowsIn.keep {b F : Nat} {ls : List Nat} {ps : List (List Nat)} (h : RowsIn b S F ls ps) (hm : m < b) (q : Keeps m S S') : RowsIn b S' F ls ps :=
  ⟨q.old _ _ (by have := h.ge.1; omega) h.top, h.len, fun j h1 h2 => q.old _ _ (by have := h.ge.2 _ (List.getElem_mem h1); omega) (h.row j h1 h2), h.nf, h.ge⟩
theorem RowsIn.snoc {b F : Nat} {ls : List Nat} {ps : List (List Nat)} (h : RowsIn b S F ls ps) {L : Nat} {p : List Nat} (hL : S[L]? = some (.lst ((p.map iN).map D.int))) (hLF : L ≠ F) (hb : b ≤ L) : RowsIn b (S.set F (.lst ((ls ++ [L]).map D.loc))) F (ls ++ [L]) (ps ++ [p]) := by
  have h2 := h.len
  refine ⟨set_get (List.getElem?_eq_some_iff.mp h.top).1, by simp [h2], fun j g1 g2 => ?_, ?_, h.ge.1, fun l hl => ?_⟩
  · by_cases c : j < ls.length
    · have c2 : j < ps.length := by omega
      have ne : F ≠ ls[j] := fun e => h.nf (by rw [e]; exact List.getElem_mem c)
      rw [List.getElem_append_left c, List.getElem?_set_ne ne, h.row j c c2, List.getElem_append_left c2]
    · have ej : j = ls.length := by simp at g1; omega
      subst ej
      have e1 : (ps ++ [p])[ls.length]'g2 = p := by
        rw [List.getElem_append_right (by omega)]
        have : ls.length - ps.length = 0 := by omega
        simp [this]
      rw [e1, List.getElem_append_right (Nat.le_refl _)]
      simp only [Nat.sub_self, List.getElem_singleton]
      rw [List.getElem?_set_ne (Ne.symm hLF), hL]
  · rw [List.mem_append, List.mem_singleton]
    rintro (z | z)
    · exact h.nf z
    · exact hLF z.symm
  · rcases List.mem_append.mp hl with z | z
    · exact h.ge.2 l z
    · rw [List.mem_singleton] at z; omega
theorem RowsIn.ix {b F : Nat} {ls : List Nat} {ps : List (List Nat)} (h : RowsIn b S F ls ps) {j : Nat} (hj : j < ls.length) {Q : D → Store → Prop} : Ok (dIx (.loc F) (.int (iN j)) S) Q = Q (.loc ls[j]) S :=
  ok_ixL (e := .loc ls[j]) h.top (ixN_lt (by simpa using hj)) (by rw [List.getElem?_map, List.getElem?_eq_getElem hj]; rfl)
theorem RowsIn.pasts {b F : Nat} {ls : List Nat} {ps : List (List Nat)} (h : RowsIn b S F ls ps) : PastsAt S F ps := ⟨ls, h.top, h.len, h.row⟩
theorem psts_row (h : List Nat) {t j : Nat} (hj : j < (psts R h t).length) : (psts R h t)[j] = pst R h j := by simp only [psts, List.getElem_map, List.getElem_range]
theorem p_law_pasts (a b : D) (h : List Nat) (hh : ∀ x ∈ h, x < R.length) (hl : h.length ≤ 100) : Ok (F__law_pasts [.tup [a, roadsD R, b], vecN h] S) fun d S' => ∃ F, d = .loc F ∧ S.length ≤ F ∧ Pre S S' ∧ ∃ ls, RowsIn S.length S' F ls (psts R h h.length) := by
  refine ok_fnL ?_
  show Ok (b__law_pasts [some (.tup [a, roadsD R, b]), some (vecN h), none, none, none, none, none] S) _
  · skip
    have hsz : sizeLine = 16777216 := rfl
    unfold b__law_pasts
    rw [ok_sseq, ok_sasg, ok_elst, ok_anil, if_pos (by simp), ok_gn]
    dsimp only
    have p0 : Pre S (S ++ [MO.lst []]) := Pre.push .refl
    have r0 : RowsIn S.length (S ++ [MO.lst []]) S.length [] (psts R h 0) := ⟨by simp, rfl, fun j h1 => by simp at h1, by simp, Nat.le_refl _, fun l hl => by simp at hl⟩
    generalize hF : S.length = F at r0 ⊢
    generalize S ++ [MO.lst []] = S0 at p0 r0 ⊢
    have elen : ∀ (S : Store) (Q : D → Store → Prop), Ok (dLen (vecN h) S) Q = Q (.int (iN h.length)) S := fun S Q => by unfold vecN; rw [ok_lenV, List.length_map]
    rw [ok_sseq, ok_sfor, ok_rg1F (u := iN h.length) (by funext Q; rw [ok_call, ok_acons, ok_var (d := vecN h) rfl, ok_anil, ok_op1, elen]) (by simp only [iN]; omega)]
    have e0 : rngD 0 (iN h.length).toNat = rngD (iN 0) h.length := by simp [iN]
    rw [e0]
    refine ok_for (fun items δ S' => ∃ (q t : Nat) (ls : List Nat) (z3 z4 z5 z6 : Option D), items = rngD (iN t) q ∧ δ = [some (.tup [a, roadsD R, b]), some (vecN h), some (.loc F), z3, z4, z5, z6] ∧ t + q = h.length ∧ Pre S S' ∧ RowsIn F S' F ls (psts R h t)) ?_ ?_ _ _ _ ⟨h.length, 0, [], none, none, none, none, rfl, rfl, by omega, p0, r0⟩
    · rintro x r δ S1 ⟨q, t, ls, z3, z4, z5, z6, e, rfl, htq, p1, r1⟩
      cases q with
      | zero => cases e
      | succ q =>
        rw [rng_cons] at e
        cases e
        refine ⟨True.intro, ?_⟩
        have ht : t < h.length := by omega
        have hps : (psts R h t).length = t := by unfold psts; simp
        have hls : ls.length = t := by rw [r1.len, hps]
        have hFS : F < S1.length := (List.getElem?_eq_some_iff.mp r1.top).1
        rw [ok_gn]
        rw [ok_sseq, ok_sasg, ok_dnK, ok_gn]
        dsimp only
        have q2 : Pre S1 (S1 ++ [MO.dik []]) := Pre.push .refl
        have b2 : KeysAt (S1 ++ [MO.dik []]) S1.length [] := ⟨⟨[], by simp, rfl⟩, by simp⟩
        generalize hB : S1.length = B at b2 hFS ⊢
        generalize S1 ++ [MO.dik []] = S2 at q2 b2 ⊢
        have r2 := r1.pre q2
        rw [ok_sseq, ok_sfor, ok_rg1F (u := iN t) (by funext Q; exact ok_var (d := .int (iN t)) rfl) (by simp only [iN]; omega)]
        have e0 : rngD 0 (iN t).toNat = rngD (iN 0) t := by simp [iN]
        rw [e0]
        refine ok_for (fun items δ S' => ∃ (q k : Nat) (ks : List Nat) (z5 z6 : Option D), items = rngD (iN k) q ∧ δ = [some (.tup [a, roadsD R, b]), some (vecN h), some (.loc F), some (.int (iN t)), some (.loc B), z5, z6] ∧ k + q = t ∧ Pre S1 S' ∧ KeysAt S' B ks ∧ ks.length ≤ 101 * k ∧ ∀ i, i ∈ ks ↔ ∃ k', k' < k ∧ Mk.Sh (hdF R h) k' t ∧ Mk.Mm (hdF R h) k' i) ?_ ?_ _ _ _ ⟨t, 0, [], z5, z6, rfl, rfl, by omega, q2, b2, by simp, fun i => ⟨fun z => by simp at z, fun ⟨k', z, _⟩ => by omega⟩⟩
        · rintro x r δ S3 ⟨q, k, ks, z5, z6, e, rfl, hkq, q3, b3, hkl, hks⟩
          cases q with
          | zero => cases e
          | succ q =>
            rw [rng_cons] at e
            cases e
            refine ⟨True.intro, ?_⟩
            have hk : k < h.length := by omega
            have hkt : k < t := by omega
            rw [ok_gn]
            have ixh : ∀ (i : Nat) (S : Store) (Q : D → Store → Prop), i < h.length → Ok (dIx (vecN h) (.int (iN i)) S) Q = Q (.int (iN (h.getD i 0))) S := fun i S Q hi => ok_vecN hi
            rw [ok_sif, ok_ttru, ok_fn, ok_acons, ok_var (d := .tup [a, roadsD R, b]) rfl, ok_acons, ok_bin, ok_var (d := vecN h) rfl, ok_var (d := .int (iN k)) rfl, ixh k _ _ hk, ok_acons, ok_bin, ok_var (d := vecN h) rfl, ok_var (d := .int (iN t)) rfl, ixh t _ _ ht, ok_anil, getD_at _ hk, getD_at _ ht]
            refine (p_is_next a b h[k] h[t] (hh _ (List.getElem_mem hk)) (hh _ (List.getElem_mem ht))).pure fun S4 q4 => ?_
            have q4' := q3.trans q4
            have b4 := b3.pre q4
            have r4 := (r1.pre q4')
            rw [ok_trub]
            have hnx := next_is (R := R) h hk ht
            cases hb : nextB R h[k] h[t] with
            | false =>
              rw [if_neg (by simp), ok_snext]
              refine ⟨q, k + 1, ks, _, _, by simp [iN], rfl, by omega, q4', b4, by omega, fun i => ?_⟩
              rw [hks]
              constructor
              · rintro ⟨k', h1, h2, h3⟩; exact ⟨k', by omega, h2, h3⟩
              · rintro ⟨k', h1, h2, h3⟩
                by_cases c : k' = k
                · subst c
                  rw [hnx.mpr h2] at hb; cases hb
                · exact ⟨k', by omega, h2, h3⟩
            | true =>
              have hsh := hnx.mp hb
              rw [if_pos rfl, ok_sseq, ok_dputS, ok_c, ok_var (d := .loc B) rfl, ok_var (d := .int (iN k)) rfl]
              obtain ⟨S5, ks5, u1, u2, u3, u4, u5⟩ := b4.put (by omega) k (.bl true)
              rw [u1]
              dsimp only
              have q5 := u5 S1 q4' (by omega)
              have r5 := r1.pre q5
              have hkls : k < ls.length := by omega
              have hkps : k < (psts R h t).length := by omega
              rw [ok_sfor, ok_iseq, ok_bin, ok_var (d := .loc F) rfl, ok_var (d := .int (iN k)) rfl, r5.ix hkls]
              have row1 := r1.row k hkls hkps
              rw [psts_row] at row1
              have esrc : ∀ K : Src → Store → Prop, Ok (srcOf (.loc ls[k]) S5) K = K ⟨((pst R h k).map iN).map D.int, fun S => S[ls[k]]? = some (.lst (((pst R h k).map iN).map D.int))⟩ S5 := fun K => by
                unfold srcOf; simp only [q5.get row1]; rfl
              rw [esrc]
              refine ok_for (fun items δ S' => ∃ (dn td : List Nat) (ks' : List Nat) (z6 : Option D), items = (td.map iN).map D.int ∧ δ = [some (.tup [a, roadsD R, b]), some (vecN h), some (.loc F), some (.int (iN t)), some (.loc B), some (.int (iN k)), z6] ∧ pst R h k = dn ++ td ∧ Pre S1 S' ∧ KeysAt S' B ks' ∧ ks'.length ≤ 101 * k + 1 + dn.length ∧ ∀ i, i ∈ ks' ↔ i ∈ ks5 ∨ i ∈ dn) ?_ ?_ _ _ _ ⟨[], pst R h k, ks5, z6, rfl, rfl, rfl, q5, u2, by simp; omega, fun i => by simp⟩
              · rintro x r δ S6 ⟨dn, td, ks', z6, e, rfl, hd, q6, b6, hl6, h6⟩
                cases td with
                | nil => cases e
                | cons y td =>
                  cases e
                  refine ⟨q6.get row1, ?_⟩
                  have hpl := pst_len (R := R) h k
                  have hdl : dn.length + 1 ≤ k := by have := congrArg List.length hd; simp at this; omega
                  rw [ok_gn]
                  rw [ok_dputS, ok_c, ok_var (d := .loc B) rfl, ok_var (d := .int (iN y)) rfl]
                  obtain ⟨S7, ks7, v1, v2, v3, v4, v5⟩ := b6.put (by omega) y (.bl true)
                  rw [v1]
                  refine ⟨dn ++ [y], td, ks7, _, rfl, rfl, by rw [hd]; simp, v5 S1 q6 (by omega), v2, by simp; omega, fun i => ?_⟩
                  rw [v3, h6, List.mem_append, List.mem_singleton, or_assoc]
              · rintro δ S6 ⟨dn, td, ks', z6, e, rfl, hd, q6, b6, hl6, h6⟩
                refine ⟨q6.get row1, ?_⟩
                cases td with
                | cons y td => cases e
                | nil =>
                  rw [List.append_nil] at hd
                  subst hd
                  have hpl := pst_len (R := R) h k
                  refine ⟨q, k + 1, ks', _, _, by simp [iN], rfl, by omega, q6, b6, by omega, fun i => ?_⟩
                  rw [h6, u3, hks]
                  constructor
                  · rintro ((⟨k', h1, h2, h3⟩ | e) | hi)
                    · exact ⟨k', by omega, h2, h3⟩
                    · subst e; exact ⟨i, by omega, hsh, Mk.M_self i⟩
                    · unfold pst at hi
                      rw [List.mem_filter] at hi
                      exact ⟨k, by omega, hsh, of_decide_eq_true hi.2⟩
                  · rintro ⟨k', h1, h2, h3⟩
                    by_cases c : k' = k
                    · subst c
                      by_cases d : i = k'
                      · exact .inl (.inr d)
                      · right
                        unfold pst
                        rw [List.mem_filter, List.mem_range]
                        have := Mk.M_le h3
                        exact ⟨by omega, decide_eq_true h3⟩
                    · exact .inl (.inl ⟨k', by omega, h2, h3⟩)
        · rintro δ S3 ⟨q, k, ks, z5, z6, e, rfl, hkq, q3, b3, hkl, hks⟩
          refine ⟨True.intro, ?_⟩
          cases q with
          | succ q => rw [rng_cons] at e; cases e
          | zero =>
            have hk : k = t := by omega
            subst hk
            dsimp only
            have r3 := r1.pre q3
            rw [ok_sdrop, ok_mth, ok_var (d := .loc F) rfl, ok_isl r3.top, ok_acons, ok_call, ok_acons, ok_var (d := .loc B) rfl, ok_anil, ok_op1]
            obtain ⟨kvs, c1, c2⟩ := b3.ex
            rw [ok_sortD c1 c2 (by simp; omega), ok_anil]
            have ek : ((ks.map iN).mergeSort fun a b => decide (a ≤ b)) = (pst R h k).map iN := keys_sorted h k b3.nd fun i => by
              rw [hks, Mk.M_iff (hd := hdF R h) (i := i) (j := k)]
              constructor
              · rintro ⟨k', h1, h2, h3⟩
                have := Mk.M_le h3
                exact ⟨by omega, .inr ⟨k', h1, h2, h3⟩⟩
              · rintro ⟨h1, h2 | ⟨k', h2, h3, h4⟩⟩
                · omega
                · exact ⟨k', h2, h3, h4⟩
            rw [ek]
            have q4 : Pre S3 (S3 ++ [MO.lst (((pst R h k).map iN).map D.int)]) := Pre.push .refl
            have g4 : (S3 ++ [MO.lst (((pst R h k).map iN).map D.int)])[S3.length]? = some (.lst (((pst R h k).map iN).map D.int)) := by simp
            have hS3 : F < S3.length := Nat.lt_of_lt_of_le hFS (by rw [← hB]; exact q3.len)
            generalize S3.length = L at g4 hS3 ⊢
            generalize S3 ++ [MO.lst (((pst R h k).map iN).map D.int)] = S4 at q4 g4 ⊢
            have r4 := r3.pre q4
            rw [ok_app r4.top (by simp; omega)]
            have r5 := r4.snoc g4 (by omega) (by omega)
            have eps : psts R h (k + 1) = psts R h k ++ [pst R h k] := by unfold psts; rw [List.range_succ, List.map_append]; rfl
            refine ⟨_, k + 1, ls ++ [L], _, _, _, _, by simp [iN]; rfl, rfl, by omega, ((p1.trans q3).trans q4).set (by omega), ?_⟩
            rw [eps]
            rw [List.map_append] at r5
            exact r5
    · rintro δ S1 ⟨q, t, ls, z3, z4, z5, z6, e, rfl, htq, p1, r1⟩
      refine ⟨True.intro, ?_⟩
      cases q with
      | succ q => rw [rng_cons] at e; cases e
      | zero =>
        have ht : t = h.length := by omega
        subst ht
        dsimp only
        rw [ok_sret, ok_var (d := .loc F) rfl]
        exact ⟨F, rfl, Nat.le_refl _, p1, ls, r1⟩
end
end Y
set_option Elab.async false
set_option linter.all false
set_option maxRecDepth 100000
namespace Y
open PySem PySem.Spec PyProof.Rows L2 DL
open Classical
noncomputable section
variable {n : Nat} {R : Roads} {P : List (List Nat)} {S S1 : Store} {k : Nat}
theorem ints_at {ds : List Nat} {j : Nat} (h : j < ds.length) : ((ds.map iN).map D.int)[j]? = some (.int (iN (ds.getD j 0))) := by
  rw [List.getElem?_map, List.getElem?_map, List.getElem?_eq_getElem h, getD_at _ h]
  rfl
/-- one more than the most of those ahead -/
def Dep (ps : List (List Nat)) (ds : List Nat) (t : Nat) : Prop := (∀ i ∈ ps.getD t [], ds.getD i 0 < ds.getD t 0) ∧ (ds.getD t 0 = 1 ∨ ∃ i ∈ ps.getD t [], ds.getD t 0 = ds.getD i 0 + 1)
theorem getD_app {α : Type} (l : List α) (x d : α) (i : Nat) : (l ++ [x]).getD i d = if i < l.length then l.getD i d else if i = l.length then x else d := by
  by_cases c : i < l.length
  · rw [if_pos c, List.getD_eq_getElem?_getD, List.getElem?_append_left c, ← List.getD_eq_getElem?_getD]
  · rw [if_neg c, List.getD_eq_getElem?_getD, List.getElem?_append_right (by omega)]
    by_cases e : i = l.length
    · subst e; simp
    · rw [if_neg e, List.getElem?_eq_none (by simp; omega)]; rfl
end
end Y
set_option Elab.async false
set_option linter.all false
set_option maxRecDepth 100000
namespace Y
open PySem PySem.Spec PyProof.Rows L2 DL
open Classical
end Y
set_option Elab.async false
set_option linter.all false
set_option maxRecDepth 100000
namespace Y
open PySem PySem.Spec PyProof.Rows L2 DL
open Classical
noncomputable section
variable {n : Nat} {R : Roads} {P : List (List Nat)} {S S1 : Store} {k m : Nat}
theorem pst_mem (h : List Nat) {i j : Nat} : i ∈ pst R h j ↔ i ≠ j ∧ Mk.Mm (hdF R h) j i := by
  unfold pst
  rw [List.mem_filter, List.mem_range]
  constructor
  · rintro ⟨a, b⟩
    exact ⟨by omega, of_decide_eq_true b⟩
  · rintro ⟨a, b⟩
    have := Mk.M_le b
    exact ⟨by omega, decide_eq_true b⟩
theorem psts_len (h : List Nat) (t : Nat) : (psts R h t).length = t := by unfold psts; simp
theorem psts_at (h : List Nat) {t j : Nat} (hj : j < t) : (psts R h t).getD j [] = pst R h j := by
  rw [getD_at _ (by rw [psts_len]; exact hj), psts_row]
theorem dep_is (h : List Nat) {i : Nat} (hi : i < h.length) {ds : List Nat} (hd : ∀ t, t ≤ i → Dep (psts R h h.length) ds t) : ds.getD i 0 = Mk.dp (hdF R h) i := by
  refine Mk.dp_is (hd := hdF R h) (D := fun t => ds.getD t 0) (N := i + 1) (fun k hk j hj hm => ?_) (fun k hk => ?_) i (by omega)
  · obtain ⟨d1, _⟩ := hd k (by omega)
    rw [psts_at h (by omega)] at d1
    exact d1 j ((pst_mem h).mpr ⟨hj, hm⟩)
  · obtain ⟨_, d2⟩ := hd k (by omega)
    rw [psts_at h (by omega)] at d2
    rcases d2 with z | ⟨j, hj, z⟩
    · exact .inl z
    · obtain ⟨h1, h2⟩ := (pst_mem h).mp hj
      exact .inr ⟨j, h1, h2, z⟩
theorem one_line0 (w : Web n R) (so : Sound n R P) (ok : ∀ p ∈ P, PartOk R p) (h : List Nat) (hh : ∀ x ∈ h, x < R.length) : Mk.OneLine (hdF R h) (ptF P h) := by
  by_cases c : 0 < R.length
  · exact one_line w so ok h hh c
  · have : R = [] := List.length_eq_zero_iff.mp (by omega)
    subst this
    intro i j _
    left
    rfl
end
end Y
set_option Elab.async false
set_option linter.all false
set_option maxRecDepth 100000
namespace Y
open PySem PySem.Spec PyProof.Rows L2 DL
open Classical
end Y
set_option Elab.async false
set_option linter.all false
set_option maxRecDepth 100000
namespace Y
open PySem PySem.Spec PyProof.Rows L2 DL
open Classical
noncomputable section
variable {n : Nat} {R : Roads} {P : List (List Nat)} {S S1 : Store} {k m : Nat}
theorem RowsIn.setN {b F j : Nat} {ls : List Nat} {ps : List (List Nat)} {o : MO} (h : RowsIn b S F ls ps) (hj : j < b) : RowsIn b (S.set j o) F ls ps :=
  ⟨by rw [List.getElem?_set_ne (by have := h.ge.1; omega)]; exact h.top, h.len, fun i h1 h2 => by rw [List.getElem?_set_ne (by have := h.ge.2 _ (List.getElem_mem h1); omega)]; exact h.row i h1 h2, h.nf, h.ge⟩
end
end Y
set_option Elab.async false
set_option linter.all false
set_option maxRecDepth 100000
namespace Y
open PySem PySem.Spec PyProof.Rows L2 DL
open Classical
end Y
set_option Elab.async false
set_option linter.all false
set_option maxRecDepth 100000
namespace Y
open PySem PySem.Spec PyProof.Rows L2 DL
open Classical
end Y
set_option Elab.async false
set_option linter.all false
set_option maxRecDepth 100000
namespace Y
open PySem PySem.Spec PyProof.Rows L2 DL
open Classical
noncomputable section
variable {S S' : Store} {k : Nat}
/-- a vector of naturals -/
theorem p_is_mark (ns : List Int) (hn : ∀ x ∈ ns, 0 ≤ x) (hl : ns.length ≤ sizeLine) : Ok (F_is_mark [vec ns] S) fun d S' => d = .bl true ∧ Pre S S' := by
  refine ok_fnB ?_
  show Ok (b_is_mark [some (vec ns), none] S) _
  unfold b_is_mark
  rw [ok_sret, ok_eand, ok_call, ok_acons, ok_var (d := vec ns) rfl, ok_acons, ok_c, ok_anil, ok_op2, ok_isi (x := vec ns) isi_tup, ok_asb, if_pos rfl, ok_call, ok_acons]
  refine (ok_eLc (S := S) (fun z => some (.bl true)) (items := ns.map D.int) (l := fun _ => True) ?_ (by simpa using hl) (fun _ _ => True.intro) ?_).mono ?_
  · rw [ok_iseq, ok_var (d := vec ns) rfl]; exact ⟨rfl, .refl⟩
  · intro z hz S2 q
    obtain ⟨u, hu, rfl⟩ := List.mem_map.mp hz
    rw [ok_gn]
    refine ⟨rfl, ?_⟩
    rw [ok_ttrue]
    refine ⟨.refl, rfl, ?_⟩
    rw [ok_eand, ok_fn, ok_acons, ok_var (d := .int u) rfl, ok_anil]
    refine (p_is_number u).pure fun S3 q3 => ?_
    rw [ok_asb, if_pos rfl, ok_bin, ok_var (d := .int u) rfl, ok_c, ok_ge]
    exact ⟨by simp [hn u hu], q3⟩
  · rintro d S' ⟨m, rfl, hm, pre, hg⟩
    have e : (ns.map D.int).filterMap (fun _ => some (D.bl true)) = (ns.map fun _ => true).map D.bl := by
      rw [List.map_map]; refine fm_all _ _ _ ?_ _; intro p; rfl
    rw [e] at hg
    rw [ok_anil, ok_op1, ok_allL hg]
    refine ⟨?_, pre⟩
    show D.bl _ = D.bl _
    simp
theorem p_ahead (xs ys : List Int) (hx : ∀ x ∈ xs, 0 ≤ x) (hy : ∀ x ∈ ys, 0 ≤ x) (hl : xs.length ≤ sizeLine) (he : ys.length = xs.length) : Ok (F_ahead [vec xs, vec ys] S) fun d S' => d = .bl (leV xs ys && !decide (xs = ys)) ∧ Pre S S' := by
  refine ok_fnX ?_
  show Ok (b_ahead [some (vec xs), some (vec ys)] S) _
  unfold b_ahead
  rw [ok_sseq, ok_sif, ok_tnot, ok_ttru, ok_fn, ok_acons, ok_var (d := vec xs) rfl, ok_anil]
  refine (p_is_mark xs hx hl).pure fun S1 q1 => ?_
  rw [ok_trub, if_neg (by simp), ok_snext]
  dsimp only
  rw [ok_sseq, ok_sif, ok_tor, ok_tnot, ok_ttru, ok_fn, ok_acons, ok_var (d := vec ys) rfl, ok_anil]
  refine (p_is_mark ys hy (by omega)).pure fun S2 q2 => ?_
  rw [ok_trub, if_neg (by simp), ok_tof, ok_bin, ok_call, ok_acons, ok_var (d := vec ys) rfl, ok_anil, ok_op1, ok_lenV, ok_call, ok_acons, ok_var (d := vec xs) rfl, ok_anil, ok_op1, ok_lenV]
  rw [ok_neI, ok_asb, if_neg (by simp [he]), ok_snext]
  dsimp only
  rw [ok_sret, ok_eand, ok_fn, ok_acons, ok_var (d := vec xs) rfl, ok_acons, ok_var (d := vec ys) rfl, ok_anil]
  refine (p_at_most xs ys hl).pure fun S3 q3 => ?_
  rw [ok_asb]
  cases hb : leV xs ys with
  | false => rw [if_neg (by simp)]; exact ⟨by simp, (q1.trans q2).trans q3⟩
  | true =>
    rw [if_pos rfl, ok_bin, ok_var (d := vec xs) rfl, ok_var (d := vec ys) rfl, ok_neV]
    exact ⟨by simp, (q1.trans q2).trans q3⟩
end
end Y
set_option Elab.async false
set_option linter.all false
set_option maxRecDepth 100000
namespace Y
open PySem PySem.Spec PyProof.Rows L2 DL
open Classical
noncomputable section
variable {S S' S1 S2 : Store} {m k n : Nat} {R : Roads} {P : List (List Nat)}
/-- two roads have a common hand -/
theorem p_made (w : Web n R) (v : Parts R P) (hR : R.length ≤ 1000) : Ok (F__law_made [.tup [.int (iN n), roadsD R, partsD P]] S) fun d S' => ∃ k, d = .loc k ∧ S.length ≤ k ∧ Pre S S' ∧ S'[k]? = some (houseO n R P) := by
  show Ok (gc (noX (runB 1 b__law_made [.tup [.int (iN n), roadsD R, partsD P]])) _) _
  refine ok_gc ?_
  rw [ok_noX]
  unfold runB
  rw [ok_bnd]
  show Ok (b__law_made [some (.tup [.int (iN n), roadsD R, partsD P])] S) _
  unfold b__law_made
  have ht : ∀ (u : Int) (j : Nat) (e : D) (Q : D → Store → Prop), ixN 3 u = some j → [D.int (iN n), roadsD R, partsD P][j]? = some e → Ok (dIx (.tup [.int (iN n), roadsD R, partsD P]) (.int u) S) Q = Q e S := fun u j e Q h1 h2 => ok_ixT h1 h2
  rw [ok_sret, ok_fn, ok_acons, ok_bin, ok_var (d := .tup [.int (iN n), roadsD R, partsD P]) rfl, ok_c, ht 0 0 (.int (iN n)) _ rfl rfl, ok_acons, ok_bin, ok_var (d := .tup [.int (iN n), roadsD R, partsD P]) rfl, ok_c, ht 1 1 (roadsD R) _ rfl rfl, ok_acons, ok_bin, ok_var (d := .tup [.int (iN n), roadsD R, partsD P]) rfl, ok_c, ht 2 2 (partsD P) _ rfl rfl, ok_anil]
  refine (p_house w v hR).mono fun d S' ⟨k, e, h1, h2, h3⟩ => ⟨⟨k, e, h1, h2, h3⟩, fun _ lo => ?_⟩
  subst e
  exact absurd lo (Nat.not_lt.mpr h1)
end
end Y
set_option Elab.async false
set_option linter.all false
set_option maxRecDepth 100000
namespace Y
open PySem PySem.Spec PyProof.Rows L2 DL
open Classical
noncomputable section
variable {n : Nat} {R : Roads} {P : List (List Nat)} {S : Store} {k : Nat}
/-- ahead of two marks says what was ahead -/
theorem ahead_is (so : Sound n R P) (h : List Nat) (hh : ∀ x ∈ h, x < R.length) (o : Mk.OneLine (hdF R h) (ptF P h)) {i j : Nat} (hi : i < h.length) (hj : j < h.length) :
    Ok (F_ahead [vec (mkT R P h i), vec (mkT R P h j)] S) fun d S' => d = .bl (decide (i ≠ j ∧ Mk.Mm (hdF R h) j i)) ∧ Pre S S' := by
  have pos : ∀ t, ∀ x ∈ mkT R P h t, 0 ≤ x := fun t x hx => by
    unfold mkT at hx
    obtain ⟨q, _, rfl⟩ := List.mem_map.mp hx
    omega
  have len : ∀ t, (mkT R P h t).length = P.length := fun t => by unfold mkT; simp
  have pl := so.len
  have hsz : sizeLine = 16777216 := rfl
  refine (p_ahead _ _ (pos i) (pos j) (by rw [len]; omega) (by rw [len, len])).mono fun d S' ⟨e, q⟩ => ⟨?_, q⟩
  rw [e]
  congr 1
  apply bool_iff
  rw [Bool.and_eq_true, leV_mk so h hh o hi]
  constructor
  · rintro ⟨h1, h2⟩
    refine ⟨fun z => ?_, h1⟩
    subst z; simp at h2
  · rintro ⟨h1, h2⟩
    refine ⟨h2, ?_⟩
    simp only [Bool.not_eq_true', decide_eq_false_iff_not]
    exact fun z => h1 (mk_eq so h hh o hi hj z)
end
end Y
set_option Elab.async false
set_option linter.all false
set_option maxRecDepth 100000
namespace Y
open PySem PySem.Spec PyProof.Rows L2 DL
open Classical
noncomputable section
variable {n : Nat} {R : Roads} {P : List (List Nat)} {S S1 : Store} {k : Nat}
/-- one more than the most of those ahead -/
def DepRes (ps : List (List Nat)) (m : Nat) (d : D) : Prop := ∃ ds : List Nat, ds.length = m + 1 ∧ (∀ t, t ≤ m → Dep ps ds t) ∧ d = .int (iN (ds.getD m 0))
end
end Y
set_option Elab.async false
set_option linter.all false
set_option maxRecDepth 100000
namespace Y
open PySem PySem.Spec PyProof.Rows L2 DL
open Classical
noncomputable section
variable {n : Nat} {R : Roads} {P : List (List Nat)} {S S1 : Store} {k : Nat}
theorem ok_neB {a b : Bool} {Q : D → Store → Prop} : Ok (dEqG true (.bl a) (.bl b) S) Q = Q (.bl (!decide (a = b))) S := by
  have e : ∀ a, toPy S (.bl a) = some (.bool a) := fun a => rfl
  have s : ∀ a, SeqAt.shaped (.bool a) = true := fun a => by simp [SeqAt.shaped, PyData.canLay0, PyData.depth]
  unfold dEqG
  simp only [e, s, and_self, if_true]
  show Q (.bl (!PyData.eqv (.bool a) (.bool b))) S = _
  cases a <;> cases b <;> rfl
theorem ok_eqP {o : Option (Nat × Nat)} {Q : D → Store → Prop} : Ok (dEqG false (pairD o) (pairD o) S) Q = Q (.bl true) S := by
  cases o with
  | none =>
    have e : toPy S .non = some .none := rfl
    have s : SeqAt.shaped .none = true := by simp [SeqAt.shaped, PyData.canLay0, PyData.depth]
    unfold dEqG pairD
    simp only [e, s, and_self, if_true]
    rfl
  | some p =>
    obtain ⟨i, j⟩ := p
    show Ok (dEqG false (vec _) (vec _) S) Q = _
    rw [ok_eqV, decide_eq_true rfl]
theorem ok_fnKw {F : OpN} {p : List Nat} {t tk : SA} {δ : DL.Env} {Q : D → Store → Prop} : Ok (eFnK F p t tk δ S) Q = Ok (t δ S) fun us S1 => Ok (tk δ S1) fun ws S2 => Ok (F (perm .non p us ws) S2) Q := by unfold eFnK; simp only [ok_bnd, ok_noX]
end
end Y
set_option linter.all false
/-! KM6: the first hand with the most roads; greedy parts (plain mathematics) -/
namespace Gr
/-- the first of the greatest -/
def best (c : Nat → Nat) : Nat → Nat
  | 0 => 0
  | n + 1 => if n = 0 then 0 else if c (best c n) < c n then n else best c n
/-- greedy: from what is left, all that the hand bears -/
def gr (hs : Nat → Nat → Bool) (n : Nat) : Nat → List Nat → List (List Nat)
  | 0, _ => []
  | k + 1, l => if l = [] then [] else (l.filter fun i => hs i (best (fun a => (l.filter fun i => hs i a).length) n)) :: gr hs n k (l.filter fun i => !hs i (best (fun a => (l.filter fun i => hs i a).length) n))
end Gr
set_option Elab.async false
set_option linter.all false
set_option maxRecDepth 100000
namespace Y
open PySem PySem.Spec PyProof.Rows L2 DL
open Classical
noncomputable section
variable {n : Nat} {R : Roads} {P : List (List Nat)} {S S1 : Store} {k m : Nat}
/-! ### roads at a hand -/
def hsR (R : Roads) (i a : Nat) : Bool := inR (iN a) (rdAt R i)
/-! ### busiest -/
def cl (n : Nat) (L : List Nat) : List Int := (List.range n).map fun a => iN (L.count a)
end
end Y
set_option Elab.async false
set_option linter.all false
set_option maxRecDepth 100000
namespace Y
open PySem PySem.Spec PyProof.Rows L2 DL
open Classical
noncomputable section
variable {n : Nat} {R : Roads} {P : List (List Nat)} {S S1 : Store} {k m : Nat}
/-! ### all greedy parts -/
def allN (R : Roads) : List Nat := List.range R.length
def grd (n : Nat) (R : Roads) : List (List Nat) := Gr.gr (hsR R) n R.length (allN R)
/-- what is at one turn: left, and found so far -/
structure Turn (n : Nat) (R : Roads) (k : Nat) (l : List Nat) (fd : List (List Nat)) : Prop where
  lt : ∀ i ∈ l, i < R.length
  le : l.length ≤ k
  kle : fd.length + k ≤ R.length
  all : fd ++ Gr.gr (hsR R) n k l = grd n R
theorem turn_end {fd : List (List Nat)} (t : Turn n R k [] fd) : fd = grd n R := by
  rw [← t.all]
  have : Gr.gr (hsR R) n k [] = [] := by cases k <;> simp [Gr.gr]
  rw [this, List.append_nil]
/-! ### the law's own -/
end
end Y
set_option linter.all false
/-! KM5: pieces told by labels; two sides told by doubled hands (plain mathematics) -/
namespace Pc
open Classical
/-- reached through edges, either way -/
inductive Cn (es : List (Nat × Nat)) : Nat → Nat → Prop
  | refl (x : Nat) : Cn es x x
  | fwd {x a b : Nat} : Cn es x a → (a, b) ∈ es → Cn es x b
  | bck {x a b : Nat} : Cn es x b → (a, b) ∈ es → Cn es x a
variable {es fs : List (Nat × Nat)}
theorem Cn.mono (h : ∀ e ∈ es, e ∈ fs) {x y : Nat} (c : Cn es x y) : Cn fs x y := by
  induction c with
  | refl => exact .refl _
  | fwd _ m ih => exact .fwd ih (h _ m)
  | bck _ m ih => exact .bck ih (h _ m)
theorem Cn.trans {x y z : Nat} (c : Cn es x y) (d : Cn es y z) : Cn es x z := by
  induction d with
  | refl => exact c
  | fwd _ m ih => exact .fwd ih m
  | bck _ m ih => exact .bck ih m
theorem Cn.symm {x y : Nat} (c : Cn es x y) : Cn es y x := by
  induction c with
  | refl => exact .refl _
  | fwd _ m ih => exact (Cn.bck (.refl _) m).trans ih
  | bck _ m ih => exact (Cn.fwd (.refl _) m).trans ih
/-! ### labels -/
def stepL (lab : Nat → Nat) (e : Nat × Nat) : Nat → Nat := fun x => if lab x = lab e.2 then lab e.1 else lab x
def Good (lab : Nat → Nat) (es : List (Nat × Nat)) : Prop := ∀ x y, lab x = lab y ↔ Cn es x y
theorem good0 : Good id [] := fun x y => by
  constructor
  · intro h
    cases h
    exact .refl _
  · intro c
    induction c with
    | refl => rfl
    | fwd _ m _ => cases m
    | bck _ m _ => cases m
theorem good_step {lab : Nat → Nat} (g : Good lab es) (e : Nat × Nat) : Good (stepL lab e) (es ++ [e]) := fun x y => by
  have up : ∀ {x y}, Cn es x y → Cn (es ++ [e]) x y := fun c => c.mono fun _ h => List.mem_append_left _ h
  have edge : Cn (es ++ [e]) e.1 e.2 := .fwd (.refl _) (by simp)
  constructor
  · intro h
    unfold stepL at h
    by_cases c1 : lab x = lab e.2
    · rw [if_pos c1] at h
      by_cases c2 : lab y = lab e.2
      · exact up ((g x y).mp (c1.trans c2.symm))
      · rw [if_neg c2] at h
        exact (up ((g x _).mp c1)).trans (edge.symm.trans (up ((g _ y).mp h)))
    · rw [if_neg c1] at h
      by_cases c2 : lab y = lab e.2
      · rw [if_pos c2] at h
        exact (up ((g x _).mp h)).trans (edge.trans (up ((g _ y).mp c2.symm)))
      · rw [if_neg c2] at h
        exact up ((g x y).mp h)
  · intro c
    have one : ∀ a b, (a, b) ∈ es ++ [e] → stepL lab e a = stepL lab e b := fun a b m => by
      rcases List.mem_append.mp m with m | m
      · have : lab a = lab b := (g a b).mpr (.fwd (.refl _) m)
        unfold stepL
        rw [this]
      · rw [List.mem_singleton] at m
        subst m
        unfold stepL
        dsimp only
        rw [if_pos (rfl : lab b = lab b)]
        split <;> rfl
    induction c with
    | refl => rfl
    | fwd _ m ih => exact ih.trans (one _ _ m)
    | bck _ m ih => exact ih.trans (one _ _ m).symm
theorem good_fold : ∀ (fs : List (Nat × Nat)) {lab : Nat → Nat} {es : List (Nat × Nat)}, Good lab es → Good (fs.foldl stepL lab) (es ++ fs)
  | [], _, es, g => by rw [List.append_nil]; exact g
  | e :: fs, lab, es, g => by
    have := good_fold fs (good_step g e)
    rw [List.append_assoc] at this
    exact this
def labs (es : List (Nat × Nat)) : Nat → Nat := es.foldl stepL id
theorem labs_iff (es : List (Nat × Nat)) (x y : Nat) : labs es x = labs es y ↔ Cn es x y := by
  have := good_fold es good0
  rw [List.nil_append] at this
  exact this x y
/-! ### doubled hands -/
def dbl (n : Nat) (es : List (Nat × Nat)) : List (Nat × Nat) := es.flatMap fun e => [(e.1, e.2 + n), (e.2, e.1 + n)]
def nd (n h e : Nat) : Nat := if e = 0 then h else h + n
theorem dbl_mem {n : Nat} {e : Nat × Nat} : e ∈ dbl n es ↔ ∃ r ∈ es, e = (r.1, r.2 + n) ∨ e = (r.2, r.1 + n) := by
  unfold dbl
  rw [List.mem_flatMap]
  simp
/-- where no road has like sides, sides are kept along doubled roads -/
theorem kept {n : Nat} {s : Nat → Nat} (two : ∀ h, h < n → s h = 0 ∨ s h = 1) (lt : ∀ r ∈ es, r.1 < n ∧ r.2 < n) (ne : ∀ r ∈ es, s r.1 ≠ s r.2) {x y : Nat} (c : Cn (dbl n es) x y) :
    (if x < n then s x else 1 - s (x - n)) = (if y < n then s y else 1 - s (y - n)) := by
  have one : ∀ a b, (a, b) ∈ dbl n es → (if a < n then s a else 1 - s (a - n)) = (if b < n then s b else 1 - s (b - n)) := fun a b m => by
    obtain ⟨r, hr, e⟩ := dbl_mem.mp m
    obtain ⟨l1, l2⟩ := lt r hr
    have n1 := ne r hr
    have t1 := two _ l1
    have t2 := two _ l2
    rcases e with e | e
    · cases e
      rw [if_pos l1, if_neg (by omega), Nat.add_sub_cancel]
      omega
    · cases e
      rw [if_pos l2, if_neg (by omega), Nat.add_sub_cancel]
      omega
  induction c with
  | refl => rfl
  | fwd _ m ih => exact ih.trans (one _ _ m)
  | bck _ m ih => exact ih.trans (one _ _ m).symm
end Pc
set_option linter.all false
/-! KM7: sides spread from the first hand of each piece (plain mathematics) -/
namespace Pc
open Classical
variable {n t : Nat} {es : List (Nat × Nat)} {sd : List (Option Nat)} {rd : List Nat} {ex : Nat → Prop}
/-- the first hand of a hand's piece -/
def fst (n : Nat) (es : List (Nat × Nat)) (h : Nat) : Nat := (List.range n).findIdx fun a => decide (labs es a = labs es h)
theorem fst_le {h : Nat} (hh : h < n) : fst n es h ≤ h := by
  unfold fst
  by_cases c : (List.range n).findIdx (fun a => decide (labs es a = labs es h)) ≤ h
  · exact c
  · have := List.not_of_lt_findIdx (p := fun a => decide (labs es a = labs es h)) (xs := List.range n) (i := h) (by omega)
    simp at this
theorem fst_lab {h : Nat} (hh : h < n) : labs es (fst n es h) = labs es h := by
  have hl : fst n es h < (List.range n).length := by have := fst_le (n := n) (es := es) hh; simp; omega
  have := List.findIdx_getElem (p := fun a => decide (labs es a = labs es h)) (xs := List.range n) (w := hl)
  have e := of_decide_eq_true this
  have g : (List.range n)[fst n es h] = fst n es h := List.getElem_range hl
  exact (congrArg (labs es) g).symm.trans e
theorem fst_cn {h : Nat} (hh : h < n) : Cn es (fst n es h) h := (labs_iff es _ _).mp (fst_lab hh)
def Mt (es : List (Nat × Nat)) (h g : Nat) : Prop := (h, g) ∈ es ∨ (g, h) ∈ es
def Is (sd : List (Option Nat)) (h : Nat) : Prop := ∃ e : Nat, sd[h]? = some (some e)
/-- what closed sides reach -/
theorem reach {x y : Nat} (clo : ∀ h, Is sd h → ∀ g, Mt es h g → Is sd g) (hx : Is sd x) (c : Cn es x y) : Is sd y := by
  induction c with
  | refl => exact hx
  | fwd _ m ih => exact clo _ ih _ (.inl m)
  | bck _ m ih => exact clo _ ih _ (.inr m)
structure St (n : Nat) (es : List (Nat × Nat)) (t : Nat) (sd : List (Option Nat)) : Prop where
  len : sd.length = n
  two : ∀ h e, sd[h]? = some (some e) → (e = 0 ∨ e = 1) ∧ Cn (dbl n es) (nd n h e) (fst n es h) ∧ fst n es h < t
  clo : ∀ h, Is sd h → ∀ g, Mt es h g → Is sd g
  old : ∀ h, h < n → fst n es h < t → Is sd h
structure Sp (n : Nat) (es : List (Nat × Nat)) (t : Nat) (sd : List (Option Nat)) (rd : List Nat) (ex : Nat → Prop) : Prop where
  len : sd.length = n
  two : ∀ h e, sd[h]? = some (some e) → (e = 0 ∨ e = 1) ∧ Cn (dbl n es) (nd n h e) (fst n es h) ∧ fst n es h < t + 1
  rdy : ∀ h ∈ rd, Is sd h
  clo : ∀ h, Is sd h → h ∉ rd → ¬ ex h → ∀ g, Mt es h g → Is sd g
  old : ∀ h, h < n → fst n es h < t → Is sd h
  own : Is sd t
theorem is_set {g v h : Nat} (hg : sd[g]? = some none) (i : Is sd h) : Is (sd.set g (some v)) h := by
  obtain ⟨e, he⟩ := i
  have : g ≠ h := fun z => by subst z; rw [hg] at he; cases he
  exact ⟨e, by rw [List.getElem?_set_ne this]; exact he⟩
theorem is_new {g v : Nat} (hg : sd[g]? = some none) : Is (sd.set g (some v)) g := ⟨v, List.getElem?_set_self (List.getElem?_eq_some_iff.mp hg).1⟩
theorem set_get' {g v h e : Nat} (hg : sd[g]? = some none) (he : (sd.set g (some v))[h]? = some (some e)) : (h = g ∧ e = v) ∨ sd[h]? = some (some e) := by
  by_cases c : g = h
  · subst c
    rw [List.getElem?_set_self (List.getElem?_eq_some_iff.mp hg).1] at he
    cases he
    exact .inl ⟨rfl, rfl⟩
  · rw [List.getElem?_set_ne c] at he
    exact .inr he
theorem St.start (s : St n es t sd) (ht : t < n) (hn : sd[t]? = some none) : Sp n es t (sd.set t (some 0)) [t] fun _ => False := by
  have ef : fst n es t = t := by
    have h1 := fst_le (n := n) (es := es) ht
    by_cases c : fst n es t < t
    · obtain ⟨e, he⟩ := s.old t ht c
      rw [hn] at he; cases he
    · omega
  refine ⟨by rw [List.length_set]; exact s.len, fun h e he => ?_, fun h hh => ?_, fun h hi h1 _ g m => ?_, fun h h1 h2 => is_set hn (s.old h h1 h2), is_new hn⟩
  · rcases set_get' hn he with ⟨rfl, rfl⟩ | z
    · refine ⟨.inl rfl, ?_, by omega⟩
      rw [ef]
      exact .refl _
    · obtain ⟨a, b, c⟩ := s.two h e z
      exact ⟨a, b, by omega⟩
  · rw [List.mem_singleton] at hh
    subst hh
    exact is_new hn
  · obtain ⟨e, he⟩ := hi
    rcases set_get' hn he with ⟨rfl, rfl⟩ | z
    · exact absurd List.mem_cons_self h1
    · exact is_set hn (s.clo h ⟨e, z⟩ g m)
theorem Sp.done (s : Sp n es t sd [] fun _ => False) : St n es (t + 1) sd := by
  have clo : ∀ h, Is sd h → ∀ g, Mt es h g → Is sd g := fun h i g m => s.clo h i (by simp) (fun z => z) g m
  refine ⟨s.len, s.two, clo, fun h h1 h2 => ?_⟩
  by_cases c : fst n es h < t
  · exact s.old h h1 c
  · have : fst n es h = t := by omega
    have cn := fst_cn (n := n) (es := es) h1
    rw [this] at cn
    exact reach clo s.own cn
end Pc
set_option Elab.async false
set_option linter.all false
set_option maxRecDepth 100000
namespace Y
open PySem PySem.Spec PyProof.Rows L2 DL
open Classical
noncomputable section
variable {n : Nat} {R : Roads} {P : List (List Nat)} {S S' S1 S2 : Store} {k m : Nat}
/-! ### one object written -/
/-- all but m is as it was; m is o now; things may have been added -/
structure Kp (m : Nat) (o : MO) (S S' : Store) : Prop where
  len : S.length ≤ S'.length
  old : ∀ j ob, j ≠ m → S[j]? = some ob → S'[j]? = some ob
  now : S'[m]? = some o
theorem Kp.refl {o : MO} (h : S[m]? = some o) : Kp m o S S := ⟨Nat.le_refl _, fun _ _ _ e => e, h⟩
theorem Kp.pre {o : MO} (h : Kp m o S S1) (q : Pre S1 S2) : Kp m o S S2 := ⟨Nat.le_trans h.len q.len, fun j ob hj e => q.get (h.old j ob hj e), q.get h.now⟩
theorem Kp.setN {o x : MO} {j : Nat} (h : Kp m o S S1) (hj : S.length ≤ j) (hm : m ≠ j) : Kp m o S (S1.set j x) :=
  ⟨by simpa using h.len, fun i ob hi e => by rw [List.getElem?_set_ne (by have := (List.getElem?_eq_some_iff.mp e).1; omega)]; exact h.old i ob hi e, by rw [List.getElem?_set_ne hm.symm]; exact h.now⟩
theorem Kp.trans {o o' : MO} (h : Kp m o S S1) (k : Kp m o' S1 S2) : Kp m o' S S2 := ⟨Nat.le_trans h.len k.len, fun j ob hj e => k.old j ob hj (h.old j ob hj e), k.now⟩
theorem Kp.take {o : MO} (hs : m < S.length) (h : Kp m o S S1) : Kp m o S (S1.take S.length) := by
  have hl : ∀ j, j < S.length → (S1.take S.length)[j]? = S1[j]? := fun j hj => by rw [List.getElem?_take_of_lt hj]
  refine ⟨by rw [List.length_take]; have := h.len; omega, fun j ob hj e => ?_, ?_⟩
  · rw [hl j (List.getElem?_eq_some_iff.mp e).1]; exact h.old j ob hj e
  · rw [hl m hs]; exact h.now
theorem RowsAt.kp {b F : Nat} {o : MO} {ls : List Nat} {qs : List (List Nat)} (h : RowsAt b S F ls qs) (q : Kp m o S S') (h1 : F ≠ m) (h2 : m ∉ ls) : RowsAt b S' F ls qs :=
  ⟨q.old _ _ h1 h.top, h.len, fun j g1 g2 => q.old _ _ (fun e => h2 (e ▸ List.getElem_mem g1)) (h.row j g1 g2), h.nd, h.nf, h.ge⟩
/-! ### [[] for _ in range(n)] -/
/-! ### mates -/
end
end Y
set_option Elab.async false
set_option linter.all false
set_option maxRecDepth 100000
namespace Y
open PySem PySem.Spec PyProof.Rows L2 DL
open Classical
end Y
set_option Elab.async false
set_option linter.all false
set_option maxRecDepth 100000
namespace Y
open PySem PySem.Spec PyProof.Rows L2 DL
open Classical
end Y
set_option Elab.async false
set_option linter.all false
set_option maxRecDepth 100000
namespace Y
open PySem PySem.Spec PyProof.Rows L2 DL
open Classical
noncomputable section
variable {n : Nat} {R : Roads} {P : List (List Nat)} {S S' S1 S2 : Store} {k m : Nat}
/-- the meetings of a hand -/
def mineL (R : Roads) (h : List Nat) (hand : Nat) : List Nat := (List.range h.length).filter fun i => hsR R (h.getD i 0) hand
def hrd (R : Roads) (h : List Nat) (hand : Nat) : List Nat := match (mineL R h hand).getLast? with
  | none => []
  | some m => pst R h m ++ [m]
end
end Y
set_option Elab.async false
set_option linter.all false
set_option maxRecDepth 100000
namespace Y
open PySem PySem.Spec PyProof.Rows L2 DL
open Classical
noncomputable section
variable {n : Nat} {R : Roads} {P : List (List Nat)} {S S' S1 S2 : Store} {k m : Nat}
def cellL (R : Roads) (h : List Nat) (a o : Nat) : List Nat := (hrd R h a).filter fun i => hsR R (h.getD i 0) o
def cell (R : Roads) (P : List (List Nat)) (h : List Nat) (a o : Nat) : List Int := match (cellL R h a o).getLast? with
  | none => List.replicate P.length 0
  | some j => mkT R P h j
/-! ### the own row of the own table -/
end
end Y
set_option Elab.async false
set_option linter.all false
set_option maxRecDepth 100000
namespace Y
open PySem PySem.Spec PyProof.Rows L2 DL
open Classical
end Y
set_option Elab.async false
set_option linter.all false
set_option maxRecDepth 100000
namespace Y
open PySem PySem.Spec PyProof.Rows L2 DL
open Classical
noncomputable section
variable {n : Nat} {R : Roads} {P : List (List Nat)} {S S' S1 S2 : Store} {k m : Nat}
theorem SrcAt.pre (h : SrcAt m S) (q : Pre S S1) : SrcAt m S1 := (Keeps.pre h q).src
end
end Y
set_option Elab.async false
set_option linter.all false
set_option maxRecDepth 100000
namespace Y
open PySem PySem.Spec PyProof.Rows L2 DL
open Classical
noncomputable section
variable {n : Nat} {R : Roads} {P : List (List Nat)} {S S1 : Store} {k : Nat}
/-- the list at a place -/
theorem p_law_first (f : Nat) (ps : List (List Nat)) (hp : PastsAt S f ps) (hl : ps.length ≤ 1000) :
    Ok (F__law_first [.loc f] S) fun d S' => d = pairD (outB ps.length (fun i j => !decide (i ∈ ps.getD j [])) 0 ps.length) ∧ Pre S S' := by
  refine ok_fnB ?_
  show Ok (b__law_first [some (.loc f), none, none] S) _
  unfold b__law_first
  have hsz : sizeLine = 16777216 := rfl
  rw [ok_sseq, ok_sfor, ok_rg1F (u := iN ps.length) (by funext Q; rw [ok_call, ok_acons, ok_var (d := .loc f) rfl, ok_anil, ok_op1, hp.len]) (by simp only [iN]; omega)]
  have e0 : rngD 0 (iN ps.length).toNat = rngD (iN 0) ps.length := by simp [iN]
  rw [e0]
  refine ok_for (fun items δ S' => ∃ (q i : Nat) (z1 z2 : Option D), items = rngD (iN i) q ∧ δ = [some (.loc f), z1, z2] ∧ i + q = ps.length ∧ Pre S S' ∧
    outB ps.length (fun i j => !decide (i ∈ ps.getD j [])) 0 ps.length = outB ps.length (fun i j => !decide (i ∈ ps.getD j [])) i q) ?_ ?_ _ _ _ ⟨ps.length, 0, none, none, rfl, rfl, by omega, .refl, rfl⟩
  · rintro x r δ S2 ⟨q, i, z1, z2, e, rfl, hi, p2, hob⟩
    cases q with
    | zero => cases e
    | succ q =>
      rw [rng_cons] at e
      cases e
      refine ⟨True.intro, ?_⟩
      have hp2 := hp.pre p2
      rw [ok_gn]
      rw [ok_sfor, ok_rg2 (u := iN (i + 1)) (v := iN ps.length) (by funext Q; rw [ok_bin, ok_var (d := .int (iN i)) rfl, ok_c]; show Q (.int (iN i + 1)) S2 = _; simp [iN]) (by funext Q; rw [ok_call, ok_acons, ok_var (d := .loc f) rfl, ok_anil, ok_op1, hp2.len]) (by simp only [iN]; omega)]
      have er : (iN ps.length - iN (i + 1)).toNat = ps.length - (i + 1) := by simp [iN]; omega
      rw [er]
      have hfin : outB ps.length (fun i j => !decide (i ∈ ps.getD j [])) i (q + 1) = match inB (fun j => !decide (i ∈ ps.getD j [])) (i + 1) (ps.length - (i + 1)) with
        | some j => some (i, j)
        | none => outB ps.length (fun i j => !decide (i ∈ ps.getD j [])) (i + 1) q := rfl
      rw [hfin] at hob
      refine ok_for (fun items δ S' => ∃ (m j : Nat) (z2 : Option D), items = rngD (iN j) m ∧ δ = [some (.loc f), some (.int (iN i)), z2] ∧ j + m = ps.length ∧ Pre S S' ∧
        inB (fun j => !decide (i ∈ ps.getD j [])) (i + 1) (ps.length - (i + 1)) = inB (fun j => !decide (i ∈ ps.getD j [])) j m) ?_ ?_ _ _ _ ⟨ps.length - (i + 1), i + 1, z2, rfl, rfl, by omega, p2, rfl⟩
      · rintro x r δ S3 ⟨m, j, z2, e, rfl, hjm, p3, hib⟩
        cases m with
        | zero => cases e
        | succ m =>
          rw [rng_cons] at e
          cases e
          refine ⟨True.intro, ?_⟩
          have hj : j < ps.length := by omega
          obtain ⟨l, hl1, hl2⟩ := (hp.pre p3).row hj
          rw [ok_gn, ok_sif, ok_tof, ok_bin, ok_var (d := .int (iN i)) rfl, ok_bin, ok_var (d := .loc f) rfl, ok_var (d := .int (iN j)) rfl, hl2, ok_ninL hl1, ok_asb, mem_iN]
          have ib : inB (fun j => !decide (i ∈ ps.getD j [])) j (m + 1) = if (!decide (i ∈ ps[j])) = true then some j else inB (fun j => !decide (i ∈ ps.getD j [])) (j + 1) m := by
            show (if (!decide (i ∈ ps.getD j [])) = true then _ else _) = _
            rw [getD_at _ hj]
          rw [ib] at hib
          cases hb : decide (i ∈ ps[j]) with
          | true =>
            rw [if_neg (by simp), ok_snext]
            rw [hb, if_neg (by simp)] at hib
            exact ⟨m, j + 1, _, by simp [iN], rfl, by omega, p3, hib⟩
          | false =>
            rw [if_pos (by simp), ok_sret, ok_etup, ok_acons, ok_var (d := .int (iN i)) rfl, ok_acons, ok_var (d := .int (iN j)) rfl, ok_anil, if_pos (by simp; omega)]
            rw [hb, if_pos (by simp)] at hib
            rw [hib] at hob
            dsimp only at hob
            show D.tup _ = _ ∧ Pre S S3
            rw [hob]
            exact ⟨rfl, p3⟩
      · rintro δ S3 ⟨m, j, z2, e, rfl, hjm, p3, hib⟩
        refine ⟨True.intro, ?_⟩
        cases m with
        | succ m => rw [rng_cons] at e; cases e
        | zero =>
          rw [show inB (fun j => !decide (i ∈ ps.getD j [])) j 0 = none from rfl] at hib
          rw [hib] at hob
          exact ⟨q, i + 1, _, _, by simp [iN], rfl, by omega, p3, hob⟩
  · rintro δ S2 ⟨q, i, z1, z2, e, rfl, hi, p2, hob⟩
    refine ⟨True.intro, ?_⟩
    cases q with
    | succ q => rw [rng_cons] at e; cases e
    | zero =>
      dsimp only
      rw [ok_sret, ok_c]
      refine ⟨?_, p2⟩
      rw [hob]
      rfl
end
end Y
set_option Elab.async false
set_option linter.all false
set_option maxRecDepth 100000
namespace Y
open PySem PySem.Spec PyProof.Rows L2 DL
open Classical
noncomputable section
variable {n : Nat} {R : Roads} {P : List (List Nat)} {S S1 : Store} {k : Nat}
/-- one more than the most of those ahead -/
theorem p_law_depth (f at' : Nat) (ps : List (List Nat)) (hp : PastsAt S f ps) (hat : at' < ps.length) (hl : ps.length ≤ 1000) (hlt : ∀ t (h : t < ps.length), ∀ i ∈ ps[t], i < t) (hle : ∀ p ∈ ps, p.length ≤ 1000) :
    Ok (F__law_depth [.loc f, .int (iN at')] S) fun d S' => DepRes ps at' d ∧ Pre S S' := by
  show Ok (gc (noX (runB 5 b__law_depth [.loc f, .int (iN at')])) S) _
  refine ok_gcP ?_
  rw [ok_noX]
  unfold runB
  rw [ok_bnd]
  show Ok (b__law_depth [some (.loc f), some (.int (iN at')), none, none, none] S) _
  unfold b__law_depth
  have hsz : sizeLine = 16777216 := rfl
  rw [ok_sseq, ok_sasg, ok_elst, ok_anil, if_pos (by simp), ok_gn]
  dsimp only
  have g0 : (S ++ [MO.lst []])[S.length]? = some (.lst []) := by simp
  have q0 : Pre S (S ++ [MO.lst []]) := Pre.push .refl
  generalize S ++ [MO.lst []] = S0 at g0 q0 ⊢
  rw [ok_sseq, ok_sfor, ok_rg1F (u := iN (at' + 1)) (by funext Q; rw [ok_bin, ok_var (d := .int (iN at')) rfl, ok_c]; show Q (.int (iN at' + 1)) S0 = _; simp [iN]) (by simp only [iN]; omega)]
  have e0 : rngD 0 (iN (at' + 1)).toNat = rngD (iN 0) (at' + 1) := by simp [iN]
  rw [e0]
  refine ok_for (fun items δ S' => ∃ (q i : Nat) (ds : List Nat) (z1 z2 : Option D), items = rngD (iN i) q ∧ δ = [some (.loc f), some (.int (iN at')), some (.loc S.length), z1, z2] ∧ i + q = at' + 1 ∧ Pre S S' ∧ S'[S.length]? = some (.lst ((ds.map iN).map D.int)) ∧ ds.length = i ∧ ∀ t, t < i → Dep ps ds t) ?_ ?_ _ _ _ ⟨at' + 1, 0, [], none, none, rfl, rfl, by omega, q0, g0, rfl, fun t ht => by omega⟩
  · rintro x r δ S2 ⟨q, i, ds, z1, z2, e, rfl, hi, p2, g2, hds, hdep⟩
    cases q with
    | zero => cases e
    | succ q =>
      rw [rng_cons] at e
      cases e
      refine ⟨True.intro, ?_⟩
      have hi' : i < ps.length := by omega
      obtain ⟨l, hl1, hl2⟩ := (hp.pre p2).row hi'
      rw [ok_gn, ok_sdrop, ok_mth, ok_var (d := .loc S.length) rfl, ok_isl g2, ok_acons, ok_bin, ok_c, ok_call, ok_acons, ok_bin, ok_elst, ok_acons, ok_c, ok_anil, if_pos (by simp; omega)]
      -- the depths of those ahead
      have q3 : Pre S2 (S2 ++ [MO.lst [D.int 0]]) := Pre.push .refl
      have g3 : (S2 ++ [MO.lst [D.int 0]])[S2.length]? = some (.lst ([(0 : Int)].map D.int)) := by simp
      generalize S2 ++ [MO.lst [D.int 0]] = S3 at q3 g3 ⊢
      have gl := q3.get hl1
      have gd := q3.get g2
      have hrow : Ok (dIx (.loc f) (.int (iN i)) S3) = fun Q => Q (.loc l) S3 := by
        funext Q
        obtain ⟨ls, h1, h2, h3⟩ := (hp.pre p2).ex
        have hj' : i < ls.length := by omega
        have el : l = ls[i] := by
          have := hl2 (fun d _ => d = .loc ls[i])
          rw [ok_ixL (e := .loc ls[i]) h1 (ixN_lt (by simpa using hj')) (by rw [List.getElem?_map, List.getElem?_eq_getElem hj']; rfl)] at this
          have z : (D.loc l = D.loc ls[i]) := this.mp rfl
          cases z; rfl
        rw [ok_ixL (e := .loc ls[i]) (q3.get h1) (ixN_lt (by simpa using hj')) (by rw [List.getElem?_map, List.getElem?_eq_getElem hj']; rfl), el]
      refine (ok_eLc (S := S3) (fun z => some (.int (iN (ds.getD (natOf z) 0)))) (items := (ps[i].map iN).map D.int) (l := fun S => S[l]? = some (.lst ((ps[i].map iN).map D.int))) ?_ (by have := hle _ (List.getElem_mem hi'); simp; omega) (fun S4 q4 => q4.get gl) ?_).mono ?_
      · rw [ok_iseq, ok_bin, ok_var (d := .loc f) rfl, ok_var (d := .int (iN i)) rfl, hrow]
        show Ok (srcOf (.loc l) S3) _
        unfold srcOf
        simp only [gl]
        exact ⟨rfl, .refl⟩
      · intro z hz S4 q4
        rw [List.map_map] at hz
        obtain ⟨j, hj, rfl⟩ := List.mem_map.mp hz
        have hji := hlt i hi' j hj
        show Ok (gN 4 (.int (iN j)) _ S4) _
        rw [ok_gn]
        refine ⟨rfl, ?_⟩
        rw [ok_ttrue]
        refine ⟨.refl, rfl, ?_⟩
        rw [ok_bin, ok_var (d := .loc S.length) rfl, ok_var (d := .int (iN j)) rfl, ok_ixL (e := .int (iN (ds.getD j 0))) (q4.get gd) (ixN_lt (by simp; omega)) (ints_at (by omega))]
        refine ⟨?_, .refl⟩
        show D.int (iN (ds.getD j 0)) = D.int (iN (ds.getD (natOf (.int (iN j))) 0))
        rw [show natOf (.int (iN j)) = j by simp [natOf, iN]]
      · rintro d S4 ⟨j', rfl, hj', q4, g4⟩
        have el : ((ps[i].map iN).map D.int).filterMap (fun z => some (D.int (iN (ds.getD (natOf z) 0)))) = (ps[i].map fun j => iN (ds.getD j 0)).map D.int := by
          rw [List.map_map, List.map_map]
          refine fm_all _ _ _ (fun x => ?_) _
          show some (D.int (iN (ds.getD (natOf (.int (iN x))) 0))) = _
          rw [show natOf (.int (iN x)) = x by simp [natOf, iN]]
          rfl
        rw [el] at g4
        have hrl := hle _ (List.getElem_mem hi')
        rw [ok_addLL (q4.get g3) g4 (by simp; omega), ok_anil]
        have ea : [(0 : Int)].map D.int ++ (ps[i].map fun j => iN (ds.getD j 0)).map D.int = (0 :: ps[i].map fun j => iN (ds.getD j 0)).map D.int := rfl
        rw [ea]
        have q5 : Pre S4 (S4 ++ [MO.lst ((0 :: ps[i].map fun j => iN (ds.getD j 0)).map D.int)]) := Pre.push .refl
        have g5 : (S4 ++ [MO.lst ((0 :: ps[i].map fun j => iN (ds.getD j 0)).map D.int)])[S4.length]? = some (.lst ((0 :: ps[i].map fun j => iN (ds.getD j 0)).map D.int)) := by simp
        generalize S4.length = L5 at g5 ⊢
        generalize S4 ++ [MO.lst ((0 :: ps[i].map fun j => iN (ds.getD j 0)).map D.int)] = S5 at q5 g5 ⊢
        rw [ok_dmaxL g5 (by simp), ok_addII, ok_anil]
        have gd5 := (q4.trans q5).get gd
        rw [ok_app gd5 (by simp; omega)]
        have hmem := DL.maxL_mem (l := 0 :: ps[i].map fun j => iN (ds.getD j 0)) (by simp)
        have hge : ∀ y ∈ (0 :: ps[i].map fun j => iN (ds.getD j 0)), y ≤ DL.maxL (0 :: ps[i].map fun j => iN (ds.getD j 0)) := fun y hy => DL.maxL_ge hy
        generalize DL.maxL (0 :: ps[i].map fun j => iN (ds.getD j 0)) = M at hmem hge ⊢
        have hM : 0 ≤ M := hge 0 List.mem_cons_self
        obtain ⟨v, rfl⟩ : ∃ v : Nat, M = iN v := ⟨M.toNat, by simp only [iN]; omega⟩
        have hpi : ps.getD i [] = ps[i] := getD_at _ hi'
        refine ⟨q, i + 1, ds ++ [v + 1], _, _, by simp [iN], rfl, by omega, ((p2.trans ((q3.trans q4).trans q5))).set (Nat.le_refl _), ?_, by simp [hds], fun t ht => ?_⟩
        · rw [set_get (List.getElem?_eq_some_iff.mp gd5).1]
          have : (1 : Int) + iN v = iN (v + 1) := by simp only [iN]; omega
          rw [this, List.map_append, List.map_append]
          rfl
        · have old : ∀ j, j < i → (ds ++ [v + 1]).getD j 0 = ds.getD j 0 := fun j hj => by rw [getD_app, if_pos (by omega)]
          have new : (ds ++ [v + 1]).getD i 0 = v + 1 := by rw [getD_app, if_neg (by omega), if_pos hds.symm]
          by_cases c : t = i
          · subst c
            unfold Dep
            rw [hpi, new]
            refine ⟨fun j hj => ?_, ?_⟩
            · rw [old j (hlt t hi' j hj)]
              have := hge (iN (ds.getD j 0)) (List.mem_cons_of_mem _ (List.mem_map.mpr ⟨j, hj, rfl⟩))
              simp only [iN] at this
              omega
            · rcases List.mem_cons.mp hmem with z | z
              · left
                simp only [iN] at z
                omega
              · right
                obtain ⟨j, hj, e⟩ := List.mem_map.mp z
                refine ⟨j, hj, ?_⟩
                rw [old j (hlt t hi' j hj)]
                simp only [iN] at e
                omega
          · have hti : t < i := by omega
            obtain ⟨d1, d2⟩ := hdep t hti
            have htl : t < ps.length := by omega
            have hpt : ps.getD t [] = ps[t] := getD_at _ htl
            have lt' : ∀ j ∈ ps.getD t [], j < i := fun j hj => by rw [hpt] at hj; have := hlt t htl j hj; omega
            unfold Dep
            rw [old t hti]
            refine ⟨fun j hj => by rw [old j (lt' j hj)]; exact d1 j hj, ?_⟩
            rcases d2 with z | ⟨j, hj, z⟩
            · exact .inl z
            · exact .inr ⟨j, hj, by rw [old j (lt' j hj)]; exact z⟩
  · rintro δ S2 ⟨q, i, ds, z1, z2, e, rfl, hi, p2, g2, hds, hdep⟩
    refine ⟨True.intro, ?_⟩
    cases q with
    | succ q => rw [rng_cons] at e; cases e
    | zero =>
      have hi : i = at' + 1 := by omega
      subst hi
      dsimp only
      rw [ok_sret, ok_bin, ok_var (d := .loc S.length) rfl, ok_var (d := .int (iN at')) rfl, ok_ixL (e := .int (iN (ds.getD at' 0))) g2 (ixN_lt (by simp; omega)) (ints_at (by omega))]
      exact ⟨⟨ds, hds, fun t ht => hdep t (by omega), rfl⟩, p2⟩
end
end Y
set_option Elab.async false
set_option linter.all false
set_option maxRecDepth 100000
namespace Y
open PySem PySem.Spec PyProof.Rows L2 DL
open Classical
noncomputable section
variable {n : Nat} {R : Roads} {P : List (List Nat)} {S S1 : Store} {k : Nat}
/-- what counts the most of those ahead and one more is the longest line -/
theorem p_law_right_k18 (w : Web n R) (v : Parts R P) (hc : ∀ x, x < R.length → ∃ p ∈ P, x ∈ p) (hR : R.length ≤ 1000) (h : List Nat) (hh : ∀ x ∈ h, x < R.length) (hl : h.length ≤ 100) {F : Nat} (hp : PastsAt S F (psts R h h.length)) :
    Ok (F__law_right_v3 [.tup [.int (iN n), roadsD R, partsD P], vecN h, .loc F] S) fun d S' => d = .bl true ∧ Pre S S' := by
  have so := sound_of w v hc
  have o := one_line0 w so v.ok h hh
  have hsz : sizeLine = 16777216 := rfl
  refine ok_fnB ?_
  show Ok (b__law_right_v3 [some (.tup [.int (iN n), roadsD R, partsD P]), some (vecN h), some (.loc F), none, none, none, none] S) _
  unfold b__law_right_v3
  rw [ok_sseq, ok_sasg, ok_fn, ok_acons, ok_var (d := .tup [.int (iN n), roadsD R, partsD P]) rfl, ok_anil]
  refine (p_made w v hR).mono fun d S1 ⟨k, e, hkS, q1, hk1⟩ => ?_
  subst e
  rw [ok_gn]
  dsimp only
  rw [ok_sseq, ok_sasg, ok_fnKw, ok_anil, ok_acons, ok_var (d := vecN h) rfl, ok_acons, ok_var (d := .loc k) rfl, ok_anil]
  show Ok (F_marks [.loc k, vecN h] S1) _
  refine (p_marks so h hk1 hh (by omega)).mono fun d S2 ⟨e, q2⟩ => ?_
  subst e
  rw [marks_are so h hh o]
  have q2' := q1.trans q2
  have hk2 := q2.get hk1
  rw [ok_gn]
  dsimp only
  generalize hT : (List.range h.length).map (mkT R P h) = T
  have Tlen : T.length = h.length := by rw [← hT]; simp
  have Tat : ∀ i (hi : i < T.length), T[i] = mkT R P h i := fun i hi => by subst hT; simp
  have elen : ∀ (S : Store) (Q : D → Store → Prop), Ok (dLen (vecN h) S) Q = Q (.int (iN h.length)) S := fun S Q => by unfold vecN; rw [ok_lenV, List.length_map]
  have e0 : rngD 0 (iN h.length).toNat = rngD (iN 0) h.length := by simp [iN]
  rw [ok_sseq, ok_sfor, ok_rg1F (u := iN h.length) (by funext Q; rw [ok_call, ok_acons, ok_var (d := vecN h) rfl, ok_anil, ok_op1, elen]) (by simp only [iN]; omega), e0]
  refine ok_for (fun items δ S' => ∃ (q j : Nat) (z5 z6 : Option D), items = rngD (iN j) q ∧ δ = [some (.tup [.int (iN n), roadsD R, partsD P]), some (vecN h), some (.loc F), some (.loc k), some (vecsD T), z5, z6] ∧ j + q = h.length ∧ Pre S2 S') ?_ ?_ _ _ _ ⟨h.length, 0, none, none, rfl, rfl, by omega, .refl⟩
  · rintro x r δ S3 ⟨q, j, z5, z6, e, rfl, hjq, q3⟩
    cases q with
    | zero => cases e
    | succ q =>
      rw [rng_cons] at e
      cases e
      refine ⟨True.intro, ?_⟩
      have hj : j < h.length := by omega
      have hjp : j < (psts R h h.length).length := by rw [psts_len]; exact hj
      rw [ok_gn]
      rw [ok_sseq, ok_sif, ok_tor, ok_tof, ok_bin, ok_fn, ok_acons, ok_var (d := .loc k) rfl, ok_acons, ok_var (d := vecN h) rfl, ok_acons, ok_var (d := .int (iN j)) rfl, ok_anil]
      refine (past_is so h j (q3.get hk2) hh (by omega) hj o).pure fun S4 q4 => ?_
      have p4 := q2'.trans (q3.trans q4)
      obtain ⟨l, hl1, hl2⟩ := (hp.pre p4).row hjp
      rw [psts_row] at hl1
      rw [ok_call, ok_acons, ok_bin, ok_var (d := .loc F) rfl, ok_var (d := .int (iN j)) rfl, hl2, ok_anil, ok_op1, ok_tupL hl1]
      rw [show Ok (dNe (vecN ((List.range j).filter fun i => decide (Mk.Mm (hdF R h) j i))) (.tup (((pst R h j).map iN).map D.int)) S4) = fun Q => Q (.bl false) S4 from by
        funext Q
        show Ok (dEqG true (vec ((pst R h j).map iN)) (vec ((pst R h j).map iN)) S4) Q = _
        rw [ok_neV, decide_eq_true rfl]; rfl]
      dsimp only
      rw [ok_asb, if_neg (by simp), ok_tof, ok_bin, ok_fn, ok_acons, ok_var (d := .loc k) rfl, ok_acons, ok_var (d := vecN h) rfl, ok_acons, ok_var (d := .int (iN j)) rfl, ok_anil]
      refine (depth_is so h j ((q3.trans q4).get hk2) hh (by omega) hj).pure fun S5 q5 => ?_
      have p5 := p4.trans q5
      rw [ok_fn, ok_acons, ok_var (d := .loc F) rfl, ok_acons, ok_var (d := .int (iN j)) rfl, ok_anil]
      refine (p_law_depth F j (psts R h h.length) (hp.pre p5) hjp (by rw [psts_len]; omega) (fun t ht i hi => ?_) (fun p hp' => ?_)).mono fun d S6 ⟨hd, q6⟩ => ?_
      · rw [psts_row] at hi
        unfold pst at hi
        rw [List.mem_filter, List.mem_range] at hi
        exact hi.1
      · unfold psts at hp'
        obtain ⟨t, ht, rfl⟩ := List.mem_map.mp hp'
        have := pst_len (R := R) h t
        rw [List.mem_range] at ht
        omega
      obtain ⟨ds, _, hdep, rfl⟩ := hd
      rw [dep_is h hj hdep, ok_neI, decide_eq_true rfl, ok_asb, if_neg (by simp), ok_snext]
      dsimp only
      have q6' := ((q3.trans q4).trans q5).trans q6
      rw [ok_sfor, ok_rg1F (u := iN h.length) (by funext Q; rw [ok_call, ok_acons, ok_var (d := vecN h) rfl, ok_anil, ok_op1, elen]) (by simp only [iN]; omega), e0]
      refine ok_for (fun items δ S' => ∃ (q i : Nat) (z6 : Option D), items = rngD (iN i) q ∧ δ = [some (.tup [.int (iN n), roadsD R, partsD P]), some (vecN h), some (.loc F), some (.loc k), some (vecsD T), some (.int (iN j)), z6] ∧ i + q = h.length ∧ Pre S2 S') ?_ ?_ _ _ _ ⟨h.length, 0, z6, rfl, rfl, by omega, q6'⟩
      · rintro x r δ S7 ⟨q, i, z6, e, rfl, hiq, q7⟩
        cases q with
        | zero => cases e
        | succ q =>
          rw [rng_cons] at e
          cases e
          refine ⟨True.intro, ?_⟩
          have hi : i < h.length := by omega
          rw [ok_gn]
          rw [ok_sif, ok_tof, ok_bin, ok_fn, ok_acons, ok_bin, ok_var (d := vecsD T) rfl, ok_var (d := .int (iN i)) rfl, ok_vecs (by omega), ok_acons, ok_bin, ok_var (d := vecsD T) rfl, ok_var (d := .int (iN j)) rfl, ok_vecs (by omega), ok_anil, Tat, Tat]
          refine (ahead_is so h hh o hi hj).pure fun S8 q8 => ?_
          have p8 := q2'.trans (q7.trans q8)
          obtain ⟨l, hl1, hl2⟩ := (hp.pre p8).row hjp
          rw [psts_row] at hl1
          rw [ok_bin, ok_var (d := .int (iN i)) rfl, ok_bin, ok_var (d := .loc F) rfl, ok_var (d := .int (iN j)) rfl, hl2]
          rw [show Ok (dIn (.int (iN i)) (.loc l) S8) = fun Q => Q (.bl (decide (i ≠ j ∧ Mk.Mm (hdF R h) j i))) S8 from by
            funext Q
            show Ok (dInG false (.int (iN i)) (.loc l) S8) Q = _
            rw [ok_inL hl1, mem_iN]
            congr 2
            exact decide_eq_decide.mpr (pst_mem h)]
          dsimp only
          rw [ok_neB, decide_eq_true rfl, ok_asb, if_neg (by simp), ok_snext]
          exact ⟨q, i + 1, _, by simp [iN], rfl, by omega, q7.trans q8⟩
      · rintro δ S7 ⟨q, i, z6, e, rfl, hiq, q7⟩
        refine ⟨True.intro, ?_⟩
        exact ⟨_, j + 1, _, _, by simp only [iN]; push_cast; rfl, rfl, by omega, q7⟩
  · rintro δ S3 ⟨q, j, z5, z6, e, rfl, hjq, q3⟩
    refine ⟨True.intro, ?_⟩
    dsimp only
    rw [ok_sret, ok_bin, ok_fn, ok_acons, ok_var (d := .loc k) rfl, ok_acons, ok_var (d := vecN h) rfl, ok_anil]
    refine (first_is so h (q3.get hk2) hh (by omega) o).pure fun S4 q4 => ?_
    have p4 := q2'.trans (q3.trans q4)
    rw [ok_fn, ok_acons, ok_var (d := .loc F) rfl, ok_anil]
    refine (p_law_first F (psts R h h.length) (hp.pre p4) (by rw [psts_len]; omega)).pure fun S5 q5 => ?_
    rw [psts_len, outB_congr (len := h.length) (p := fun i j => !decide (i ∈ (psts R h h.length).getD j [])) (q := fun i j => !decide (Mk.Mm (hdF R h) j i)) fun i j hij hj => by
      show (!decide (i ∈ (psts R h h.length).getD j [])) = !decide (Mk.Mm (hdF R h) j i)
      rw [psts_at h hj]
      congr 1
      exact decide_eq_decide.mpr ((pst_mem h).trans ⟨fun z => z.2, fun z => ⟨by omega, z⟩⟩)]
    show Ok (dEqG false (pairD _) (pairD _) S5) _
    rw [ok_eqP]
    exact ⟨rfl, p4.trans q5⟩
end
end Y
set_option Elab.async false
set_option linter.all false
set_option maxRecDepth 100000
namespace Y
open PySem PySem.Spec PyProof.Rows L2 DL
open Classical
noncomputable section
variable {n : Nat} {R : Roads} {P : List (List Nat)} {S S1 : Store} {k m : Nat}
def aloneP (R : Roads) : List (List Nat) := (List.range R.length).map fun i => [i]
theorem alone_flat : ∀ l : List Nat, (l.map fun i => [i]).flatten = l
  | [] => rfl
  | x :: l => by rw [List.map_cons, List.flatten_cons, alone_flat l]; rfl
theorem alone_parts (hR : R.length ≤ 1000) : Parts R (aloneP R) ∧ ∀ x, x < R.length → ∃ p ∈ aloneP R, x ∈ p := by
  have fl : (aloneP R).flatten = List.range R.length := alone_flat _
  refine ⟨⟨fun p hp => ?_, fun i hi => ?_, ?_, ?_, ?_⟩, fun x hx => ⟨[x], List.mem_map.mpr ⟨x, List.mem_range.mpr hx, rfl⟩, by simp⟩⟩
  · obtain ⟨x, hx, rfl⟩ := List.mem_map.mp hp
    rw [List.mem_range] at hx
    exact ⟨by simp, ⟨by simp only [iN]; omega, True.intro⟩, fun y hy => by rw [List.mem_singleton] at hy; omega, by rw [star_one]; rfl, by simp⟩
  · have hi' : i + 1 < R.length := by unfold aloneP at hi; simpa using hi
    have at' : ∀ j (h : j < (aloneP R).length), (aloneP R)[j] = [j] := fun j h => by simp only [aloneP, List.getElem_map, List.getElem_range]
    rw [at', at']
    show i < i + 1
    omega
  · rw [fl]; exact List.nodup_range
  · rw [fl, List.length_range]; exact Nat.le_refl _
  · rw [fl, List.length_range]; exact hR
def GoodParts (R : Roads) (x : D) : Prop := ∃ P, x = partsD P ∧ Parts R P ∧ ∀ x, x < R.length → ∃ p ∈ P, x ∈ p
theorem good_k18 : DL.Good F_law_k18 := by
  intro ns hn
  have hsz : sizeLine = 16777216 := rfl
  have main : Ok (F_law_k18 [.rol (ns.map D.int)] []) fun d S' => d = .bl true := by
    show Ok (gc (noX (runB 10 b_law_k18 [.rol (ns.map D.int)])) []) _
    refine ok_gc ?_
    rw [ok_noX]
    refine Ok.mono (Q := fun d S' => d = .bl true) ?_ fun d S' e => ⟨e, fun _ _ => e⟩
    unfold runB
    rw [ok_bnd]
    show Ok (b_law_k18 [some (.rol (ns.map D.int)), none, none, none, none, none, none, none, none, none] []) _
    unfold b_law_k18
    rw [ok_sseq, ok_sasg, ok_fn, ok_acons, ok_var (d := .rol (ns.map D.int)) rfl, ok_acons, ok_c, ok_anil]
    refine (p_pool ns hn 0 (by omega)).mono fun d S1 ⟨m, e, _, _, hs⟩ => ?_
    subst e
    rw [ok_gn]
    dsimp only
    rw [ok_sseq, ok_sfor, ok_rg1F (u := 2) (by funext Q; rw [ok_c]) (by omega)]
    refine ok_for (fun items δ S' => ∃ z2 z3 z4 z5 z6 z7 z8 z9 : Option D, δ = [some (.rol (ns.map D.int)), some (.loc m), z2, z3, z4, z5, z6, z7, z8, z9] ∧ SrcAt m S') ?_ ?_ _ _ _ ⟨none, none, none, none, none, none, none, none, rfl, hs⟩
    · rintro x r δ S2 ⟨z2, z3, z4, z5, z6, z7, z8, z9, rfl, hs2⟩
      refine ⟨True.intro, ?_⟩
      rw [ok_gn]
      -- the web
      rw [ok_sseq, ok_sasg, ok_fn, ok_acons, ok_var (d := .loc m) rfl, ok_acons, ok_elst, ok_acons, ok_c, ok_acons, ok_c, ok_acons, ok_c, ok_acons, ok_c, ok_acons, ok_c, ok_acons, ok_c, ok_acons, ok_c, ok_anil, if_pos (by simp; omega), ok_anil]
      have hm2 := hs2.lt
      have k3 : Keeps m S2 (S2 ++ [MO.lst [D.int 4, D.int 3, D.int 5, D.int 2, D.int 1, D.int 6, D.int 4]]) := Keeps.pre hs2 (Pre.push .refl)
      have g3 : (S2 ++ [MO.lst [D.int 4, D.int 3, D.int 5, D.int 2, D.int 1, D.int 6, D.int 4]])[S2.length]? = some (.lst ((([4, 3, 5, 2, 1, 6, 4] : List Nat).map iN).map D.int)) := by simp [iN]
      generalize S2 ++ [MO.lst [D.int 4, D.int 3, D.int 5, D.int 2, D.int 1, D.int 6, D.int 4]] = S3 at k3 g3 ⊢
      refine (p_law_web k3.src (by omega) [4, 3, 5, 2, 1, 6, 4] g3 (by simp) (by simp) (by simp)).mono fun d S4 ⟨⟨n, R, e, w, hRl⟩, k4⟩ => ?_
      subst e
      rw [ok_gtp (n := 2) (ds := [D.int (iN n), roadsD R]) rfl, ok_gcons, ok_gn, ok_gcons, ok_gn, ok_gnil]
      dsimp only
      have hR : R.length ≤ 1000 := by omega
      have elen : ∀ (S : Store) (Q : D → Store → Prop), Ok (dLen (roadsD R) S) Q = Q (.int (iN R.length)) S := fun S Q => by unfold roadsD; rw [ok_lenT, List.length_map]
      -- each road alone
      rw [ok_sseq, ok_sasg, ok_call, ok_acons]
      refine (ok_eLc (S := S4) (fun z => some (D.tup [z])) (items := (List.range R.length).map fun i => .int (iN i)) (l := fun _ => True) ?_ (by simp; omega) (fun _ _ => True.intro) ?_).mono ?_
      · rw [ok_rg1F (u := iN R.length) (by funext Q; rw [ok_call, ok_acons, ok_var (d := roadsD R) rfl, ok_anil, ok_op1, elen]) (by simp only [iN]; omega)]
        refine ⟨?_, .refl⟩
        rw [show iN R.length = ((R.length : Nat) : Int) from rfl, rng_map]
      · intro z hz S5 q5
        show Ok (gN 9 z _ S5) _
        rw [ok_gn]
        refine ⟨rfl, ?_⟩
        rw [ok_ttrue]
        refine ⟨.refl, rfl, ?_⟩
        rw [ok_etup, ok_acons, ok_var (d := z) rfl, ok_anil, if_pos (by simp; omega)]
        exact ⟨rfl, .refl⟩
      rintro d S5 ⟨j, rfl, hj, q5, g5⟩
      have ea : ((List.range R.length).map fun i => D.int (iN i)).filterMap (fun z => some (D.tup [z])) = (aloneP R).map vecN := by
        unfold aloneP
        rw [fm_all (fun i => D.int (iN i)) _ (fun i => D.tup [.int (iN i)]) (fun x => rfl), List.map_map]
        rfl
      rw [ea] at g5
      rw [ok_anil, ok_op1, ok_tupL g5, ok_gn]
      dsimp only
      have k5 : Keeps m S4 S5 := Keeps.pre k4.src q5
      -- the history
      rw [ok_sseq, ok_sasg, ok_fn, ok_acons, ok_var (d := .loc m) rfl, ok_acons, ok_etup, ok_acons, ok_var (d := .int (iN n)) rfl, ok_acons, ok_var (d := roadsD R) rfl, ok_acons, ok_var (d := .tup ((aloneP R).map vecN)) rfl, ok_anil, if_pos (by simp; omega), ok_acons, ok_c, ok_anil]
      refine (p_history 10 k5.src hR (by omega) (.int (iN n)) (.tup ((aloneP R).map vecN))).mono fun d S6 ⟨⟨h, e, hhl, hh⟩, k6⟩ => ?_
      subst e
      rw [ok_gn]
      dsimp only
      -- the pasts
      rw [ok_sseq, ok_sasg, ok_fn, ok_acons, ok_etup, ok_acons, ok_var (d := .int (iN n)) rfl, ok_acons, ok_var (d := roadsD R) rfl, ok_acons, ok_var (d := .tup ((aloneP R).map vecN)) rfl, ok_anil, if_pos (by simp; omega), ok_acons, ok_var (d := vecN h) rfl, ok_anil]
      refine (p_law_pasts (.int (iN n)) (.tup ((aloneP R).map vecN)) h hh (by omega)).mono fun d S7 ⟨F, e, hF, q7, ls, r7⟩ => ?_
      subst e
      rw [ok_gn]
      dsimp only
      have hm6 := k6.src.lt
      have k7 : Keeps m S6 S7 := Keeps.pre k6.src q7
      -- the parts
      rw [ok_sfor, ok_iseq, ok_elst, ok_acons, ok_fn, ok_acons, ok_var (d := .loc m) rfl, ok_acons, ok_var (d := roadsD R) rfl, ok_anil]
      refine (p_law_parts w hR k7.src).mono fun d S8 ⟨⟨P1, e, v1, c1⟩, k8⟩ => ?_
      subst e
      have r8 := r7.keep hm6 k8
      rw [ok_acons, ok_fn, ok_acons, ok_var (d := .loc m) rfl, ok_acons, ok_elst, ok_acons, ok_var (d := .tup ((aloneP R).map vecN)) rfl, ok_acons, ok_fn, ok_acons, ok_var (d := .loc m) rfl, ok_acons, ok_var (d := roadsD R) rfl, ok_anil]
      refine (p_law_parts w hR k8.src).mono fun d S9 ⟨⟨P2, e, v2, c2⟩, k9⟩ => ?_
      subst e
      have r9 := r8.keep hm6 k9
      have hm9 := k9.src.lt
      rw [ok_anil, if_pos (by simp; omega), ok_anil]
      have q10 : Pre S9 (S9 ++ [MO.lst [D.tup ((aloneP R).map vecN), partsD P2]]) := Pre.push .refl
      have g10 : (S9 ++ [MO.lst [D.tup ((aloneP R).map vecN), partsD P2]])[S9.length]? = some (.lst [D.tup ((aloneP R).map vecN), partsD P2]) := by simp
      generalize S9 ++ [MO.lst [D.tup ((aloneP R).map vecN), partsD P2]] = S10 at q10 g10 ⊢
      have k10 : Keeps m S9 S10 := Keeps.pre k9.src q10
      have r10 := r9.keep hm6 k10
      refine (p_law_one k10.src (by omega) g10 (by simp) (by simp)).mono fun d S11 ⟨hd, k11⟩ => ?_
      have r11 := r10.keep hm6 k11
      rw [ok_anil, if_pos (by simp; omega)]
      have q12 : Pre S11 (S11 ++ [MO.lst [partsD P1, d]]) := Pre.push .refl
      have g12 : (S11 ++ [MO.lst [partsD P1, d]])[S11.length]? = some (.lst [partsD P1, d]) := by simp
      generalize hL : S11.length = L at g12 ⊢
      generalize S11 ++ [MO.lst [partsD P1, d]] = S12 at q12 g12 ⊢
      have k12 : Keeps m S11 S12 := Keeps.pre k11.src q12
      have r12 := r11.keep hm6 k12
      have gp : ∀ x ∈ [partsD P1, d], GoodParts R x := fun x hx => by
        have al := alone_parts (R := R) hR
        rcases List.mem_cons.mp hx with e | hx
        · exact ⟨P1, e, v1, c1⟩
        · rw [List.mem_singleton] at hx
          subst hx
          rcases List.mem_cons.mp hd with e | hd
          · exact ⟨aloneP R, e, al.1, al.2⟩
          · rw [List.mem_singleton] at hd
            exact ⟨P2, hd, v2, c2⟩
      have esrc : ∀ K : Src → Store → Prop, Ok (srcOf (.loc L) S12) K = K ⟨[partsD P1, d], fun S => S[L]? = some (.lst [partsD P1, d])⟩ S12 := fun K => by
        unfold srcOf; simp only [g12]; rfl
      rw [esrc]
      refine ok_for (fun items δ S' => ∃ (z8 : Option D), δ = [some (.rol (ns.map D.int)), some (.loc m), some x, some (.int (iN n)), some (roadsD R), some (.tup ((aloneP R).map vecN)), some (vecN h), some (.loc F), z8, z9] ∧ (∀ x ∈ items, GoodParts R x) ∧ Pre S12 S') ?_ ?_ _ _ _ ⟨z8, rfl, gp, .refl⟩
      · rintro y r' δ S13 ⟨z8, rfl, hg, q13⟩
        refine ⟨q13.get g12, ?_⟩
        obtain ⟨P, rfl, v, c⟩ := hg y List.mem_cons_self
        rw [ok_gn]
        rw [ok_sif, ok_tnot, ok_ttru, ok_fn, ok_acons, ok_etup, ok_acons, ok_var (d := .int (iN n)) rfl, ok_acons, ok_var (d := roadsD R) rfl, ok_acons, ok_var (d := partsD P) rfl, ok_anil, if_pos (by simp; omega), ok_acons, ok_var (d := vecN h) rfl, ok_acons, ok_var (d := .loc F) rfl, ok_anil]
        refine (p_law_right_k18 w v c hR h hh (by omega) (r12.pasts.pre q13)).pure fun S14 q14 => ?_
        rw [ok_trub, if_neg (by simp), ok_snext]
        exact ⟨_, rfl, fun x hx => hg x (List.mem_cons_of_mem _ hx), q13.trans q14⟩
      · rintro δ S13 ⟨z8, rfl, hg, q13⟩
        refine ⟨q13.get g12, ?_⟩
        exact ⟨_, _, _, _, _, _, _, _, rfl, (Keeps.pre k12.src q13).src⟩
    · rintro δ S2 ⟨z2, z3, z4, z5, z6, z7, z8, z9, rfl, hs2⟩
      refine ⟨True.intro, ?_⟩
      dsimp only
      rw [ok_sret, ok_c]
      rfl
  obtain ⟨d, S', e, rfl⟩ := main.is
  exact ⟨S', e⟩
end
end Y
set_option Elab.async false
set_option linter.all false
set_option maxRecDepth 100000
namespace Lk18
open PySem PySem.Spec PyProof.Rows L2 DL Y
def topS (i : Nat) : Stmt := PySem.Challenge.pw_starclocks_k18_any_parts_tell_the_same.main.body.getD i (.Pass ⟨0, 0, 0, 0⟩)
abbrev s_is_number : Stmt := topS 9
abbrev s_is_index : Stmt := topS 10
abbrev s_is_pair : Stmt := topS 11
abbrev s_bad_rise : Stmt := topS 12
abbrev s_is_rising : Stmt := topS 13
abbrev s_is_mark : Stmt := topS 14
abbrev s_bad_meeting : Stmt := topS 17
abbrev s_Refused___init__ : Stmt := inClass (topS 1) 0
abbrev s_check_history : Stmt := topS 18
abbrev s_is_size : Stmt := topS 21
abbrev s_is_road : Stmt := topS 22
abbrev s_road_fits : Stmt := topS 23
abbrev s_bad_road : Stmt := topS 24
abbrev s_check_web : Stmt := topS 25
abbrev s_is_star : Stmt := topS 28
abbrev s_is_triangle : Stmt := topS 29
abbrev s_is_part : Stmt := topS 30
abbrev s_part_fits : Stmt := topS 31
abbrev s_all_taken : Stmt := topS 32
abbrev s_bad_part : Stmt := topS 33
abbrev s_House___init__ : Stmt := inClass (topS 27) 0
abbrev s_house : Stmt := topS 34
abbrev s_part_of : Stmt := topS 35
abbrev s_at_most : Stmt := topS 37
abbrev s_greater : Stmt := topS 38
abbrev s_made_mark : Stmt := topS 39
abbrev s_marks_and_clocks : Stmt := topS 40
abbrev s_marks : Stmt := topS 41
abbrev s_ahead : Stmt := topS 43
abbrev s_check_index : Stmt := topS 44
abbrev s_past : Stmt := topS 45
abbrev s_depth : Stmt := topS 46
abbrev s_first_beside : Stmt := topS 47
abbrev s__law_pool : Stmt := topS 49
abbrev s__law_take : Stmt := topS 50
abbrev s__law_one : Stmt := topS 51
abbrev s__law_web : Stmt := topS 52
abbrev s__law_fits : Stmt := topS 53
abbrev s__law_parts : Stmt := topS 54
abbrev s__law_history : Stmt := topS 56
abbrev s__law_is_next : Stmt := topS 57
abbrev s__law_pasts : Stmt := topS 58
abbrev s__law_made : Stmt := topS 59
abbrev s__law_depth : Stmt := topS 60
abbrev s__law_first : Stmt := topS 61
abbrev s__law_right : Stmt := topS 62
abbrev s_law : Stmt := topS 63
theorem sc_is_number : FnScope ["value"] ["value"] (defScope s_is_number) := ⟨rfl, rfl, rfl, by decide +kernel, rfl, by decide +kernel, by decide +kernel⟩
theorem sc_is_index : FnScope ["value", "many"] ["value", "many"] (defScope s_is_index) := ⟨rfl, rfl, rfl, by decide +kernel, rfl, by decide +kernel, by decide +kernel⟩
theorem sc_is_pair : FnScope ["value"] ["value"] (defScope s_is_pair) := ⟨rfl, rfl, rfl, by decide +kernel, rfl, by decide +kernel, by decide +kernel⟩
theorem sc_bad_rise : FnScope ["entries", "many", "last", "i", "entry"] ["entries", "many"] (defScope s_bad_rise) := ⟨rfl, rfl, rfl, by decide +kernel, rfl, by decide +kernel, by decide +kernel⟩
theorem sc_is_rising : FnScope ["value", "many"] ["value", "many"] (defScope s_is_rising) := ⟨rfl, rfl, rfl, by decide +kernel, rfl, by decide +kernel, by decide +kernel⟩
theorem sc_is_mark : FnScope ["value", "entry"] ["value"] (defScope s_is_mark) := ⟨rfl, rfl, rfl, by decide +kernel, rfl, by decide +kernel, by decide +kernel⟩
theorem sc_bad_meeting : FnScope ["house", "history", "i", "road"] ["house", "history"] (defScope s_bad_meeting) := ⟨rfl, rfl, rfl, by decide +kernel, rfl, by decide +kernel, by decide +kernel⟩
theorem sc_Refused___init__ : FnScope ["self", "what"] ["self", "what"] (defScope s_Refused___init__) := ⟨rfl, rfl, rfl, by decide +kernel, rfl, by decide +kernel, by decide +kernel⟩
theorem sc_check_history : FnScope ["house", "history", "at"] ["house", "history"] (defScope s_check_history) := ⟨rfl, rfl, rfl, by decide +kernel, rfl, by decide +kernel, by decide +kernel⟩
theorem sc_is_size : FnScope ["n"] ["n"] (defScope s_is_size) := ⟨rfl, rfl, rfl, by decide +kernel, rfl, by decide +kernel, by decide +kernel⟩
theorem sc_is_road : FnScope ["n", "road"] ["n", "road"] (defScope s_is_road) := ⟨rfl, rfl, rfl, by decide +kernel, rfl, by decide +kernel, by decide +kernel⟩
theorem sc_road_fits : FnScope ["n", "before", "value"] ["n", "before", "value"] (defScope s_road_fits) := ⟨rfl, rfl, rfl, by decide +kernel, rfl, by decide +kernel, by decide +kernel⟩
theorem sc_bad_road : FnScope ["n", "roads", "i", "road"] ["n", "roads"] (defScope s_bad_road) := ⟨rfl, rfl, rfl, by decide +kernel, rfl, by decide +kernel, by decide +kernel⟩
theorem sc_check_web : FnScope ["n", "roads", "at"] ["n", "roads"] (defScope s_check_web) := ⟨rfl, rfl, rfl, by decide +kernel, rfl, by decide +kernel, by decide +kernel⟩
theorem sc_is_star : FnScope ["roads", "part", "hand", "i"] ["roads", "part"] (defScope s_is_star) := ⟨rfl, rfl, rfl, by decide +kernel, rfl, by decide +kernel, by decide +kernel⟩
theorem sc_is_triangle : FnScope ["roads", "part", "i", "hand"] ["roads", "part"] (defScope s_is_triangle) := ⟨rfl, rfl, rfl, by decide +kernel, rfl, by decide +kernel, by decide +kernel⟩
theorem sc_is_part : FnScope ["roads", "part"] ["roads", "part"] (defScope s_is_part) := ⟨rfl, rfl, rfl, by decide +kernel, rfl, by decide +kernel, by decide +kernel⟩
theorem sc_part_fits : FnScope ["roads", "before", "value", "part", "road"] ["roads", "before", "value"] (defScope s_part_fits) := ⟨rfl, rfl, rfl, by decide +kernel, rfl, by decide +kernel, by decide +kernel⟩
theorem sc_all_taken : FnScope ["roads", "parts", "part"] ["roads", "parts"] (defScope s_all_taken) := ⟨rfl, rfl, rfl, by decide +kernel, rfl, by decide +kernel, by decide +kernel⟩
theorem sc_bad_part : FnScope ["roads", "parts", "i", "part"] ["roads", "parts"] (defScope s_bad_part) := ⟨rfl, rfl, rfl, by decide +kernel, rfl, by decide +kernel, by decide +kernel⟩
theorem sc_House___init__ : FnScope ["self", "n", "roads", "parts"] ["self", "n", "roads", "parts"] (defScope s_House___init__) := ⟨rfl, rfl, rfl, by decide +kernel, rfl, by decide +kernel, by decide +kernel⟩
theorem sc_house : FnScope ["n", "roads", "parts", "at"] ["n", "roads", "parts"] (defScope s_house) := ⟨rfl, rfl, rfl, by decide +kernel, rfl, by decide +kernel, by decide +kernel⟩
theorem sc_part_of : FnScope ["house", "road", "part"] ["house", "road"] (defScope s_part_of) := ⟨rfl, rfl, rfl, by decide +kernel, rfl, by decide +kernel, by decide +kernel⟩
theorem sc_at_most : FnScope ["one", "two", "a", "b"] ["one", "two"] (defScope s_at_most) := ⟨rfl, rfl, rfl, by decide +kernel, rfl, by decide +kernel, by decide +kernel⟩
theorem sc_greater : FnScope ["one", "two", "a", "b"] ["one", "two"] (defScope s_greater) := ⟨rfl, rfl, rfl, by decide +kernel, rfl, by decide +kernel, by decide +kernel⟩
theorem sc_made_mark : FnScope ["one", "two", "part", "mark"] ["one", "two", "part"] (defScope s_made_mark) := ⟨rfl, rfl, rfl, by decide +kernel, rfl, by decide +kernel, by decide +kernel⟩
theorem sc_marks_and_clocks : FnScope ["house", "history", "clocks", "found", "road", "one", "two", "mark"] ["house", "history"] (defScope s_marks_and_clocks) := ⟨rfl, rfl, rfl, by decide +kernel, rfl, by decide +kernel, by decide +kernel⟩
theorem sc_marks : FnScope ["house", "history"] ["house", "history"] (defScope s_marks) := ⟨rfl, rfl, rfl, by decide +kernel, rfl, by decide +kernel, by decide +kernel⟩
theorem sc_ahead : FnScope ["one", "two"] ["one", "two"] (defScope s_ahead) := ⟨rfl, rfl, rfl, by decide +kernel, rfl, by decide +kernel, by decide +kernel⟩
theorem sc_check_index : FnScope ["house", "history", "index"] ["house", "history", "index"] (defScope s_check_index) := ⟨rfl, rfl, rfl, by decide +kernel, rfl, by decide +kernel, by decide +kernel⟩
theorem sc_past : FnScope ["house", "history", "index", "found", "i"] ["house", "history", "index"] (defScope s_past) := ⟨rfl, rfl, rfl, by decide +kernel, rfl, by decide +kernel, by decide +kernel⟩
theorem sc_depth : FnScope ["house", "history", "index", "lengths", "road", "one", "two"] ["house", "history", "index"] (defScope s_depth) := ⟨rfl, rfl, rfl, by decide +kernel, rfl, by decide +kernel, by decide +kernel⟩
theorem sc_first_beside : FnScope ["house", "history", "found", "i", "mark", "j"] ["house", "history"] (defScope s_first_beside) := ⟨rfl, rfl, rfl, by decide +kernel, rfl, by decide +kernel, by decide +kernel⟩
theorem sc__law_pool : FnScope ["script", "k", "cell", "big", "mixed"] ["script", "k"] (defScope s__law_pool) := ⟨rfl, rfl, rfl, by decide +kernel, rfl, by decide +kernel, by decide +kernel⟩
theorem sc__law_take : FnScope ["source", "top", "drawn"] ["source", "top"] (defScope s__law_take) := ⟨rfl, rfl, rfl, by decide +kernel, rfl, by decide +kernel, by decide +kernel⟩
theorem sc__law_one : FnScope ["source", "things"] ["source", "things"] (defScope s__law_one) := ⟨rfl, rfl, rfl, by decide +kernel, rfl, by decide +kernel, by decide +kernel⟩
theorem sc__law_web : FnScope ["source", "menu", "n", "found", "b", "turn", "a", "road"] ["source", "menu"] (defScope s__law_web) := ⟨rfl, rfl, rfl, by decide +kernel, rfl, by decide +kernel, by decide +kernel⟩
theorem sc__law_fits : FnScope ["roads", "some", "hands", "road", "hand"] ["roads", "some"] (defScope s__law_fits) := ⟨rfl, rfl, rfl, by decide +kernel, rfl, by decide +kernel, by decide +kernel⟩
theorem sc__law_parts : FnScope ["source", "roads", "found", "road", "some", "k", "part"] ["source", "roads"] (defScope s__law_parts) := ⟨rfl, rfl, rfl, by decide +kernel, rfl, by decide +kernel, by decide +kernel⟩
theorem sc__law_history : FnScope ["source", "own", "most", "turn"] ["source", "own", "most"] (defScope s__law_history) := ⟨rfl, rfl, rfl, by decide +kernel, rfl, by decide +kernel, by decide +kernel⟩
theorem sc__law_is_next : FnScope ["own", "one", "two"] ["own", "one", "two"] (defScope s__law_is_next) := ⟨rfl, rfl, rfl, by decide +kernel, rfl, by decide +kernel, by decide +kernel⟩
theorem sc__law_pasts : FnScope ["own", "history", "found", "at", "before", "k", "j"] ["own", "history"] (defScope s__law_pasts) := ⟨rfl, rfl, rfl, by decide +kernel, rfl, by decide +kernel, by decide +kernel⟩
theorem sc__law_made : FnScope ["own"] ["own"] (defScope s__law_made) := ⟨rfl, rfl, rfl, by decide +kernel, rfl, by decide +kernel, by decide +kernel⟩
theorem sc__law_depth : FnScope ["pasts", "at", "depths", "k", "j"] ["pasts", "at"] (defScope s__law_depth) := ⟨rfl, rfl, rfl, by decide +kernel, rfl, by decide +kernel, by decide +kernel⟩
theorem sc__law_first : FnScope ["pasts", "i", "j"] ["pasts"] (defScope s__law_first) := ⟨rfl, rfl, rfl, by decide +kernel, rfl, by decide +kernel, by decide +kernel⟩
theorem sc__law_right : FnScope ["own", "history", "pasts", "made", "told", "j", "i"] ["own", "history", "pasts"] (defScope s__law_right) := ⟨rfl, rfl, rfl, by decide +kernel, rfl, by decide +kernel, by decide +kernel⟩
theorem sc_law : FnScope ["script", "source", "turn", "n", "roads", "alone", "history", "pasts", "parts", "road"] ["script"] (defScope s_law) := ⟨rfl, rfl, rfl, by decide +kernel, rfl, by decide +kernel, by decide +kernel⟩
/-- a def where the top has put it -/
structure At (K : PySem.W.Frag) (mg : Str → Option Value) (x qual : Str) (st : Stmt) (ps : List Str) (glob : Bool) where
  f : Addr
  fd : FuncData
  F : Fun K x qual st f fd
  b : Binds K fd ps []
  g : glob = true → mg x = some (.ref f)
  ns : glob = true → PySem.W.nsIn K mainGlobals x = some (some (.ref f))
structure T (K : PySem.W.Frag) (mg : Str → Option Value) where
  of ::
  d_is_number : At K mg "is_number" "is_number" s_is_number ["value"] true
  d_is_index : At K mg "is_index" "is_index" s_is_index ["value", "many"] true
  d_is_pair : At K mg "is_pair" "is_pair" s_is_pair ["value"] true
  d_bad_rise : At K mg "bad_rise" "bad_rise" s_bad_rise ["entries", "many"] true
  d_is_rising : At K mg "is_rising" "is_rising" s_is_rising ["value", "many"] true
  d_is_mark : At K mg "is_mark" "is_mark" s_is_mark ["value"] true
  d_bad_meeting : At K mg "bad_meeting" "bad_meeting" s_bad_meeting ["house", "history"] true
  d_Refused___init__ : At K mg "__init__" "Refused.__init__" s_Refused___init__ ["self", "what"] false
  d_check_history : At K mg "check_history" "check_history" s_check_history ["house", "history"] true
  d_is_size : At K mg "is_size" "is_size" s_is_size ["n"] true
  d_is_road : At K mg "is_road" "is_road" s_is_road ["n", "road"] true
  d_road_fits : At K mg "road_fits" "road_fits" s_road_fits ["n", "before", "value"] true
  d_bad_road : At K mg "bad_road" "bad_road" s_bad_road ["n", "roads"] true
  d_check_web : At K mg "check_web" "check_web" s_check_web ["n", "roads"] true
  d_is_star : At K mg "is_star" "is_star" s_is_star ["roads", "part"] true
  d_is_triangle : At K mg "is_triangle" "is_triangle" s_is_triangle ["roads", "part"] true
  d_is_part : At K mg "is_part" "is_part" s_is_part ["roads", "part"] true
  d_part_fits : At K mg "part_fits" "part_fits" s_part_fits ["roads", "before", "value"] true
  d_all_taken : At K mg "all_taken" "all_taken" s_all_taken ["roads", "parts"] true
  d_bad_part : At K mg "bad_part" "bad_part" s_bad_part ["roads", "parts"] true
  d_House___init__ : At K mg "__init__" "House.__init__" s_House___init__ ["self", "n", "roads", "parts"] false
  d_house : At K mg "house" "house" s_house ["n", "roads", "parts"] true
  d_part_of : At K mg "part_of" "part_of" s_part_of ["house", "road"] true
  d_at_most : At K mg "at_most" "at_most" s_at_most ["one", "two"] true
  d_greater : At K mg "greater" "greater" s_greater ["one", "two"] true
  d_made_mark : At K mg "made_mark" "made_mark" s_made_mark ["one", "two", "part"] true
  d_marks_and_clocks : At K mg "marks_and_clocks" "marks_and_clocks" s_marks_and_clocks ["house", "history"] true
  d_marks : At K mg "marks" "marks" s_marks ["house", "history"] true
  d_ahead : At K mg "ahead" "ahead" s_ahead ["one", "two"] true
  d_check_index : At K mg "check_index" "check_index" s_check_index ["house", "history", "index"] true
  d_past : At K mg "past" "past" s_past ["house", "history", "index"] true
  d_depth : At K mg "depth" "depth" s_depth ["house", "history", "index"] true
  d_first_beside : At K mg "first_beside" "first_beside" s_first_beside ["house", "history"] true
  d__law_pool : At K mg "_law_pool" "_law_pool" s__law_pool ["script", "k"] true
  d__law_take : At K mg "_law_take" "_law_take" s__law_take ["source", "top"] true
  d__law_one : At K mg "_law_one" "_law_one" s__law_one ["source", "things"] true
  d__law_web : At K mg "_law_web" "_law_web" s__law_web ["source", "menu"] true
  d__law_fits : At K mg "_law_fits" "_law_fits" s__law_fits ["roads", "some"] true
  d__law_parts : At K mg "_law_parts" "_law_parts" s__law_parts ["source", "roads"] true
  d__law_history : At K mg "_law_history" "_law_history" s__law_history ["source", "own", "most"] true
  d__law_is_next : At K mg "_law_is_next" "_law_is_next" s__law_is_next ["own", "one", "two"] true
  d__law_pasts : At K mg "_law_pasts" "_law_pasts" s__law_pasts ["own", "history"] true
  d__law_made : At K mg "_law_made" "_law_made" s__law_made ["own"] true
  d__law_depth : At K mg "_law_depth" "_law_depth" s__law_depth ["pasts", "at"] true
  d__law_first : At K mg "_law_first" "_law_first" s__law_first ["pasts"] true
  d__law_right : At K mg "_law_right" "_law_right" s__law_right ["own", "history", "pasts"] true
  d_law : At K mg "law" "law" s_law ["script"] true
  k_MOST_MEETINGS : Tok
  c_MOST_MEETINGS : mg "MOST_MEETINGS" = some (.int 200 k_MOST_MEETINGS)
  k_MOST_HANDS : Tok
  c_MOST_HANDS : mg "MOST_HANDS" = some (.int 10 k_MOST_HANDS)
  n_all : mg "all" = none
  n_any : mg "any" = none
  n_bool : mg "bool" = none
  n_dict : mg "dict" = none
  n_enumerate : mg "enumerate" = none
  n_int : mg "int" = none
  n_isinstance : mg "isinstance" = none
  n_len : mg "len" = none
  n_list : mg "list" = none
  n_max : mg "max" = none
  n_range : mg "range" = none
  n_sorted : mg "sorted" = none
  n_sum : mg "sum" = none
  n_tuple : mg "tuple" = none
  n_zip : mg "zip" = none
  C : Addr
  gC : mg "House" = some (.ref C)
  cl : Cls K C
  no_n : NoAttr K C "n"
  no_parts : NoAttr K C "parts"
  no_roads : NoAttr K C "roads"
  mk : Mk K C d_House___init__.f
  e_BadSize : Addr
  m_BadSize : mg "BadSize" = some (.ref e_BadSize)
  e_BadRoad : Addr
  m_BadRoad : mg "BadRoad" = some (.ref e_BadRoad)
  e_BadPart : Addr
  m_BadPart : mg "BadPart" = some (.ref e_BadPart)
  e_BadMeeting : Addr
  m_BadMeeting : mg "BadMeeting" = some (.ref e_BadMeeting)
  e_BadMark : Addr
  m_BadMark : mg "BadMark" = some (.ref e_BadMark)
  e_TooMany : Addr
  m_TooMany : mg "TooMany" = some (.ref e_TooMany)
  x_BadSize : ExK K e_BadSize d_Refused___init__.f
  x_BadRoad : ExK K e_BadRoad d_Refused___init__.f
  x_BadPart : ExK K e_BadPart d_Refused___init__.f
  x_BadMeeting : ExK K e_BadMeeting d_Refused___init__.f
  x_BadMark : ExK K e_BadMark d_Refused___init__.f
  x_TooMany : ExK K e_TooMany d_Refused___init__.f
@[reducible] def T.cls {K : PySem.W.Frag} {mg : Str → Option Value} (t : T K mg) : Nat → Addr := fun i => match i with
  | 2 => t.e_BadSize
  | 3 => t.e_BadRoad
  | 4 => t.e_BadPart
  | 6 => t.e_BadMeeting
  | 7 => t.e_BadMark
  | 12 => t.e_TooMany
  | _ => t.C
section
variable {P : Program} {w : World} {K : PySem.W.Frag} {mg : Str → Option Value} {base : Heap}
theorem ok_is_number (t : T K mg) : FnOk P w K mg base CX0 1 t.d_is_number.f t.d_is_number.fd ["value"] (spD K t.cls 1 F_is_number) :=
  okD t.d_is_number.F sc_is_number (fun cdv A outer s H E hr => jss_one (js_ret (je_and (je_call (pe_callB bj_isi (by rfl) t.n_isinstance (by decide +kernel) (ja_cons (je_var (pv 0)) (ja_cons (je_c (v := .ty "int") (d := .ty "int") (pe_bltn rfl t.n_int (by decide +kernel) rfl) fun _ _ => rfl) (ja_nil))))) (je_one (je_not (je_call (pe_callB bj_isi (by rfl) t.n_isinstance (by decide +kernel) (ja_cons (je_var (pv 0)) (ja_cons (je_c (v := .ty "bool") (d := .ty "bool") (pe_bltn rfl t.n_bool (by decide +kernel) rfl) fun _ _ => rfl) (ja_nil))))))))))
theorem ok_is_index (t : T K mg) : FnOk P w K mg base CX0 2 t.d_is_index.f t.d_is_index.fd ["value", "many"] (spD K t.cls 2 F_is_index) :=
  okD t.d_is_index.F sc_is_index (fun cdv A outer s H E hr => jss_one (js_ret (je_and (je_fnc (al_cons al_nil) (pe_call (ok_is_number t) (hr.mono (by decide)) rfl (t.d_is_number.g rfl) t.d_is_number.F.kp t.d_is_number.b .nil pass0 (ja_cons (je_var (pv 0)) (ja_nil)))) (je_one (je_chain (pe_chain (oj_leA (Room.u65 hr)) (oj_ltA (Room.u65 hr)) (je_int) (je_var (pv 0)) (je_var (pv 1))))))))
theorem ok_is_pair (t : T K mg) : FnOk P w K mg base CX0 1 t.d_is_pair.f t.d_is_pair.fd ["value"] (spD K t.cls 1 F_is_pair) :=
  okD t.d_is_pair.F sc_is_pair (fun cdv A outer s H E hr => jss_one (js_ret (je_and (je_call (pe_callB bj_isi (by rfl) t.n_isinstance (by decide +kernel) (ja_cons (je_var (pv 0)) (ja_cons (je_c (v := .ty "tuple") (d := .ty "tuple") (pe_bltn rfl t.n_tuple (by decide +kernel) rfl) fun _ _ => rfl) (ja_nil))))) (je_one (je_cmp (oj_eq (Room.units hr)) (je_call (pe_callB bj_len (by rfl) t.n_len (by decide +kernel) (ja_cons (je_var (pv 0)) (ja_nil)))) (je_int) (nomark _))))))
theorem ok_bad_rise (t : T K mg) : FnOk P w K mg base CX0 3 t.d_bad_rise.f t.d_bad_rise.fd ["entries", "many"] (spD K t.cls 2 F_bad_rise) :=
  okD t.d_bad_rise.F sc_bad_rise (fun cdv A outer s H E hr => jss_cons (js_name (pset 2 sc_bad_rise.nd (je_neg (je_int)))) (jss_cons (js_for (ps_for PassesOwn.never rfl (ji_enum rfl t.n_enumerate (je_var (pv 0))) (jg_tup (pg_tup rfl (jgs_cons (pgs_cons (jg_name (gnm 3 sc_bad_rise.nd)) (jgs_cons (pgs_cons (jg_name (gnm 4 sc_bad_rise.nd)) (jgs_nil))))))) (jss_cons (js_if (JW.pt (jw_or (jt_not (jt_tru (je_fnc (al_cons (al_cons al_nil)) (pe_call (ok_is_index t) (hr.mono (by decide)) rfl (t.d_is_index.g rfl) t.d_is_index.F.kp t.d_is_index.b .nil pass0 (ja_cons (je_var (pv 4)) (ja_cons (je_var (pv 1)) (ja_nil))))))) (jw_or1 (jt_cmp (oj_leA (Room.u65 hr)) (je_var (pv 4)) (je_var (pv 2)) (nomark _))))) (jss_one (js_ret (je_var (pv 3)))) (jss_nil)) (jss_one (js_name (pset 2 sc_bad_rise.nd (je_var (pv 4)))))))) (jss_one (js_ret (je_non)))))
theorem ok_is_rising (t : T K mg) : FnOk P w K mg base CX0 4 t.d_is_rising.f t.d_is_rising.fd ["value", "many"] (spD K t.cls 2 F_is_rising) :=
  okD t.d_is_rising.F sc_is_rising (fun cdv A outer s H E hr => jss_one (js_ret (je_and (je_call (pe_callB bj_isi (by rfl) t.n_isinstance (by decide +kernel) (ja_cons (je_var (pv 0)) (ja_cons (je_c (v := .ty "tuple") (d := .ty "tuple") (pe_bltn rfl t.n_tuple (by decide +kernel) rfl) fun _ _ => rfl) (ja_nil))))) (je_one (je_cmp oj_isN (je_fnc (al_cons (al_cons al_nil)) (pe_call (ok_bad_rise t) (hr.mono (by decide)) rfl (t.d_bad_rise.g rfl) t.d_bad_rise.F.kp t.d_bad_rise.b .nil pass0 (ja_cons (je_var (pv 0)) (ja_cons (je_var (pv 1)) (ja_nil))))) (je_non) (nomark _))))))
theorem ok_is_mark (t : T K mg) : FnOk P w K mg base CX0 2 t.d_is_mark.f t.d_is_mark.fd ["value"] (spD K t.cls 1 F_is_mark) :=
  okD t.d_is_mark.F sc_is_mark (fun cdv A outer s H E hr => jss_one (js_ret (je_and (je_call (pe_callB bj_isi (by rfl) t.n_isinstance (by decide +kernel) (ja_cons (je_var (pv 0)) (ja_cons (je_c (v := .ty "tuple") (d := .ty "tuple") (pe_bltn rfl t.n_tuple (by decide +kernel) rfl) fun _ _ => rfl) (ja_nil))))) (je_one (je_call (pe_callB (bj_all rfl) (by rfl) t.n_all (by decide +kernel) (ja_cons (je_lc (tg_name (by decide)) tt_yes (pe_lc (own := [("entry", 1)]) rfl sc_is_mark.nd (ji_seq (je_var (pv 0))) (blkOk_by (by kernel_rfl)) (fun _ _ _ _ _ => gnm 1 sc_is_mark.nd) (fun _ _ _ _ _ => pts_nil) (fun _ _ _ _ _ => je_and (je_fnc (al_cons al_nil) (pe_call (ok_is_number t) (hr.mono (by decide)) rfl (t.d_is_number.g rfl) t.d_is_number.F.kp t.d_is_number.b .nil pass0 (ja_cons (je_var (pv 1)) (ja_nil)))) (je_one (je_cmp (oj_geA (Room.u65 hr)) (je_var (pv 1)) (je_int) (nomark _)))))) (ja_nil))))))))
theorem ok_bad_meeting (t : T K mg) : FnOk P w K mg base CX0 3 t.d_bad_meeting.f t.d_bad_meeting.fd ["house", "history"] (spD K t.cls 2 F_bad_meeting) :=
  okD t.d_bad_meeting.F sc_bad_meeting (fun cdv A outer s H E hr => jss_cons (js_for (ps_for PassesOwn.never rfl (ji_enum rfl t.n_enumerate (je_var (pv 1))) (jg_tup (pg_tup rfl (jgs_cons (pgs_cons (jg_name (gnm 2 sc_bad_meeting.nd)) (jgs_cons (pgs_cons (jg_name (gnm 3 sc_bad_meeting.nd)) (jgs_nil))))))) (jss_one (js_if (jt_not (jt_tru (je_fnc (al_cons (al_cons al_nil)) (pe_call (ok_is_index t) (hr.mono (by decide)) rfl (t.d_is_index.g rfl) t.d_is_index.F.kp t.d_is_index.b .nil pass0 (ja_cons (je_var (pv 3)) (ja_cons (je_call (pe_callB bj_len (by rfl) t.n_len (by decide +kernel) (ja_cons (je_fld t.cl t.no_roads (pe_fld (je_var (pv 0)) rfl)) (ja_nil)))) (ja_nil))))))) (jss_one (js_ret (je_var (pv 2)))) (jss_nil))))) (jss_one (js_ret (je_non))))
theorem ok_Refused___init__ (t : T K mg) : FnOk P w K mg base CX0 1 t.d_Refused___init__.f t.d_Refused___init__.fd ["self", "what"] (spWhat K) :=
  ok_what t.d_Refused___init__.F sc_Refused___init__ rfl rfl (fun cdv A outer s H E => pss_one (ps_ost (pv 0) (pv 1)))
theorem ok_check_history (t : T K mg) : FnOk P w K mg base (L2.CX P w) 4 t.d_check_history.f t.d_check_history.fd ["house", "history"] (spD K t.cls 2 F_check_history) :=
  okDX t.d_check_history.F sc_check_history (fun cdv A outer s H E hr => jss_cons (js_if (jt_cmp (oj_gtA (Room.u65 hr)) (je_call (pe_callB bj_len (by rfl) t.n_len (by decide +kernel) (ja_cons (je_var (pv 1)) (ja_nil)))) (je_c (v := .int 200) (d := .int 200) (pe_glob rfl t.c_MOST_MEETINGS ⟨_, rfl⟩) fun _ _ => rfl) (nomark _)) (jss_one (js_raise t.x_TooMany (ok_Refused___init__ t) (hr.mono (by decide)) t.d_Refused___init__.b rfl t.m_TooMany rfl (L2.takes_of rfl rfl rfl rfl) (je_call (pe_callB bj_len (by rfl) t.n_len (by decide +kernel) (ja_cons (je_var (pv 1)) (ja_nil)))))) (jss_nil)) (jss_cons (js_name (pset 2 sc_check_history.nd (je_fnc (al_cons (al_cons al_nil)) (pe_call (ok_bad_meeting t) (hr.mono (by decide)) rfl (t.d_bad_meeting.g rfl) t.d_bad_meeting.F.kp t.d_bad_meeting.b .nil pass0 (ja_cons (je_var (pv 0)) (ja_cons (je_var (pv 1)) (ja_nil))))))) (jss_one (js_if (jt_cmp oj_notN (je_var (pv 2)) (je_non) (nomark _)) (jss_one (js_raise t.x_BadMeeting (ok_Refused___init__ t) (hr.mono (by decide)) t.d_Refused___init__.b rfl t.m_BadMeeting rfl (L2.takes_of rfl rfl rfl rfl) (je_var (pv 2)))) (jss_nil)))))
theorem ok_is_size (t : T K mg) : FnOk P w K mg base CX0 2 t.d_is_size.f t.d_is_size.fd ["n"] (spD K t.cls 1 F_is_size) :=
  okD t.d_is_size.F sc_is_size (fun cdv A outer s H E hr => jss_one (js_ret (je_and (je_fnc (al_cons al_nil) (pe_call (ok_is_number t) (hr.mono (by decide)) rfl (t.d_is_number.g rfl) t.d_is_number.F.kp t.d_is_number.b .nil pass0 (ja_cons (je_var (pv 0)) (ja_nil)))) (je_one (je_chain (pe_chain (oj_leA (Room.u65 hr)) (oj_leA (Room.u65 hr)) (je_int) (je_var (pv 0)) (je_c (v := .int 10) (d := .int 10) (pe_glob rfl t.c_MOST_HANDS ⟨_, rfl⟩) fun _ _ => rfl)))))))
theorem ok_is_road (t : T K mg) : FnOk P w K mg base CX0 3 t.d_is_road.f t.d_is_road.fd ["n", "road"] (spD K t.cls 2 F_is_road) :=
  okD t.d_is_road.F sc_is_road (fun cdv A outer s H E hr => jss_one (js_ret (je_and (je_fnc (al_cons al_nil) (pe_call (ok_is_pair t) (hr.mono (by decide)) rfl (t.d_is_pair.g rfl) t.d_is_pair.F.kp t.d_is_pair.b .nil pass0 (ja_cons (je_var (pv 1)) (ja_nil)))) (je_and (je_fnc (al_cons (al_cons al_nil)) (pe_call (ok_is_index t) (hr.mono (by decide)) rfl (t.d_is_index.g rfl) t.d_is_index.F.kp t.d_is_index.b .nil pass0 (ja_cons (je_ix (je_var (pv 1)) (je_int)) (ja_cons (je_var (pv 0)) (ja_nil))))) (je_one (je_fnc (al_cons (al_cons al_nil)) (pe_call (ok_is_index t) (hr.mono (by decide)) rfl (t.d_is_index.g rfl) t.d_is_index.F.kp t.d_is_index.b .nil pass0 (ja_cons (je_ix (je_var (pv 1)) (je_int)) (ja_cons (je_ix (je_var (pv 1)) (je_int)) (ja_nil))))))))))
theorem ok_road_fits (t : T K mg) : FnOk P w K mg base CX0 4 t.d_road_fits.f t.d_road_fits.fd ["n", "before", "value"] (spD K t.cls 3 F_road_fits) :=
  okD t.d_road_fits.F sc_road_fits (fun cdv A outer s H E hr => jss_one (js_ret (je_and (je_fnc (al_cons (al_cons al_nil)) (pe_call (ok_is_road t) (hr.mono (by decide)) rfl (t.d_is_road.g rfl) t.d_is_road.F.kp t.d_is_road.b .nil pass0 (ja_cons (je_var (pv 0)) (ja_cons (je_var (pv 2)) (ja_nil))))) (je_one (je_or (je_cmp (oj_eq (Room.units hr)) (je_call (pe_callB bj_len (by rfl) t.n_len (by decide +kernel) (ja_cons (je_var (pv 1)) (ja_nil)))) (je_int) (nomark _)) (je_one (je_cmp (oj_gtA (Room.u65 hr)) (je_var (pv 2)) (je_ix (je_var (pv 1)) (je_neg (je_int))) (nomark _))))))))
theorem ok_bad_road (t : T K mg) : FnOk P w K mg base CX0 5 t.d_bad_road.f t.d_bad_road.fd ["n", "roads"] (spD K t.cls 2 F_bad_road) :=
  okD t.d_bad_road.F sc_bad_road (fun cdv A outer s H E hr => jss_cons (js_for (ps_for PassesOwn.never rfl (ji_enum rfl t.n_enumerate (je_var (pv 1))) (jg_tup (pg_tup rfl (jgs_cons (pgs_cons (jg_name (gnm 2 sc_bad_road.nd)) (jgs_cons (pgs_cons (jg_name (gnm 3 sc_bad_road.nd)) (jgs_nil))))))) (jss_one (js_if (jt_not (jt_tru (je_fnc (al_cons (al_cons (al_cons al_nil))) (pe_call (ok_road_fits t) (hr.mono (by decide)) rfl (t.d_road_fits.g rfl) t.d_road_fits.F.kp t.d_road_fits.b .nil pass0 (ja_cons (je_var (pv 0)) (ja_cons (je_sl (je_var (pv 1)) jo_none (jo_some (je_var (pv 2)))) (ja_cons (je_var (pv 3)) (ja_nil)))))))) (jss_one (js_ret (je_var (pv 2)))) (jss_nil))))) (jss_one (js_ret (je_non))))
theorem ok_check_web (t : T K mg) : FnOk P w K mg base (L2.CX P w) 6 t.d_check_web.f t.d_check_web.fd ["n", "roads"] (spD K t.cls 2 F_check_web) :=
  okDX t.d_check_web.F sc_check_web (fun cdv A outer s H E hr => jss_cons (js_if (jt_not (jt_tru (je_fnc (al_cons al_nil) (pe_call (ok_is_size t) (hr.mono (by decide)) rfl (t.d_is_size.g rfl) t.d_is_size.F.kp t.d_is_size.b .nil pass0 (ja_cons (je_var (pv 0)) (ja_nil)))))) (jss_one (js_raise t.x_BadSize (ok_Refused___init__ t) (hr.mono (by decide)) t.d_Refused___init__.b rfl t.m_BadSize rfl (L2.takes_of rfl rfl rfl rfl) (je_var (pv 0)))) (jss_nil)) (jss_cons (js_name (pset 2 sc_check_web.nd (je_fnc (al_cons (al_cons al_nil)) (pe_call (ok_bad_road t) (hr.mono (by decide)) rfl (t.d_bad_road.g rfl) t.d_bad_road.F.kp t.d_bad_road.b .nil pass0 (ja_cons (je_var (pv 0)) (ja_cons (je_var (pv 1)) (ja_nil))))))) (jss_one (js_if (jt_cmp oj_notN (je_var (pv 2)) (je_non) (nomark _)) (jss_one (js_raise t.x_BadRoad (ok_Refused___init__ t) (hr.mono (by decide)) t.d_Refused___init__.b rfl t.m_BadRoad rfl (L2.takes_of rfl rfl rfl rfl) (je_var (pv 2)))) (jss_nil)))))
theorem ok_is_star (t : T K mg) : FnOk P w K mg base CX0 1 t.d_is_star.f t.d_is_star.fd ["roads", "part"] (spD K t.cls 2 F_is_star) :=
  okD t.d_is_star.F sc_is_star (fun cdv A outer s H E hr => jss_one (js_ret (je_call (pe_callB (bj_any rfl) (by rfl) t.n_any (by decide +kernel) (ja_cons (je_lc (tg_name (by decide)) tt_yes (pe_lc (own := [("hand", 2)]) rfl sc_is_star.nd (ji_seq (je_ix (je_var (pv 0)) (je_ix (je_var (pv 1)) (je_int)))) (blkOk_by (by kernel_rfl)) (fun _ _ _ _ _ => gnm 2 sc_is_star.nd) (fun _ _ _ _ _ => pts_nil) (fun _ _ _ _ _ => je_call (pe_callB (bj_all rfl) (by rfl) t.n_all (by decide +kernel) (ja_cons (je_lc (tg_name (by decide)) tt_yes (pe_lc (own := [("i", 3)]) rfl sc_is_star.nd (ji_seq (je_var (pv 1))) (blkOk_by (by kernel_rfl)) (fun _ _ _ _ _ => gnm 3 sc_is_star.nd) (fun _ _ _ _ _ => pts_nil) (fun _ _ _ _ _ => je_cmp (oj_inG (neg := false) rfl (Room.u65 hr)) (je_var (pv 2)) (je_ix (je_var (pv 0)) (je_var (pv 3))) (by rfl)))) (ja_nil)))))) (ja_nil))))))
theorem ok_is_triangle (t : T K mg) : FnOk P w K mg base CX0 1 t.d_is_triangle.f t.d_is_triangle.fd ["roads", "part"] (spD K t.cls 2 F_is_triangle) :=
  okD t.d_is_triangle.F sc_is_triangle (fun cdv A outer s H E hr => jss_one (js_ret (je_and (je_cmp (oj_eq (Room.units hr)) (je_call (pe_callB bj_len (by rfl) t.n_len (by decide +kernel) (ja_cons (je_var (pv 1)) (ja_nil)))) (je_int) (nomark _)) (je_one (je_cmp (oj_eq (Room.units hr)) (je_lenS2 (pe_callB call_lenS (by rfl) t.n_len (by decide +kernel) (pa_cons (DLS.pe_set2 (own := [("i", 2), ("hand", 3)]) (vs1 := [3]) rfl sc_is_triangle.nd (pi_tup (pv 1)) (blkOk_by (by kernel_rfl)) (by decide) (fun _ _ _ _ _ => ⟨gnm 2 sc_is_triangle.nd, pi_tup (pe_ix ix_tup (pv 0) (pv 2) (by intro _ _; rfl)), gnm 3 sc_is_triangle.nd, pv 3⟩)) pa_nil))) (je_int) (nomark _))))))
theorem ok_is_part (t : T K mg) : FnOk P w K mg base CX0 5 t.d_is_part.f t.d_is_part.fd ["roads", "part"] (spD K t.cls 2 F_is_part) :=
  okD t.d_is_part.F sc_is_part (fun cdv A outer s H E hr => jss_cons (js_if (JW.pt (jw_or (jt_not (jt_tru (je_fnc (al_cons (al_cons al_nil)) (pe_call (ok_is_rising t) (hr.mono (by decide)) rfl (t.d_is_rising.g rfl) t.d_is_rising.F.kp t.d_is_rising.b .nil pass0 (ja_cons (je_var (pv 1)) (ja_cons (je_call (pe_callB bj_len (by rfl) t.n_len (by decide +kernel) (ja_cons (je_var (pv 0)) (ja_nil)))) (ja_nil))))))) (jw_or1 (jt_cmp (oj_eq (Room.units hr)) (je_call (pe_callB bj_len (by rfl) t.n_len (by decide +kernel) (ja_cons (je_var (pv 1)) (ja_nil)))) (je_int) (nomark _))))) (jss_one (js_ret (je_bl))) (jss_nil)) (jss_one (js_ret (je_or (je_fnc (al_cons (al_cons al_nil)) (pe_call (ok_is_star t) (hr.mono (by decide)) rfl (t.d_is_star.g rfl) t.d_is_star.F.kp t.d_is_star.b .nil pass0 (ja_cons (je_var (pv 0)) (ja_cons (je_var (pv 1)) (ja_nil))))) (je_one (je_fnc (al_cons (al_cons al_nil)) (pe_call (ok_is_triangle t) (hr.mono (by decide)) rfl (t.d_is_triangle.g rfl) t.d_is_triangle.F.kp t.d_is_triangle.b .nil pass0 (ja_cons (je_var (pv 0)) (ja_cons (je_var (pv 1)) (ja_nil))))))))))
theorem ok_part_fits (t : T K mg) : FnOk P w K mg base CX0 6 t.d_part_fits.f t.d_part_fits.fd ["roads", "before", "value"] (spD K t.cls 3 F_part_fits) :=
  okD t.d_part_fits.F sc_part_fits (fun cdv A outer s H E hr => jss_cons (js_if (jt_not (jt_tru (je_fnc (al_cons (al_cons al_nil)) (pe_call (ok_is_part t) (hr.mono (by decide)) rfl (t.d_is_part.g rfl) t.d_is_part.F.kp t.d_is_part.b .nil pass0 (ja_cons (je_var (pv 0)) (ja_cons (je_var (pv 2)) (ja_nil))))))) (jss_one (js_ret (je_bl))) (jss_nil)) (jss_cons (js_if (JW.pt (jw_and (jt_cmp (oj_gtA (Room.u65 hr)) (je_call (pe_callB bj_len (by rfl) t.n_len (by decide +kernel) (ja_cons (je_var (pv 1)) (ja_nil)))) (je_int) (nomark _)) (jw_and1 (jt_cmp (oj_leA (Room.u65 hr)) (je_ix (je_var (pv 2)) (je_int)) (je_ix (je_ix (je_var (pv 1)) (je_neg (je_int))) (je_int)) (nomark _))))) (jss_one (js_ret (je_bl))) (jss_nil)) (jss_one (js_ret (je_not (je_call (pe_callB (bj_any rfl) (by rfl) t.n_any (by decide +kernel) (ja_cons (je_lc2 (tg_name (by decide)) tt_yes (tg_name (by decide)) tt_yes (pe_lc2 (own := [("part", 3), ("road", 4)]) (vs1 := [4]) rfl sc_part_fits.nd (ji_seq (je_var (pv 1))) (blkOk_by (by kernel_rfl)) (by decide) (fun _ _ _ _ _ => gnm 3 sc_part_fits.nd) (fun _ _ _ _ _ => pts_nil) (fun _ _ _ _ _ => ji_seq (je_var (pv 2))) (fun _ _ _ _ _ => gnm 4 sc_part_fits.nd) (fun _ _ _ _ _ => pts_nil) (fun _ _ _ _ _ => je_cmp (oj_inG (neg := false) rfl (Room.u65 hr)) (je_var (pv 4)) (je_var (pv 3)) (by rfl)))) (ja_nil)))))))))
theorem ok_all_taken (t : T K mg) : FnOk P w K mg base CX0 1 t.d_all_taken.f t.d_all_taken.fd ["roads", "parts"] (spD K t.cls 2 F_all_taken) :=
  okD t.d_all_taken.F sc_all_taken (fun cdv A outer s H E hr => jss_one (js_ret (je_cmp (oj_eq (Room.units hr)) (je_call (pe_callB (bj_sumA rfl) (by rfl) t.n_sum (by decide +kernel) (ja_cons (je_lc (tg_name (by decide)) tt_yes (pe_lc (own := [("part", 2)]) rfl sc_all_taken.nd (ji_seq (je_var (pv 1))) (blkOk_by (by kernel_rfl)) (fun _ _ _ _ _ => gnm 2 sc_all_taken.nd) (fun _ _ _ _ _ => pts_nil) (fun _ _ _ _ _ => je_call (pe_callB bj_len (by rfl) t.n_len (by decide +kernel) (ja_cons (je_var (pv 2)) (ja_nil)))))) (ja_nil)))) (je_call (pe_callB bj_len (by rfl) t.n_len (by decide +kernel) (ja_cons (je_var (pv 0)) (ja_nil)))) (nomark _))))
theorem ok_bad_part (t : T K mg) : FnOk P w K mg base CX0 7 t.d_bad_part.f t.d_bad_part.fd ["roads", "parts"] (spD K t.cls 2 F_bad_part) :=
  okD t.d_bad_part.F sc_bad_part (fun cdv A outer s H E hr => jss_cons (js_for (ps_for PassesOwn.never rfl (ji_enum rfl t.n_enumerate (je_var (pv 1))) (jg_tup (pg_tup rfl (jgs_cons (pgs_cons (jg_name (gnm 2 sc_bad_part.nd)) (jgs_cons (pgs_cons (jg_name (gnm 3 sc_bad_part.nd)) (jgs_nil))))))) (jss_one (js_if (jt_not (jt_tru (je_fnc (al_cons (al_cons (al_cons al_nil))) (pe_call (ok_part_fits t) (hr.mono (by decide)) rfl (t.d_part_fits.g rfl) t.d_part_fits.F.kp t.d_part_fits.b .nil pass0 (ja_cons (je_var (pv 0)) (ja_cons (je_sl (je_var (pv 1)) jo_none (jo_some (je_var (pv 2)))) (ja_cons (je_var (pv 3)) (ja_nil)))))))) (jss_one (js_ret (je_var (pv 2)))) (jss_nil))))) (jss_cons (js_if (jt_not (jt_tru (je_fnc (al_cons (al_cons al_nil)) (pe_call (ok_all_taken t) (hr.mono (by decide)) rfl (t.d_all_taken.g rfl) t.d_all_taken.F.kp t.d_all_taken.b .nil pass0 (ja_cons (je_var (pv 0)) (ja_cons (je_var (pv 1)) (ja_nil))))))) (jss_one (js_ret (je_call (pe_callB bj_len (by rfl) t.n_len (by decide +kernel) (ja_cons (je_var (pv 1)) (ja_nil)))))) (jss_nil)) (jss_one (js_ret (je_non)))))
theorem ok_House___init__ (t : T K mg) : FnOk P w K mg base CX0 1 t.d_House___init__.f t.d_House___init__.fd ["self", "n", "roads", "parts"] (spD K t.cls 4 F_House___init__) :=
  okD t.d_House___init__.F sc_House___init__ (fun cdv A outer s H E hr => jss_cons (js_fld t.cl t.no_n (ps_fld (je_var (pv 0)) (je_var (pv 1)) rfl)) (jss_cons (js_fld t.cl t.no_roads (ps_fld (je_var (pv 0)) (je_var (pv 2)) rfl)) (jss_one (js_fld t.cl t.no_parts (ps_fld (je_var (pv 0)) (je_var (pv 3)) rfl)))))
theorem ok_house (t : T K mg) : FnOk P w K mg base (L2.CX P w) 8 t.d_house.f t.d_house.fd ["n", "roads", "parts"] (spD K t.cls 3 F_house) :=
  okDX t.d_house.F sc_house (fun cdv A outer s H E hr => jss_cons (js_expr (je_fnx (al_cons (al_cons al_nil)) (pe_call (ok_check_web t) (hr.mono (by decide)) rfl (t.d_check_web.g rfl) t.d_check_web.F.kp t.d_check_web.b .nil (L2.passes_call (L2.takes_of rfl rfl rfl rfl) fun _ _ _ _ h => h) (ja_cons (je_var (pv 0)) (ja_cons (je_var (pv 1)) (ja_nil)))))) (jss_cons (js_name (pset 3 sc_house.nd (je_fnc (al_cons (al_cons al_nil)) (pe_call (ok_bad_part t) (hr.mono (by decide)) rfl (t.d_bad_part.g rfl) t.d_bad_part.F.kp t.d_bad_part.b .nil pass0 (ja_cons (je_var (pv 1)) (ja_cons (je_var (pv 2)) (ja_nil))))))) (jss_cons (js_if (jt_cmp oj_notN (je_var (pv 3)) (je_non) (nomark _)) (jss_one (js_raise t.x_BadPart (ok_Refused___init__ t) (hr.mono (by decide)) t.d_Refused___init__.b rfl t.m_BadPart rfl (L2.takes_of rfl rfl rfl rfl) (je_var (pv 3)))) (jss_nil)) (jss_one (js_ret (je_make (al_make (al_cons (al_cons (al_cons al_nil)))) (pe_make t.mk (ok_House___init__ t) (hr.mono (by decide)) rfl t.gC t.d_House___init__.b .nil pass0 (ja_cons (je_var (pv 0)) (ja_cons (je_var (pv 1)) (ja_cons (je_var (pv 2)) (ja_nil)))))))))))
theorem ok_part_of (t : T K mg) : FnOk P w K mg base (L2.CX P w) 3 t.d_part_of.f t.d_part_of.fd ["house", "road"] (spD K t.cls 2 F_part_of) :=
  okDX t.d_part_of.F sc_part_of (fun cdv A outer s H E hr => jss_cons (js_if (jt_not (jt_tru (je_fnc (al_cons (al_cons al_nil)) (pe_call (ok_is_index t) (hr.mono (by decide)) rfl (t.d_is_index.g rfl) t.d_is_index.F.kp t.d_is_index.b .nil pass0 (ja_cons (je_var (pv 1)) (ja_cons (je_call (pe_callB bj_len (by rfl) t.n_len (by decide +kernel) (ja_cons (je_fld t.cl t.no_roads (pe_fld (je_var (pv 0)) rfl)) (ja_nil)))) (ja_nil))))))) (jss_one (js_raise t.x_BadRoad (ok_Refused___init__ t) (hr.mono (by decide)) t.d_Refused___init__.b rfl t.m_BadRoad rfl (L2.takes_of rfl rfl rfl rfl) (je_var (pv 1)))) (jss_nil)) (jss_one (js_ret (je_mth (pe_bm PySem.F.plainAttrs_list PySem.F.slot_list_index PySem.F.type_list_index (mj_index (Room.u65 hr)) (je_lc (tg_name (by decide)) tt_yes (pe_lc (own := [("part", 2)]) rfl sc_part_of.nd (ji_seq (je_fld t.cl t.no_parts (pe_fld (je_var (pv 0)) rfl))) (blkOk_by (by kernel_rfl)) (fun _ _ _ _ _ => gnm 2 sc_part_of.nd) (fun _ _ _ _ _ => pts_nil) (fun _ _ _ _ _ => je_cmp (oj_inG (neg := false) rfl (Room.u65 hr)) (je_var (pv 1)) (je_var (pv 2)) (by rfl)))) (ja_cons (je_bl) (ja_nil)))))))
theorem ok_at_most (t : T K mg) : FnOk P w K mg base CX0 1 t.d_at_most.f t.d_at_most.fd ["one", "two"] (spD K t.cls 2 F_at_most) :=
  okD t.d_at_most.F sc_at_most (fun cdv A outer s H E hr => jss_one (js_ret (je_call (pe_callB (bj_all rfl) (by rfl) t.n_all (by decide +kernel) (ja_cons (je_lc (tg_tup (tgs_cons (tg_name (by decide)) (tgs_cons (tg_name (by decide)) (tgs_nil)))) tt_yes (pe_lc (own := [("a", 2), ("b", 3)]) rfl sc_at_most.nd (ji_zip (RZ.pi_zipA rfl t.n_zip (pa_cons (je_var (pv 0)) (pa_cons (je_var (pv 1)) pa_nil)))) (blkOk_by (by kernel_rfl)) (fun _ _ _ _ _ => pg_tup rfl (pgs_cons (gnm 2 sc_at_most.nd) (pgs_cons (gnm 3 sc_at_most.nd) (pgs_nil)))) (fun _ _ _ _ _ => pts_nil) (fun _ _ _ _ _ => je_cmp (oj_leA (Room.u65 hr)) (je_var (pv 2)) (je_var (pv 3)) (nomark _)))) (ja_nil))))))
theorem ok_greater (t : T K mg) : FnOk P w K mg base CX0 1 t.d_greater.f t.d_greater.fd ["one", "two"] (spD K t.cls 2 F_greater) :=
  okD t.d_greater.F sc_greater (fun cdv A outer s H E hr => jss_one (js_ret (je_call (pe_callTy bj_tuple (by rfl) t.n_tuple (by decide +kernel) (ja_cons (je_lc (tg_tup (tgs_cons (tg_name (by decide)) (tgs_cons (tg_name (by decide)) (tgs_nil)))) tt_yes (pe_lc (own := [("a", 2), ("b", 3)]) rfl sc_greater.nd (ji_zip (RZ.pi_zipA rfl t.n_zip (pa_cons (je_var (pv 0)) (pa_cons (je_var (pv 1)) pa_nil)))) (blkOk_by (by kernel_rfl)) (fun _ _ _ _ _ => pg_tup rfl (pgs_cons (gnm 2 sc_greater.nd) (pgs_cons (gnm 3 sc_greater.nd) (pgs_nil)))) (fun _ _ _ _ _ => pts_nil) (fun _ _ _ _ _ => je_call (pe_callB (bj_max rfl) (by rfl) t.n_max (by decide +kernel) (ja_cons (je_var (pv 2)) (ja_cons (je_var (pv 3)) (ja_nil))))))) (ja_nil))))))
theorem ok_made_mark (t : T K mg) : FnOk P w K mg base CX0 2 t.d_made_mark.f t.d_made_mark.fd ["one", "two", "part"] (spD K t.cls 3 F_made_mark) :=
  okD t.d_made_mark.F sc_made_mark (fun cdv A outer s H E hr => jss_cons (js_name (pset 3 sc_made_mark.nd (je_call (pe_callTy bj_list (by rfl) t.n_list (by decide +kernel) (ja_cons (je_fnc (al_cons (al_cons al_nil)) (pe_call (ok_greater t) (hr.mono (by decide)) rfl (t.d_greater.g rfl) t.d_greater.F.kp t.d_greater.b .nil pass0 (ja_cons (je_var (pv 0)) (ja_cons (je_var (pv 1)) (ja_nil))))) (ja_nil)))))) (jss_cons (js_augS (ps_augS (je_var (pv 3)) (je_var (pv 2)) pget_seq (je_int) ipj_add st_set)) (jss_one (js_ret (je_call (pe_callTy bj_tuple (by rfl) t.n_tuple (by decide +kernel) (ja_cons (je_var (pv 3)) (ja_nil))))))))
theorem ok_marks_and_clocks (t : T K mg) : FnOk P w K mg base (L2.CX P w) 5 t.d_marks_and_clocks.f t.d_marks_and_clocks.fd ["house", "history"] (spD K t.cls 2 F_marks_and_clocks) :=
  okDX t.d_marks_and_clocks.F sc_marks_and_clocks (fun cdv A outer s H E hr => jss_cons (js_expr (je_fnx (al_cons (al_cons al_nil)) (pe_call (ok_check_history t) (hr.mono (by decide)) rfl (t.d_check_history.g rfl) t.d_check_history.F.kp t.d_check_history.b .nil (L2.passes_call (L2.takes_of rfl rfl rfl rfl) fun _ _ _ _ h => h) (ja_cons (je_var (pv 0)) (ja_cons (je_var (pv 1)) (ja_nil)))))) (jss_cons (js_name (pset 2 sc_marks_and_clocks.nd (je_bin oj_mulT (je_lst (ja_cons (je_bin oj_mulT (je_tup (ja_cons (je_int) (ja_nil))) (je_call (pe_callB bj_len (by rfl) t.n_len (by decide +kernel) (ja_cons (je_fld t.cl t.no_parts (pe_fld (je_var (pv 0)) rfl)) (ja_nil))))) (ja_nil))) (je_fld t.cl t.no_n (pe_fld (je_var (pv 0)) rfl))))) (jss_cons (js_name (pset 3 sc_marks_and_clocks.nd (je_lst (ja_nil)))) (jss_cons (js_for (ps_for (L2.passes_of rfl) rfl (ji_seq (je_var (pv 1))) (jg_name (gnm 4 sc_marks_and_clocks.nd)) (jss_cons (js_asg (ps_asg (je_ix (je_fld t.cl t.no_roads (pe_fld (je_var (pv 0)) rfl)) (je_var (pv 4))) (jg_tup (pg_tup rfl (jgs_cons (pgs_cons (jg_name (gnm 5 sc_marks_and_clocks.nd)) (jgs_cons (pgs_cons (jg_name (gnm 6 sc_marks_and_clocks.nd)) (jgs_nil))))))))) (jss_cons (js_name (pset 7 sc_marks_and_clocks.nd (je_fnc (al_cons (al_cons (al_cons al_nil))) (pe_call (ok_made_mark t) (hr.mono (by decide)) rfl (t.d_made_mark.g rfl) t.d_made_mark.F.kp t.d_made_mark.b .nil pass0 (ja_cons (je_ix (je_var (pv 2)) (je_var (pv 5))) (ja_cons (je_ix (je_var (pv 2)) (je_var (pv 6))) (ja_cons (je_fnx (al_cons (al_cons al_nil)) (pe_call (ok_part_of t) (hr.mono (by decide)) rfl (t.d_part_of.g rfl) t.d_part_of.F.kp t.d_part_of.b .nil (L2.passes_call (L2.takes_of rfl rfl rfl rfl) fun _ _ _ _ h => h) (ja_cons (je_var (pv 0)) (ja_cons (je_var (pv 4)) (ja_nil))))) (ja_nil)))))))) (jss_cons (js_asg (ps_asg (je_var (pv 7)) (jg_sub (pg_sub (je_var (pv 2)) (je_var (pv 5)) st_set)))) (jss_cons (js_asg (ps_asg (je_var (pv 7)) (jg_sub (pg_sub (je_var (pv 2)) (je_var (pv 6)) st_set)))) (jss_one (js_expr (je_mth (pe_bm PySem.F.plainAttrs_list PySem.F.slot_list_append PySem.F.type_list_append mj_append (je_var (pv 3)) (ja_cons (je_var (pv 7)) (ja_nil)))))))))))) (jss_one (js_ret (je_tup (ja_cons (je_call (pe_callTy bj_tuple (by rfl) t.n_tuple (by decide +kernel) (ja_cons (je_var (pv 3)) (ja_nil)))) (ja_cons (je_call (pe_callTy bj_tuple (by rfl) t.n_tuple (by decide +kernel) (ja_cons (je_var (pv 2)) (ja_nil)))) (ja_nil))))))))))
theorem ok_marks (t : T K mg) : FnOk P w K mg base (L2.CX P w) 6 t.d_marks.f t.d_marks.fd ["house", "history"] (spD K t.cls 2 F_marks) :=
  okDX t.d_marks.F sc_marks (fun cdv A outer s H E hr => jss_one (js_ret (je_ix (je_fnx (al_cons (al_cons al_nil)) (pe_call (ok_marks_and_clocks t) (hr.mono (by decide)) rfl (t.d_marks_and_clocks.g rfl) t.d_marks_and_clocks.F.kp t.d_marks_and_clocks.b .nil (L2.passes_call (L2.takes_of rfl rfl rfl rfl) fun _ _ _ _ h => h) (ja_cons (je_var (pv 0)) (ja_cons (je_var (pv 1)) (ja_nil))))) (je_int))))
theorem ok_ahead (t : T K mg) : FnOk P w K mg base (L2.CX P w) 3 t.d_ahead.f t.d_ahead.fd ["one", "two"] (spD K t.cls 2 F_ahead) :=
  okDX t.d_ahead.F sc_ahead (fun cdv A outer s H E hr => jss_cons (js_if (jt_not (jt_tru (je_fnc (al_cons al_nil) (pe_call (ok_is_mark t) (hr.mono (by decide)) rfl (t.d_is_mark.g rfl) t.d_is_mark.F.kp t.d_is_mark.b .nil pass0 (ja_cons (je_var (pv 0)) (ja_nil)))))) (jss_one (js_raise t.x_BadMark (ok_Refused___init__ t) (hr.mono (by decide)) t.d_Refused___init__.b rfl t.m_BadMark rfl (L2.takes_of rfl rfl rfl rfl) (je_int))) (jss_nil)) (jss_cons (js_if (JW.pt (jw_or (jt_not (jt_tru (je_fnc (al_cons al_nil) (pe_call (ok_is_mark t) (hr.mono (by decide)) rfl (t.d_is_mark.g rfl) t.d_is_mark.F.kp t.d_is_mark.b .nil pass0 (ja_cons (je_var (pv 1)) (ja_nil)))))) (jw_or1 (jt_cmp (oj_ne (Room.units hr)) (je_call (pe_callB bj_len (by rfl) t.n_len (by decide +kernel) (ja_cons (je_var (pv 1)) (ja_nil)))) (je_call (pe_callB bj_len (by rfl) t.n_len (by decide +kernel) (ja_cons (je_var (pv 0)) (ja_nil)))) (nomark _))))) (jss_one (js_raise t.x_BadMark (ok_Refused___init__ t) (hr.mono (by decide)) t.d_Refused___init__.b rfl t.m_BadMark rfl (L2.takes_of rfl rfl rfl rfl) (je_int))) (jss_nil)) (jss_one (js_ret (je_and (je_fnc (al_cons (al_cons al_nil)) (pe_call (ok_at_most t) (hr.mono (by decide)) rfl (t.d_at_most.g rfl) t.d_at_most.F.kp t.d_at_most.b .nil pass0 (ja_cons (je_var (pv 0)) (ja_cons (je_var (pv 1)) (ja_nil))))) (je_one (je_cmp (oj_ne (Room.units hr)) (je_var (pv 0)) (je_var (pv 1)) (nomark _))))))))
theorem ok_check_index (t : T K mg) : FnOk P w K mg base (L2.CX P w) 5 t.d_check_index.f t.d_check_index.fd ["house", "history", "index"] (spD K t.cls 3 F_check_index) :=
  okDX t.d_check_index.F sc_check_index (fun cdv A outer s H E hr => jss_cons (js_expr (je_fnx (al_cons (al_cons al_nil)) (pe_call (ok_check_history t) (hr.mono (by decide)) rfl (t.d_check_history.g rfl) t.d_check_history.F.kp t.d_check_history.b .nil (L2.passes_call (L2.takes_of rfl rfl rfl rfl) fun _ _ _ _ h => h) (ja_cons (je_var (pv 0)) (ja_cons (je_var (pv 1)) (ja_nil)))))) (jss_one (js_if (jt_not (jt_tru (je_fnc (al_cons (al_cons al_nil)) (pe_call (ok_is_index t) (hr.mono (by decide)) rfl (t.d_is_index.g rfl) t.d_is_index.F.kp t.d_is_index.b .nil pass0 (ja_cons (je_var (pv 2)) (ja_cons (je_call (pe_callB bj_len (by rfl) t.n_len (by decide +kernel) (ja_cons (je_var (pv 1)) (ja_nil)))) (ja_nil))))))) (jss_one (js_raise t.x_BadMeeting (ok_Refused___init__ t) (hr.mono (by decide)) t.d_Refused___init__.b rfl t.m_BadMeeting rfl (L2.takes_of rfl rfl rfl rfl) (je_var (pv 2)))) (jss_nil))))
theorem ok_past (t : T K mg) : FnOk P w K mg base (L2.CX P w) 7 t.d_past.f t.d_past.fd ["house", "history", "index"] (spD K t.cls 3 F_past) :=
  okDX t.d_past.F sc_past (fun cdv A outer s H E hr => jss_cons (js_expr (je_fnx (al_cons (al_cons (al_cons al_nil))) (pe_call (ok_check_index t) (hr.mono (by decide)) rfl (t.d_check_index.g rfl) t.d_check_index.F.kp t.d_check_index.b .nil (L2.passes_call (L2.takes_of rfl rfl rfl rfl) fun _ _ _ _ h => h) (ja_cons (je_var (pv 0)) (ja_cons (je_var (pv 1)) (ja_cons (je_var (pv 2)) (ja_nil))))))) (jss_cons (js_name (pset 3 sc_past.nd (je_fnx (al_cons (al_cons al_nil)) (pe_call (ok_marks t) (hr.mono (by decide)) rfl (t.d_marks.g rfl) t.d_marks.F.kp t.d_marks.b .nil (L2.passes_call (L2.takes_of rfl rfl rfl rfl) fun _ _ _ _ h => h) (ja_cons (je_var (pv 0)) (ja_cons (je_var (pv 1)) (ja_nil))))))) (jss_one (js_ret (je_call (pe_callTy bj_tuple (by rfl) t.n_tuple (by decide +kernel) (ja_cons (je_lc (tg_name (by decide)) tt_one (pe_lc (own := [("i", 4)]) rfl sc_past.nd (ji_rng1 (pi_range1 rfl t.n_range (pa_cons (je_var (pv 2)) pa_nil))) (blkOk_by (by kernel_rfl)) (fun _ _ _ _ _ => gnm 4 sc_past.nd) (fun _ _ _ _ _ => pts_one (jt_tru (je_fnc (al_cons (al_cons al_nil)) (pe_call (ok_at_most t) (hr.mono (by decide)) rfl (t.d_at_most.g rfl) t.d_at_most.F.kp t.d_at_most.b .nil pass0 (ja_cons (je_ix (je_var (pv 3)) (je_var (pv 4))) (ja_cons (je_ix (je_var (pv 3)) (je_var (pv 2))) (ja_nil))))))) (fun _ _ _ _ _ => je_var (pv 4)))) (ja_nil))))))))
theorem ok_depth (t : T K mg) : FnOk P w K mg base (L2.CX P w) 6 t.d_depth.f t.d_depth.fd ["house", "history", "index"] (spD K t.cls 3 F_depth) :=
  okDX t.d_depth.F sc_depth (fun cdv A outer s H E hr => jss_cons (js_expr (je_fnx (al_cons (al_cons (al_cons al_nil))) (pe_call (ok_check_index t) (hr.mono (by decide)) rfl (t.d_check_index.g rfl) t.d_check_index.F.kp t.d_check_index.b .nil (L2.passes_call (L2.takes_of rfl rfl rfl rfl) fun _ _ _ _ h => h) (ja_cons (je_var (pv 0)) (ja_cons (je_var (pv 1)) (ja_cons (je_var (pv 2)) (ja_nil))))))) (jss_cons (js_name (pset 3 sc_depth.nd (je_bin oj_mulT (je_lst (ja_cons (je_int) (ja_nil))) (je_fld t.cl t.no_n (pe_fld (je_var (pv 0)) rfl))))) (jss_cons (js_for (ps_for (L2.passes_of rfl) rfl (ji_seq (je_sl (je_var (pv 1)) jo_none (jo_some (je_bin oj_add (je_var (pv 2)) (je_int))))) (jg_name (gnm 4 sc_depth.nd)) (jss_cons (js_asg (ps_asg (je_ix (je_fld t.cl t.no_roads (pe_fld (je_var (pv 0)) rfl)) (je_var (pv 4))) (jg_tup (pg_tup rfl (jgs_cons (pgs_cons (jg_name (gnm 5 sc_depth.nd)) (jgs_cons (pgs_cons (jg_name (gnm 6 sc_depth.nd)) (jgs_nil))))))))) (jss_cons (js_asg (ps_asg (je_bin oj_add (je_call (pe_callB (bj_max rfl) (by rfl) t.n_max (by decide +kernel) (ja_cons (je_ix (je_var (pv 3)) (je_var (pv 5))) (ja_cons (je_ix (je_var (pv 3)) (je_var (pv 6))) (ja_nil))))) (je_int)) (jg_sub (pg_sub (je_var (pv 3)) (je_var (pv 5)) st_set)))) (jss_one (js_asg (ps_asg (je_ix (je_var (pv 3)) (je_var (pv 5))) (jg_sub (pg_sub (je_var (pv 3)) (je_var (pv 6)) st_set))))))))) (jss_one (js_ret (je_ix (je_var (pv 3)) (je_ix (je_ix (je_fld t.cl t.no_roads (pe_fld (je_var (pv 0)) rfl)) (je_ix (je_var (pv 1)) (je_var (pv 2)))) (je_int))))))))
theorem ok_first_beside (t : T K mg) : FnOk P w K mg base (L2.CX P w) 7 t.d_first_beside.f t.d_first_beside.fd ["house", "history"] (spD K t.cls 2 F_first_beside) :=
  okDX t.d_first_beside.F sc_first_beside (fun cdv A outer s H E hr => jss_cons (js_name (pset 2 sc_first_beside.nd (je_fnx (al_cons (al_cons al_nil)) (pe_call (ok_marks t) (hr.mono (by decide)) rfl (t.d_marks.g rfl) t.d_marks.F.kp t.d_marks.b .nil (L2.passes_call (L2.takes_of rfl rfl rfl rfl) fun _ _ _ _ h => h) (ja_cons (je_var (pv 0)) (ja_cons (je_var (pv 1)) (ja_nil))))))) (jss_cons (js_for (ps_for (L2.passes_of rfl) rfl (ji_enum rfl t.n_enumerate (je_var (pv 2))) (jg_tup (pg_tup rfl (jgs_cons (pgs_cons (jg_name (gnm 3 sc_first_beside.nd)) (jgs_cons (pgs_cons (jg_name (gnm 4 sc_first_beside.nd)) (jgs_nil))))))) (jss_one (js_for (ps_for (L2.passes_of rfl) rfl (ji_rng2 (pi_range2 rfl t.n_range (pa_cons (je_bin oj_add (je_var (pv 3)) (je_int)) (pa_cons (je_call (pe_callB bj_len (by rfl) t.n_len (by decide +kernel) (ja_cons (je_var (pv 2)) (ja_nil)))) pa_nil)))) (jg_name (gnm 5 sc_first_beside.nd)) (jss_one (js_if (jt_not (jt_tru (je_fnc (al_cons (al_cons al_nil)) (pe_call (ok_at_most t) (hr.mono (by decide)) rfl (t.d_at_most.g rfl) t.d_at_most.F.kp t.d_at_most.b .nil pass0 (ja_cons (je_var (pv 4)) (ja_cons (je_ix (je_var (pv 2)) (je_var (pv 5))) (ja_nil))))))) (jss_one (js_ret (je_tup (ja_cons (je_var (pv 3)) (ja_cons (je_var (pv 5)) (ja_nil)))))) (jss_nil)))))))) (jss_one (js_ret (je_non)))))
theorem ok__law_pool (t : T K mg) : FnOk P w K mg base CX0 1 t.d__law_pool.f t.d__law_pool.fd ["script", "k"] (spD K t.cls 2 F__law_pool) :=
  okD t.d__law_pool.F sc__law_pool (fun cdv A outer s H E hr => jss_cons (js_name (pset 2 sc__law_pool.nd (je_int))) (jss_cons (js_if (jt_cmp (oj_ltA (Room.u65 hr)) (je_var (pv 1)) (je_call (pe_callB bj_len (by rfl) t.n_len (by decide +kernel) (ja_cons (je_var (pv 0)) (ja_nil)))) (nomark _)) (jss_one (js_name (pset 2 sc__law_pool.nd (je_ix (je_var (pv 0)) (je_var (pv 1)))))) (jss_one (js_if (jt_tru (je_var (pv 0))) (jss_one (js_name (pset 2 sc__law_pool.nd (je_ix (je_var (pv 0)) (je_int))))) (jss_nil)))) (jss_cons (js_name (pset 3 sc__law_pool.nd (je_call (pe_callB (bj_max rfl) (by rfl) t.n_max (by decide +kernel) (ja_cons (je_call (pe_callTy bj_int (by rfl) t.n_int (by decide +kernel) (ja_cons (je_var (pv 2)) (ja_nil)))) (ja_cons (je_call (pe_callTy bj_int (by rfl) t.n_int (by decide +kernel) (ja_cons (je_bin oj_sub (je_neg (je_int)) (je_var (pv 2))) (ja_nil)))) (ja_nil))))))) (jss_cons (js_name (pset 4 sc__law_pool.nd (je_bin oj_mod (je_call (pe_callTy bj_int (by rfl) t.n_int (by decide +kernel) (ja_cons (je_bin oj_mulT (je_bin oj_add (je_bin oj_add (je_bin oj_add (je_bin oj_mod (je_call (pe_callTy bj_int (by rfl) t.n_int (by decide +kernel) (ja_cons (je_var (pv 3)) (ja_nil)))) (je_int)) (je_bin oj_mulT (je_bin oj_mulT (je_int) (je_var (pv 1))) (je_var (pv 1)))) (je_bin oj_mulT (je_int) (je_var (pv 1)))) (je_int)) (je_int)) (ja_nil)))) (je_int)))) (jss_one (js_ret (je_lst (ja_cons (je_bin oj_mulT (je_var (pv 3)) (je_call (pe_callTy bj_int (by rfl) t.n_int (by decide +kernel) (ja_cons (je_cmp (oj_geA (Room.u65 hr)) (je_var (pv 3)) (je_bin oj_pow (je_int) (je_int)) (nomark _)) (ja_nil))))) (ja_cons (je_var (pv 4)) (ja_nil))))))))))
theorem ok__law_take (t : T K mg) : FnOk P w K mg base CX0 1 t.d__law_take.f t.d__law_take.fd ["source", "top"] (spD K t.cls 2 F__law_take) :=
  okD t.d__law_take.F sc__law_take (fun cdv A outer s H E hr => jss_cons (js_if (jt_cmp (oj_gtA (Room.u65 hr)) (je_ix (je_var (pv 0)) (je_int)) (je_int) (nomark _)) (jss_cons (js_name (pset 2 sc__law_take.nd (je_bin oj_mod (je_call (pe_callTy bj_int (by rfl) t.n_int (by decide +kernel) (ja_cons (je_ix (je_var (pv 0)) (je_int)) (ja_nil)))) (je_var (pv 1))))) (jss_cons (js_asg (ps_asg (je_bin oj_fdiv (je_ix (je_var (pv 0)) (je_int)) (je_var (pv 1))) (jg_sub (pg_sub (je_var (pv 0)) (je_int) st_set)))) (jss_one (js_ret (je_var (pv 2)))))) (jss_nil)) (jss_cons (js_asg (ps_asg (je_bin oj_mod (je_call (pe_callTy bj_int (by rfl) t.n_int (by decide +kernel) (ja_cons (je_bin oj_add (je_bin oj_mulT (je_ix (je_var (pv 0)) (je_int)) (je_int)) (je_int)) (ja_nil)))) (je_int)) (jg_sub (pg_sub (je_var (pv 0)) (je_int) st_set)))) (jss_one (js_ret (je_bin oj_mod (je_call (pe_callTy bj_int (by rfl) t.n_int (by decide +kernel) (ja_cons (je_bin oj_fdiv (je_bin oj_mod (je_call (pe_callTy bj_int (by rfl) t.n_int (by decide +kernel) (ja_cons (je_bin oj_mulT (je_ix (je_var (pv 0)) (je_int)) (je_ix (je_var (pv 0)) (je_int))) (ja_nil)))) (je_int)) (je_int)) (ja_nil)))) (je_var (pv 1)))))))
theorem ok__law_one (t : T K mg) : FnOk P w K mg base CX0 2 t.d__law_one.f t.d__law_one.fd ["source", "things"] (spD K t.cls 2 F__law_one) :=
  okD t.d__law_one.F sc__law_one (fun cdv A outer s H E hr => jss_one (js_ret (je_ix (je_var (pv 1)) (je_fnc (al_cons (al_cons al_nil)) (pe_call (ok__law_take t) (hr.mono (by decide)) rfl (t.d__law_take.g rfl) t.d__law_take.F.kp t.d__law_take.b .nil pass0 (ja_cons (je_var (pv 0)) (ja_cons (je_call (pe_callB bj_len (by rfl) t.n_len (by decide +kernel) (ja_cons (je_var (pv 1)) (ja_nil)))) (ja_nil))))))))
theorem ok__law_web (t : T K mg) : FnOk P w K mg base CX0 3 t.d__law_web.f t.d__law_web.fd ["source", "menu"] (spD K t.cls 2 F__law_web) :=
  okD t.d__law_web.F sc__law_web (fun cdv A outer s H E hr => jss_cons (js_par (ps_par rfl sc__law_web.nd rfl rfl (by decide) rfl rfl (ja_cons (je_fnc (al_cons (al_cons al_nil)) (pe_call (ok__law_one t) (hr.mono (by decide)) rfl (t.d__law_one.g rfl) t.d__law_one.F.kp t.d__law_one.b .nil pass0 (ja_cons (je_var (pv 0)) (ja_cons (je_var (pv 1)) (ja_nil))))) (ja_cons (je_lst (ja_nil)) (ja_nil))) (by rfl))) (jss_cons (js_for (ps_for PassesOwn.never rfl (ji_rng2 (pi_range2 rfl t.n_range (pa_cons (je_int) (pa_cons (je_var (pv 2)) pa_nil)))) (jg_name (gnm 4 sc__law_web.nd)) (jss_one (js_if (jt_cmp (oj_gtA (Room.u65 hr)) (je_fnc (al_cons (al_cons al_nil)) (pe_call (ok__law_take t) (hr.mono (by decide)) rfl (t.d__law_take.g rfl) t.d__law_take.F.kp t.d__law_take.b .nil pass0 (ja_cons (je_var (pv 0)) (ja_cons (je_int) (ja_nil))))) (je_int) (nomark _)) (jss_one (js_expr (je_mth (pe_bm PySem.F.plainAttrs_list PySem.F.slot_list_append PySem.F.type_list_append mj_append (je_var (pv 3)) (ja_cons (je_tup (ja_cons (je_fnc (al_cons (al_cons al_nil)) (pe_call (ok__law_take t) (hr.mono (by decide)) rfl (t.d__law_take.g rfl) t.d__law_take.F.kp t.d__law_take.b .nil pass0 (ja_cons (je_var (pv 0)) (ja_cons (je_var (pv 4)) (ja_nil))))) (ja_cons (je_var (pv 4)) (ja_nil)))) (ja_nil)))))) (jss_nil))))) (jss_cons (js_for (ps_for PassesOwn.never rfl (ji_rng1 (pi_range1 rfl t.n_range (pa_cons (je_fnc (al_cons (al_cons al_nil)) (pe_call (ok__law_take t) (hr.mono (by decide)) rfl (t.d__law_take.g rfl) t.d__law_take.F.kp t.d__law_take.b .nil pass0 (ja_cons (je_var (pv 0)) (ja_cons (je_int) (ja_nil))))) pa_nil))) (jg_name (gnm 5 sc__law_web.nd)) (jss_one (js_if (jt_cmp (oj_gtA (Room.u65 hr)) (je_var (pv 2)) (je_int) (nomark _)) (jss_cons (js_name (pset 6 sc__law_web.nd (je_fnc (al_cons (al_cons al_nil)) (pe_call (ok__law_take t) (hr.mono (by decide)) rfl (t.d__law_take.g rfl) t.d__law_take.F.kp t.d__law_take.b .nil pass0 (ja_cons (je_var (pv 0)) (ja_cons (je_bin oj_sub (je_var (pv 2)) (je_int)) (ja_nil))))))) (jss_one (js_expr (je_mth (pe_bm PySem.F.plainAttrs_list PySem.F.slot_list_append PySem.F.type_list_append mj_append (je_var (pv 3)) (ja_cons (je_tup (ja_cons (je_var (pv 6)) (ja_cons (je_bin oj_add (je_bin oj_add (je_var (pv 6)) (je_int)) (je_fnc (al_cons (al_cons al_nil)) (pe_call (ok__law_take t) (hr.mono (by decide)) rfl (t.d__law_take.g rfl) t.d__law_take.F.kp t.d__law_take.b .nil pass0 (ja_cons (je_var (pv 0)) (ja_cons (je_bin oj_sub (je_bin oj_sub (je_var (pv 2)) (je_int)) (je_var (pv 6))) (ja_nil)))))) (ja_nil)))) (ja_nil))))))) (jss_nil))))) (jss_one (js_ret (je_tup (ja_cons (je_var (pv 2)) (ja_cons (je_call (pe_callTy bj_tuple (by rfl) t.n_tuple (by decide +kernel) (ja_cons (je_call (pe_callB (bj_sortedD rfl (Room.u66 hr)) (by rfl) t.n_sorted (by decide +kernel) (ja_cons (je_call (pe_callTy (bj_dictT rfl (Room.u66 hr)) (by rfl) t.n_dict (by decide +kernel) (ja_cons (je_lc (tg_name (by decide)) tt_yes (pe_lc (own := [("road", 7)]) rfl sc__law_web.nd (ji_seq (je_var (pv 3))) (blkOk_by (by kernel_rfl)) (fun _ _ _ _ _ => gnm 7 sc__law_web.nd) (fun _ _ _ _ _ => pts_nil) (fun _ _ _ _ _ => je_tup (ja_cons (je_var (pv 7)) (ja_cons (je_bl) (ja_nil)))))) (ja_nil)))) (ja_nil)))) (ja_nil)))) (ja_nil)))))))))
theorem ok__law_fits (t : T K mg) : FnOk P w K mg base CX0 1 t.d__law_fits.f t.d__law_fits.fd ["roads", "some"] (spD K t.cls 2 F__law_fits) :=
  okD t.d__law_fits.F sc__law_fits (fun cdv A outer s H E hr => jss_cons (js_name (pset 2 sc__law_fits.nd (je_dnK))) (jss_cons (js_for (ps_for PassesOwn.never rfl (ji_seq (je_var (pv 1))) (jg_name (gnm 3 sc__law_fits.nd)) (jss_one (js_for (ps_for PassesOwn.never rfl (ji_seq (je_ix (je_var (pv 0)) (je_var (pv 3)))) (jg_name (gnm 4 sc__law_fits.nd)) (jss_one (js_dput (ps_dput (hu_of hr) (je_var (pv 2)) (je_var (pv 4)) (je_bin oj_add (je_dget2 (pe_dget2 (hu_of hr) (je_var (pv 2)) (je_var (pv 4)) (je_int) ⟨rfl, rfl, rfl, rfl⟩)) (je_int)) rfl)))))))) (jss_one (js_ret (je_or (je_cmp (oj_eq (Room.units hr)) (je_call (pe_callB (bj_max rfl) (by rfl) t.n_max (by decide +kernel) (ja_cons (je_lcK (tg_name (by decide)) tt_yes (pe_lock (pe_lc (own := [("hand", 4)]) rfl sc__law_fits.nd (pi_keys (pv 2)) (blkOk_by (by kernel_rfl)) (fun _ _ _ _ _ => gnm 4 sc__law_fits.nd) (fun _ _ _ _ _ => pts_nil) (fun _ _ _ _ _ => je_dget (pe_dget (hu_of hr) (je_var (pv 2)) (je_var (pv 4)) (fun _ _ => rfl)))))) (ja_nil)))) (je_call (pe_callB bj_len (by rfl) t.n_len (by decide +kernel) (ja_cons (je_var (pv 1)) (ja_nil)))) (nomark _)) (je_one (je_and (je_cmp (oj_eq (Room.units hr)) (je_call (pe_callB bj_len (by rfl) t.n_len (by decide +kernel) (ja_cons (je_var (pv 1)) (ja_nil)))) (je_int) (nomark _)) (je_one (je_cmp (oj_eq (Room.units hr)) (je_call (pe_callB bj_len (by rfl) t.n_len (by decide +kernel) (ja_cons (je_var (pv 2)) (ja_nil)))) (je_int) (nomark _))))))))))
theorem ok__law_parts (t : T K mg) : FnOk P w K mg base CX0 3 t.d__law_parts.f t.d__law_parts.fd ["source", "roads"] (spD K t.cls 2 F__law_parts) :=
  okD t.d__law_parts.F sc__law_parts (fun cdv A outer s H E hr => jss_cons (js_name (pset 2 sc__law_parts.nd (je_lst (ja_nil)))) (jss_cons (js_for (ps_for PassesOwn.never rfl (ji_rng1 (pi_range1 rfl t.n_range (pa_cons (je_call (pe_callB bj_len (by rfl) t.n_len (by decide +kernel) (ja_cons (je_var (pv 1)) (ja_nil)))) pa_nil))) (jg_name (gnm 3 sc__law_parts.nd)) (jss_cons (js_setLc (tg_name (by decide)) tt_one (ps_setLc (i := 4) (own := [("k", 5)]) rfl sc__law_parts.nd rfl rfl (sw_true rfl rfl rfl (by decide +kernel)) (ji_rng1 (pi_range1 rfl t.n_range (pa_cons (je_call (pe_callB bj_len (by rfl) t.n_len (by decide +kernel) (ja_cons (je_var (pv 2)) (ja_nil)))) pa_nil))) (blkOk_by (by kernel_rfl)) (fun _ _ _ _ _ => gnm 5 sc__law_parts.nd) (fun _ _ _ _ _ => pts_one (jt_tru (je_fnc (al_cons (al_cons al_nil)) (pe_call (ok__law_fits t) (hr.mono (by decide)) rfl (t.d__law_fits.g rfl) t.d__law_fits.F.kp t.d__law_fits.b .nil pass0 (ja_cons (je_var (pv 1)) (ja_cons (je_bin oj_add (je_ix (je_var (pv 2)) (je_var (pv 5))) (je_lst (ja_cons (je_var (pv 3)) (ja_nil)))) (ja_nil))))))) (fun _ _ _ _ _ => je_var (pv 5)))) (jss_one (js_if (JW.pt (jw_and (jt_cmp (oj_ne (Room.units hr)) (je_var (pv 4)) (je_lst (ja_nil)) (nomark _)) (jw_and1 (jt_cmp (oj_gtA (Room.u65 hr)) (je_fnc (al_cons (al_cons al_nil)) (pe_call (ok__law_take t) (hr.mono (by decide)) rfl (t.d__law_take.g rfl) t.d__law_take.F.kp t.d__law_take.b .nil pass0 (ja_cons (je_var (pv 0)) (ja_cons (je_int) (ja_nil))))) (je_int) (nomark _))))) (jss_one (js_expr (je_mth (pe_bm PySem.F.plainAttrs_list PySem.F.slot_list_append PySem.F.type_list_append mj_append (je_ix (je_var (pv 2)) (je_fnc (al_cons (al_cons al_nil)) (pe_call (ok__law_one t) (hr.mono (by decide)) rfl (t.d__law_one.g rfl) t.d__law_one.F.kp t.d__law_one.b .nil pass0 (ja_cons (je_var (pv 0)) (ja_cons (je_var (pv 4)) (ja_nil)))))) (ja_cons (je_var (pv 3)) (ja_nil)))))) (jss_one (js_expr (je_mth (pe_bm PySem.F.plainAttrs_list PySem.F.slot_list_append PySem.F.type_list_append mj_append (je_var (pv 2)) (ja_cons (je_lst (ja_cons (je_var (pv 3)) (ja_nil))) (ja_nil))))))))))) (jss_one (js_ret (je_call (pe_callTy bj_tuple (by rfl) t.n_tuple (by decide +kernel) (ja_cons (je_call (pe_callB (bj_sortedA (Room.u66 hr)) (by rfl) t.n_sorted (by decide +kernel) (ja_cons (je_lc (tg_name (by decide)) tt_yes (pe_lc (own := [("part", 6)]) rfl sc__law_parts.nd (ji_seq (je_var (pv 2))) (blkOk_by (by kernel_rfl)) (fun _ _ _ _ _ => gnm 6 sc__law_parts.nd) (fun _ _ _ _ _ => pts_nil) (fun _ _ _ _ _ => je_call (pe_callTy bj_tuple (by rfl) t.n_tuple (by decide +kernel) (ja_cons (je_var (pv 6)) (ja_nil)))))) (ja_nil)))) (ja_nil))))))))
theorem ok__law_history (t : T K mg) : FnOk P w K mg base CX0 2 t.d__law_history.f t.d__law_history.fd ["source", "own", "most"] (spD K t.cls 3 F__law_history) :=
  okD t.d__law_history.F sc__law_history (fun cdv A outer s H E hr => jss_cons (js_if (jt_cmp (oj_eq (Room.units hr)) (je_ix (je_var (pv 1)) (je_int)) (je_tup (ja_nil)) (nomark _)) (jss_one (js_ret (je_tup (ja_nil)))) (jss_nil)) (jss_one (js_ret (je_call (pe_callTy bj_tuple (by rfl) t.n_tuple (by decide +kernel) (ja_cons (je_lc (tg_name (by decide)) tt_yes (pe_lc (own := [("turn", 3)]) rfl sc__law_history.nd (ji_rng1 (pi_range1 rfl t.n_range (pa_cons (je_fnc (al_cons (al_cons al_nil)) (pe_call (ok__law_take t) (hr.mono (by decide)) rfl (t.d__law_take.g rfl) t.d__law_take.F.kp t.d__law_take.b .nil pass0 (ja_cons (je_var (pv 0)) (ja_cons (je_bin oj_add (je_var (pv 2)) (je_int)) (ja_nil))))) pa_nil))) (blkOk_by (by kernel_rfl)) (fun _ _ _ _ _ => gnm 3 sc__law_history.nd) (fun _ _ _ _ _ => pts_nil) (fun _ _ _ _ _ => je_fnc (al_cons (al_cons al_nil)) (pe_call (ok__law_take t) (hr.mono (by decide)) rfl (t.d__law_take.g rfl) t.d__law_take.F.kp t.d__law_take.b .nil pass0 (ja_cons (je_var (pv 0)) (ja_cons (je_call (pe_callB bj_len (by rfl) t.n_len (by decide +kernel) (ja_cons (je_ix (je_var (pv 1)) (je_int)) (ja_nil)))) (ja_nil))))))) (ja_nil)))))))
theorem ok__law_is_next (t : T K mg) : FnOk P w K mg base CX0 1 t.d__law_is_next.f t.d__law_is_next.fd ["own", "one", "two"] (spD K t.cls 3 F__law_is_next) :=
  okD t.d__law_is_next.F sc__law_is_next (fun cdv A outer s H E hr => jss_one (js_ret (je_or (je_cmp (oj_inG (neg := false) rfl (Room.u65 hr)) (je_ix (je_ix (je_ix (je_var (pv 0)) (je_int)) (je_var (pv 1))) (je_int)) (je_ix (je_ix (je_var (pv 0)) (je_int)) (je_var (pv 2))) (by rfl)) (je_one (je_cmp (oj_inG (neg := false) rfl (Room.u65 hr)) (je_ix (je_ix (je_ix (je_var (pv 0)) (je_int)) (je_var (pv 1))) (je_int)) (je_ix (je_ix (je_var (pv 0)) (je_int)) (je_var (pv 2))) (by rfl))))))
theorem ok__law_pasts (t : T K mg) : FnOk P w K mg base CX0 2 t.d__law_pasts.f t.d__law_pasts.fd ["own", "history"] (spD K t.cls 2 F__law_pasts) :=
  okD t.d__law_pasts.F sc__law_pasts (fun cdv A outer s H E hr => jss_cons (js_name (pset 2 sc__law_pasts.nd (je_lst (ja_nil)))) (jss_cons (js_for (ps_for PassesOwn.never rfl (ji_rng1 (pi_range1 rfl t.n_range (pa_cons (je_call (pe_callB bj_len (by rfl) t.n_len (by decide +kernel) (ja_cons (je_var (pv 1)) (ja_nil)))) pa_nil))) (jg_name (gnm 3 sc__law_pasts.nd)) (jss_cons (js_name (pset 4 sc__law_pasts.nd (je_dnK))) (jss_cons (js_for (ps_for PassesOwn.never rfl (ji_rng1 (pi_range1 rfl t.n_range (pa_cons (je_var (pv 3)) pa_nil))) (jg_name (gnm 5 sc__law_pasts.nd)) (jss_one (js_if (jt_tru (je_fnc (al_cons (al_cons (al_cons al_nil))) (pe_call (ok__law_is_next t) (hr.mono (by decide)) rfl (t.d__law_is_next.g rfl) t.d__law_is_next.F.kp t.d__law_is_next.b .nil pass0 (ja_cons (je_var (pv 0)) (ja_cons (je_ix (je_var (pv 1)) (je_var (pv 5))) (ja_cons (je_ix (je_var (pv 1)) (je_var (pv 3))) (ja_nil))))))) (jss_cons (js_dput (ps_dput (hu_of hr) (je_var (pv 4)) (je_var (pv 5)) (je_bl) rfl)) (jss_one (js_for (ps_for PassesOwn.never rfl (ji_seq (je_ix (je_var (pv 2)) (je_var (pv 5)))) (jg_name (gnm 6 sc__law_pasts.nd)) (jss_one (js_dput (ps_dput (hu_of hr) (je_var (pv 4)) (je_var (pv 6)) (je_bl) rfl))))))) (jss_nil))))) (jss_one (js_expr (je_mth (pe_bm PySem.F.plainAttrs_list PySem.F.slot_list_append PySem.F.type_list_append mj_append (je_var (pv 2)) (ja_cons (je_call (pe_callB (bj_sortedD rfl (Room.u66 hr)) (by rfl) t.n_sorted (by decide +kernel) (ja_cons (je_var (pv 4)) (ja_nil)))) (ja_nil)))))))))) (jss_one (js_ret (je_var (pv 2))))))
theorem ok__law_made (t : T K mg) : FnOk P w K mg base CX0 9 t.d__law_made.f t.d__law_made.fd ["own"] (spD K t.cls 1 F__law_made) :=
  okD t.d__law_made.F sc__law_made (fun cdv A outer s H E hr => jss_one (js_ret (je_fnc (al_cons (al_cons (al_cons al_nil))) (pe_call (ok_house t) (hr.mono (by decide)) rfl (t.d_house.g rfl) t.d_house.F.kp t.d_house.b .nil L2.passL (ja_cons (je_ix (je_var (pv 0)) (je_int)) (ja_cons (je_ix (je_var (pv 0)) (je_int)) (ja_cons (je_ix (je_var (pv 0)) (je_int)) (ja_nil))))))))
theorem ok__law_depth (t : T K mg) : FnOk P w K mg base CX0 1 t.d__law_depth.f t.d__law_depth.fd ["pasts", "at"] (spD K t.cls 2 F__law_depth) :=
  okD t.d__law_depth.F sc__law_depth (fun cdv A outer s H E hr => jss_cons (js_name (pset 2 sc__law_depth.nd (je_lst (ja_nil)))) (jss_cons (js_for (ps_for PassesOwn.never rfl (ji_rng1 (pi_range1 rfl t.n_range (pa_cons (je_bin oj_add (je_var (pv 1)) (je_int)) pa_nil))) (jg_name (gnm 3 sc__law_depth.nd)) (jss_one (js_expr (je_mth (pe_bm PySem.F.plainAttrs_list PySem.F.slot_list_append PySem.F.type_list_append mj_append (je_var (pv 2)) (ja_cons (je_bin oj_add (je_int) (je_call (pe_callB (bj_max rfl) (by rfl) t.n_max (by decide +kernel) (ja_cons (je_bin oj_add (je_lst (ja_cons (je_int) (ja_nil))) (je_lc (tg_name (by decide)) tt_yes (pe_lc (own := [("j", 4)]) rfl sc__law_depth.nd (ji_seq (je_ix (je_var (pv 0)) (je_var (pv 3)))) (blkOk_by (by kernel_rfl)) (fun _ _ _ _ _ => gnm 4 sc__law_depth.nd) (fun _ _ _ _ _ => pts_nil) (fun _ _ _ _ _ => je_ix (je_var (pv 2)) (je_var (pv 4)))))) (ja_nil))))) (ja_nil)))))))) (jss_one (js_ret (je_ix (je_var (pv 2)) (je_var (pv 1)))))))
theorem ok__law_first (t : T K mg) : FnOk P w K mg base CX0 1 t.d__law_first.f t.d__law_first.fd ["pasts"] (spD K t.cls 1 F__law_first) :=
  okD t.d__law_first.F sc__law_first (fun cdv A outer s H E hr => jss_cons (js_for (ps_for PassesOwn.never rfl (ji_rng1 (pi_range1 rfl t.n_range (pa_cons (je_call (pe_callB bj_len (by rfl) t.n_len (by decide +kernel) (ja_cons (je_var (pv 0)) (ja_nil)))) pa_nil))) (jg_name (gnm 1 sc__law_first.nd)) (jss_one (js_for (ps_for PassesOwn.never rfl (ji_rng2 (pi_range2 rfl t.n_range (pa_cons (je_bin oj_add (je_var (pv 1)) (je_int)) (pa_cons (je_call (pe_callB bj_len (by rfl) t.n_len (by decide +kernel) (ja_cons (je_var (pv 0)) (ja_nil)))) pa_nil)))) (jg_name (gnm 2 sc__law_first.nd)) (jss_one (js_if (jt_cmp (oj_inG (neg := true) rfl (Room.u65 hr)) (je_var (pv 1)) (je_ix (je_var (pv 0)) (je_var (pv 2))) (by rfl)) (jss_one (js_ret (je_tup (ja_cons (je_var (pv 1)) (ja_cons (je_var (pv 2)) (ja_nil)))))) (jss_nil)))))))) (jss_one (js_ret (je_non))))
theorem ok__law_right (t : T K mg) : FnOk P w K mg base CX0 10 t.d__law_right.f t.d__law_right.fd ["own", "history", "pasts"] (spD K t.cls 3 F__law_right_v3) :=
  okD t.d__law_right.F sc__law_right (fun cdv A outer s H E hr => jss_cons (js_name (pset 3 sc__law_right.nd (je_fnc (al_cons al_nil) (pe_call (ok__law_made t) (hr.mono (by decide)) rfl (t.d__law_made.g rfl) t.d__law_made.F.kp t.d__law_made.b .nil pass0 (ja_cons (je_var (pv 0)) (ja_nil)))))) (jss_cons (js_name (pset 4 sc__law_right.nd (je_fnK0 (al_cons (al_cons al_nil)) rfl (pe_callN0 (ks := ["history", "house"]) (ok_marks t) (hr.mono (by decide)) rfl (t.d_marks.g rfl) t.d_marks.F.kp (t.d_marks.F.kbn 0 ["history", "house"] [1, 0] (fun _ _ _ _ _ _ us ws h1 h2 => match us, ws, h1, h2 with | [], [_, _], _, _ => rfl)) L2.passL (jk_cons (je_var (pv 1)) (jk_cons (je_var (pv 3)) (jk_nil))))))) (jss_cons (js_for (ps_for PassesOwn.never rfl (ji_rng1 (pi_range1 rfl t.n_range (pa_cons (je_call (pe_callB bj_len (by rfl) t.n_len (by decide +kernel) (ja_cons (je_var (pv 1)) (ja_nil)))) pa_nil))) (jg_name (gnm 5 sc__law_right.nd)) (jss_cons (js_if (JW.pt (jw_or (jt_cmp (oj_ne (Room.units hr)) (je_fnc (al_cons (al_cons (al_cons al_nil))) (pe_call (ok_past t) (hr.mono (by decide)) rfl (t.d_past.g rfl) t.d_past.F.kp t.d_past.b .nil L2.passL (ja_cons (je_var (pv 3)) (ja_cons (je_var (pv 1)) (ja_cons (je_var (pv 5)) (ja_nil)))))) (je_call (pe_callTy bj_tuple (by rfl) t.n_tuple (by decide +kernel) (ja_cons (je_ix (je_var (pv 2)) (je_var (pv 5))) (ja_nil)))) (nomark _)) (jw_or1 (jt_cmp (oj_ne (Room.units hr)) (je_fnc (al_cons (al_cons (al_cons al_nil))) (pe_call (ok_depth t) (hr.mono (by decide)) rfl (t.d_depth.g rfl) t.d_depth.F.kp t.d_depth.b .nil L2.passL (ja_cons (je_var (pv 3)) (ja_cons (je_var (pv 1)) (ja_cons (je_var (pv 5)) (ja_nil)))))) (je_fnc (al_cons (al_cons al_nil)) (pe_call (ok__law_depth t) (hr.mono (by decide)) rfl (t.d__law_depth.g rfl) t.d__law_depth.F.kp t.d__law_depth.b .nil pass0 (ja_cons (je_var (pv 2)) (ja_cons (je_var (pv 5)) (ja_nil))))) (nomark _))))) (jss_one (js_ret (je_bl))) (jss_nil)) (jss_one (js_for (ps_for PassesOwn.never rfl (ji_rng1 (pi_range1 rfl t.n_range (pa_cons (je_call (pe_callB bj_len (by rfl) t.n_len (by decide +kernel) (ja_cons (je_var (pv 1)) (ja_nil)))) pa_nil))) (jg_name (gnm 6 sc__law_right.nd)) (jss_one (js_if (jt_cmp (oj_ne (Room.units hr)) (je_fnc (al_cons (al_cons al_nil)) (pe_call (ok_ahead t) (hr.mono (by decide)) rfl (t.d_ahead.g rfl) t.d_ahead.F.kp t.d_ahead.b .nil L2.passL (ja_cons (je_ix (je_var (pv 4)) (je_var (pv 6))) (ja_cons (je_ix (je_var (pv 4)) (je_var (pv 5))) (ja_nil))))) (je_cmp (oj_inG (neg := false) rfl (Room.u65 hr)) (je_var (pv 6)) (je_ix (je_var (pv 2)) (je_var (pv 5))) (by rfl)) (nomark _)) (jss_one (js_ret (je_bl))) (jss_nil))))))))) (jss_one (js_ret (je_cmp (oj_eq (Room.units hr)) (je_fnc (al_cons (al_cons al_nil)) (pe_call (ok_first_beside t) (hr.mono (by decide)) rfl (t.d_first_beside.g rfl) t.d_first_beside.F.kp t.d_first_beside.b .nil L2.passL (ja_cons (je_var (pv 3)) (ja_cons (je_var (pv 1)) (ja_nil))))) (je_fnc (al_cons al_nil) (pe_call (ok__law_first t) (hr.mono (by decide)) rfl (t.d__law_first.g rfl) t.d__law_first.F.kp t.d__law_first.b .nil pass0 (ja_cons (je_var (pv 2)) (ja_nil)))) (nomark _)))))))
theorem ok_law (t : T K mg) : FnOk P w K mg base CX0 11 t.d_law.f t.d_law.fd ["script"] (spD K t.cls 1 F_law_k18) :=
  okD t.d_law.F sc_law (fun cdv A outer s H E hr => jss_cons (js_name (pset 1 sc_law.nd (je_fnc (al_cons (al_cons al_nil)) (pe_call (ok__law_pool t) (hr.mono (by decide)) rfl (t.d__law_pool.g rfl) t.d__law_pool.F.kp t.d__law_pool.b .nil pass0 (ja_cons (je_var (pv 0)) (ja_cons (je_int) (ja_nil))))))) (jss_cons (js_for (ps_for PassesOwn.never rfl (ji_rng1 (pi_range1 rfl t.n_range (pa_cons (je_int) pa_nil))) (jg_name (gnm 2 sc_law.nd)) (jss_cons (js_asg (ps_asg (je_fnc (al_cons (al_cons al_nil)) (pe_call (ok__law_web t) (hr.mono (by decide)) rfl (t.d__law_web.g rfl) t.d__law_web.F.kp t.d__law_web.b .nil pass0 (ja_cons (je_var (pv 1)) (ja_cons (je_lst (ja_cons (je_int) (ja_cons (je_int) (ja_cons (je_int) (ja_cons (je_int) (ja_cons (je_int) (ja_cons (je_int) (ja_cons (je_int) (ja_nil))))))))) (ja_nil))))) (jg_tup (pg_tup rfl (jgs_cons (pgs_cons (jg_name (gnm 3 sc_law.nd)) (jgs_cons (pgs_cons (jg_name (gnm 4 sc_law.nd)) (jgs_nil))))))))) (jss_cons (js_name (pset 5 sc_law.nd (je_call (pe_callTy bj_tuple (by rfl) t.n_tuple (by decide +kernel) (ja_cons (je_lc (tg_name (by decide)) tt_yes (pe_lc (own := [("road", 9)]) rfl sc_law.nd (ji_rng1 (pi_range1 rfl t.n_range (pa_cons (je_call (pe_callB bj_len (by rfl) t.n_len (by decide +kernel) (ja_cons (je_var (pv 4)) (ja_nil)))) pa_nil))) (blkOk_by (by kernel_rfl)) (fun _ _ _ _ _ => gnm 9 sc_law.nd) (fun _ _ _ _ _ => pts_nil) (fun _ _ _ _ _ => je_tup (ja_cons (je_var (pv 9)) (ja_nil))))) (ja_nil)))))) (jss_cons (js_name (pset 6 sc_law.nd (je_fnc (al_cons (al_cons (al_cons al_nil))) (pe_call (ok__law_history t) (hr.mono (by decide)) rfl (t.d__law_history.g rfl) t.d__law_history.F.kp t.d__law_history.b .nil pass0 (ja_cons (je_var (pv 1)) (ja_cons (je_tup (ja_cons (je_var (pv 3)) (ja_cons (je_var (pv 4)) (ja_cons (je_var (pv 5)) (ja_nil))))) (ja_cons (je_int) (ja_nil)))))))) (jss_cons (js_name (pset 7 sc_law.nd (je_fnc (al_cons (al_cons al_nil)) (pe_call (ok__law_pasts t) (hr.mono (by decide)) rfl (t.d__law_pasts.g rfl) t.d__law_pasts.F.kp t.d__law_pasts.b .nil pass0 (ja_cons (je_tup (ja_cons (je_var (pv 3)) (ja_cons (je_var (pv 4)) (ja_cons (je_var (pv 5)) (ja_nil))))) (ja_cons (je_var (pv 6)) (ja_nil))))))) (jss_one (js_for (ps_for PassesOwn.never rfl (ji_seq (je_lst (ja_cons (je_fnc (al_cons (al_cons al_nil)) (pe_call (ok__law_parts t) (hr.mono (by decide)) rfl (t.d__law_parts.g rfl) t.d__law_parts.F.kp t.d__law_parts.b .nil pass0 (ja_cons (je_var (pv 1)) (ja_cons (je_var (pv 4)) (ja_nil))))) (ja_cons (je_fnc (al_cons (al_cons al_nil)) (pe_call (ok__law_one t) (hr.mono (by decide)) rfl (t.d__law_one.g rfl) t.d__law_one.F.kp t.d__law_one.b .nil pass0 (ja_cons (je_var (pv 1)) (ja_cons (je_lst (ja_cons (je_var (pv 5)) (ja_cons (je_fnc (al_cons (al_cons al_nil)) (pe_call (ok__law_parts t) (hr.mono (by decide)) rfl (t.d__law_parts.g rfl) t.d__law_parts.F.kp t.d__law_parts.b .nil pass0 (ja_cons (je_var (pv 1)) (ja_cons (je_var (pv 4)) (ja_nil))))) (ja_nil)))) (ja_nil))))) (ja_nil))))) (jg_name (gnm 8 sc_law.nd)) (jss_one (js_if (jt_not (jt_tru (je_fnc (al_cons (al_cons (al_cons al_nil))) (pe_call (ok__law_right t) (hr.mono (by decide)) rfl (t.d__law_right.g rfl) t.d__law_right.F.kp t.d__law_right.b .nil pass0 (ja_cons (je_tup (ja_cons (je_var (pv 3)) (ja_cons (je_var (pv 4)) (ja_cons (je_var (pv 8)) (ja_nil))))) (ja_cons (je_var (pv 6)) (ja_cons (je_var (pv 7)) (ja_nil)))))))) (jss_one (js_ret (je_bl))) (jss_nil)))))))))))) (jss_one (js_ret (je_bl)))))
end
end Lk18
set_option Elab.async false
set_option linter.all false
set_option maxRecDepth 100000
namespace Lk18
open PySem PySem.Spec PyProof.Rows PySem.HandSPX PySem.W PySem.Calls L2 DL
set_option maxHeartbeats 0 in
theorem all_mk {l : PySem.W.OpenLaw} {w : World} {K : PySem.W.Frag} {h : Heap} {mg : Str → Option Value} {fa f0 f1 f2 f3 f4 f5 f6 f7 f8 f9 f10 f11 f12 f13 f14 f15 f16 f17 f18 f19 f20 f21 f22 f23 f24 f25 f26 f27 f28 f29 f30 f31 f32 f33 f34 f35 f36 f37 f38 f39 f40 f41 f42 f43 f44 f45 f46 C EBadSize EBadRoad EBadPart EBadMeeting EBadMark ETooMany : Addr} (X : K.In h) (G : h.Ns mainGlobals mg) (hfa : mg "law" = some (.ref fa)) (good : Good Y.F_law_k18)
    {od0 an0 od1 an1 od2 an2 od3 an3 od4 an4 od5 an5 od6 an6 od7 an7 od8 an8 od9 an9 od10 an10 od11 an11 od12 an12 od13 an13 od14 an14 od15 an15 od16 an16 od17 an17 od18 an18 od19 an19 od20 an20 od21 an21 od22 an22 od23 an23 od24 an24 od25 an25 od26 an26 od27 an27 od28 an28 od29 an29 od30 an30 od31 an31 od32 an32 od33 an33 od34 an34 od35 an35 od36 an36 od37 an37 od38 an38 od39 an39 od40 an40 od41 an41 od42 an42 od43 an43 od44 an44 od45 an45 od46 an46 ddBadSize ddBadRoad ddBadPart ddBadMeeting ddBadMark ddTooMany : Option Addr} {sl0 sl1 sl2 sl3 sl4 sl5 sl6 sl7 sl8 sl9 sl10 sl11 sl12 sl13 sl14 sl15 sl16 sl17 sl18 sl19 sl20 sl21 sl22 sl23 sl24 sl25 sl26 sl27 sl28 sl29 sl30 sl31 sl32 sl33 sl34 sl35 sl36 sl37 sl38 sl39 sl40 sl41 sl42 sl43 sl44 sl45 sl46 : Array (Option Value)} {oc0 kV0 dc0 pm0 cd0 ct0 oc1 kV1 dc1 pm1 cd1 ct1 oc2 kV2 dc2 pm2 cd2 ct2 oc3 kV3 dc3 pm3 cd3 ct3 oc4 kV4 dc4 pm4 cd4 ct4 oc5 kV5 dc5 pm5 cd5 ct5 oc6 kV6 dc6 pm6 cd6 ct6 oc7 kV7 dc7 pm7 cd7 ct7 oc8 kV8 dc8 pm8 cd8 ct8 oc9 kV9 dc9 pm9 cd9 ct9 oc10 kV10 dc10 pm10 cd10 ct10 oc11 kV11 dc11 pm11 cd11 ct11 oc12 kV12 dc12 pm12 cd12 ct12 oc13 kV13 dc13 pm13 cd13 ct13 oc14 kV14 dc14 pm14 cd14 ct14 oc15 kV15 dc15 pm15 cd15 ct15 oc16 kV16 dc16 pm16 cd16 ct16 oc17 kV17 dc17 pm17 cd17 ct17 oc18 kV18 dc18 pm18 cd18 ct18 oc19 kV19 dc19 pm19 cd19 ct19 oc20 kV20 dc20 pm20 cd20 ct20 oc21 kV21 dc21 pm21 cd21 ct21 oc22 kV22 dc22 pm22 cd22 ct22 oc23 kV23 dc23 pm23 cd23 ct23 oc24 kV24 dc24 pm24 cd24 ct24 oc25 kV25 dc25 pm25 cd25 ct25 oc26 kV26 dc26 pm26 cd26 ct26 oc27 kV27 dc27 pm27 cd27 ct27 oc28 kV28 dc28 pm28 cd28 ct28 oc29 kV29 dc29 pm29 cd29 ct29 oc30 kV30 dc30 pm30 cd30 ct30 oc31 kV31 dc31 pm31 cd31 ct31 oc32 kV32 dc32 pm32 cd32 ct32 oc33 kV33 dc33 pm33 cd33 ct33 oc34 kV34 dc34 pm34 cd34 ct34 oc35 kV35 dc35 pm35 cd35 ct35 oc36 kV36 dc36 pm36 cd36 ct36 oc37 kV37 dc37 pm37 cd37 ct37 oc38 kV38 dc38 pm38 cd38 ct38 oc39 kV39 dc39 pm39 cd39 ct39 oc40 kV40 dc40 pm40 cd40 ct40 oc41 kV41 dc41 pm41 cd41 ct41 oc42 kV42 dc42 pm42 cd42 ct42 oc43 kV43 dc43 pm43 cd43 ct43 oc44 kV44 dc44 pm44 cd44 ct44 oc45 kV45 dc45 pm45 cd45 ct45 oc46 kV46 dc46 pm46 cd46 ct46 : Value} {tk_MOST_MEETINGS tk_MOST_HANDS : Tok} {nmBadSize qBadSize : Str} {NBadSize : Addr} {bsBadSize subBadSize : List Value} {snBadSize : List Str} {abBadSize : Bool} {colBadSize : Option Bool} {k0BadSize k1BadSize k2BadSize k3BadSize k5BadSize : Option Value} {nmBadRoad qBadRoad : Str} {NBadRoad : Addr} {bsBadRoad subBadRoad : List Value} {snBadRoad : List Str} {abBadRoad : Bool} {colBadRoad : Option Bool} {k0BadRoad k1BadRoad k2BadRoad k3BadRoad k5BadRoad : Option Value} {nmBadPart qBadPart : Str} {NBadPart : Addr} {bsBadPart subBadPart : List Value} {snBadPart : List Str} {abBadPart : Bool} {colBadPart : Option Bool} {k0BadPart k1BadPart k2BadPart k3BadPart k5BadPart : Option Value} {nmBadMeeting qBadMeeting : Str} {NBadMeeting : Addr} {bsBadMeeting subBadMeeting : List Value} {snBadMeeting : List Str} {abBadMeeting : Bool} {colBadMeeting : Option Bool} {k0BadMeeting k1BadMeeting k2BadMeeting k3BadMeeting k5BadMeeting : Option Value} {nmBadMark qBadMark : Str} {NBadMark : Addr} {bsBadMark subBadMark : List Value} {snBadMark : List Str} {abBadMark : Bool} {colBadMark : Option Bool} {k0BadMark k1BadMark k2BadMark k3BadMark k5BadMark : Option Value} {nmTooMany qTooMany : Str} {NTooMany : Addr} {bsTooMany subTooMany : List Value} {snTooMany : List Str} {abTooMany : Bool} {colTooMany : Option Bool} {k0TooMany k1TooMany k2TooMany k3TooMany k5TooMany : Option Value}
    (nBadSize : PySem.W.nsIn K mainGlobals "BadSize" = some (some (.ref EBadSize)))
    (nBadRoad : PySem.W.nsIn K mainGlobals "BadRoad" = some (some (.ref EBadRoad)))
    (nBadPart : PySem.W.nsIn K mainGlobals "BadPart" = some (some (.ref EBadPart)))
    (nBadMeeting : PySem.W.nsIn K mainGlobals "BadMeeting" = some (some (.ref EBadMeeting)))
    (nBadMark : PySem.W.nsIn K mainGlobals "BadMark" = some (some (.ref EBadMark)))
    (nTooMany : PySem.W.nsIn K mainGlobals "TooMany" = some (some (.ref ETooMany)))
    (inBadSize : PySem.W.findIn K (.ref EBadSize) "__init__" = some (some (.ref f7)))
    (aC : PySem.W.nsIn K mainGlobals "House" = some (some (.ref C)))
    (a0 : PySem.W.nsIn K mainGlobals "is_number" = some (some (.ref f0)))
    (l0 : K.lookup f0 = some ⟨oc0, od0, .func (PySem.W.fnOf "is_number" "is_number" (defArgs s_is_number) (defBody s_is_number) (defScope s_is_number) .none kV0 dc0 pm0 an0 cd0 ct0), sl0⟩)
    (c0 : PySem.W.codeIn K cd0 "is_number" = true)
    (k0 : PySem.W.keepIn K (.ref f0) = true)
    (a1 : PySem.W.nsIn K mainGlobals "is_index" = some (some (.ref f1)))
    (l1 : K.lookup f1 = some ⟨oc1, od1, .func (PySem.W.fnOf "is_index" "is_index" (defArgs s_is_index) (defBody s_is_index) (defScope s_is_index) .none kV1 dc1 pm1 an1 cd1 ct1), sl1⟩)
    (c1 : PySem.W.codeIn K cd1 "is_index" = true)
    (k1 : PySem.W.keepIn K (.ref f1) = true)
    (a2 : PySem.W.nsIn K mainGlobals "is_pair" = some (some (.ref f2)))
    (l2 : K.lookup f2 = some ⟨oc2, od2, .func (PySem.W.fnOf "is_pair" "is_pair" (defArgs s_is_pair) (defBody s_is_pair) (defScope s_is_pair) .none kV2 dc2 pm2 an2 cd2 ct2), sl2⟩)
    (c2 : PySem.W.codeIn K cd2 "is_pair" = true)
    (k2 : PySem.W.keepIn K (.ref f2) = true)
    (a3 : PySem.W.nsIn K mainGlobals "bad_rise" = some (some (.ref f3)))
    (l3 : K.lookup f3 = some ⟨oc3, od3, .func (PySem.W.fnOf "bad_rise" "bad_rise" (defArgs s_bad_rise) (defBody s_bad_rise) (defScope s_bad_rise) .none kV3 dc3 pm3 an3 cd3 ct3), sl3⟩)
    (c3 : PySem.W.codeIn K cd3 "bad_rise" = true)
    (k3 : PySem.W.keepIn K (.ref f3) = true)
    (a4 : PySem.W.nsIn K mainGlobals "is_rising" = some (some (.ref f4)))
    (l4 : K.lookup f4 = some ⟨oc4, od4, .func (PySem.W.fnOf "is_rising" "is_rising" (defArgs s_is_rising) (defBody s_is_rising) (defScope s_is_rising) .none kV4 dc4 pm4 an4 cd4 ct4), sl4⟩)
    (c4 : PySem.W.codeIn K cd4 "is_rising" = true)
    (k4 : PySem.W.keepIn K (.ref f4) = true)
    (a5 : PySem.W.nsIn K mainGlobals "is_mark" = some (some (.ref f5)))
    (l5 : K.lookup f5 = some ⟨oc5, od5, .func (PySem.W.fnOf "is_mark" "is_mark" (defArgs s_is_mark) (defBody s_is_mark) (defScope s_is_mark) .none kV5 dc5 pm5 an5 cd5 ct5), sl5⟩)
    (c5 : PySem.W.codeIn K cd5 "is_mark" = true)
    (k5 : PySem.W.keepIn K (.ref f5) = true)
    (a6 : PySem.W.nsIn K mainGlobals "bad_meeting" = some (some (.ref f6)))
    (l6 : K.lookup f6 = some ⟨oc6, od6, .func (PySem.W.fnOf "bad_meeting" "bad_meeting" (defArgs s_bad_meeting) (defBody s_bad_meeting) (defScope s_bad_meeting) .none kV6 dc6 pm6 an6 cd6 ct6), sl6⟩)
    (c6 : PySem.W.codeIn K cd6 "bad_meeting" = true)
    (k6 : PySem.W.keepIn K (.ref f6) = true)
    (l7 : K.lookup f7 = some ⟨oc7, od7, .func (PySem.W.fnOf "__init__" "Refused.__init__" (defArgs s_Refused___init__) (defBody s_Refused___init__) (defScope s_Refused___init__) .none kV7 dc7 pm7 an7 cd7 ct7), sl7⟩)
    (c7 : PySem.W.codeIn K cd7 "Refused.__init__" = true)
    (k7 : PySem.W.keepIn K (.ref f7) = true)
    (a8 : PySem.W.nsIn K mainGlobals "check_history" = some (some (.ref f8)))
    (l8 : K.lookup f8 = some ⟨oc8, od8, .func (PySem.W.fnOf "check_history" "check_history" (defArgs s_check_history) (defBody s_check_history) (defScope s_check_history) .none kV8 dc8 pm8 an8 cd8 ct8), sl8⟩)
    (c8 : PySem.W.codeIn K cd8 "check_history" = true)
    (k8 : PySem.W.keepIn K (.ref f8) = true)
    (a9 : PySem.W.nsIn K mainGlobals "is_size" = some (some (.ref f9)))
    (l9 : K.lookup f9 = some ⟨oc9, od9, .func (PySem.W.fnOf "is_size" "is_size" (defArgs s_is_size) (defBody s_is_size) (defScope s_is_size) .none kV9 dc9 pm9 an9 cd9 ct9), sl9⟩)
    (c9 : PySem.W.codeIn K cd9 "is_size" = true)
    (k9 : PySem.W.keepIn K (.ref f9) = true)
    (a10 : PySem.W.nsIn K mainGlobals "is_road" = some (some (.ref f10)))
    (l10 : K.lookup f10 = some ⟨oc10, od10, .func (PySem.W.fnOf "is_road" "is_road" (defArgs s_is_road) (defBody s_is_road) (defScope s_is_road) .none kV10 dc10 pm10 an10 cd10 ct10), sl10⟩)
    (c10 : PySem.W.codeIn K cd10 "is_road" = true)
    (k10 : PySem.W.keepIn K (.ref f10) = true)
    (a11 : PySem.W.nsIn K mainGlobals "road_fits" = some (some (.ref f11)))
    (l11 : K.lookup f11 = some ⟨oc11, od11, .func (PySem.W.fnOf "road_fits" "road_fits" (defArgs s_road_fits) (defBody s_road_fits) (defScope s_road_fits) .none kV11 dc11 pm11 an11 cd11 ct11), sl11⟩)
    (c11 : PySem.W.codeIn K cd11 "road_fits" = true)
    (k11 : PySem.W.keepIn K (.ref f11) = true)
    (a12 : PySem.W.nsIn K mainGlobals "bad_road" = some (some (.ref f12)))
    (l12 : K.lookup f12 = some ⟨oc12, od12, .func (PySem.W.fnOf "bad_road" "bad_road" (defArgs s_bad_road) (defBody s_bad_road) (defScope s_bad_road) .none kV12 dc12 pm12 an12 cd12 ct12), sl12⟩)
    (c12 : PySem.W.codeIn K cd12 "bad_road" = true)
    (k12 : PySem.W.keepIn K (.ref f12) = true)
    (a13 : PySem.W.nsIn K mainGlobals "check_web" = some (some (.ref f13)))
    (l13 : K.lookup f13 = some ⟨oc13, od13, .func (PySem.W.fnOf "check_web" "check_web" (defArgs s_check_web) (defBody s_check_web) (defScope s_check_web) .none kV13 dc13 pm13 an13 cd13 ct13), sl13⟩)
    (c13 : PySem.W.codeIn K cd13 "check_web" = true)
    (k13 : PySem.W.keepIn K (.ref f13) = true)
    (a14 : PySem.W.nsIn K mainGlobals "is_star" = some (some (.ref f14)))
    (l14 : K.lookup f14 = some ⟨oc14, od14, .func (PySem.W.fnOf "is_star" "is_star" (defArgs s_is_star) (defBody s_is_star) (defScope s_is_star) .none kV14 dc14 pm14 an14 cd14 ct14), sl14⟩)
    (c14 : PySem.W.codeIn K cd14 "is_star" = true)
    (k14 : PySem.W.keepIn K (.ref f14) = true)
    (a15 : PySem.W.nsIn K mainGlobals "is_triangle" = some (some (.ref f15)))
    (l15 : K.lookup f15 = some ⟨oc15, od15, .func (PySem.W.fnOf "is_triangle" "is_triangle" (defArgs s_is_triangle) (defBody s_is_triangle) (defScope s_is_triangle) .none kV15 dc15 pm15 an15 cd15 ct15), sl15⟩)
    (c15 : PySem.W.codeIn K cd15 "is_triangle" = true)
    (k15 : PySem.W.keepIn K (.ref f15) = true)
    (a16 : PySem.W.nsIn K mainGlobals "is_part" = some (some (.ref f16)))
    (l16 : K.lookup f16 = some ⟨oc16, od16, .func (PySem.W.fnOf "is_part" "is_part" (defArgs s_is_part) (defBody s_is_part) (defScope s_is_part) .none kV16 dc16 pm16 an16 cd16 ct16), sl16⟩)
    (c16 : PySem.W.codeIn K cd16 "is_part" = true)
    (k16 : PySem.W.keepIn K (.ref f16) = true)
    (a17 : PySem.W.nsIn K mainGlobals "part_fits" = some (some (.ref f17)))
    (l17 : K.lookup f17 = some ⟨oc17, od17, .func (PySem.W.fnOf "part_fits" "part_fits" (defArgs s_part_fits) (defBody s_part_fits) (defScope s_part_fits) .none kV17 dc17 pm17 an17 cd17 ct17), sl17⟩)
    (c17 : PySem.W.codeIn K cd17 "part_fits" = true)
    (k17 : PySem.W.keepIn K (.ref f17) = true)
    (a18 : PySem.W.nsIn K mainGlobals "all_taken" = some (some (.ref f18)))
    (l18 : K.lookup f18 = some ⟨oc18, od18, .func (PySem.W.fnOf "all_taken" "all_taken" (defArgs s_all_taken) (defBody s_all_taken) (defScope s_all_taken) .none kV18 dc18 pm18 an18 cd18 ct18), sl18⟩)
    (c18 : PySem.W.codeIn K cd18 "all_taken" = true)
    (k18 : PySem.W.keepIn K (.ref f18) = true)
    (a19 : PySem.W.nsIn K mainGlobals "bad_part" = some (some (.ref f19)))
    (l19 : K.lookup f19 = some ⟨oc19, od19, .func (PySem.W.fnOf "bad_part" "bad_part" (defArgs s_bad_part) (defBody s_bad_part) (defScope s_bad_part) .none kV19 dc19 pm19 an19 cd19 ct19), sl19⟩)
    (c19 : PySem.W.codeIn K cd19 "bad_part" = true)
    (k19 : PySem.W.keepIn K (.ref f19) = true)
    (a20 : PySem.W.findIn K (.ref C) "__init__" = some (some (.ref f20)))
    (i20 : PySem.W.isFn K (.ref f20) = true)
    (l20 : K.lookup f20 = some ⟨oc20, od20, .func (PySem.W.fnOf "__init__" "House.__init__" (defArgs s_House___init__) (defBody s_House___init__) (defScope s_House___init__) .none kV20 dc20 pm20 an20 cd20 ct20), sl20⟩)
    (c20 : PySem.W.codeIn K cd20 "House.__init__" = true)
    (k20 : PySem.W.keepIn K (.ref f20) = true)
    (a21 : PySem.W.nsIn K mainGlobals "house" = some (some (.ref f21)))
    (l21 : K.lookup f21 = some ⟨oc21, od21, .func (PySem.W.fnOf "house" "house" (defArgs s_house) (defBody s_house) (defScope s_house) .none kV21 dc21 pm21 an21 cd21 ct21), sl21⟩)
    (c21 : PySem.W.codeIn K cd21 "house" = true)
    (k21 : PySem.W.keepIn K (.ref f21) = true)
    (a22 : PySem.W.nsIn K mainGlobals "part_of" = some (some (.ref f22)))
    (l22 : K.lookup f22 = some ⟨oc22, od22, .func (PySem.W.fnOf "part_of" "part_of" (defArgs s_part_of) (defBody s_part_of) (defScope s_part_of) .none kV22 dc22 pm22 an22 cd22 ct22), sl22⟩)
    (c22 : PySem.W.codeIn K cd22 "part_of" = true)
    (k22 : PySem.W.keepIn K (.ref f22) = true)
    (a23 : PySem.W.nsIn K mainGlobals "at_most" = some (some (.ref f23)))
    (l23 : K.lookup f23 = some ⟨oc23, od23, .func (PySem.W.fnOf "at_most" "at_most" (defArgs s_at_most) (defBody s_at_most) (defScope s_at_most) .none kV23 dc23 pm23 an23 cd23 ct23), sl23⟩)
    (c23 : PySem.W.codeIn K cd23 "at_most" = true)
    (k23 : PySem.W.keepIn K (.ref f23) = true)
    (a24 : PySem.W.nsIn K mainGlobals "greater" = some (some (.ref f24)))
    (l24 : K.lookup f24 = some ⟨oc24, od24, .func (PySem.W.fnOf "greater" "greater" (defArgs s_greater) (defBody s_greater) (defScope s_greater) .none kV24 dc24 pm24 an24 cd24 ct24), sl24⟩)
    (c24 : PySem.W.codeIn K cd24 "greater" = true)
    (k24 : PySem.W.keepIn K (.ref f24) = true)
    (a25 : PySem.W.nsIn K mainGlobals "made_mark" = some (some (.ref f25)))
    (l25 : K.lookup f25 = some ⟨oc25, od25, .func (PySem.W.fnOf "made_mark" "made_mark" (defArgs s_made_mark) (defBody s_made_mark) (defScope s_made_mark) .none kV25 dc25 pm25 an25 cd25 ct25), sl25⟩)
    (c25 : PySem.W.codeIn K cd25 "made_mark" = true)
    (k25 : PySem.W.keepIn K (.ref f25) = true)
    (a26 : PySem.W.nsIn K mainGlobals "marks_and_clocks" = some (some (.ref f26)))
    (l26 : K.lookup f26 = some ⟨oc26, od26, .func (PySem.W.fnOf "marks_and_clocks" "marks_and_clocks" (defArgs s_marks_and_clocks) (defBody s_marks_and_clocks) (defScope s_marks_and_clocks) .none kV26 dc26 pm26 an26 cd26 ct26), sl26⟩)
    (c26 : PySem.W.codeIn K cd26 "marks_and_clocks" = true)
    (k26 : PySem.W.keepIn K (.ref f26) = true)
    (a27 : PySem.W.nsIn K mainGlobals "marks" = some (some (.ref f27)))
    (l27 : K.lookup f27 = some ⟨oc27, od27, .func (PySem.W.fnOf "marks" "marks" (defArgs s_marks) (defBody s_marks) (defScope s_marks) .none kV27 dc27 pm27 an27 cd27 ct27), sl27⟩)
    (c27 : PySem.W.codeIn K cd27 "marks" = true)
    (k27 : PySem.W.keepIn K (.ref f27) = true)
    (a28 : PySem.W.nsIn K mainGlobals "ahead" = some (some (.ref f28)))
    (l28 : K.lookup f28 = some ⟨oc28, od28, .func (PySem.W.fnOf "ahead" "ahead" (defArgs s_ahead) (defBody s_ahead) (defScope s_ahead) .none kV28 dc28 pm28 an28 cd28 ct28), sl28⟩)
    (c28 : PySem.W.codeIn K cd28 "ahead" = true)
    (k28 : PySem.W.keepIn K (.ref f28) = true)
    (a29 : PySem.W.nsIn K mainGlobals "check_index" = some (some (.ref f29)))
    (l29 : K.lookup f29 = some ⟨oc29, od29, .func (PySem.W.fnOf "check_index" "check_index" (defArgs s_check_index) (defBody s_check_index) (defScope s_check_index) .none kV29 dc29 pm29 an29 cd29 ct29), sl29⟩)
    (c29 : PySem.W.codeIn K cd29 "check_index" = true)
    (k29 : PySem.W.keepIn K (.ref f29) = true)
    (a30 : PySem.W.nsIn K mainGlobals "past" = some (some (.ref f30)))
    (l30 : K.lookup f30 = some ⟨oc30, od30, .func (PySem.W.fnOf "past" "past" (defArgs s_past) (defBody s_past) (defScope s_past) .none kV30 dc30 pm30 an30 cd30 ct30), sl30⟩)
    (c30 : PySem.W.codeIn K cd30 "past" = true)
    (k30 : PySem.W.keepIn K (.ref f30) = true)
    (a31 : PySem.W.nsIn K mainGlobals "depth" = some (some (.ref f31)))
    (l31 : K.lookup f31 = some ⟨oc31, od31, .func (PySem.W.fnOf "depth" "depth" (defArgs s_depth) (defBody s_depth) (defScope s_depth) .none kV31 dc31 pm31 an31 cd31 ct31), sl31⟩)
    (c31 : PySem.W.codeIn K cd31 "depth" = true)
    (k31 : PySem.W.keepIn K (.ref f31) = true)
    (a32 : PySem.W.nsIn K mainGlobals "first_beside" = some (some (.ref f32)))
    (l32 : K.lookup f32 = some ⟨oc32, od32, .func (PySem.W.fnOf "first_beside" "first_beside" (defArgs s_first_beside) (defBody s_first_beside) (defScope s_first_beside) .none kV32 dc32 pm32 an32 cd32 ct32), sl32⟩)
    (c32 : PySem.W.codeIn K cd32 "first_beside" = true)
    (k32 : PySem.W.keepIn K (.ref f32) = true)
    (a33 : PySem.W.nsIn K mainGlobals "_law_pool" = some (some (.ref f33)))
    (l33 : K.lookup f33 = some ⟨oc33, od33, .func (PySem.W.fnOf "_law_pool" "_law_pool" (defArgs s__law_pool) (defBody s__law_pool) (defScope s__law_pool) .none kV33 dc33 pm33 an33 cd33 ct33), sl33⟩)
    (c33 : PySem.W.codeIn K cd33 "_law_pool" = true)
    (k33 : PySem.W.keepIn K (.ref f33) = true)
    (a34 : PySem.W.nsIn K mainGlobals "_law_take" = some (some (.ref f34)))
    (l34 : K.lookup f34 = some ⟨oc34, od34, .func (PySem.W.fnOf "_law_take" "_law_take" (defArgs s__law_take) (defBody s__law_take) (defScope s__law_take) .none kV34 dc34 pm34 an34 cd34 ct34), sl34⟩)
    (c34 : PySem.W.codeIn K cd34 "_law_take" = true)
    (k34 : PySem.W.keepIn K (.ref f34) = true)
    (a35 : PySem.W.nsIn K mainGlobals "_law_one" = some (some (.ref f35)))
    (l35 : K.lookup f35 = some ⟨oc35, od35, .func (PySem.W.fnOf "_law_one" "_law_one" (defArgs s__law_one) (defBody s__law_one) (defScope s__law_one) .none kV35 dc35 pm35 an35 cd35 ct35), sl35⟩)
    (c35 : PySem.W.codeIn K cd35 "_law_one" = true)
    (k35 : PySem.W.keepIn K (.ref f35) = true)
    (a36 : PySem.W.nsIn K mainGlobals "_law_web" = some (some (.ref f36)))
    (l36 : K.lookup f36 = some ⟨oc36, od36, .func (PySem.W.fnOf "_law_web" "_law_web" (defArgs s__law_web) (defBody s__law_web) (defScope s__law_web) .none kV36 dc36 pm36 an36 cd36 ct36), sl36⟩)
    (c36 : PySem.W.codeIn K cd36 "_law_web" = true)
    (k36 : PySem.W.keepIn K (.ref f36) = true)
    (a37 : PySem.W.nsIn K mainGlobals "_law_fits" = some (some (.ref f37)))
    (l37 : K.lookup f37 = some ⟨oc37, od37, .func (PySem.W.fnOf "_law_fits" "_law_fits" (defArgs s__law_fits) (defBody s__law_fits) (defScope s__law_fits) .none kV37 dc37 pm37 an37 cd37 ct37), sl37⟩)
    (c37 : PySem.W.codeIn K cd37 "_law_fits" = true)
    (k37 : PySem.W.keepIn K (.ref f37) = true)
    (a38 : PySem.W.nsIn K mainGlobals "_law_parts" = some (some (.ref f38)))
    (l38 : K.lookup f38 = some ⟨oc38, od38, .func (PySem.W.fnOf "_law_parts" "_law_parts" (defArgs s__law_parts) (defBody s__law_parts) (defScope s__law_parts) .none kV38 dc38 pm38 an38 cd38 ct38), sl38⟩)
    (c38 : PySem.W.codeIn K cd38 "_law_parts" = true)
    (k38 : PySem.W.keepIn K (.ref f38) = true)
    (a39 : PySem.W.nsIn K mainGlobals "_law_history" = some (some (.ref f39)))
    (l39 : K.lookup f39 = some ⟨oc39, od39, .func (PySem.W.fnOf "_law_history" "_law_history" (defArgs s__law_history) (defBody s__law_history) (defScope s__law_history) .none kV39 dc39 pm39 an39 cd39 ct39), sl39⟩)
    (c39 : PySem.W.codeIn K cd39 "_law_history" = true)
    (k39 : PySem.W.keepIn K (.ref f39) = true)
    (a40 : PySem.W.nsIn K mainGlobals "_law_is_next" = some (some (.ref f40)))
    (l40 : K.lookup f40 = some ⟨oc40, od40, .func (PySem.W.fnOf "_law_is_next" "_law_is_next" (defArgs s__law_is_next) (defBody s__law_is_next) (defScope s__law_is_next) .none kV40 dc40 pm40 an40 cd40 ct40), sl40⟩)
    (c40 : PySem.W.codeIn K cd40 "_law_is_next" = true)
    (k40 : PySem.W.keepIn K (.ref f40) = true)
    (a41 : PySem.W.nsIn K mainGlobals "_law_pasts" = some (some (.ref f41)))
    (l41 : K.lookup f41 = some ⟨oc41, od41, .func (PySem.W.fnOf "_law_pasts" "_law_pasts" (defArgs s__law_pasts) (defBody s__law_pasts) (defScope s__law_pasts) .none kV41 dc41 pm41 an41 cd41 ct41), sl41⟩)
    (c41 : PySem.W.codeIn K cd41 "_law_pasts" = true)
    (k41 : PySem.W.keepIn K (.ref f41) = true)
    (a42 : PySem.W.nsIn K mainGlobals "_law_made" = some (some (.ref f42)))
    (l42 : K.lookup f42 = some ⟨oc42, od42, .func (PySem.W.fnOf "_law_made" "_law_made" (defArgs s__law_made) (defBody s__law_made) (defScope s__law_made) .none kV42 dc42 pm42 an42 cd42 ct42), sl42⟩)
    (c42 : PySem.W.codeIn K cd42 "_law_made" = true)
    (k42 : PySem.W.keepIn K (.ref f42) = true)
    (a43 : PySem.W.nsIn K mainGlobals "_law_depth" = some (some (.ref f43)))
    (l43 : K.lookup f43 = some ⟨oc43, od43, .func (PySem.W.fnOf "_law_depth" "_law_depth" (defArgs s__law_depth) (defBody s__law_depth) (defScope s__law_depth) .none kV43 dc43 pm43 an43 cd43 ct43), sl43⟩)
    (c43 : PySem.W.codeIn K cd43 "_law_depth" = true)
    (k43 : PySem.W.keepIn K (.ref f43) = true)
    (a44 : PySem.W.nsIn K mainGlobals "_law_first" = some (some (.ref f44)))
    (l44 : K.lookup f44 = some ⟨oc44, od44, .func (PySem.W.fnOf "_law_first" "_law_first" (defArgs s__law_first) (defBody s__law_first) (defScope s__law_first) .none kV44 dc44 pm44 an44 cd44 ct44), sl44⟩)
    (c44 : PySem.W.codeIn K cd44 "_law_first" = true)
    (k44 : PySem.W.keepIn K (.ref f44) = true)
    (a45 : PySem.W.nsIn K mainGlobals "_law_right" = some (some (.ref f45)))
    (l45 : K.lookup f45 = some ⟨oc45, od45, .func (PySem.W.fnOf "_law_right" "_law_right" (defArgs s__law_right) (defBody s__law_right) (defScope s__law_right) .none kV45 dc45 pm45 an45 cd45 ct45), sl45⟩)
    (c45 : PySem.W.codeIn K cd45 "_law_right" = true)
    (k45 : PySem.W.keepIn K (.ref f45) = true)
    (a46 : PySem.W.nsIn K mainGlobals "law" = some (some (.ref f46)))
    (l46 : K.lookup f46 = some ⟨oc46, od46, .func (PySem.W.fnOf "law" "law" (defArgs s_law) (defBody s_law) (defScope s_law) .none kV46 dc46 pm46 an46 cd46 ct46), sl46⟩)
    (c46 : PySem.W.codeIn K cd46 "law" = true)
    (k46 : PySem.W.keepIn K (.ref f46) = true)
    (pg : PySem.W.plainGet K C Str.empty = true)
    (hd : PySem.W.hasDictIn K C = true)
    (po : PySem.W.plainOver K C = true)
    (sa : PySem.W.findIn K (.ref C) "__setattr__" = some (some (.builtin "object.__setattr__")))
    (mk : PySem.W.makesIn K C = true)
    (kc : PySem.W.keepIn K (.ref C) = true)
    (non : PySem.W.findIn K (.ref C) "n" = some none)
    (noparts : PySem.W.findIn K (.ref C) "parts" = some none)
    (noroads : PySem.W.findIn K (.ref C) "roads" = some none)
    (tBadSize : PySem.W.typeIn K (.ref EBadSize) = some (.type "type"))
    (uBadSize : PySem.W.subIn K (.ref EBadSize) (.type "BaseException") = some true)
    (LBadSize : K.lookup EBadSize = some (excClassObj nmBadSize qBadSize EBadSize NBadSize bsBadSize [.ref ERefused, .type "ValueError", .type "Exception", .type "BaseException", .type "object"] true snBadSize subBadSize abBadSize colBadSize ddBadSize k0BadSize k1BadSize k2BadSize k3BadSize k5BadSize "ValueError.__new__"))
    (saBadSize : PySem.W.findIn K (.ref EBadSize) "__setattr__" = some (some (.builtin "object.__setattr__")))
    (gaBadSize : PySem.W.findIn K (.ref EBadSize) "__getattribute__" = some (some (.builtin "BaseException.__getattribute__")))
    (ggBadSize : PySem.W.findIn K (.ref EBadSize) "__getattr__" = some none)
    (noBadSize : PySem.W.findIn K (.ref EBadSize) "what" = some none)
    (kpBadSize : PySem.W.keepIn K (.ref EBadSize) = true)
    (hdBadSize : PySem.W.hasDictIn K EBadSize = true)
    (tBadRoad : PySem.W.typeIn K (.ref EBadRoad) = some (.type "type"))
    (uBadRoad : PySem.W.subIn K (.ref EBadRoad) (.type "BaseException") = some true)
    (LBadRoad : K.lookup EBadRoad = some (excClassObj nmBadRoad qBadRoad EBadRoad NBadRoad bsBadRoad [.ref ERefused, .type "ValueError", .type "Exception", .type "BaseException", .type "object"] true snBadRoad subBadRoad abBadRoad colBadRoad ddBadRoad k0BadRoad k1BadRoad k2BadRoad k3BadRoad k5BadRoad "ValueError.__new__"))
    (saBadRoad : PySem.W.findIn K (.ref EBadRoad) "__setattr__" = some (some (.builtin "object.__setattr__")))
    (gaBadRoad : PySem.W.findIn K (.ref EBadRoad) "__getattribute__" = some (some (.builtin "BaseException.__getattribute__")))
    (ggBadRoad : PySem.W.findIn K (.ref EBadRoad) "__getattr__" = some none)
    (noBadRoad : PySem.W.findIn K (.ref EBadRoad) "what" = some none)
    (inBadRoad : PySem.W.findIn K (.ref EBadRoad) "__init__" = some (some (.ref f7)))
    (kpBadRoad : PySem.W.keepIn K (.ref EBadRoad) = true)
    (hdBadRoad : PySem.W.hasDictIn K EBadRoad = true)
    (tBadPart : PySem.W.typeIn K (.ref EBadPart) = some (.type "type"))
    (uBadPart : PySem.W.subIn K (.ref EBadPart) (.type "BaseException") = some true)
    (LBadPart : K.lookup EBadPart = some (excClassObj nmBadPart qBadPart EBadPart NBadPart bsBadPart [.ref ERefused, .type "ValueError", .type "Exception", .type "BaseException", .type "object"] true snBadPart subBadPart abBadPart colBadPart ddBadPart k0BadPart k1BadPart k2BadPart k3BadPart k5BadPart "ValueError.__new__"))
    (saBadPart : PySem.W.findIn K (.ref EBadPart) "__setattr__" = some (some (.builtin "object.__setattr__")))
    (gaBadPart : PySem.W.findIn K (.ref EBadPart) "__getattribute__" = some (some (.builtin "BaseException.__getattribute__")))
    (ggBadPart : PySem.W.findIn K (.ref EBadPart) "__getattr__" = some none)
    (noBadPart : PySem.W.findIn K (.ref EBadPart) "what" = some none)
    (inBadPart : PySem.W.findIn K (.ref EBadPart) "__init__" = some (some (.ref f7)))
    (kpBadPart : PySem.W.keepIn K (.ref EBadPart) = true)
    (hdBadPart : PySem.W.hasDictIn K EBadPart = true)
    (tBadMeeting : PySem.W.typeIn K (.ref EBadMeeting) = some (.type "type"))
    (uBadMeeting : PySem.W.subIn K (.ref EBadMeeting) (.type "BaseException") = some true)
    (LBadMeeting : K.lookup EBadMeeting = some (excClassObj nmBadMeeting qBadMeeting EBadMeeting NBadMeeting bsBadMeeting [.ref ERefused, .type "ValueError", .type "Exception", .type "BaseException", .type "object"] true snBadMeeting subBadMeeting abBadMeeting colBadMeeting ddBadMeeting k0BadMeeting k1BadMeeting k2BadMeeting k3BadMeeting k5BadMeeting "ValueError.__new__"))
    (saBadMeeting : PySem.W.findIn K (.ref EBadMeeting) "__setattr__" = some (some (.builtin "object.__setattr__")))
    (gaBadMeeting : PySem.W.findIn K (.ref EBadMeeting) "__getattribute__" = some (some (.builtin "BaseException.__getattribute__")))
    (ggBadMeeting : PySem.W.findIn K (.ref EBadMeeting) "__getattr__" = some none)
    (noBadMeeting : PySem.W.findIn K (.ref EBadMeeting) "what" = some none)
    (inBadMeeting : PySem.W.findIn K (.ref EBadMeeting) "__init__" = some (some (.ref f7)))
    (kpBadMeeting : PySem.W.keepIn K (.ref EBadMeeting) = true)
    (hdBadMeeting : PySem.W.hasDictIn K EBadMeeting = true)
    (tBadMark : PySem.W.typeIn K (.ref EBadMark) = some (.type "type"))
    (uBadMark : PySem.W.subIn K (.ref EBadMark) (.type "BaseException") = some true)
    (LBadMark : K.lookup EBadMark = some (excClassObj nmBadMark qBadMark EBadMark NBadMark bsBadMark [.ref ERefused, .type "ValueError", .type "Exception", .type "BaseException", .type "object"] true snBadMark subBadMark abBadMark colBadMark ddBadMark k0BadMark k1BadMark k2BadMark k3BadMark k5BadMark "ValueError.__new__"))
    (saBadMark : PySem.W.findIn K (.ref EBadMark) "__setattr__" = some (some (.builtin "object.__setattr__")))
    (gaBadMark : PySem.W.findIn K (.ref EBadMark) "__getattribute__" = some (some (.builtin "BaseException.__getattribute__")))
    (ggBadMark : PySem.W.findIn K (.ref EBadMark) "__getattr__" = some none)
    (noBadMark : PySem.W.findIn K (.ref EBadMark) "what" = some none)
    (inBadMark : PySem.W.findIn K (.ref EBadMark) "__init__" = some (some (.ref f7)))
    (kpBadMark : PySem.W.keepIn K (.ref EBadMark) = true)
    (hdBadMark : PySem.W.hasDictIn K EBadMark = true)
    (tTooMany : PySem.W.typeIn K (.ref ETooMany) = some (.type "type"))
    (uTooMany : PySem.W.subIn K (.ref ETooMany) (.type "BaseException") = some true)
    (LTooMany : K.lookup ETooMany = some (excClassObj nmTooMany qTooMany ETooMany NTooMany bsTooMany [.ref ERefused, .type "ValueError", .type "Exception", .type "BaseException", .type "object"] true snTooMany subTooMany abTooMany colTooMany ddTooMany k0TooMany k1TooMany k2TooMany k3TooMany k5TooMany "ValueError.__new__"))
    (saTooMany : PySem.W.findIn K (.ref ETooMany) "__setattr__" = some (some (.builtin "object.__setattr__")))
    (gaTooMany : PySem.W.findIn K (.ref ETooMany) "__getattribute__" = some (some (.builtin "BaseException.__getattribute__")))
    (ggTooMany : PySem.W.findIn K (.ref ETooMany) "__getattr__" = some none)
    (noTooMany : PySem.W.findIn K (.ref ETooMany) "what" = some none)
    (inTooMany : PySem.W.findIn K (.ref ETooMany) "__init__" = some (some (.ref f7)))
    (kpTooMany : PySem.W.keepIn K (.ref ETooMany) = true)
    (hdTooMany : PySem.W.hasDictIn K ETooMany = true)
    (tyI : PySem.W.typeIn K (.ref f7) = some (.type "function"))
    (g_MOST_MEETINGS : PySem.W.nsIn K mainGlobals "MOST_MEETINGS" = some (some (.int 200 tk_MOST_MEETINGS)))
    (g_MOST_HANDS : PySem.W.nsIn K mainGlobals "MOST_HANDS" = some (some (.int 10 tk_MOST_HANDS)))
    (z_all : PySem.W.nsIn K mainGlobals "all" = some none)
    (z_any : PySem.W.nsIn K mainGlobals "any" = some none)
    (z_bool : PySem.W.nsIn K mainGlobals "bool" = some none)
    (z_dict : PySem.W.nsIn K mainGlobals "dict" = some none)
    (z_enumerate : PySem.W.nsIn K mainGlobals "enumerate" = some none)
    (z_int : PySem.W.nsIn K mainGlobals "int" = some none)
    (z_isinstance : PySem.W.nsIn K mainGlobals "isinstance" = some none)
    (z_len : PySem.W.nsIn K mainGlobals "len" = some none)
    (z_list : PySem.W.nsIn K mainGlobals "list" = some none)
    (z_max : PySem.W.nsIn K mainGlobals "max" = some none)
    (z_range : PySem.W.nsIn K mainGlobals "range" = some none)
    (z_sorted : PySem.W.nsIn K mainGlobals "sorted" = some none)
    (z_sum : PySem.W.nsIn K mainGlobals "sum" = some none)
    (z_tuple : PySem.W.nsIn K mainGlobals "tuple" = some none)
    (z_zip : PySem.W.nsIn K mainGlobals "zip" = some none) :
    ∃ fd : FuncData, (∀ (s : Shared) (v : Value), BindsTo s fd ⟨[v], []⟩ [("script", v)]) ∧ ∀ base : Heap, K.In base → base.Ns mainGlobals mg → FnOk l.prog w K mg base CX0 11 fa fd ["script"] (spLaw K) := by
  have e := hfa.symm.trans (PySem.W.mg_of X G a46)
  cases e
  let t : T K mg := {
    d_is_number := ⟨_, _, fun_mk l0 c0 k0, (fun_mk l0 c0 k0).binds (fun _ _ _ _ _ _ us hl => match us, hl with | [_], _ => rfl), (fun _ => PySem.W.mg_of X G a0), (fun _ => a0)⟩
    d_is_index := ⟨_, _, fun_mk l1 c1 k1, (fun_mk l1 c1 k1).binds (fun _ _ _ _ _ _ us hl => match us, hl with | [_, _], _ => rfl), (fun _ => PySem.W.mg_of X G a1), (fun _ => a1)⟩
    d_is_pair := ⟨_, _, fun_mk l2 c2 k2, (fun_mk l2 c2 k2).binds (fun _ _ _ _ _ _ us hl => match us, hl with | [_], _ => rfl), (fun _ => PySem.W.mg_of X G a2), (fun _ => a2)⟩
    d_bad_rise := ⟨_, _, fun_mk l3 c3 k3, (fun_mk l3 c3 k3).binds (fun _ _ _ _ _ _ us hl => match us, hl with | [_, _], _ => rfl), (fun _ => PySem.W.mg_of X G a3), (fun _ => a3)⟩
    d_is_rising := ⟨_, _, fun_mk l4 c4 k4, (fun_mk l4 c4 k4).binds (fun _ _ _ _ _ _ us hl => match us, hl with | [_, _], _ => rfl), (fun _ => PySem.W.mg_of X G a4), (fun _ => a4)⟩
    d_is_mark := ⟨_, _, fun_mk l5 c5 k5, (fun_mk l5 c5 k5).binds (fun _ _ _ _ _ _ us hl => match us, hl with | [_], _ => rfl), (fun _ => PySem.W.mg_of X G a5), (fun _ => a5)⟩
    d_bad_meeting := ⟨_, _, fun_mk l6 c6 k6, (fun_mk l6 c6 k6).binds (fun _ _ _ _ _ _ us hl => match us, hl with | [_, _], _ => rfl), (fun _ => PySem.W.mg_of X G a6), (fun _ => a6)⟩
    d_Refused___init__ := ⟨_, _, fun_mk l7 c7 k7, (fun_mk l7 c7 k7).binds (fun _ _ _ _ _ _ us hl => match us, hl with | [_, _], _ => rfl), (fun z => nomatch z), (fun z => nomatch z)⟩
    d_check_history := ⟨_, _, fun_mk l8 c8 k8, (fun_mk l8 c8 k8).binds (fun _ _ _ _ _ _ us hl => match us, hl with | [_, _], _ => rfl), (fun _ => PySem.W.mg_of X G a8), (fun _ => a8)⟩
    d_is_size := ⟨_, _, fun_mk l9 c9 k9, (fun_mk l9 c9 k9).binds (fun _ _ _ _ _ _ us hl => match us, hl with | [_], _ => rfl), (fun _ => PySem.W.mg_of X G a9), (fun _ => a9)⟩
    d_is_road := ⟨_, _, fun_mk l10 c10 k10, (fun_mk l10 c10 k10).binds (fun _ _ _ _ _ _ us hl => match us, hl with | [_, _], _ => rfl), (fun _ => PySem.W.mg_of X G a10), (fun _ => a10)⟩
    d_road_fits := ⟨_, _, fun_mk l11 c11 k11, (fun_mk l11 c11 k11).binds (fun _ _ _ _ _ _ us hl => match us, hl with | [_, _, _], _ => rfl), (fun _ => PySem.W.mg_of X G a11), (fun _ => a11)⟩
    d_bad_road := ⟨_, _, fun_mk l12 c12 k12, (fun_mk l12 c12 k12).binds (fun _ _ _ _ _ _ us hl => match us, hl with | [_, _], _ => rfl), (fun _ => PySem.W.mg_of X G a12), (fun _ => a12)⟩
    d_check_web := ⟨_, _, fun_mk l13 c13 k13, (fun_mk l13 c13 k13).binds (fun _ _ _ _ _ _ us hl => match us, hl with | [_, _], _ => rfl), (fun _ => PySem.W.mg_of X G a13), (fun _ => a13)⟩
    d_is_star := ⟨_, _, fun_mk l14 c14 k14, (fun_mk l14 c14 k14).binds (fun _ _ _ _ _ _ us hl => match us, hl with | [_, _], _ => rfl), (fun _ => PySem.W.mg_of X G a14), (fun _ => a14)⟩
    d_is_triangle := ⟨_, _, fun_mk l15 c15 k15, (fun_mk l15 c15 k15).binds (fun _ _ _ _ _ _ us hl => match us, hl with | [_, _], _ => rfl), (fun _ => PySem.W.mg_of X G a15), (fun _ => a15)⟩
    d_is_part := ⟨_, _, fun_mk l16 c16 k16, (fun_mk l16 c16 k16).binds (fun _ _ _ _ _ _ us hl => match us, hl with | [_, _], _ => rfl), (fun _ => PySem.W.mg_of X G a16), (fun _ => a16)⟩
    d_part_fits := ⟨_, _, fun_mk l17 c17 k17, (fun_mk l17 c17 k17).binds (fun _ _ _ _ _ _ us hl => match us, hl with | [_, _, _], _ => rfl), (fun _ => PySem.W.mg_of X G a17), (fun _ => a17)⟩
    d_all_taken := ⟨_, _, fun_mk l18 c18 k18, (fun_mk l18 c18 k18).binds (fun _ _ _ _ _ _ us hl => match us, hl with | [_, _], _ => rfl), (fun _ => PySem.W.mg_of X G a18), (fun _ => a18)⟩
    d_bad_part := ⟨_, _, fun_mk l19 c19 k19, (fun_mk l19 c19 k19).binds (fun _ _ _ _ _ _ us hl => match us, hl with | [_, _], _ => rfl), (fun _ => PySem.W.mg_of X G a19), (fun _ => a19)⟩
    d_House___init__ := ⟨_, _, fun_mk l20 c20 k20, (fun_mk l20 c20 k20).binds (fun _ _ _ _ _ _ us hl => match us, hl with | [_, _, _, _], _ => rfl), (fun z => nomatch z), (fun z => nomatch z)⟩
    d_house := ⟨_, _, fun_mk l21 c21 k21, (fun_mk l21 c21 k21).binds (fun _ _ _ _ _ _ us hl => match us, hl with | [_, _, _], _ => rfl), (fun _ => PySem.W.mg_of X G a21), (fun _ => a21)⟩
    d_part_of := ⟨_, _, fun_mk l22 c22 k22, (fun_mk l22 c22 k22).binds (fun _ _ _ _ _ _ us hl => match us, hl with | [_, _], _ => rfl), (fun _ => PySem.W.mg_of X G a22), (fun _ => a22)⟩
    d_at_most := ⟨_, _, fun_mk l23 c23 k23, (fun_mk l23 c23 k23).binds (fun _ _ _ _ _ _ us hl => match us, hl with | [_, _], _ => rfl), (fun _ => PySem.W.mg_of X G a23), (fun _ => a23)⟩
    d_greater := ⟨_, _, fun_mk l24 c24 k24, (fun_mk l24 c24 k24).binds (fun _ _ _ _ _ _ us hl => match us, hl with | [_, _], _ => rfl), (fun _ => PySem.W.mg_of X G a24), (fun _ => a24)⟩
    d_made_mark := ⟨_, _, fun_mk l25 c25 k25, (fun_mk l25 c25 k25).binds (fun _ _ _ _ _ _ us hl => match us, hl with | [_, _, _], _ => rfl), (fun _ => PySem.W.mg_of X G a25), (fun _ => a25)⟩
    d_marks_and_clocks := ⟨_, _, fun_mk l26 c26 k26, (fun_mk l26 c26 k26).binds (fun _ _ _ _ _ _ us hl => match us, hl with | [_, _], _ => rfl), (fun _ => PySem.W.mg_of X G a26), (fun _ => a26)⟩
    d_marks := ⟨_, _, fun_mk l27 c27 k27, (fun_mk l27 c27 k27).binds (fun _ _ _ _ _ _ us hl => match us, hl with | [_, _], _ => rfl), (fun _ => PySem.W.mg_of X G a27), (fun _ => a27)⟩
    d_ahead := ⟨_, _, fun_mk l28 c28 k28, (fun_mk l28 c28 k28).binds (fun _ _ _ _ _ _ us hl => match us, hl with | [_, _], _ => rfl), (fun _ => PySem.W.mg_of X G a28), (fun _ => a28)⟩
    d_check_index := ⟨_, _, fun_mk l29 c29 k29, (fun_mk l29 c29 k29).binds (fun _ _ _ _ _ _ us hl => match us, hl with | [_, _, _], _ => rfl), (fun _ => PySem.W.mg_of X G a29), (fun _ => a29)⟩
    d_past := ⟨_, _, fun_mk l30 c30 k30, (fun_mk l30 c30 k30).binds (fun _ _ _ _ _ _ us hl => match us, hl with | [_, _, _], _ => rfl), (fun _ => PySem.W.mg_of X G a30), (fun _ => a30)⟩
    d_depth := ⟨_, _, fun_mk l31 c31 k31, (fun_mk l31 c31 k31).binds (fun _ _ _ _ _ _ us hl => match us, hl with | [_, _, _], _ => rfl), (fun _ => PySem.W.mg_of X G a31), (fun _ => a31)⟩
    d_first_beside := ⟨_, _, fun_mk l32 c32 k32, (fun_mk l32 c32 k32).binds (fun _ _ _ _ _ _ us hl => match us, hl with | [_, _], _ => rfl), (fun _ => PySem.W.mg_of X G a32), (fun _ => a32)⟩
    d__law_pool := ⟨_, _, fun_mk l33 c33 k33, (fun_mk l33 c33 k33).binds (fun _ _ _ _ _ _ us hl => match us, hl with | [_, _], _ => rfl), (fun _ => PySem.W.mg_of X G a33), (fun _ => a33)⟩
    d__law_take := ⟨_, _, fun_mk l34 c34 k34, (fun_mk l34 c34 k34).binds (fun _ _ _ _ _ _ us hl => match us, hl with | [_, _], _ => rfl), (fun _ => PySem.W.mg_of X G a34), (fun _ => a34)⟩
    d__law_one := ⟨_, _, fun_mk l35 c35 k35, (fun_mk l35 c35 k35).binds (fun _ _ _ _ _ _ us hl => match us, hl with | [_, _], _ => rfl), (fun _ => PySem.W.mg_of X G a35), (fun _ => a35)⟩
    d__law_web := ⟨_, _, fun_mk l36 c36 k36, (fun_mk l36 c36 k36).binds (fun _ _ _ _ _ _ us hl => match us, hl with | [_, _], _ => rfl), (fun _ => PySem.W.mg_of X G a36), (fun _ => a36)⟩
    d__law_fits := ⟨_, _, fun_mk l37 c37 k37, (fun_mk l37 c37 k37).binds (fun _ _ _ _ _ _ us hl => match us, hl with | [_, _], _ => rfl), (fun _ => PySem.W.mg_of X G a37), (fun _ => a37)⟩
    d__law_parts := ⟨_, _, fun_mk l38 c38 k38, (fun_mk l38 c38 k38).binds (fun _ _ _ _ _ _ us hl => match us, hl with | [_, _], _ => rfl), (fun _ => PySem.W.mg_of X G a38), (fun _ => a38)⟩
    d__law_history := ⟨_, _, fun_mk l39 c39 k39, (fun_mk l39 c39 k39).binds (fun _ _ _ _ _ _ us hl => match us, hl with | [_, _, _], _ => rfl), (fun _ => PySem.W.mg_of X G a39), (fun _ => a39)⟩
    d__law_is_next := ⟨_, _, fun_mk l40 c40 k40, (fun_mk l40 c40 k40).binds (fun _ _ _ _ _ _ us hl => match us, hl with | [_, _, _], _ => rfl), (fun _ => PySem.W.mg_of X G a40), (fun _ => a40)⟩
    d__law_pasts := ⟨_, _, fun_mk l41 c41 k41, (fun_mk l41 c41 k41).binds (fun _ _ _ _ _ _ us hl => match us, hl with | [_, _], _ => rfl), (fun _ => PySem.W.mg_of X G a41), (fun _ => a41)⟩
    d__law_made := ⟨_, _, fun_mk l42 c42 k42, (fun_mk l42 c42 k42).binds (fun _ _ _ _ _ _ us hl => match us, hl with | [_], _ => rfl), (fun _ => PySem.W.mg_of X G a42), (fun _ => a42)⟩
    d__law_depth := ⟨_, _, fun_mk l43 c43 k43, (fun_mk l43 c43 k43).binds (fun _ _ _ _ _ _ us hl => match us, hl with | [_, _], _ => rfl), (fun _ => PySem.W.mg_of X G a43), (fun _ => a43)⟩
    d__law_first := ⟨_, _, fun_mk l44 c44 k44, (fun_mk l44 c44 k44).binds (fun _ _ _ _ _ _ us hl => match us, hl with | [_], _ => rfl), (fun _ => PySem.W.mg_of X G a44), (fun _ => a44)⟩
    d__law_right := ⟨_, _, fun_mk l45 c45 k45, (fun_mk l45 c45 k45).binds (fun _ _ _ _ _ _ us hl => match us, hl with | [_, _, _], _ => rfl), (fun _ => PySem.W.mg_of X G a45), (fun _ => a45)⟩
    d_law := ⟨_, _, fun_mk l46 c46 k46, (fun_mk l46 c46 k46).binds (fun _ _ _ _ _ _ us hl => match us, hl with | [_], _ => rfl), (fun _ => PySem.W.mg_of X G a46), (fun _ => a46)⟩
    C := C
    gC := PySem.W.mg_of X G aC
    cl := ⟨pg, hd, po, sa⟩
    no_n := non
    no_parts := noparts
    no_roads := noroads
    mk := ⟨mk, a20, i20, kc⟩
    e_BadSize := EBadSize
    m_BadSize := PySem.W.mg_of X G nBadSize
    x_BadSize := ⟨⟨⟨_, _, _, _, _, _, _, _, _, _, _, _, _, _, _, LBadSize, by rfl⟩, saBadSize, uBadSize, tBadSize, kpBadSize⟩, ⟨gaBadSize, ggBadSize, uBadSize, hdBadSize⟩, noBadSize, inBadSize, tyI⟩
    e_BadRoad := EBadRoad
    m_BadRoad := PySem.W.mg_of X G nBadRoad
    x_BadRoad := ⟨⟨⟨_, _, _, _, _, _, _, _, _, _, _, _, _, _, _, LBadRoad, by rfl⟩, saBadRoad, uBadRoad, tBadRoad, kpBadRoad⟩, ⟨gaBadRoad, ggBadRoad, uBadRoad, hdBadRoad⟩, noBadRoad, inBadRoad, tyI⟩
    e_BadPart := EBadPart
    m_BadPart := PySem.W.mg_of X G nBadPart
    x_BadPart := ⟨⟨⟨_, _, _, _, _, _, _, _, _, _, _, _, _, _, _, LBadPart, by rfl⟩, saBadPart, uBadPart, tBadPart, kpBadPart⟩, ⟨gaBadPart, ggBadPart, uBadPart, hdBadPart⟩, noBadPart, inBadPart, tyI⟩
    e_BadMeeting := EBadMeeting
    m_BadMeeting := PySem.W.mg_of X G nBadMeeting
    x_BadMeeting := ⟨⟨⟨_, _, _, _, _, _, _, _, _, _, _, _, _, _, _, LBadMeeting, by rfl⟩, saBadMeeting, uBadMeeting, tBadMeeting, kpBadMeeting⟩, ⟨gaBadMeeting, ggBadMeeting, uBadMeeting, hdBadMeeting⟩, noBadMeeting, inBadMeeting, tyI⟩
    e_BadMark := EBadMark
    m_BadMark := PySem.W.mg_of X G nBadMark
    x_BadMark := ⟨⟨⟨_, _, _, _, _, _, _, _, _, _, _, _, _, _, _, LBadMark, by rfl⟩, saBadMark, uBadMark, tBadMark, kpBadMark⟩, ⟨gaBadMark, ggBadMark, uBadMark, hdBadMark⟩, noBadMark, inBadMark, tyI⟩
    e_TooMany := ETooMany
    m_TooMany := PySem.W.mg_of X G nTooMany
    x_TooMany := ⟨⟨⟨_, _, _, _, _, _, _, _, _, _, _, _, _, _, _, LTooMany, by rfl⟩, saTooMany, uTooMany, tTooMany, kpTooMany⟩, ⟨gaTooMany, ggTooMany, uTooMany, hdTooMany⟩, noTooMany, inTooMany, tyI⟩
    k_MOST_MEETINGS := tk_MOST_MEETINGS
    c_MOST_MEETINGS := PySem.W.mg_of X G g_MOST_MEETINGS
    k_MOST_HANDS := tk_MOST_HANDS
    c_MOST_HANDS := PySem.W.mg_of X G g_MOST_HANDS
    n_all := PySem.W.mg_none_of X G z_all
    n_any := PySem.W.mg_none_of X G z_any
    n_bool := PySem.W.mg_none_of X G z_bool
    n_dict := PySem.W.mg_none_of X G z_dict
    n_enumerate := PySem.W.mg_none_of X G z_enumerate
    n_int := PySem.W.mg_none_of X G z_int
    n_isinstance := PySem.W.mg_none_of X G z_isinstance
    n_len := PySem.W.mg_none_of X G z_len
    n_list := PySem.W.mg_none_of X G z_list
    n_max := PySem.W.mg_none_of X G z_max
    n_range := PySem.W.mg_none_of X G z_range
    n_sorted := PySem.W.mg_none_of X G z_sorted
    n_sum := PySem.W.mg_none_of X G z_sum
    n_tuple := PySem.W.mg_none_of X G z_tuple
    n_zip := PySem.W.mg_none_of X G z_zip }
  exact ⟨t.d_law.fd, fun s v => .of_eq rfl, fun base _ _ => (ok_law t).imp (spLaw_of good)⟩
theorem walk {l : PySem.W.OpenLaw} {q : Program} {loose : List Str} {XP : (Str → Option Value) → Heap → Prop} {YP : World → Heap → Prop} {d : DefRec} {K : Params → PySem.W.Frag} (hn : l.most = some 63) (hdf : d.params.defaults = [])
    (hY : ∀ (w : World) (h : Heap), YP w h → (K w.params).In h)
    (F : ∀ (w : World) (mg : Str → Option Value) (fa : Addr) (h : Heap), (K w.params).In h → h.Ns mainGlobals mg → mg d.name = some (.ref fa) →
      ∃ fd : FuncData, (∀ (s : Shared) (u : Value), BindsTo s fd ⟨[u], []⟩ [("script", u)]) ∧ ∀ base : Heap, (K w.params).In base → base.Ns mainGlobals mg → FnOk l.prog w (K w.params) mg base CX0 11 fa fd ["script"] (spLaw (K w.params))) :
    PySem.W.WalkO q loose XP YP l.row.toRowW d [] (fun f vs => PySem.call f vs) :=
  L2.walk_of (n := 63) (k := 11) (x := "script") (CX := fun _ => CX0) (sp := fun w => spLaw (K w.params)) hn (by decide) hdf ⟨rfl, by decide, by decide⟩ hY F (fun _ _ a ns hl ho hS => ⟨a, ns, rfl, hl, ho, hS, fun _ => rfl⟩) fun _ _ _ _ _ z => z
end Lk18
open PySem PySem.W PyProof.Rows
set_option maxHeartbeats 0 in
theorem PySem.Challenge.cw_starclocks_k18_any_parts_tell_the_same_holds : PySem.Challenge.rw_starclocks_k18_any_parts_tell_the_same.Holds := by
  w_on; o_law; k_head; (case hw => w_witness2)
  k_fill
  refine Lk18.walk (l := PySem.Challenge.rw_starclocks_k18_any_parts_tell_the_same) rfl rfl (fun w h Y => PySem.W.kIn_of Y) ?F
  case F =>
    intro w mg fa h KX G hmg
    refine' Lk18.all_mk KX G hmg (Y.good_k18) ?nBadSize ?nBadRoad ?nBadPart ?nBadMeeting ?nBadMark ?nTooMany ?inBadSize ?aC ?a0 ?l0 ?c0 ?k0 ?a1 ?l1 ?c1 ?k1 ?a2 ?l2 ?c2 ?k2 ?a3 ?l3 ?c3 ?k3 ?a4 ?l4 ?c4 ?k4 ?a5 ?l5 ?c5 ?k5 ?a6 ?l6 ?c6 ?k6 ?l7 ?c7 ?k7 ?a8 ?l8 ?c8 ?k8 ?a9 ?l9 ?c9 ?k9 ?a10 ?l10 ?c10 ?k10 ?a11 ?l11 ?c11 ?k11 ?a12 ?l12 ?c12 ?k12 ?a13 ?l13 ?c13 ?k13 ?a14 ?l14 ?c14 ?k14 ?a15 ?l15 ?c15 ?k15 ?a16 ?l16 ?c16 ?k16 ?a17 ?l17 ?c17 ?k17 ?a18 ?l18 ?c18 ?k18 ?a19 ?l19 ?c19 ?k19 ?a20 ?i20 ?l20 ?c20 ?k20 ?a21 ?l21 ?c21 ?k21 ?a22 ?l22 ?c22 ?k22 ?a23 ?l23 ?c23 ?k23 ?a24 ?l24 ?c24 ?k24 ?a25 ?l25 ?c25 ?k25 ?a26 ?l26 ?c26 ?k26 ?a27 ?l27 ?c27 ?k27 ?a28 ?l28 ?c28 ?k28 ?a29 ?l29 ?c29 ?k29 ?a30 ?l30 ?c30 ?k30 ?a31 ?l31 ?c31 ?k31 ?a32 ?l32 ?c32 ?k32 ?a33 ?l33 ?c33 ?k33 ?a34 ?l34 ?c34 ?k34 ?a35 ?l35 ?c35 ?k35 ?a36 ?l36 ?c36 ?k36 ?a37 ?l37 ?c37 ?k37 ?a38 ?l38 ?c38 ?k38 ?a39 ?l39 ?c39 ?k39 ?a40 ?l40 ?c40 ?k40 ?a41 ?l41 ?c41 ?k41 ?a42 ?l42 ?c42 ?k42 ?a43 ?l43 ?c43 ?k43 ?a44 ?l44 ?c44 ?k44 ?a45 ?l45 ?c45 ?k45 ?a46 ?l46 ?c46 ?k46 ?pg ?hd ?po ?sa ?mk ?kc ?non ?noparts ?noroads ?tBadSize ?uBadSize ?LBadSize ?saBadSize ?gaBadSize ?ggBadSize ?noBadSize ?kpBadSize ?hdBadSize ?tBadRoad ?uBadRoad ?LBadRoad ?saBadRoad ?gaBadRoad ?ggBadRoad ?noBadRoad ?inBadRoad ?kpBadRoad ?hdBadRoad ?tBadPart ?uBadPart ?LBadPart ?saBadPart ?gaBadPart ?ggBadPart ?noBadPart ?inBadPart ?kpBadPart ?hdBadPart ?tBadMeeting ?uBadMeeting ?LBadMeeting ?saBadMeeting ?gaBadMeeting ?ggBadMeeting ?noBadMeeting ?inBadMeeting ?kpBadMeeting ?hdBadMeeting ?tBadMark ?uBadMark ?LBadMark ?saBadMark ?gaBadMark ?ggBadMark ?noBadMark ?inBadMark ?kpBadMark ?hdBadMark ?tTooMany ?uTooMany ?LTooMany ?saTooMany ?gaTooMany ?ggTooMany ?noTooMany ?inTooMany ?kpTooMany ?hdTooMany ?tyI ?g_MOST_MEETINGS ?g_MOST_HANDS ?z_all ?z_any ?z_bool ?z_dict ?z_enumerate ?z_int ?z_isinstance ?z_len ?z_list ?z_max ?z_range ?z_sorted ?z_sum ?z_tuple ?z_zip
    (case nBadSize => k_is)
    (case nBadRoad => k_is)
    (case nBadPart => k_is)
    (case nBadMeeting => k_is)
    (case nBadMark => k_is)
    (case nTooMany => k_is)
    (case inBadSize => k_is)
    (case aC => k_is)
    (case a0 => k_is)
    (case l0 => k_is)
    (case c0 => k_is)
    (case k0 => k_is)
    (case a1 => k_is)
    (case l1 => k_is)
    (case c1 => k_is)
    (case k1 => k_is)
    (case a2 => k_is)
    (case l2 => k_is)
    (case c2 => k_is)
    (case k2 => k_is)
    (case a3 => k_is)
    (case l3 => k_is)
    (case c3 => k_is)
    (case k3 => k_is)
    (case a4 => k_is)
    (case l4 => k_is)
    (case c4 => k_is)
    (case k4 => k_is)
    (case a5 => k_is)
    (case l5 => k_is)
    (case c5 => k_is)
    (case k5 => k_is)
    (case a6 => k_is)
    (case l6 => k_is)
    (case c6 => k_is)
    (case k6 => k_is)
    (case l7 => k_is)
    (case c7 => k_is)
    (case k7 => k_is)
    (case a8 => k_is)
    (case l8 => k_is)
    (case c8 => k_is)
    (case k8 => k_is)
    (case a9 => k_is)
    (case l9 => k_is)
    (case c9 => k_is)
    (case k9 => k_is)
    (case a10 => k_is)
    (case l10 => k_is)
    (case c10 => k_is)
    (case k10 => k_is)
    (case a11 => k_is)
    (case l11 => k_is)
    (case c11 => k_is)
    (case k11 => k_is)
    (case a12 => k_is)
    (case l12 => k_is)
    (case c12 => k_is)
    (case k12 => k_is)
    (case a13 => k_is)
    (case l13 => k_is)
    (case c13 => k_is)
    (case k13 => k_is)
    (case a14 => k_is)
    (case l14 => k_is)
    (case c14 => k_is)
    (case k14 => k_is)
    (case a15 => k_is)
    (case l15 => k_is)
    (case c15 => k_is)
    (case k15 => k_is)
    (case a16 => k_is)
    (case l16 => k_is)
    (case c16 => k_is)
    (case k16 => k_is)
    (case a17 => k_is)
    (case l17 => k_is)
    (case c17 => k_is)
    (case k17 => k_is)
    (case a18 => k_is)
    (case l18 => k_is)
    (case c18 => k_is)
    (case k18 => k_is)
    (case a19 => k_is)
    (case l19 => k_is)
    (case c19 => k_is)
    (case k19 => k_is)
    (case a20 => k_is)
    (case i20 => k_is)
    (case l20 => k_is)
    (case c20 => k_is)
    (case k20 => k_is)
    (case a21 => k_is)
    (case l21 => k_is)
    (case c21 => k_is)
    (case k21 => k_is)
    (case a22 => k_is)
    (case l22 => k_is)
    (case c22 => k_is)
    (case k22 => k_is)
    (case a23 => k_is)
    (case l23 => k_is)
    (case c23 => k_is)
    (case k23 => k_is)
    (case a24 => k_is)
    (case l24 => k_is)
    (case c24 => k_is)
    (case k24 => k_is)
    (case a25 => k_is)
    (case l25 => k_is)
    (case c25 => k_is)
    (case k25 => k_is)
    (case a26 => k_is)
    (case l26 => k_is)
    (case c26 => k_is)
    (case k26 => k_is)
    (case a27 => k_is)
    (case l27 => k_is)
    (case c27 => k_is)
    (case k27 => k_is)
    (case a28 => k_is)
    (case l28 => k_is)
    (case c28 => k_is)
    (case k28 => k_is)
    (case a29 => k_is)
    (case l29 => k_is)
    (case c29 => k_is)
    (case k29 => k_is)
    (case a30 => k_is)
    (case l30 => k_is)
    (case c30 => k_is)
    (case k30 => k_is)
    (case a31 => k_is)
    (case l31 => k_is)
    (case c31 => k_is)
    (case k31 => k_is)
    (case a32 => k_is)
    (case l32 => k_is)
    (case c32 => k_is)
    (case k32 => k_is)
    (case a33 => k_is)
    (case l33 => k_is)
    (case c33 => k_is)
    (case k33 => k_is)
    (case a34 => k_is)
    (case l34 => k_is)
    (case c34 => k_is)
    (case k34 => k_is)
    (case a35 => k_is)
    (case l35 => k_is)
    (case c35 => k_is)
    (case k35 => k_is)
    (case a36 => k_is)
    (case l36 => k_is)
    (case c36 => k_is)
    (case k36 => k_is)
    (case a37 => k_is)
    (case l37 => k_is)
    (case c37 => k_is)
    (case k37 => k_is)
    (case a38 => k_is)
    (case l38 => k_is)
    (case c38 => k_is)
    (case k38 => k_is)
    (case a39 => k_is)
    (case l39 => k_is)
    (case c39 => k_is)
    (case k39 => k_is)
    (case a40 => k_is)
    (case l40 => k_is)
    (case c40 => k_is)
    (case k40 => k_is)
    (case a41 => k_is)
    (case l41 => k_is)
    (case c41 => k_is)
    (case k41 => k_is)
    (case a42 => k_is)
    (case l42 => k_is)
    (case c42 => k_is)
    (case k42 => k_is)
    (case a43 => k_is)
    (case l43 => k_is)
    (case c43 => k_is)
    (case k43 => k_is)
    (case a44 => k_is)
    (case l44 => k_is)
    (case c44 => k_is)
    (case k44 => k_is)
    (case a45 => k_is)
    (case l45 => k_is)
    (case c45 => k_is)
    (case k45 => k_is)
    (case a46 => k_is)
    (case l46 => k_is)
    (case c46 => k_is)
    (case k46 => k_is)
    (case pg => k_is)
    (case hd => k_is)
    (case po => k_is)
    (case sa => k_is)
    (case mk => k_is)
    (case kc => k_is)
    (case non => k_is)
    (case noparts => k_is)
    (case noroads => k_is)
    (case tBadSize => k_is)
    (case uBadSize => k_is)
    (case LBadSize => k_is)
    (case saBadSize => k_is)
    (case gaBadSize => k_is)
    (case ggBadSize => k_is)
    (case noBadSize => k_is)
    (case kpBadSize => k_is)
    (case hdBadSize => k_is)
    (case tBadRoad => k_is)
    (case uBadRoad => k_is)
    (case LBadRoad => k_is)
    (case saBadRoad => k_is)
    (case gaBadRoad => k_is)
    (case ggBadRoad => k_is)
    (case noBadRoad => k_is)
    (case inBadRoad => k_is)
    (case kpBadRoad => k_is)
    (case hdBadRoad => k_is)
    (case tBadPart => k_is)
    (case uBadPart => k_is)
    (case LBadPart => k_is)
    (case saBadPart => k_is)
    (case gaBadPart => k_is)
    (case ggBadPart => k_is)
    (case noBadPart => k_is)
    (case inBadPart => k_is)
    (case kpBadPart => k_is)
    (case hdBadPart => k_is)
    (case tBadMeeting => k_is)
    (case uBadMeeting => k_is)
    (case LBadMeeting => k_is)
    (case saBadMeeting => k_is)
    (case gaBadMeeting => k_is)
    (case ggBadMeeting => k_is)
    (case noBadMeeting => k_is)
    (case inBadMeeting => k_is)
    (case kpBadMeeting => k_is)
    (case hdBadMeeting => k_is)
    (case tBadMark => k_is)
    (case uBadMark => k_is)
    (case LBadMark => k_is)
    (case saBadMark => k_is)
    (case gaBadMark => k_is)
    (case ggBadMark => k_is)
    (case noBadMark => k_is)
    (case inBadMark => k_is)
    (case kpBadMark => k_is)
    (case hdBadMark => k_is)
    (case tTooMany => k_is)
    (case uTooMany => k_is)
    (case LTooMany => k_is)
    (case saTooMany => k_is)
    (case gaTooMany => k_is)
    (case ggTooMany => k_is)
    (case noTooMany => k_is)
    (case inTooMany => k_is)
    (case kpTooMany => k_is)
    (case hdTooMany => k_is)
    (case tyI => k_is)
    (case g_MOST_MEETINGS => k_is)
    (case g_MOST_HANDS => k_is)
    (case z_all => k_is)
    (case z_any => k_is)
    (case z_bool => k_is)
    (case z_dict => k_is)
    (case z_enumerate => k_is)
    (case z_int => k_is)
    (case z_isinstance => k_is)
    (case z_len => k_is)
    (case z_list => k_is)
    (case z_max => k_is)
    (case z_range => k_is)
    (case z_sorted => k_is)
    (case z_sum => k_is)
    (case z_tuple => k_is)
    (case z_zip => k_is)
