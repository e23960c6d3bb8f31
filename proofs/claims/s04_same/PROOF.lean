import PyProof.Rows.All
import Wide.All
import OpenK.AllK
import Wide.FinOn
import PyProof.EqAt
import PyProof.EqKinds
import PyProof.TupleCall
import KE.BitLaws
import Open.SpecLaws
import KE.OsHead
import KE.OsGo
import PySem.Challenge.RW_patchwords_s04_same
import Sn77Spec
import PySn77
set_option Elab.async false
set_option linter.all false
set_option maxRecDepth 100000
namespace L2
open PySem PySem.Spec PyProof.Rows
abbrev Key := Sum Int Str
def keyIs : Key -> Value -> Bool
  | .inl k, v => Value.isInt k v
  | .inr x, v => Value.isStrOf x v
def keyH (w : World) : Key -> Int
  | .inl k => hashInt k
  | .inr x => hashStr w x
theorem keyIs_shape : ∀ {k : Key} {v : Value}, keyIs k v = true -> (∃ i t, k = Sum.inl i /\ v = Value.int i t) ∨ (∃ x t, k = Sum.inr x /\ v = Value.str x t)
  | .inl i, v, h => by
    obtain ⟨t, e⟩ := Value.isInt_shape (k := i) (v := v) h
    exact .inl ⟨i, t, rfl, e⟩
  | .inr x, v, h => by
    obtain ⟨t, e⟩ := Value.isStrOf_shape (x := x) (v := v) h
    exact .inr ⟨x, t, rfl, e⟩
theorem keyIs_int (i : Int) (t : Tok) : keyIs (.inl i) (.int i t) = true := by simp [keyIs, Value.isInt]
theorem keyIs_str (x : Str) (t : Tok) : keyIs (.inr x) (.str x t) = true := by simp [keyIs, Value.isStrOf]
theorem key_ll (a b : Int) : decide ((Sum.inl a : Key) = Sum.inl b) = (a == b) := by
  by_cases e : a = b
  · subst e; simp
  · have h : ¬ (Sum.inl a : Key) = Sum.inl b := fun q => e (Sum.inl.inj q)
    rw [decide_eq_false h]
    exact (beq_eq_false_iff_ne.mpr e).symm
theorem key_rr (a b : Str) : decide ((Sum.inr a : Key) = Sum.inr b) = decide (a = b) := by
  by_cases e : a = b
  · subst e; simp
  · have h : ¬ (Sum.inr a : Key) = Sum.inr b := fun q => e (Sum.inr.inj q)
    rw [decide_eq_false h, decide_eq_false e]
theorem key_lr (a : Int) (b : Str) : decide ((Sum.inl a : Key) = Sum.inr b) = false := decide_eq_false (fun q => nomatch q)
theorem key_rl (a : Str) (b : Int) : decide ((Sum.inr a : Key) = Sum.inl b) = false := decide_eq_false (fun q => nomatch q)
def mixKind (prog : Program) (w : World) : PySem.KeyKind prog w Key where
  is := keyIs
  hash := keyH w
  inj := fun v a b ha hb => by
    rcases keyIs_shape ha with ⟨i, t, rfl, rfl⟩ | ⟨x, t, rfl, rfl⟩
    · rcases keyIs_shape hb with ⟨j, u, rfl, e⟩ | ⟨y, u, rfl, e⟩
      · injection e with e1 _; rw [e1]
      · exact nomatch e
    · rcases keyIs_shape hb with ⟨j, u, rfl, e⟩ | ⟨y, u, rfl, e⟩
      · exact nomatch e
      · injection e with e1 _; rw [e1]
  byValue := fun k v h => by
    rcases keyIs_shape h with ⟨i, t, rfl, rfl⟩ | ⟨x, t, rfl, rfl⟩ <;> rfl
  pyHash := fun hv h => by
    rcases keyIs_shape hv with ⟨i, t, rfl, rfl⟩ | ⟨x, t, rfl, rfl⟩
    · exact wpAny_pyHash_int h
    · exact wpAny_pyHash_str h
  eqBool := fun hu hv h => by
    rcases keyIs_shape hu with ⟨i, t, rfl, rfl⟩ | ⟨x, t, rfl, rfl⟩
    · rcases keyIs_shape hv with ⟨j, u, rfl, rfl⟩ | ⟨y, u, rfl, rfl⟩
      · rw [key_ll] at h; exact wpAny_eqBool_int h
      · rw [key_lr] at h; exact SeqAt.EqAt.int_str i t y u _ _ _ _ h
    · rcases keyIs_shape hv with ⟨j, u, rfl, rfl⟩ | ⟨y, u, rfl, rfl⟩
      · rw [key_rl] at h; exact SeqAt.EqAt.str_int x t j u _ _ _ _ h
      · rw [key_rr] at h; exact wpAny_eqBool_str h
  «strs» := fun k x t v h => by
    rcases keyIs_shape h with ⟨i, u, rfl, e⟩ | ⟨y, u, rfl, e⟩
    · exact nomatch e
    · injection e with e1 _
      subst e1
      cases v <;> rfl
theorem mixKind_int (prog : Program) (w : World) (i : Int) (t : Tok) : (mixKind prog w).is (.inl i) (.int i t) = true := keyIs_int i t
theorem mixKind_str (prog : Program) (w : World) (x : Str) (t : Tok) : (mixKind prog w).is (.inr x) (.str x t) = true := keyIs_str x t
end L2
namespace L2
open PySem PySem.Spec PyProof.Rows
inductive V where
  | non | bl (b : Bool) | int (i : Int) | str (x : Str) | byt (b : Array UInt8) | flt (b : UInt64) | ref (a : Addr) | ty (n : String)
  deriving DecidableEq
def RelV : V -> Value -> Prop
  | .non, u => u = Value.none
  | .bl b, u => u = Value.bool b
  | .int i, u => ∃ t, u = Value.int i t
  | .str x, u => ∃ t, u = Value.str x t
  | .byt b, u => ∃ t, u = Value.bytes b t
  | .flt b, u => ∃ t, u = Value.float b t
  | .ref a, u => u = Value.ref a
  | .ty n, u => u = Value.type n
abbrev Vals : List V -> List Value -> Prop := Paired RelV
theorem Vals.length {xs : List V} {us : List Value} (r : Vals xs us) : xs.length = us.length := Paired.length r
theorem Vals.get : ∀ {xs : List V} {us : List Value} {i : Nat} {x : V}, Vals xs us -> xs[i]? = some x -> ∃ u, us[i]? = some u /\ RelV x u
  | _, _, _, _, .nil, e => by simp at e
  | _, _, 0, _, .cons r _, e => by simp at e; subst e; exact ⟨_, rfl, r⟩
  | _, _, i + 1, x, .cons _ t, e => by
    obtain ⟨u, h1, h2⟩ := Vals.get (i := i) (x := x) t (by simpa using e)
    exact ⟨u, by simpa using h1, h2⟩
theorem Vals.append : ∀ {xs ys : List V} {us ws : List Value}, Vals xs us -> Vals ys ws -> Vals (xs ++ ys) (us ++ ws)
  | _, _, _, _, .nil, s => s
  | _, _, _, _, .cons r t, s => .cons r (Vals.append t s)
theorem Vals.take : ∀ {xs : List V} {us : List Value} (n : Nat), Vals xs us -> Vals (xs.take n) (us.take n)
  | _, _, 0, _ => .nil
  | _, _, _ + 1, .nil => .nil
  | _, _, n + 1, .cons r t => .cons r (Vals.take n t)
theorem Vals.drop : ∀ {xs : List V} {us : List Value} (n : Nat), Vals xs us -> Vals (xs.drop n) (us.drop n)
  | _, _, 0, r => r
  | _, _, _ + 1, .nil => .nil
  | _, _, n + 1, .cons _ t => Vals.drop n t
def RelO : Option V -> Option Value -> Prop
  | some v, some u => RelV v u
  | none, none => True
  | _, _ => False
def KV {κ : Type} : List (κ × V) -> List (κ × Value) -> Prop := Paired fun (p : κ × V) (q : κ × Value) => p.1 = q.1 /\ RelV p.2 q.2
def kV : Key -> V
  | .inl i => .int i
  | .inr x => .str x
inductive HO where
  /-- a list -/
  | lst (xs : List V)
  /-- a tuple (never changes) -/
  | tup (xs : List V)
  /-- a dict whose keys are ints and texts; one whose keys are tuples of ints and texts (the empty one is both) -/
  | dK (kvs : List (Key × V)) | dT (kvs : List (List Key × V))
  /-- a set of ints: its members, its size -/
  | set (S : Int -> Bool) (n : Nat)
  /-- an instance of the class at C, its dict at dx, its attributes -/
  | ins (C dx : Addr) (fs : List (Str × V))
  /-- the dict of the instance at x -/
  | own (x : Addr)
  /-- the dict of an exception -/
  | xd (fs : List (Str × V))
  /-- a bound method, f of x -/
  | met (f x : Addr)
  /-- a range object lo, lo + 1, .. below hi -/
  | rng (lo hi : Int)
  /-- a thing that is known to the object (the script; a dict while a loop walks it): read, never written while it is so -/
  | frz (o : Obj) (u : HO)
  /-- a code object's table -/
  | tbl (ps : Array Value)
  /-- any other thing, by what is true of its one object (a def of one's own: SetO a S n := HO.ext fun h => ..) -/
  | ext (φ : Heap -> Prop)
abbrev Hp := Addr -> Option HO
def upd (H : Hp) (a : Addr) (o : HO) : Hp := fun b => if b = a then some o else H b
theorem upd_same {H : Hp} {a : Addr} {o : HO} : upd H a o a = some o := by unfold upd; rw [if_pos rfl]
theorem upd_ne {H : Hp} {a b : Addr} {o : HO} (h : b ≠ a) : upd H a o b = H b := by unfold upd; rw [if_neg h]
theorem upd_upd {H : Hp} {a : Addr} {o u : HO} : upd (upd H a o) a u = upd H a u := by
  funext b; unfold upd; split <;> rfl
theorem ne_of {H : Hp} {a b : Addr} {o u : HO} (h : H a = some o) (h' : H b = some u) (d : o ≠ u) : a ≠ b := by
  intro e; subst e; rw [h] at h'; exact d (Option.some.inj h')
theorem ne_of_none {H : Hp} {a b : Addr} {o : HO} (h : H a = some o) (h' : H b = none) : a ≠ b := by
  intro e; subst e; rw [h] at h'; cases h'
section
variable (P : Program) (w : World)
def ObjOk (H : Hp) (h : Heap) (a : Addr) : HO -> Prop
  | .lst xs => xs.length <= sizeLine /\ ∃ (its : List Value) (n : Nat), Vals xs its /\ h.get? a = some { cls := .type "list", data := .seq its.toArray n }
  | .tup xs => xs.length <= sizeLine /\ ∃ its : List Value, Vals xs its /\ IsTup h a its.toArray
  | .dK kvs => kvs.length <= sizeLine /\ (a == sysModules) = false /\ ∃ vs, KV kvs vs /\ h.DictOf (mixKind P w) a vs
  | .dT kvs => kvs.length <= sizeLine /\ (a == sysModules) = false /\ ∃ xs : List (List Key × Addr × Value),
      Paired (fun (p : List Key × V) (q : List Key × Addr × Value) => p.1 = q.1 /\ H q.2.1 = some (.tup (p.1.map kV)) /\ RelV p.2 q.2.2) kvs xs /\
      ∃ o es ep, h.get? a = some o /\ o.ExactDict /\ o.data = .dict es ep /\ es.toList = xs.map (entryOfKey (tupleKind (mixKind P w))) /\ (xs.map (·.1)).Nodup
  | .set S n => h.SetOf (intKind P w) a S n
  | .ins C dx fs => H dx = some (.own a) /\ fs.length <= 1000 /\ dx ≠ a /\ h.get? a = some (PySem.W.instObj C dx) /\
      ∃ mA, h.Ns1 dx mA /\ (∀ f, RelO (fs.lookup f) (mA f)) /\ PySem.Within mA (fs.map (·.1))
  | .own _ => ∃ o, h.get? a = some o
  | .xd fs => ∃ mA, h.Ns1 a mA /\ ∀ f, RelO (fs.lookup f) (mA f)
  | .rng lo hi => ∃ t u v, h.get? a = some { cls := .type "range", data := .fields #[.int lo t, .int hi u, .int 1 v] }
  | .frz o u => h.get? a = some o /\ ObjOk H h a u
  | .tbl ps => h.get? a = some { cls := .none, data := .fields ps }
  | .met f x => h.get? a = some (PySem.W.methodObj (.ref f) (.ref x))
  | .ext φ => φ h /\ (∃ o, h.get? a = some o) /\ ∀ h1 h2 : Heap, φ h1 -> (∀ o, h1.get? a = some o -> h2.get? a = some o) -> φ h2
def HOk (H : Hp) (h : Heap) : Prop := ∀ a o, H a = some o -> ObjOk P w H h a o
end
section
variable {P : Program} {w : World} {H H' : Hp} {h h' : Heap} {a : Addr} {o : HO}
theorem ObjOk.lt (x : ObjOk P w H h a o) : a < h.objs.size := by
  cases o with
  | lst xs => obtain ⟨_, _, _, _, e⟩ := x; exact Heap.lt_size e
  | tup xs => obtain ⟨_, _, _, p⟩ := x; exact p.lt
  | dK kvs => obtain ⟨_, _, _, _, o, _, _, e, _⟩ := x; exact Heap.lt_size e
  | dT kvs => obtain ⟨_, _, _, _, o, _, _, e, _⟩ := x; exact Heap.lt_size e
  | set S n => obtain ⟨o, _, _, _, e, _⟩ := x; exact Heap.lt_size e
  | ins C dx fs => obtain ⟨_, _, _, e, _⟩ := x; exact Heap.lt_size e
  | own y => obtain ⟨_, e⟩ := x; exact Heap.lt_size e
  | xd fs => obtain ⟨_, ⟨_, _, _, e, _⟩, _⟩ := x; exact Heap.lt_size e
  | rng lo hi => obtain ⟨_, _, _, e⟩ := x; exact Heap.lt_size e
  | frz ob u => obtain ⟨e, _⟩ := x; exact Heap.lt_size e
  | tbl ps => exact Heap.lt_size (show h.get? a = some _ from x)
  | met f y => exact Heap.lt_size (show h.get? a = some _ from x)
  | ext φ => obtain ⟨_, ⟨_, e⟩, _⟩ := x; exact Heap.lt_size e
theorem Paired.mapP {α β : Type} {F G : α -> β -> Prop} : ∀ {l₁ : List α} {l₂ : List β}, Paired F l₁ l₂ -> (∀ a b, F a b -> G a b) -> Paired G l₁ l₂
  | _, _, .nil, _ => .nil
  | _, _, .cons r t, f => .cons (f _ _ r) (Paired.mapP t f)
theorem ObjOk.stay (x : ObjOk P w H h a o) (k : ∀ b u, (b = a ∨ H b = some (.own a)) -> h.get? b = some u -> h'.get? b = some u)
    (ho : ∀ b, H b = some (.own a) -> H' b = some (.own a)) (ht : ∀ b xs, H b = some (.tup xs) -> H' b = some (.tup xs)) : ObjOk P w H' h' a o := by
  induction o with
  | lst xs => obtain ⟨z, its, n, r, e⟩ := x; exact ⟨z, its, n, r, k _ _ (.inl rfl) e⟩
  | tup xs => obtain ⟨z, its, r, ob, e, c⟩ := x; exact ⟨z, its, r, ob, k _ _ (.inl rfl) e, c⟩
  | dK kvs => obtain ⟨z, y, vs, r, ob, es, ep, e, c⟩ := x; exact ⟨z, y, vs, r, ob, es, ep, k _ _ (.inl rfl) e, c⟩
  | dT kvs =>
    obtain ⟨z, y, xs, r, ob, es, ep, e, c⟩ := x
    exact ⟨z, y, xs, Paired.mapP r fun p q z => ⟨z.1, ht _ _ z.2.1, z.2.2⟩, ob, es, ep, k _ _ (.inl rfl) e, c⟩
  | set S n => obtain ⟨ob, es, ep, t, e, c⟩ := x; exact ⟨ob, es, ep, t, k _ _ (.inl rfl) e, c⟩
  | ins C dx fs =>
    obtain ⟨d, z, ne, e, mA, ⟨od, es, ep, e2, c⟩, r⟩ := x
    exact ⟨ho _ d, z, ne, k _ _ (.inl rfl) e, mA, ⟨od, es, ep, k _ _ (.inr d) e2, c⟩, r⟩
  | own y => obtain ⟨ob, e⟩ := x; exact ⟨ob, k _ _ (.inl rfl) e⟩
  | xd fs => obtain ⟨mA, ⟨od, es, ep, e, c⟩, r⟩ := x; exact ⟨mA, ⟨od, es, ep, k _ _ (.inl rfl) e, c⟩, r⟩
  | rng lo hi => obtain ⟨t, u, v, e⟩ := x; exact ⟨t, u, v, k _ _ (.inl rfl) e⟩
  | frz ob u ih => obtain ⟨e, q⟩ := x; exact ⟨k _ _ (.inl rfl) e, ih q⟩
  | tbl ps =>
    have e : h.get? a = some { cls := .none, data := .fields ps } := x
    show h'.get? a = some { cls := .none, data := .fields ps }
    exact k a _ (.inl rfl) e
  | met f y =>
    have e : h.get? a = some (PySem.W.methodObj (.ref f) (.ref y)) := x
    show h'.get? a = some (PySem.W.methodObj (.ref f) (.ref y))
    exact k a _ (.inl rfl) e
  | ext φ => obtain ⟨p, ⟨o, e⟩, st⟩ := x; exact ⟨st _ _ p fun o q => k _ _ (.inl rfl) q, ⟨o, k _ _ (.inl rfl) e⟩, st⟩
theorem HOk.lt (x : HOk P w H h) (e : H a = some o) : a < h.objs.size := (x a o e).lt
theorem HOk.fresh (x : HOk P w H h) (e : h.objs.size <= a) : H a = none := by
  cases q : H a with
  | none => rfl
  | some u => exact absurd (Nat.lt_of_lt_of_le (x.lt q) e) (Nat.lt_irrefl _)
theorem HOk.kept (x : HOk P w H h) (k : ∀ b u, h.get? b = some u -> h'.get? b = some u) : HOk P w H h' := fun a o e =>
  (x a o e).stay (fun b u _ q => k b u q) (fun _ q => q) fun _ _ q => q
theorem HOk.laid (x : HOk P w H h) (k : ∀ b u, h.get? b = some u -> h'.get? b = some u) (hp : h.objs.size <= a) (new : ObjOk P w (upd H a o) h' a o) : HOk P w (upd H a o) h' := fun b u e => by
  have hn := x.fresh hp
  by_cases hb : b = a
  · subst hb; rw [upd_same] at e; cases e; exact new
  · rw [upd_ne hb] at e
    exact (x b u e).stay (fun c v _ q => k c v q) (fun c q => by rw [upd_ne (ne_of_none q hn)]; exact q) fun c xs q => by rw [upd_ne (ne_of_none q hn)]; exact q
end
def Rd (H : Hp) (a : Addr) (u : HO) : Prop := H a = some u ∨ ∃ o, H a = some (.frz o u)
theorem Rd.ok {P : Program} {w : World} {H : Hp} {h : Heap} {a : Addr} {u : HO} (r : Rd H a u) (x : HOk P w H h) : ObjOk P w H h a u := by
  rcases r with r | ⟨o, r⟩
  · exact x a u r
  · obtain ⟨_, q⟩ := x a _ r
    exact q
def Mut : Option HO -> Prop
  | some (.lst _) => True
  | some (.dK _) => True
  | some (.dT _) => True
  | some (.set _ _) => True
  | some (.ins _ _ _) => True
  | some (.ext _) => True
  | _ => False
section
variable {P : Program} {w : World} {H : Hp} {h h' : Heap} {x e : Addr} {o' : HO}
theorem HOk.write (ok : HOk P w H h) (mu : Mut (H x)) (he : e = x ∨ H e = some (.own x)) (k : ∀ b u, b ≠ e -> h.get? b = some u -> h'.get? b = some u) (heo : ∃ u, h'.get? e = some u)
    (new : ObjOk P w (upd H x o') h' x o') : HOk P w (upd H x o') h' := fun b u q => by
  have nown : ∀ c y, H c = some (.own y) -> c ≠ x := fun c y r z => by subst z; rw [r] at mu; exact mu
  have ntup : ∀ c xs, H c = some (.tup xs) -> c ≠ x := fun c xs r z => by subst z; rw [r] at mu; exact mu
  by_cases hb : b = x
  · subst hb; rw [upd_same] at q; cases q; exact new
  · rw [upd_ne hb] at q
    by_cases hbe : b = e
    · have q' : H b = some (.own x) := by
        rcases he with z | z
        · exact absurd (hbe.trans z) hb
        · rw [hbe]; exact z
      rw [q] at q'; cases q'
      obtain ⟨v, hv⟩ := heo
      exact ⟨v, by rw [hbe]; exact hv⟩
    · refine (ok b u q).stay (fun c v hc r => k c v ?_ r) (fun c r => by rw [upd_ne (nown c b r)]; exact r) fun c xs r => by rw [upd_ne (ntup c xs r)]; exact r
      rcases hc with rfl | hc
      · exact hbe
      · rintro rfl
        rcases he with z | z
        · exact nown c b hc z
        · rw [hc] at z; cases z; exact hb rfl
end
structure Un (fs ex : List Addr) (H H' : Hp) (h h' : Heap) : Prop where
  keep : ∀ b o, h.get? b = some o -> H b = none -> b ∉ fs -> b ∉ ex -> h'.get? b = some o
  slot : ∀ b o, h.get? b = some o -> H b = none -> b ∈ fs -> b ∉ ex -> ∃ sl, h'.get? b = some { o with slots := sl }
  free : ∀ b o, h.get? b = some o -> H b = none -> b ∉ ex -> H' b = none
  there : ∀ b o, h.get? b = some o -> b ∉ ex -> ∃ o', h'.get? b = some o'
  tups : ∀ b xs, H b = some (.tup xs) -> H' b = some (.tup xs)
  frzs : ∀ b o u, H b = some (.frz o u) -> H' b = some (.frz o u)
  tbls : ∀ b ps, H b = some (.tbl ps) -> ∃ more, H' b = some (.tbl (ps ++ more))
section
variable {fs fs' ex ex' : List Addr} {H H1 H2 : Hp} {h h1 h2 h' : Heap} {a x e : Addr} {o : HO}
theorem Un.any (u : Un fs ex H H1 h h1) {b : Addr} {ob : Obj} (q : h.get? b = some ob) (n : H b = none) (hx : b ∉ ex) : ∃ sl, h1.get? b = some { ob with slots := sl } := by
  by_cases hb : b ∈ fs
  · exact u.slot b ob q n hb hx
  · exact ⟨ob.slots, u.keep b ob q n hb hx⟩
theorem Un.kept (k : ∀ b u, h.get? b = some u -> h'.get? b = some u) : Un fs ex H H h h' :=
  ⟨fun b ob q _ _ _ => k b ob q, fun b ob q _ _ _ => ⟨ob.slots, k b ob q⟩, fun _ _ _ n _ => n, fun b ob q _ => ⟨ob, k b ob q⟩, fun _ _ q => q, fun _ _ _ q => q, fun _ ps q => ⟨#[], by rw [q]; simp⟩⟩
theorem Un.refl : Un fs ex H H h h := Un.kept fun _ _ q => q
theorem Un.laid (k : ∀ b u, h.get? b = some u -> h'.get? b = some u) (hp : h.objs.size <= a) (hn : H a = none) : Un fs ex H (upd H a o) h h' where
  keep := fun b u q _ _ _ => k b u q
  slot := fun b u q _ _ _ => ⟨u.slots, k b u q⟩
  free := fun b u q n _ => by rw [upd_ne (Nat.ne_of_lt (Nat.lt_of_lt_of_le (Heap.lt_size q) hp))]; exact n
  there := fun b u q _ => ⟨u, k b u q⟩
  tups := fun b xs q => by rw [upd_ne (ne_of_none q hn)]; exact q
  frzs := fun b u xs q => by rw [upd_ne (ne_of_none q hn)]; exact q
  tbls := fun b ps q => ⟨#[], by rw [upd_ne (ne_of_none q hn), q]; simp⟩
theorem Un.write (mu : Mut (H x)) (he : e = x ∨ H e = some (.own x)) (k : ∀ b u, b ≠ e -> h.get? b = some u -> h'.get? b = some u) (heo : ∃ u, h'.get? e = some u) : Un fs ex H (upd H x o) h h' := by
  have hx : ∀ b, H b = none -> b ≠ x := fun b n z => by subst z; rw [n] at mu; exact mu
  have hb : ∀ b, H b = none -> b ≠ e := fun b n z => by
    subst z
    rcases he with r | r
    · exact hx b n r
    · rw [n] at r; cases r
  have hm : ∀ b u, H b = some u -> ¬ Mut (some u) -> b ≠ x := fun b u q nm z => by subst z; rw [q] at mu; exact nm mu
  refine ⟨fun b u q n _ _ => k b u (hb b n) q, fun b u q n _ _ => ⟨u.slots, k b u (hb b n) q⟩, fun b u q n _ => by rw [upd_ne (hx b n)]; exact n, fun b u q _ => ?_,
    fun b xs q => by rw [upd_ne (hm b _ q fun z => z)]; exact q, fun b u xs q => by rw [upd_ne (hm b _ q fun z => z)]; exact q, fun b ps q => ⟨#[], by rw [upd_ne (hm b _ q fun z => z), q]; simp⟩⟩
  by_cases hbe : b = e
  · subst hbe; exact heo
  · exact ⟨u, k b u hbe q⟩
end
def trk (h : Heap) (H : Hp) : List Addr := (List.range h.objs.size).filter fun a => (H a).isSome
def hidT (h : Heap) (H : Hp) : Heap := PySem.W.hideAll h (trk h H)
theorem hidT_size (h : Heap) (H : Hp) : (hidT h H).objs.size = h.objs.size := PySem.W.hideAll_size _ _
theorem hidT_get {h : Heap} {H : Hp} {b : Addr} {o : Obj} (e : h.get? b = some o) (n : H b = none) : (hidT h H).get? b = some o :=
  PySem.W.hideAll_get _ e fun hm => by
    have q : (H b).isSome = true := (List.mem_filter.mp hm).2
    rw [n] at q; simp at q
theorem of_hidT {h : Heap} {H : Hp} {b : Addr} {o : Obj} (e : (hidT h H).get? b = some o) : h.get? b = some o /\ H b = none := by
  have e' : h.get? b = some o := PySem.W.of_hideAll (trk h H) e
  refine ⟨e', ?_⟩
  cases q : H b with
  | none => rfl
  | some x =>
    have hm : b ∈ trk h H := List.mem_filter.mpr ⟨List.mem_range.mpr (Heap.lt_size e'), by simp [q]⟩
    have z : (hidT h H).get? b = none := PySem.W.hideAll_none (trk h H) hm
    rw [z] at e; cases e
end L2
namespace L2
open PySem PySem.Spec PyProof.Rows
structure Mod (K : PySem.W.Frag) (mg : Str -> Option Value) (base : Heap) : Prop where
  kin : K.In base
  glob : base.Ns mainGlobals mg
  blt : ∃ mb, base.Ns builtinsNs mb /\ ∀ x : Str, x ≠ "__name__" -> mb x = bootBuiltins x
  nolimit : base.NoLimit
structure Cx where
  prog : Program
  w : World
  K : PySem.W.Frag
  mg : Str -> Option Value
  base : Heap
  A : Around
  N : List Str
  s_0 : Shared
  H_0 : Hp
  env : Env
  outer : List Env
  stack : List Env
  ex : List Addr
  fn : Str -> Bool
  calm : Bool
  pn : List (Addr × Obj)
  xe : Value -> Shared -> Prop
def frs (l : List Env) : List Addr := l.filterMap (·.frame)
abbrev Cx.fs (X : Cx) : List Addr := frs X.outer
def Vis (sc : Scope) (x : Str) : Prop := sc.names.lookup x = some .local ∨ sc.names.lookup x = some .cell ∨ sc.names.lookup x = some .free
def Loc (sc : Scope) (x : Str) : Prop := sc.names.lookup x = some .local ∨ sc.names.lookup x = some .cell
def Look (env : Env) (h : Heap) (m : Str -> Option Value) (x : Str) (u : Value) : Prop :=
  (env.kindOf x = some .local /\ m x = some u) ∨ ((env.kindOf x = some .cell ∨ env.kindOf x = some .free) /\ ∃ c, env.cells.lookup x = some c /\ h.IsCell c (some u))
structure Cx.Ok (X : Cx) : Prop where
  mod : Mod X.K X.mg X.base
  kind : X.env.scope.kind = .function
  glob : X.env.globals = mainGlobals
  blt : X.env.builtins = builtinsNs
  above : X.s_0.heap.objs.size <= X.env.locals
  inj : ∀ x y c, X.env.cells.lookup x = some c -> X.env.cells.lookup y = some c -> x = y
  has : ∀ x, (X.env.kindOf x = some .cell ∨ X.env.kindOf x = some .free) -> ∃ c, X.env.cells.lookup x = some c
  cab : ∀ x c, X.fn x = true -> X.env.cells.lookup x = some c -> X.s_0.heap.objs.size <= c
  hd : X.calm = true -> X.A.handled = none
  frames : X.A.frames = some X.stack
  stk : X.stack = X.outer ∨ (X.stack = X.env :: X.outer /\ X.env.frame = some X.env.locals)
  exf : ∀ b ∈ X.ex, b ≠ X.env.locals /\ ∀ x c, X.env.cells.lookup x = some c -> c ≠ b
  bs : ∀ b o, X.base.get? b = some o -> X.s_0.heap.get? b = some o /\ X.H_0 b = none
  bsz : X.base.objs.size <= X.s_0.heap.objs.size
  noex : ∀ b o, X.base.get? b = some o -> b ∉ X.ex
  exfs : ∀ b ∈ X.ex, b ∉ X.fs
  funs : X.s_0.heap.FunFrames X.base X.outer
  frf : ∀ b ∈ X.fs, X.H_0 b = none
structure Inv (X : Cx) (pins : List (Addr × Obj)) (σ : List (Option V)) (H : Hp) (s : Shared) : Prop where
  ok : X.Ok
  os : s.os = X.s_0.os
  bare : AllBare s.gens
  base : Un X.fs X.ex X.H_0 H X.s_0.heap s.heap
  loc : ∃ m, s.heap.Ns X.env.locals m /\ ∀ (i : Nat) (x : Str) (v : V), X.N[i]? = some x -> σ[i]? = some (some v) -> Vis X.env.scope x -> ∃ u, RelV v u /\ Look X.env s.heap m x u
  cell : ∀ x c, X.env.cells.lookup x = some c -> ∃ v, s.heap.IsCell c v
  free : H X.env.locals = none
  freeC : ∀ x c, X.env.cells.lookup x = some c -> H c = none
  pin : ∀ p ∈ X.pn ++ pins, s.heap.get? p.1 = some p.2 /\ H p.1 = none /\ p.1 ≠ X.env.locals /\ p.1 ∉ X.fs /\ ∀ v, p.2.data ≠ .cell v
  hok : HOk X.prog X.w H s.heap
  len : σ.length = X.N.length
section
variable {X : Cx} {pins : List (Addr × Obj)} {σ : List (Option V)} {H H' : Hp} {s : Shared} {h' : Heap}
theorem Cx.Ok.nofr (ok : X.Ok) {b : Addr} {o : Obj} (e : X.base.get? b = some o) : b ∉ X.fs := fun hb => by
  have := (ok.funs.mem hb).1
  rw [e] at this; cases this
theorem Inv.bs (I : Inv X pins σ H s) : ∀ b o, X.base.get? b = some o -> s.heap.get? b = some o /\ H b = none := fun b o e =>
  ⟨I.base.keep b o (I.ok.bs b o e).1 (I.ok.bs b o e).2 (I.ok.nofr e) (I.ok.noex b o e), I.base.free b o (I.ok.bs b o e).1 (I.ok.bs b o e).2 (I.ok.noex b o e)⟩
theorem Inv.bk (I : Inv X pins σ H s) : ∀ b o, X.base.get? b = some o -> s.heap.get? b = some o := fun b o e => (I.bs b o e).1
theorem Inv.mod (I : Inv X pins σ H s) : Mod X.K X.mg X.base := I.ok.mod
theorem Inv.kIn (I : Inv X pins σ H s) : X.K.In s.heap := I.ok.mod.kin.keeps I.bk
theorem Inv.lt (I : Inv X pins σ H s) : X.env.locals < s.heap.objs.size := let ⟨_, hn, _⟩ := I.loc; hn.lt
theorem Inv.sz (I : Inv X pins σ H s) : X.s_0.heap.objs.size <= s.heap.objs.size := Nat.le_trans I.ok.above (Nat.le_of_lt I.lt)
theorem Inv.nofs (I : Inv X pins σ H s) {a : Addr} (h : s.heap.objs.size <= a) : a ∉ X.fs := fun hb => by
  obtain ⟨_, o, ho, _⟩ := I.ok.funs.mem hb
  exact absurd (Nat.lt_of_lt_of_le (Heap.lt_size ho) (Nat.le_trans I.sz h)) (Nat.lt_irrefl _)
theorem Inv.cne (I : Inv X pins σ H s) : ∀ x c, X.env.cells.lookup x = some c -> c ≠ X.env.locals := fun x c e z => by
  obtain ⟨v, o, ho, hd⟩ := I.cell x c e
  obtain ⟨m, ⟨o', es, ep, ho', hd', _⟩, _⟩ := I.loc
  rw [z, ho'] at ho; cases ho; rw [hd'] at hd; cases hd
theorem Inv.funs (I : Inv X pins σ H s) : s.heap.FunFrames X.base X.outer := by
  have all : ∀ (l : List Env), (∀ b ∈ frs l, b ∈ X.fs) -> X.s_0.heap.FunFrames X.base l -> s.heap.FunFrames X.base l := by
    intro l
    induction l with
    | nil => intro _ _; trivial
    | cons env r ih =>
      intro hs hl
      obtain ⟨hk, ⟨L, o, hf, hn, ho, hd⟩, hr⟩ := hl
      have hL : L ∈ X.fs := hs L (by unfold frs; rw [List.filterMap_cons, hf]; exact List.mem_cons_self)
      obtain ⟨sl, e⟩ := I.base.slot L o ho (I.ok.frf L hL) hL fun z => I.ok.exfs L z hL
      exact ⟨hk, ⟨L, _, hf, hn, e, hd⟩, ih (fun b hb => hs b (by unfold frs; rw [List.filterMap_cons, hf]; exact List.mem_cons_of_mem _ hb)) hr⟩
  exact all X.outer (fun _ hb => hb) I.ok.funs
theorem Inv.stack (I : Inv X pins σ H s) : s.heap.FunFrames X.base X.stack := by
  rcases I.ok.stk with e | ⟨e, hf⟩
  · rw [e]; exact I.funs
  · rw [e]
    obtain ⟨m, hn, _⟩ := I.loc
    refine .cons (by rw [I.ok.kind]; decide) hf hn ?_ I.funs
    exact Heap.get?_none_of_le (Nat.le_trans I.ok.bsz I.ok.above)
theorem Inv.stkSub (I : Inv X pins σ H s) : ∀ b ∈ frs X.stack, b ∈ X.env.locals :: X.fs := fun b hb => by
  rcases I.ok.stk with e | ⟨e, hf⟩
  · rw [e] at hb; exact List.mem_cons_of_mem _ hb
  · rw [e] at hb
    unfold frs at hb
    rw [List.filterMap_cons, hf] at hb
    exact hb
theorem Inv.stkFree (I : Inv X pins σ H s) : ∀ b ∈ frs X.stack, H b = none := fun b hb => by
  rcases List.mem_cons.mp (I.stkSub b hb) with e | hb
  · rw [e]; exact I.free
  · obtain ⟨_, o, ho, _⟩ := I.ok.funs.mem hb
    exact I.base.free b o ho (I.ok.frf b hb) fun z => I.ok.exfs b z hb
theorem Inv.step {g' : Array GenState} {t' : Nat} {d' : Drawn} {ch : List Addr} (I : Inv X pins σ H s)
    (hch : ∀ b ∈ ch, (b ∈ X.ex ∨ X.s_0.heap.objs.size <= b) /\ b ≠ X.env.locals /\ (∀ x c, X.env.cells.lookup x = some c -> c ≠ b) /\ ∀ p ∈ X.pn ++ pins, p.1 ≠ b)
    (keep : ∀ b o, b ≠ X.env.locals -> b ∉ X.fs -> b ∉ ch -> s.heap.get? b = some o -> H b = none -> h'.get? b = some o)
    (slot : ∀ b o, b ≠ X.env.locals -> b ∈ X.fs -> b ∉ ch -> s.heap.get? b = some o -> H b = none -> ∃ sl, h'.get? b = some { o with slots := sl }) (free : ∀ b o, b ∉ ch -> s.heap.get? b = some o -> H b = none -> H' b = none)
    (there : ∀ b o, b ∉ ch -> s.heap.get? b = some o -> ∃ o', h'.get? b = some o')
    (tups : ∀ b xs, H b = some (.tup xs) -> H' b = some (.tup xs)) (frzs : ∀ b o u, H b = some (.frz o u) -> H' b = some (.frz o u)) (tbls : ∀ b ps, H b = some (.tbl ps) -> ∃ more, H' b = some (.tbl (ps ++ more)))
    (ns : ∀ m, s.heap.Ns X.env.locals m -> h'.Ns X.env.locals m) (hok : HOk X.prog X.w H' h') (hg : AllBare g') :
    Inv X pins σ H' { s with heap := h', gens := g', drawn := d', toks := t' } := by
  have neL : ∀ b o, X.s_0.heap.get? b = some o -> b ≠ X.env.locals := fun b o e => Nat.ne_of_lt (Nat.lt_of_lt_of_le (Heap.lt_size e) I.ok.above)
  have neC : ∀ b o, X.s_0.heap.get? b = some o -> b ∉ X.ex -> b ∉ ch := fun b o e hx hb => by
    rcases (hch b hb).1 with z | z
    · exact hx z
    · exact absurd (Nat.lt_of_lt_of_le (Heap.lt_size e) z) (Nat.lt_irrefl _)
  have cellK : ∀ x c, X.env.cells.lookup x = some c -> ∀ v, s.heap.IsCell c v -> h'.IsCell c v := fun x c e v ⟨o, ho, hd⟩ => by
    have nch : c ∉ ch := fun z => (hch c z).2.2.1 x c e rfl
    by_cases hc : c ∈ X.fs
    · obtain ⟨sl, q⟩ := slot c o (I.cne x c e) hc nch ho (I.freeC x c e)
      exact ⟨_, q, hd⟩
    · exact ⟨o, keep c o (I.cne x c e) hc nch ho (I.freeC x c e), hd⟩
  refine ⟨I.ok, I.os, hg, ⟨fun b o e n hb hx => ?_, fun b o e n hb hx => ?_, fun b o e n hx => ?_, fun b o e hx => ?_, fun b xs e => tups b xs (I.base.tups b xs e), fun b o xs e => frzs b o xs (I.base.frzs b o xs e), fun b ps e => ?_⟩, ?_, fun x c e => ?_, ?_, fun x c e => ?_, fun p hp => ?_, hok, I.len⟩
  · exact keep b o (neL b o e) hb (neC b o e hx) (I.base.keep b o e n hb hx) (I.base.free b o e n hx)
  · obtain ⟨sl, e1⟩ := I.base.slot b o e n hb hx
    obtain ⟨sl', e2⟩ := slot b _ (neL b o e) hb (neC b o e hx) e1 (I.base.free b o e n hx)
    exact ⟨sl', e2⟩
  · obtain ⟨o', e1⟩ := I.base.there b o e hx
    exact free b o' (neC b o e hx) e1 (I.base.free b o e n hx)
  · obtain ⟨o', e1⟩ := I.base.there b o e hx
    exact there b o' (neC b o e hx) e1
  · obtain ⟨m1, e1⟩ := I.base.tbls b ps e
    obtain ⟨m2, e2⟩ := tbls b _ e1
    exact ⟨m1 ++ m2, by rw [e2, Array.append_assoc]⟩
  · obtain ⟨m, hn, hl⟩ := I.loc
    refine ⟨m, ns m hn, fun i x v e1 e2 e3 => ?_⟩
    obtain ⟨u, r, l⟩ := hl i x v e1 e2 e3
    refine ⟨u, r, ?_⟩
    rcases l with l | ⟨k, c, e, z⟩
    · exact .inl l
    · exact .inr ⟨k, c, e, cellK x c e _ z⟩
  · obtain ⟨v, z⟩ := I.cell x c e
    exact ⟨v, cellK x c e v z⟩
  · obtain ⟨m, ⟨o, _, _, ho, _⟩, _⟩ := I.loc
    exact free _ o (fun z => (hch _ z).2.1 rfl) ho I.free
  · obtain ⟨v, o, ho, hd⟩ := I.cell x c e
    exact free c o (fun z => (hch c z).2.2.1 x c e rfl) ho (I.freeC x c e)
  · obtain ⟨e, n, ne, nf, d⟩ := I.pin p hp
    have nch : p.1 ∉ ch := fun z => (hch p.1 z).2.2.2 p hp rfl
    exact ⟨keep p.1 p.2 ne nf nch e n, free p.1 p.2 nch e n, ne, nf, d⟩
theorem Inv.un {t' : Nat} (I : Inv X pins σ H s) (u : Un X.fs [] H H' s.heap h') (hok : HOk X.prog X.w H' h') : Inv X pins σ H' { s with heap := h', toks := t' } := by
  obtain ⟨m, ⟨o, es, ep, ho, r⟩, _⟩ := id I.loc
  obtain ⟨sl, hL⟩ := u.any ho I.free (by simp)
  exact I.step (g' := s.gens) (d' := s.drawn) (ch := []) (fun _ z => nomatch z) (fun b o _ hb _ e n => u.keep b o e n hb (by simp)) (fun b o _ hb _ e n => u.slot b o e n hb (by simp)) (fun b o _ e n => u.free b o e n (by simp)) (fun b o _ e => u.there b o e (by simp)) u.tups u.frzs u.tbls (fun m' hm => by
    obtain ⟨o', es', ep', ho', r'⟩ := hm
    rw [ho] at ho'; cases ho'
    exact ⟨_, es', ep', hL, r'⟩) hok I.bare
theorem Inv.call {g' : Array GenState} {t' : Nat} {d' : Drawn} {ch : List Addr} (I : Inv X pins σ H s) (u : Un (frs X.stack) ch H H' s.heap h') (hok : HOk X.prog X.w H' h') (hg : AllBare g')
    (hch : ∀ b ∈ ch, (b ∈ X.ex ∨ X.s_0.heap.objs.size <= b) /\ b ≠ X.env.locals /\ (∀ x c, X.env.cells.lookup x = some c -> c ≠ b) /\ ∀ p ∈ X.pn ++ pins, p.1 ≠ b) :
    Inv X pins σ H' { s with heap := h', gens := g', drawn := d', toks := t' } := by
  obtain ⟨m, ⟨o, es, ep, ho, r⟩, _⟩ := id I.loc
  obtain ⟨sl, hL⟩ := u.any ho I.free fun z => (hch _ z).2.1 rfl
  exact I.step (ch := ch) hch (fun b o hL hb hc e n => u.keep b o e n (fun z => (List.mem_cons.mp (I.stkSub b z)).elim hL hb) hc) (fun b o _ _ hc e n => u.any e n hc) (fun b o hc e n => u.free b o e n hc) (fun b o hc e => u.there b o e hc) u.tups u.frzs u.tbls (fun m' hm => by
    obtain ⟨o', es', ep', ho', r'⟩ := hm
    rw [ho] at ho'; cases ho'
    exact ⟨_, es', ep', hL, r'⟩) hok hg
theorem Inv.turned {t' : Nat} {it : Addr} (I : Inv X pins σ H s) (k : ∀ b o, b ≠ it -> s.heap.get? b = some o -> h'.get? b = some o) (hn : H it = none) (hL : it ≠ X.env.locals)
    (h1 : it ∈ X.ex ∨ X.s_0.heap.objs.size <= it) (h2 : ∀ x c, X.env.cells.lookup x = some c -> c ≠ it) (h3 : ∀ p ∈ X.pn ++ pins, p.1 ≠ it) : Inv X pins σ H { s with heap := h', toks := t' } := by
  have nit : ∀ b u, H b = some u -> b ≠ it := fun b u e z => by rw [z, hn] at e; cases e
  refine I.step (g' := s.gens) (d' := s.drawn) (ch := [it]) (fun b hb => ?_) (fun b o _ _ hc e _ => k b o (fun z => hc (by simp [z])) e) (fun b o _ _ hc e _ => ⟨o.slots, k b o (fun z => hc (by simp [z])) e⟩) (fun _ _ _ _ n => n)
    (fun b o hc e => ⟨o, k b o (fun z => hc (by simp [z])) e⟩) (fun _ _ e => e) (fun _ _ _ e => e) (fun b ps e => ⟨#[], by rw [e]; simp⟩) (fun m hm => ?_) (fun b u e => ?_) I.bare
  · have e : b = it := by simpa using hb
    subst e
    exact ⟨h1, hL, h2, h3⟩
  · obtain ⟨o, es, ep, ho, r⟩ := hm
    exact ⟨o, es, ep, k _ o (Ne.symm hL) ho, r⟩
  · refine (I.hok b u e).stay (fun c v hc q => k c v ?_ q) (fun _ q => q) fun _ _ q => q
    rcases hc with z | z
    · rw [z]; exact nit b u e
    · exact nit c _ z
theorem Inv.tok (I : Inv X pins σ H s) (t : Nat) : Inv X pins σ H { s with toks := t } := I.un (h' := s.heap) (t' := t) Un.refl I.hok
theorem Inv.kept {t' : Nat} (I : Inv X pins σ H s) (k : ∀ b u, s.heap.get? b = some u -> h'.get? b = some u) : Inv X pins σ H { s with heap := h', toks := t' } := I.un (Un.kept k) (I.hok.kept k)
theorem Inv.laid {a : Addr} {o : HO} {t' : Nat} (I : Inv X pins σ H s) (k : ∀ b u, s.heap.get? b = some u -> h'.get? b = some u) (hp : s.heap.objs.size <= a) (new : ObjOk X.prog X.w (upd H a o) h' a o) :
    Inv X pins σ (upd H a o) { s with heap := h', toks := t' } := I.un (Un.laid k hp (I.hok.fresh hp)) (I.hok.laid k hp new)
theorem Inv.write {x e : Addr} {o : HO} {t' : Nat} (I : Inv X pins σ H s) (mu : Mut (H x)) (he : e = x ∨ H e = some (.own x)) (k : ∀ b u, b ≠ e -> s.heap.get? b = some u -> h'.get? b = some u) (heo : ∃ u, h'.get? e = some u)
    (new : ObjOk X.prog X.w (upd H x o) h' x o) : Inv X pins σ (upd H x o) { s with heap := h', toks := t' } := I.un (Un.write mu he k heo) (I.hok.write mu he k heo new)
theorem Inv.weak {σ' : List (Option V)} (I : Inv X pins σ H s) (hl : σ'.length = σ.length) (w : ∀ (i : Nat) v, σ'[i]? = some (some v) -> σ[i]? = some (some v)) : Inv X pins σ' H s :=
  ⟨I.ok, I.os, I.bare, I.base, let ⟨m, hn, hl'⟩ := I.loc; ⟨m, hn, fun i x v e1 e2 e3 => hl' i x v e1 (w i v e2) e3⟩, I.cell, I.free, I.freeC, I.pin, I.hok, hl.trans I.len⟩
theorem Inv.pins_of {pins' : List (Addr × Obj)} (I : Inv X pins σ H s) (h : ∀ p ∈ pins', s.heap.get? p.1 = some p.2 /\ H p.1 = none /\ p.1 ≠ X.env.locals /\ p.1 ∉ X.fs /\ ∀ v, p.2.data ≠ .cell v) : Inv X pins' σ H s :=
  ⟨I.ok, I.os, I.bare, I.base, I.loc, I.cell, I.free, I.freeC, fun p hp => (List.mem_append.mp hp).elim (fun z => I.pin p (List.mem_append_left _ z)) (h p), I.hok, I.len⟩
theorem nodup_ix {N : List Str} (hN : N.Nodup) {i j : Nat} {x : Str} (a : N[i]? = some x) (b : N[j]? = some x) : i = j := by
  obtain ⟨h1, e1⟩ := List.getElem?_eq_some_iff.mp a
  obtain ⟨h2, e2⟩ := List.getElem?_eq_some_iff.mp b
  exact (List.getElem_inj hN).mp (e1.trans e2.symm)
theorem store_ok2 {M : Model} {A : Around} {E : Value -> Shared -> Prop} {i : Nat} {x : Str} {v : V} {u : Value} {Q : Unit -> Shared -> Prop} (I : Inv X pins σ H s) (hN : X.N.Nodup) (hi : X.N[i]? = some x) (hx : Loc X.env.scope x) (r : RelV v u)
    (h : ∀ s', Inv X pins (σ.set i (some v)) H s' -> (∃ a, Heap.SameBut a s.heap s'.heap /\ (a = X.env.locals ∨ X.env.cells.lookup x = some a)) -> Q () s') (hf : X.fn x = true ∨ X.env.scope.names.lookup x = some .local := by first | exact .inl rfl | exact .inr rfl | assumption) : wpAny M A (storeName X.env x u) Q E s := by
  obtain ⟨m, hn, hl⟩ := id I.loc
  have hcls : (X.env.scope.kind == .class || (X.env.scope.kind == .module && X.env.locals != X.env.globals)) = false := by rw [I.ok.kind]; rfl
  have hiσ : i < σ.length := by rw [I.len]; exact (List.getElem?_eq_some_iff.mp hi).1
  have cne := I.cne
  have tracked : ∀ {a : Addr} {h' : Heap}, (∃ o, s.heap.get? a = some o /\ H a = none) -> Heap.SameBut a s.heap h' -> HOk X.prog X.w H h' := fun {a h'} ha hs b ob e => by
    obtain ⟨_, _, hfree⟩ := ha
    refine (I.hok b ob e).stay (fun c w' hc q => (hs.2 c ?_).trans q) (fun _ q => q) fun _ _ q => q
    rintro rfl
    rcases hc with rfl | hc
    · rw [hfree] at e; cases e
    · rw [hfree] at hc; cases hc
  rcases hx with hk | hk
  · refine wpAny_storeName_local hk hn (fun h' hn' hs => ?_) hcls
    obtain ⟨oL, _, _, hoL, _⟩ := id hn
    refine h _ ⟨I.ok, I.os, I.bare, ⟨fun b o e n hb hx => ?_, fun b o e n hb hx => ?_, I.base.free, fun b o e hx => ?_, I.base.tups, I.base.frzs, I.base.tbls⟩, ⟨_, hn', fun j y v' e1 e2 e3 => ?_⟩, fun y c e => ?_, I.free, I.freeC, fun p hp => ?_, tracked ⟨oL, hoL, I.free⟩ hs, by simpa using I.len⟩ ⟨_, hs, .inl rfl⟩
    · exact (hs.2 b (Nat.ne_of_lt (Nat.lt_of_lt_of_le (Heap.lt_size e) I.ok.above))).trans (I.base.keep b o e n hb hx)
    · obtain ⟨sl, e1⟩ := I.base.slot b o e n hb hx
      exact ⟨sl, (hs.2 b (Nat.ne_of_lt (Nat.lt_of_lt_of_le (Heap.lt_size e) I.ok.above))).trans e1⟩
    · obtain ⟨o', e1⟩ := I.base.there b o e hx
      exact ⟨o', (hs.2 b (Nat.ne_of_lt (Nat.lt_of_lt_of_le (Heap.lt_size e) I.ok.above))).trans e1⟩
    · by_cases hj : j = i
      · subst hj
        rw [hi] at e1; cases e1
        rw [List.getElem?_set_self hiσ] at e2
        cases e2
        exact ⟨u, r, .inl ⟨hk, by simp⟩⟩
      · rw [List.getElem?_set_ne (Ne.symm hj)] at e2
        obtain ⟨u', r', q⟩ := hl j y v' e1 e2 e3
        refine ⟨u', r', ?_⟩
        rcases q with ⟨k, e⟩ | ⟨k, c, e, z⟩
        · refine .inl ⟨k, ?_⟩
          have : y ≠ x := fun e => hj (nodup_ix hN e1 (e ▸ hi))
          simp [this, e]
        · exact .inr ⟨k, c, e, z.sameBut hs (cne y c e)⟩
    · obtain ⟨w', z⟩ := I.cell y c e
      exact ⟨w', z.sameBut hs (cne y c e)⟩
    · obtain ⟨e, n, ne, nf, d⟩ := I.pin p hp
      exact ⟨(hs.2 p.1 ne).trans e, n, ne, nf, d⟩
  · have hfn : X.fn x = true := by
      rcases hf with z | z
      · exact z
      · rw [z] at hk; cases hk
    obtain ⟨c, hc⟩ := I.ok.has x (.inl hk)
    obtain ⟨w', z⟩ := I.cell x c hc
    refine wpAny_storeName_cell I.ok.kind hk hc z (fun h' hc' hs => ?_)
    obtain ⟨oc, hoc, hocd⟩ := id z
    refine h { s with heap := h' } ⟨I.ok, I.os, I.bare, ⟨fun b o e n hb hx => ?_, fun b o e n hb hx => ?_, I.base.free, fun b o e hx => ?_, I.base.tups, I.base.frzs, I.base.tbls⟩, ⟨m, hn.sameBut hs (Ne.symm (cne x c hc)), fun j y v' e1 e2 e3 => ?_⟩, fun y c' e => ?_, I.free, I.freeC, fun p hp => ?_, tracked ⟨oc, hoc, I.freeC x c hc⟩ hs, by simpa using I.len⟩ ⟨c, hs, .inr hc⟩
    · exact (hs.2 b (Nat.ne_of_lt (Nat.lt_of_lt_of_le (Heap.lt_size e) (I.ok.cab x c hfn hc)))).trans (I.base.keep b o e n hb hx)
    · obtain ⟨sl, e1⟩ := I.base.slot b o e n hb hx
      exact ⟨sl, (hs.2 b (Nat.ne_of_lt (Nat.lt_of_lt_of_le (Heap.lt_size e) (I.ok.cab x c hfn hc)))).trans e1⟩
    · obtain ⟨o', e1⟩ := I.base.there b o e hx
      exact ⟨o', (hs.2 b (Nat.ne_of_lt (Nat.lt_of_lt_of_le (Heap.lt_size e) (I.ok.cab x c hfn hc)))).trans e1⟩
    · by_cases hj : j = i
      · subst hj
        rw [hi] at e1; cases e1
        rw [List.getElem?_set_self hiσ] at e2
        cases e2
        exact ⟨u, r, .inr ⟨.inl hk, c, hc, hc'⟩⟩
      · rw [List.getElem?_set_ne (Ne.symm hj)] at e2
        obtain ⟨u', r', q⟩ := hl j y v' e1 e2 e3
        refine ⟨u', r', ?_⟩
        rcases q with q | ⟨k, c', e, z'⟩
        · exact .inl q
        · refine .inr ⟨k, c', e, z'.sameBut hs ?_⟩
          rintro rfl
          exact hj (nodup_ix hN e1 (I.ok.inj _ _ _ e hc ▸ hi))
    · by_cases hcc : c' = c
      · subst hcc; exact ⟨_, hc'⟩
      · obtain ⟨w2, z2⟩ := I.cell y c' e
        exact ⟨w2, z2.sameBut hs hcc⟩
    · obtain ⟨e, n, ne, nf, d⟩ := I.pin p hp
      refine ⟨(hs.2 p.1 ?_).trans e, n, ne, nf, d⟩
      intro q
      rw [q, hoc] at e
      have q' : oc = p.2 := Option.some.inj e
      exact d w' (by rw [← q']; exact hocd)
theorem store_ok {M : Model} {A : Around} {E : Value -> Shared -> Prop} {i : Nat} {x : Str} {v : V} {u : Value} {Q : Unit -> Shared -> Prop} (I : Inv X pins σ H s) (hN : X.N.Nodup) (hi : X.N[i]? = some x) (hx : Loc X.env.scope x) (r : RelV v u)
    (h : ∀ s', Inv X pins (σ.set i (some v)) H s' -> Q () s') (hf : X.fn x = true ∨ X.env.scope.names.lookup x = some .local := by first | exact .inl rfl | exact .inr rfl | assumption) : wpAny M A (storeName X.env x u) Q E s :=
  store_ok2 I hN hi hx r (fun s' I' _ => h s' I') hf
theorem Inv.call' {s' : Shared} {ch : List Addr} (I : Inv X pins σ H s) (ho : s'.os = s.os) (u : Un (frs X.stack) ch H H' s.heap s'.heap) (hok : HOk X.prog X.w H' s'.heap) (hg : AllBare s'.gens)
    (hch : ∀ b ∈ ch, (b ∈ X.ex ∨ X.s_0.heap.objs.size <= b) /\ b ≠ X.env.locals /\ (∀ x c, X.env.cells.lookup x = some c -> c ≠ b) /\ ∀ p ∈ X.pn ++ pins, p.1 ≠ b) : Inv X pins σ H' s' := by
  obtain ⟨h', g', d', t', o'⟩ := s'
  have e : o' = s.os := ho
  subst e
  exact I.call (g' := g') (t' := t') (d' := d') u hok hg hch
end
abbrev XK := Value -> Option Addr -> Hp -> Prop
abbrev St := List (Option V)
abbrev VK := V -> Hp -> Prop
abbrev TE := St -> Hp -> VK -> Prop
abbrev TT := St -> Hp -> (Bool -> Hp -> Prop) -> Prop
abbrev TA := St -> Hp -> (List V -> Hp -> Prop) -> Prop
structure Ends where
  nx : St -> Hp -> Prop
  rt : VK
  bk : St -> Hp -> Prop := fun _ _ => False
  ct : St -> Hp -> Prop := fun _ _ => False
abbrev TS := Ends -> St -> Hp -> Prop
def EP (X : Cx) (pins : List (Addr × Obj)) (σ : St) (Q : VK) (u : Value) (s' : Shared) : Prop := ∃ v H', Inv X pins σ H' s' /\ RelV v u /\ Q v H'
def TP (X : Cx) (pins : List (Addr × Obj)) (σ : St) (Q : Bool -> Hp -> Prop) (b : Bool) (s' : Shared) : Prop := ∃ H', Inv X pins σ H' s' /\ Q b H'
def AP (X : Cx) (pins : List (Addr × Obj)) (σ : St) (Q : List V -> Hp -> Prop) (us : List Value) (s' : Shared) : Prop := ∃ vs H', Inv X pins σ H' s' /\ Vals vs us /\ Q vs H'
def SP (X : Cx) (pins : List (Addr × Obj)) (D : Ends) (f : Flow) (s' : Shared) : Prop :=
  match f with
  | .next => ∃ σ' H', Inv X pins σ' H' s' /\ D.nx σ' H'
  | .brk => ∃ σ' H', Inv X pins σ' H' s' /\ D.bk σ' H'
  | .cont => ∃ σ' H', Inv X pins σ' H' s' /\ D.ct σ' H'
  | .ret u => ∃ v σ' H', Inv X pins σ' H' s' /\ RelV v u /\ D.rt v H'
def PE (X : Cx) (e : Expr) (t : TE) : Prop :=
  ∀ (pins : List (Addr × Obj)) (s : Shared) (σ : St) (H : Hp) (Q : VK), Inv X pins σ H s -> t σ H Q -> wpAny (model X.prog X.w) X.A (eval e X.env) (EP X pins σ Q) X.xe s
def PT (X : Cx) (e : Expr) (t : TT) : Prop :=
  ∀ (pins : List (Addr × Obj)) (s : Shared) (σ : St) (H : Hp) (Q : Bool -> Hp -> Prop), Inv X pins σ H s -> t σ H Q -> wpAny (model X.prog X.w) X.A (isTrue e X.env (eval e X.env)) (TP X pins σ Q) X.xe s
def PW (X : Cx) (e : Expr) (t : TT) : Prop :=
  ∀ (whole : Sem Value) (pins : List (Addr × Obj)) (s : Shared) (σ : St) (H : Hp) (Q : Bool -> Hp -> Prop), Inv X pins σ H s -> t σ H Q -> wpAny (model X.prog X.w) X.A (isTrue e X.env whole) (TP X pins σ Q) X.xe s
theorem PW.pt {X : Cx} {e : Expr} {t : TT} (h : PW X e t) : PT X e t := h _
def PA (X : Cx) (es : List Expr) (t : TA) : Prop :=
  ∀ (pos : Pos) (pins : List (Addr × Obj)) (s : Shared) (σ : St) (H : Hp) (Q : List V -> Hp -> Prop), Inv X pins σ H s -> t σ H Q -> wpAny (model X.prog X.w) X.A (spliced (backTo pos (starEach es X.env))) (AP X pins σ Q) X.xe s
def PS (X : Cx) (st : Stmt) (t : TS) : Prop :=
  ∀ (pins : List (Addr × Obj)) (s : Shared) (σ : St) (H : Hp) (D : Ends), Inv X pins σ H s -> t D σ H -> wpAny (model X.prog X.w) X.A (exec st X.env) (SP X pins D) X.xe s
def PSs (X : Cx) (st : List Stmt) (t : TS) : Prop :=
  ∀ (pins : List (Addr × Obj)) (s : Shared) (σ : St) (H : Hp) (D : Ends), Inv X pins σ H s -> t D σ H -> wpAny (model X.prog X.w) X.A (execs st X.env) (SP X pins D) X.xe s
theorem thn {α : Type} {t : Sem α} {Q Q' : α -> Shared -> Prop} {M : Model} {A : Around} {E : Value -> Shared -> Prop} {s : Shared} (h : wpAny M A t Q E s) (hQ : ∀ a s, Q a s -> Q' a s) : wpAny M A t Q' E s := wpAny_mono h hQ fun _ _ x => x
end L2
namespace L2
open PySem PySem.Spec PyProof.Rows
section
variable {X : Cx}
def tVar (i : Nat) : TE := fun σ H Q => ∃ v, σ[i]? = some (some v) /\ Q v H
def tC (v : V) : TE := fun _ H Q => Q v H
theorem pe_var {i : Nat} {x : Str} {pos : Pos} (hN : X.N[i]? = some x) (hv : Vis X.env.scope x) (hd : (x == ("__debug__" : Str)) = false := by decide) (hcd : (x == ("__classdict__" : Str)) = false := by decide) : PE X (.Name x pos) (tVar i) := by
  intro pins s σ H Q I h
  obtain ⟨v, e, h⟩ := h
  obtain ⟨m, hn, hl⟩ := I.loc
  obtain ⟨u, r, l⟩ := hl i x v hN e hv
  have fin : EP X pins σ Q u s := ⟨v, H, I, r, h⟩
  rcases l with ⟨hk, hm⟩ | ⟨hk, c, hc, hcell⟩
  · exact wpAny_Name (wpAny_loadName_local I.ok.kind hk hn hm fin) hd
  · rcases hk with hk | hk
    · exact wpAny_Name (wpAny_loadName_cell I.ok.kind hk hc hcell fin) hd
    · exact wpAny_Name (wpAny_loadName_free I.ok.kind hk hc hcell fin hcd) hd
theorem pe_int {i j pos} : PE X (.Constant (.int i) j pos) (tC (.int i)) := fun _ _ _ H _ I h => wpAny_Constant_int ⟨.int i, H, I.tok _, ⟨_, rfl⟩, h⟩
theorem pe_bl {b j pos} : PE X (.Constant (.bool b) j pos) (tC (.bl b)) := fun _ _ _ H _ I h => Constant_bool ⟨.bl b, H, I, rfl, h⟩
theorem pe_non {j pos} : PE X (.Constant .none j pos) (tC .non) := fun _ _ _ H _ I h => Constant_none ⟨.non, H, I, rfl, h⟩
theorem pe_str {x j pos} : PE X (.Constant (.str x) j pos) (tC (.str x)) := fun _ _ _ H _ I h => Calls.Constant_str ⟨.str x, H, I.tok _, ⟨_, rfl⟩, h⟩
def Gl (X : Cx) (x : Str) : Prop := X.env.kindOf x = some .globalImplicit
theorem ld_glob {E : Value -> Shared -> Prop} {pins : List (Addr × Obj)} {s : Shared} {σ : St} {H : Hp} {x : Str} {u : Value} {pos : Pos} {Q : Value -> Shared -> Prop} (I : Inv X pins σ H s) (hg : Gl X x) (hm : X.mg x = some u) (h : Q u s)
    (hd : (x == ("__debug__" : Str)) = false := by decide) : wpAny (model X.prog X.w) X.A (eval (.Name x pos) X.env) Q E s :=
  Calls.Name_function_global I.ok.kind hg (Calls.loadGlobal_global (by rw [I.ok.glob]; exact I.mod.glob.keeps I.bk) hm h) hd
theorem ld_blt {E : Value -> Shared -> Prop} {pins : List (Addr × Obj)} {s : Shared} {σ : St} {H : Hp} {x : Str} {u : Value} {pos : Pos} {Q : Value -> Shared -> Prop} (I : Inv X pins σ H s) (hg : Gl X x) (hm : X.mg x = none) (hv : bootBuiltins x = some u) (h : Q u s)
    (hn : x ≠ "__name__" := by decide) (hd : (x == ("__debug__" : Str)) = false := by decide) : wpAny (model X.prog X.w) X.A (eval (.Name x pos) X.env) Q E s := by
  obtain ⟨mb, h1, h2⟩ := I.mod.blt
  exact Calls.Name_function_global I.ok.kind hg (Calls.loadGlobal_builtin (by rw [I.ok.glob]; exact I.mod.glob.keeps I.bk) hm (by rw [I.ok.blt]; exact h1.keeps I.bk) ((h2 x hn).trans hv) h) hd
theorem pe_glob {x : Str} {v : V} {u : Value} {pos : Pos} (hg : Gl X x) (hm : X.mg x = some u) (r : RelV v u) (hd : (x == ("__debug__" : Str)) = false := by decide) : PE X (.Name x pos) (tC v) :=
  fun _ _ _ H _ I h => ld_glob I hg hm ⟨v, H, I, r, h⟩ hd
theorem pe_bltn {x : Str} {v : V} {u : Value} {pos : Pos} (hg : Gl X x) (hm : X.mg x = none) (hv : bootBuiltins x = some u) (r : RelV v u) (hn : x ≠ "__name__" := by decide) (hd : (x == ("__debug__" : Str)) = false := by decide) : PE X (.Name x pos) (tC v) :=
  fun _ _ _ H _ I h => ld_blt I hg hm hv ⟨v, H, I, r, h⟩ hn hd
variable {a b : Expr} {ta tb : TE} {pos : Pos}
def PC (X : Cx) (op : CmpOp) (a b : Expr) (t : TE) : Prop :=
  ∀ (pins : List (Addr × Obj)) (s : Shared) (σ : St) (H : Hp) (Q : VK), Inv X pins σ H s -> t σ H Q ->
    wpAny (model X.prog X.w) X.A (eval a X.env) (fun v s₁ => wpAny (model X.prog X.w) X.A (eval b X.env) (fun u s₂ => wpAny (model X.prog X.w) X.A (compareOp op v u) (EP X pins σ Q) X.xe s₂) X.xe s₁) X.xe s
def tB (t : TE) : TT := fun σ H Q => t σ H fun x H1 => ∃ c, x = .bl c /\ Q c H1
theorem pt_cmp {op : CmpOp} {t : TE} (h : PC X op a b t) (h1 : behindInMarks op b = false := by first | exact nobehind _ (by decide) (by decide) | rfl) : PT X (.Compare a [op] [b] pos) (tB t) := by
  intro pins s σ H Q I hw
  refine wpAny_isTrue_Compare1 (thn (h pins s σ H _ I hw) fun v s1 h1 => thn h1 fun u s2 h2 => thn h2 fun c s3 ⟨x, H1, I1, r1, q1⟩ => ?_) h1
  obtain ⟨d, rfl, q⟩ := q1
  cases r1
  exact wpAny_truthy_bool ⟨H1, I1, q⟩
theorem pt_val {e : Expr} {t : TE} (h : PE X e t) (he : ∀ whole, isTrue e X.env whole = (do let v ← whole; standAt e.pos; holding [v] (truthy v)) := by intro _; rfl) : PT X e (tB t) := by
  intro pins s σ H Q I hw
  refine isTrue_plain (thn (h pins s σ H _ I hw) fun v s1 ⟨x, H1, I1, r1, q1⟩ => ?_) (he _)
  obtain ⟨d, rfl, q⟩ := q1
  cases r1
  exact wpAny_truthy_bool ⟨H1, I1, q⟩
variable {tA tB' : TT} {rest : List Expr}
def tAnd (t u : TT) : TT := fun σ H Q => t σ H fun c H1 => if c = true then u σ H1 Q else Q false H1
def tOr (t u : TT) : TT := fun σ H Q => t σ H fun c H1 => if c = true then Q true H1 else u σ H1 Q
def tNot (t : TT) : TT := fun σ H Q => t σ H fun c H1 => Q (!c) H1
theorem pw_and1 (ha : PT X a tA) : PW X (.BoolOp .And [a] pos) tA := by
  intro wh pins s σ H Q I h
  refine isTrue_and (thn (ha pins s σ H Q I h) fun c s1 e => ?_)
  cases c with
  | true => exact isTrue_and_nil e
  | false => exact e
theorem pw_or1 (ha : PT X a tA) : PW X (.BoolOp .Or [a] pos) tA := by
  intro wh pins s σ H Q I h
  refine isTrue_or (thn (ha pins s σ H Q I h) fun c s1 e => ?_)
  cases c with
  | false => exact isTrue_or_nil e
  | true => exact e
theorem pw_and (ha : PT X a tA) (hb : PW X (.BoolOp .And (b :: rest) pos) tB') : PW X (.BoolOp .And (a :: b :: rest) pos) (tAnd tA tB') := by
  intro wh pins s σ H Q I h
  refine isTrue_and (thn (ha pins s σ H _ I h) fun c s1 ⟨H1, I1, q1⟩ => ?_)
  cases c with
  | true => exact hb wh pins s1 σ H1 Q I1 q1
  | false => exact ⟨H1, I1, q1⟩
theorem pw_or (ha : PT X a tA) (hb : PW X (.BoolOp .Or (b :: rest) pos) tB') : PW X (.BoolOp .Or (a :: b :: rest) pos) (tOr tA tB') := by
  intro wh pins s σ H Q I h
  refine isTrue_or (thn (ha pins s σ H _ I h) fun c s1 ⟨H1, I1, q1⟩ => ?_)
  cases c with
  | true => exact ⟨H1, I1, q1⟩
  | false => exact hb wh pins s1 σ H1 Q I1 q1
theorem pt_not (ha : PT X a tA) : PT X (.UnaryOp .Not a pos) (tNot tA) := by
  intro pins s σ H Q I h
  exact isTrue_not (ha pins s σ H (fun c H1 => Q (!c) H1) I h)
def tAndV (ta tb : TE) : TE := fun σ H Q => ta σ H fun x H1 => ∃ c, x = .bl c /\ if c = true then tb σ H1 Q else Q (.bl false) H1
theorem pe_one {op} {t : TE} (h : PE X a t) : PE X (.BoolOp op [a] pos) t := fun pins s σ H Q I hw => BoolOp_one (h pins s σ H Q I hw)
theorem pe_and (ha : PE X a ta) (hb : PE X (.BoolOp .And (b :: rest) pos) tb) : PE X (.BoolOp .And (a :: b :: rest) pos) (tAndV ta tb) := by
  intro pins s σ H Q I h
  refine BoolOp_and (thn (ha pins s σ H _ I h) fun v s1 ⟨x, H1, I1, r1, q1⟩ => ?_)
  obtain ⟨c, rfl, q1⟩ := q1
  cases r1
  refine wpAny_truthy_bool ?_
  cases c with
  | true => exact hb pins s1 σ H1 Q I1 q1
  | false => exact ⟨.bl false, H1, I1, rfl, q1⟩
def tIf (t : TT) (ta tb : TE) : TE := fun σ H Q => t σ H fun c H1 => if c = true then ta σ H1 Q else tb σ H1 Q
theorem pe_ifExp {c : Expr} (hc : PT X c tA) (ha : PE X a ta) (hb : PE X b tb) : PE X (.IfExp c a b pos) (tIf tA ta tb) := by
  intro pins s σ H Q I h
  refine wpAny_IfExp (thn (hc pins s σ H _ I h) fun d s1 ⟨H1, I1, q1⟩ => ?_)
  cases d with
  | true => exact ha pins s1 σ H1 Q I1 q1
  | false => exact hb pins s1 σ H1 Q I1 q1
end
end L2
namespace L2
open PySem PySem.Spec PyProof.Rows
def SqL (K : PySem.W.Frag) (H : Hp) (a : Addr) (xs : List V) : Prop :=
  Rd H a (.lst xs) ∨
    ∃ (o : Obj) (its : Array Value) (n : Nat), K.lookup a = some o /\ o.cls = .type "list" /\ o.dict = none /\ o.data = .seq its n /\ its.size <= sizeLine /\ Vals xs its.toList
def SqT (K : PySem.W.Frag) (H : Hp) (a : Addr) (xs : List V) : Prop :=
  Rd H a (.tup xs) ∨
    ∃ (o : Obj) (its : Array Value) (n : Nat), K.lookup a = some o /\ o.cls = .type "tuple" /\ o.data = .seq its n /\ its.size <= sizeLine /\ Vals xs its.toList
def absV : Value -> Option V
  | .none => some .non
  | .bool b => some (.bl b)
  | .int i _ => some (.int i)
  | .str x _ => some (.str x)
  | .bytes b _ => some (.byt b)
  | .float b _ => some (.flt b)
  | .ref a => some (.ref a)
  | .type n => some (.ty n)
  | _ => none
theorem RelV.abs {x : V} {u : Value} (r : RelV x u) : absV u = some x := by
  cases x with
  | non => cases r; rfl
  | bl _ => cases r; rfl
  | int _ => obtain ⟨t, rfl⟩ := r; rfl
  | str _ => obtain ⟨t, rfl⟩ := r; rfl
  | byt _ => obtain ⟨t, rfl⟩ := r; rfl
  | flt _ => obtain ⟨t, rfl⟩ := r; rfl
  | ref _ => cases r; rfl
  | ty _ => cases r; rfl
theorem RelV.inj {x y : V} {u : Value} (r : RelV x u) (q : RelV y u) : x = y := Option.some.inj (r.abs.symm.trans q.abs)
theorem Vals.inj : ∀ {xs ys : List V} {us : List Value}, Vals xs us -> Vals ys us -> xs = ys
  | _, _, _, .nil, .nil => rfl
  | _, _, _, .cons r t, .cons r' t' => by rw [r.inj r', Vals.inj t t']
section
variable {X : Cx} {pins : List (Addr × Obj)} {σ : St} {H : Hp} {s : Shared} {a : Addr} {xs ys : List V}
theorem SqL.of {K : PySem.W.Frag} (h : H a = some (.lst xs)) : SqL K H a xs := .inl (.inl h)
theorem SqT.of {K : PySem.W.Frag} (h : H a = some (.tup xs)) : SqT K H a xs := .inl (.inl h)
theorem Inv.list (I : Inv X pins σ H s) (h : SqL X.K H a xs) : ∃ its : List Value, Vals xs its /\ PlainL s.heap a its.toArray /\ xs.length <= sizeLine := by
  rcases h with h | ⟨o, its, n, hk, hc, hd, hs, hz, r⟩
  · obtain ⟨z, its, n, r, e⟩ := h.ok I.hok
    exact ⟨its, r, ⟨_, n, e, rfl, rfl, rfl⟩, z⟩
  · refine ⟨its.toList, r, ⟨o, n, I.kIn a o hk, hc, hd, by simpa using hs⟩, ?_⟩
    have e := r.length
    simp only [Array.length_toList] at e
    omega
theorem Inv.tuple (I : Inv X pins σ H s) (h : SqT X.K H a xs) : ∃ its : List Value, Vals xs its /\ IsTup s.heap a its.toArray /\ xs.length <= sizeLine := by
  rcases h with h | ⟨o, its, n, hk, hc, hs, hz, r⟩
  · obtain ⟨z, its, r, p⟩ := h.ok I.hok
    exact ⟨its, r, p, z⟩
  · refine ⟨its.toList, r, ⟨o, I.kIn a o hk, hc, n, by simpa using hs⟩, ?_⟩
    have e := r.length
    simp only [Array.length_toList] at e
    omega
theorem Inv.list_inj (I : Inv X pins σ H s) (h : SqL X.K H a xs) (h' : SqL X.K H a ys) : xs = ys := by
  obtain ⟨its, r, ⟨o, n, e, _, _, d⟩, _⟩ := I.list h
  obtain ⟨its', r', ⟨o', n', e', _, _, d'⟩, _⟩ := I.list h'
  rw [e] at e'; cases e'
  rw [d] at d'
  injection d' with d1 _
  have : its = its' := by simpa using congrArg Array.toList d1
  subst this
  exact r.inj r'
theorem Inv.tuple_inj (I : Inv X pins σ H s) (h : SqT X.K H a xs) (h' : SqT X.K H a ys) : xs = ys := by
  obtain ⟨its, r, ⟨o, e, _, n, d⟩, _⟩ := I.tuple h
  obtain ⟨its', r', ⟨o', e', _, n', d'⟩, _⟩ := I.tuple h'
  rw [e] at e'; cases e'
  rw [d] at d'
  injection d' with d1 _
  have : its = its' := by simpa using congrArg Array.toList d1
  subst this
  exact r.inj r'
end
abbrev Cx.wish (X : Cx) (E : Value -> Shared -> Prop) : Cx := { X with xe := E }
abbrev Cx.nox (X : Cx) : Cx := X.wish fun _ _ => False
theorem Cx.Ok.wish {X : Cx} (ok : X.Ok) (E : Value -> Shared -> Prop) : (X.wish E).Ok :=
  ⟨ok.mod, ok.kind, ok.glob, ok.blt, ok.above, ok.inj, ok.has, ok.cab, ok.hd, ok.frames, ok.stk, ok.exf, ok.bs, ok.bsz, ok.noex, ok.exfs, ok.funs, ok.frf⟩
theorem Cx.Ok.unwish {X : Cx} {E : Value -> Shared -> Prop} (ok : (X.wish E).Ok) : X.Ok :=
  ⟨ok.mod, ok.kind, ok.glob, ok.blt, ok.above, ok.inj, ok.has, ok.cab, ok.hd, ok.frames, ok.stk, ok.exf, ok.bs, ok.bsz, ok.noex, ok.exfs, ok.funs, ok.frf⟩
section
variable {X : Cx} {pins : List (Addr × Obj)} {σ : St} {H : Hp} {s : Shared} {E : Value -> Shared -> Prop}
theorem Inv.wish (I : Inv X pins σ H s) (E : Value -> Shared -> Prop) : Inv (X.wish E) pins σ H s := ⟨I.ok.wish E, I.os, I.bare, I.base, I.loc, I.cell, I.free, I.freeC, I.pin, I.hok, I.len⟩
theorem Inv.unwish (I : Inv (X.wish E) pins σ H s) : Inv X pins σ H s := ⟨I.ok.unwish, I.os, I.bare, I.base, I.loc, I.cell, I.free, I.freeC, I.pin, I.hok, I.len⟩
theorem SP.unwish {D : Ends} {f : Flow} {s' : Shared} (h : SP (X.wish E) pins D f s') : SP X pins D f s' := by
  cases f with
  | next => obtain ⟨σ', H', I, q⟩ := h; exact ⟨σ', H', I.unwish, q⟩
  | brk => obtain ⟨σ', H', I, q⟩ := h; exact ⟨σ', H', I.unwish, q⟩
  | cont => obtain ⟨σ', H', I, q⟩ := h; exact ⟨σ', H', I.unwish, q⟩
  | ret u => obtain ⟨v, σ', H', I, r, q⟩ := h; exact ⟨v, σ', H', I.unwish, r, q⟩
theorem PSs.nox {st : List Stmt} {t : TS} (h : PSs X.nox st t) : PSs X st t := fun pins s σ H D I hw =>
  wpAny_mono (h pins s σ H D (I.wish _) hw) (fun _ _ q => q.unwish) fun _ _ z => False.elim z
end
section
variable {X : Cx} {st : Stmt} {rest : List Stmt} {t u : TS} {e : Expr} {te : TE} {pos : Pos}
def tNext : TS := fun D σ H => D.nx σ H
def tSeq (t u : TS) : TS := fun D σ H => t { D with nx := u D } σ H
theorem pss_nil : PSs X [] tNext := fun _ _ σ H _ I h => wpAny_execs_nil ⟨σ, H, I, h⟩
theorem pss_cons (h1 : PS X st t) (h2 : PSs X rest u) : PSs X (st :: rest) (tSeq t u) := by
  intro pins s σ H D I h
  refine wpAny_execs_cons (thn (h1 pins s σ H { D with nx := u D } I h) fun f s1 q => ?_)
  cases f with
  | next =>
    obtain ⟨σ', H', I', q⟩ := q
    exact h2 pins s1 σ' H' D I' q
  | ret v => exact q
  | brk => exact q
  | cont => exact q
theorem pss_one (h1 : PS X st t) : PSs X [st] t := by
  intro pins s σ H D I h
  refine wpAny_execs_cons (thn (h1 pins s σ H D I h) fun f s1 q => ?_)
  cases f with
  | next => exact wpAny_execs_nil q
  | ret v => exact q
  | brk => exact q
  | cont => exact q
theorem Inv.quiet {pins : List (Addr × Obj)} {σ : St} {H : Hp} {s : Shared} (I : Inv X pins σ H s) : interactive X.env = false := by simp [interactive, I.ok.kind]
def tDrop (te : TE) : TS := fun D σ H => te σ H fun _ H1 => D.nx σ H1
theorem ps_expr (he : PE X e te) (hs : swapsWith e none pos.line X.env = pure false := by rfl) : PS X (.Expr e pos) (tDrop te) := by
  intro pins s σ H D I h
  exact wpAny_Expr_any (thn (he pins s σ H _ I h) fun v s1 ⟨x, H1, I1, r1, q1⟩ => ⟨σ, H1, I1, q1⟩) I.quiet hs
def tRet (te : TE) : TS := fun D σ H => te σ H D.rt
theorem ps_ret (he : PE X e te) : PS X (.Return (some e) pos) (tRet te) := by
  intro pins s σ H D I h
  exact wpAny_Return_some (thn (he pins s σ H _ I h) fun v s1 ⟨x, H1, I1, r1, q1⟩ => ⟨x, σ, H1, I1, r1, q1⟩)
def tIfS (c : TT) (t u : TS) : TS := fun D σ H => c σ H fun b H1 => if b = true then t D σ H1 else u D σ H1
theorem ps_if {c : Expr} {a b : List Stmt} {tc : TT} (hc : PT X c tc) (ha : PSs X a t) (hb : PSs X b u) : PS X (.If c a b pos) (tIfS tc t u) := by
  intro pins s σ H D I h
  refine wpAny_If (thn (hc pins s σ H _ I h) fun d s1 ⟨H1, I1, q1⟩ => ?_)
  cases d with
  | true => exact ha pins s1 σ H1 D I1 q1
  | false => exact hb pins s1 σ H1 D I1 q1
def tNever : TS := fun _ _ _ => False
theorem ps_never : PS X st tNever := fun _ _ _ _ _ _ h => h.elim
end
abbrev TG := V -> St -> Hp -> (St -> Hp -> Prop) -> Prop
abbrev TGs := List V -> St -> Hp -> (St -> Hp -> Prop) -> Prop
def PG (X : Cx) (target : Expr) (t : TG) : Prop :=
  ∀ (pins : List (Addr × Obj)) (s : Shared) (σ : St) (H : Hp) (v : V) (u : Value) (Q : St -> Hp -> Prop), Inv X pins σ H s -> RelV v u -> t v σ H Q ->
    wpAny (model X.prog X.w) X.A (assign target X.env u) (fun _ s' => ∃ σ' H', Inv X pins σ' H' s' /\ Q σ' H') X.xe s
def PGs (X : Cx) (ts : List Expr) (t : TGs) : Prop :=
  ∀ (pins : List (Addr × Obj)) (s : Shared) (σ : St) (H : Hp) (vs : List V) (us : List Value) (Q : St -> Hp -> Prop), Inv X pins σ H s -> Vals vs us -> t vs σ H Q ->
    wpAny (model X.prog X.w) X.A (assignInOrder ((assignEach ts X.env).map (·.2)) us) (fun _ s' => ∃ σ' H', Inv X pins σ' H' s' /\ Q σ' H') X.xe s
abbrev TIp := V -> V -> Hp -> VK -> Prop
def PIp (X : Cx) (op : Operator) (t : TIp) : Prop :=
  ∀ (pins : List (Addr × Obj)) (s : Shared) (σ : St) (H : Hp) (x y : V) (v u : Value) (Q : VK), Inv X pins σ H s -> RelV x v -> RelV y u -> t x y H Q ->
    wpAny (model X.prog X.w) X.A (inplaceOp op v u) (EP X pins σ Q) X.xe s
section
variable {X : Cx} {pos : Pos}
def gName (i : Nat) : TG := fun v σ H Q => Q (σ.set i (some v)) H
theorem pg_name {i : Nat} {x : Str} (hN : X.N.Nodup) (hi : X.N[i]? = some x) (hx : Loc X.env.scope x) (hf : X.fn x = true ∨ X.env.scope.names.lookup x = some .local := by first | exact .inl rfl | exact .inr rfl | assumption) : PG X (.Name x pos) (gName i) := by
  intro pins s σ H v u Q I r h
  exact wpAny_assign_Name (store_ok I hN hi hx r (fun s' I' => ⟨_, H, I', h⟩) hf)
def gNil : TGs := fun vs σ H Q => vs = [] /\ Q σ H
def gCons (t : TG) (u : TGs) : TGs := fun vs σ H Q => ∃ v r, vs = v :: r /\ t v σ H fun σ' H' => u r σ' H' Q
theorem pgs_nil : PGs X [] gNil := by
  intro pins s σ H vs us Q I r h
  obtain ⟨e, h⟩ := h
  subst e
  cases r
  exact assignInOrder_nil ⟨σ, H, I, h⟩
theorem pgs_cons {e : Expr} {es : List Expr} {t : TG} {u : TGs} (h1 : PG X e t) (h2 : PGs X es u)
    (hs : (assignEach (e :: es) X.env).map (·.2) = assign e X.env :: (assignEach es X.env).map (·.2) := by rfl) : PGs X (e :: es) (gCons t u) := by
  intro pins s σ H vs us Q I r h
  obtain ⟨v, vr, e1, h⟩ := h
  subst e1
  cases r with
  | cons r rr =>
    rw [hs]
    refine assignInOrder_cons (thn (h1 pins s σ H _ _ _ I r h) fun _ s1 ⟨σ1, H1, I1, q1⟩ => ?_)
    exact h2 pins s1 σ1 H1 _ _ Q I1 rr q1
def gTup (K : PySem.W.Frag) (n : Nat) (t : TGs) : TG := fun v σ H Q => ∃ a xs, v = .ref a /\ SqT K H a xs /\ xs.length = n /\ t xs σ H Q
theorem pg_tup {es : List Expr} {k : Nat} {t : TGs} {n : Nat} (hc : X.calm = true) (h : PGs X es t)
    (hn : (assignEach es X.env).length = n := by rfl) (hst : (assignEach es X.env).findIdx? (·.1) = none := by rfl) : PG X (.Tuple es k pos) (gTup X.K n t) := by
  intro pins s σ H v u Q I r hw
  obtain ⟨a, xs, e1, hq, hl, hw⟩ := hw
  subst e1
  cases r
  obtain ⟨its, rv, ht, hz⟩ := I.tuple hq
  refine assign_Tuple_tuple (I.ok.hd hc) ht (by simp [hn, ← hl, rv.length]) hst fun h' hx => ?_
  have I1 : Inv X pins σ H { s with heap := h' } := I.kept (t' := s.toks) fun b o e => hx b o (Nat.ne_of_lt (Heap.lt_size e)) e
  exact h pins _ σ H xs _ Q I1 (by simpa using rv) hw
def tAsg (te : TE) (g : TG) : TS := fun D σ H => te σ H fun x H1 => g x σ H1 D.nx
theorem ps_set {i : Nat} {x : Str} {e : Expr} {te : TE} {pos' : Pos} (hN : X.N.Nodup) (hi : X.N[i]? = some x) (hx : Loc X.env.scope x) (he : PE X e te) (hs : swapsWith e (some (.Name x pos')) pos.line X.env = pure false := by rfl) (hf : X.fn x = true ∨ X.env.scope.names.lookup x = some .local := by first | exact .inl rfl | exact .inr rfl | assumption) :
    PS X (.Assign [.Name x pos'] e pos) (tAsg te (gName i)) := by
  intro pins s σ H D I h
  refine wpAny_Assign_Name (thn (he pins s σ H _ I h) fun v s1 ⟨y, H1, I1, r1, q1⟩ => ?_) hs
  exact store_ok I1 hN hi hx r1 (fun s2 I2 => ⟨_, H1, I2, q1⟩) hf
def tAug (i : Nat) (te : TE) (ti : TIp) : TS := fun D σ H => ∃ x, σ[i]? = some (some x) /\ te σ H fun y H1 => ti x y H1 fun z H2 => D.nx (σ.set i (some z)) H2
theorem ps_aug {i : Nat} {x : Str} {e : Expr} {te : TE} {op : Operator} {ti : TIp} {pos' : Pos} (hN : X.N.Nodup) (hi : X.N[i]? = some x) (hx : Loc X.env.scope x) (he : PE X e te) (ho : PIp X op ti) (hf : X.fn x = true ∨ X.env.scope.names.lookup x = some .local := by first | exact .inl rfl | exact .inr rfl | assumption) :
    PS X (.AugAssign (.Name x pos') op e pos) (tAug i te ti) := by
  intro pins s σ H D I h
  obtain ⟨v, e1, h⟩ := h
  obtain ⟨m, hn, hl⟩ := I.loc
  have vis : Vis X.env.scope x := by rcases hx with k | k; exact .inl k; exact .inr (.inl k)
  obtain ⟨u, r, l⟩ := hl i x v hi e1 vis
  refine wpAny_AugAssign_Name ?_
  have go : wpAny (model X.prog X.w) X.A (eval e X.env) (fun w s₂ => wpAny (model X.prog X.w) X.A (inplaceOp op u w) (fun r s₃ => wpAny (model X.prog X.w) X.A (storeName X.env x r) (fun _ => SP X pins D .next) X.xe s₃) X.xe s₂) X.xe s := by
    refine thn (he pins s σ H _ I h) fun w s1 ⟨y, H1, I1, r1, q1⟩ => ?_
    refine thn (ho pins s1 σ H1 v y u w _ I1 r r1 q1) fun z s2 ⟨zv, H2, I2, r2, q2⟩ => ?_
    exact store_ok I2 hN hi hx r2 (fun s3 I3 => ⟨_, H2, I3, q2⟩) hf
  rcases l with ⟨hk, hm⟩ | ⟨hk, c, hc, hcell⟩
  · exact wpAny_loadName_local I.ok.kind hk hn hm go
  · rcases hk with hk | hk
    · exact wpAny_loadName_cell I.ok.kind hk hc hcell go
    · rcases hx with k | k
      · have : X.env.scope.names.lookup x = some .free := hk
        rw [k] at this; cases this
      · have : X.env.scope.names.lookup x = some .free := hk
        rw [k] at this; cases this
def ipI (f : Int -> Int -> Int) : TIp := fun x y H Q => ∃ i j, x = .int i /\ y = .int j /\ Q (.int (f i j)) H
theorem ip_add : PIp X .Add (ipI fun i j => i + j) := by
  intro pins s σ H x y v u Q I r1 r2 h
  obtain ⟨i, j, e1, e2, q⟩ := h
  subst e1; subst e2
  obtain ⟨t, rfl⟩ := r1
  obtain ⟨t', rfl⟩ := r2
  exact iadd_int ⟨.int _, H, I.tok _, ⟨_, rfl⟩, q⟩
end
section
variable {X : Cx} {pos : Pos}
def tWhile (c : TT) (tb : TS) : TS := fun D σ H => ∃ W : Nat -> St -> Hp -> Prop, (∃ m, W m σ H) /\ ∀ m σ H, W m σ H ->
  c σ H fun b H1 => if b = true then ∃ N : St -> Hp -> Prop, (∀ σ' H', N σ' H' -> ∃ m', m' < m /\ W m' σ' H') /\ tb { D with nx := N, ct := N, bk := D.nx } σ H1 else D.nx σ H1
theorem ps_while {c : Expr} {body : List Stmt} {tc : TT} {tb : TS} (hp : PassesOwn (model X.prog X.w) X.A X.env X.xe) (hc : PT X c tc) (hb : PSs X body tb) : PS X (.While c body [] pos) (tWhile tc tb) := by
  intro pins s σ H D I h
  obtain ⟨W, ⟨m0, w0⟩, turn⟩ := h
  refine wpAny_While (codeAny_whileLoop (fun n s' => ∃ σ' H', Inv X pins σ' H' s' /\ W n σ' H') ?_ m0 ⟨σ, H, I, w0⟩)
  rintro n s1 ⟨σ1, H1, I1, w1⟩
  refine wpAny_passesOwn hp (thn (hc pins s1 σ1 H1 _ I1 (turn n σ1 H1 w1)) fun b s2 ⟨H2, I2, q2⟩ => ?_)
  cases b with
  | true =>
    obtain ⟨N, hN, q2⟩ := q2
    rw [if_pos rfl]
    refine wpAny_passesOwn hp (thn (hb pins s2 σ1 H2 _ I2 q2) fun f s3 q3 => ?_)
    cases f with
    | next =>
      obtain ⟨σ3, H3, I3, n3⟩ := q3
      obtain ⟨m', hm, w3⟩ := hN σ3 H3 n3
      exact ⟨m', hm, σ3, H3, I3, w3⟩
    | cont =>
      obtain ⟨σ3, H3, I3, n3⟩ := q3
      obtain ⟨m', hm, w3⟩ := hN σ3 H3 n3
      exact ⟨m', hm, σ3, H3, I3, w3⟩
    | brk => exact q3
    | ret v => exact q3
  | false =>
    rw [if_neg Bool.false_ne_true]
    exact wpAny_execs_nil ⟨σ1, H2, I2, q2⟩
end
structure It where
  go : Nat -> Hp -> Prop
  yld : Nat -> Hp -> V -> Hp -> Prop
  stop : Nat -> Hp -> Prop
def FpOk (X : Cx) (pins : List (Addr × Obj)) (H : Hp) (b : Addr) : Prop :=
  H b = none /\ b ≠ X.env.locals /\ b ∉ X.fs /\ (b ∈ X.ex ∨ X.s_0.heap.objs.size <= b) /\ (∀ x c, X.env.cells.lookup x = some c -> c ≠ b) /\ ∀ p ∈ X.pn ++ pins, p.1 ≠ b
theorem Inv.fpOk {X : Cx} {pins : List (Addr × Obj)} {σ : St} {H H' : Hp} {s : Shared} {b : Addr} (I : Inv X pins σ H s) (hb : s.heap.objs.size <= b) (hn : H' b = none) : FpOk X pins H' b := by
  refine ⟨hn, Nat.ne_of_gt (Nat.lt_of_lt_of_le I.lt hb), I.nofs hb, .inr (Nat.le_trans I.sz hb), fun x c e z => ?_, fun p hp z => ?_⟩
  · obtain ⟨v, q⟩ := I.cell x c e
    exact absurd (Nat.lt_of_lt_of_le q.lt (by rw [z]; exact hb)) (Nat.lt_irrefl _)
  · exact absurd (Nat.lt_of_lt_of_le (Heap.lt_size (I.pin p hp).1) (by rw [z]; exact hb)) (Nat.lt_irrefl _)
structure Turn (P : Program) (w : World) (K : PySem.W.Frag) (tg : Expr) (J : It) (fp : List Addr) (it : Addr) (tn : Nat -> Heap -> Prop) : Prop where
  mem : it ∈ fp
  obj : ∀ i h, tn i h -> ∀ b ∈ fp, ∃ o, h.get? b = some o /\ ∀ v, o.data ≠ .cell v
  keep : ∀ i h h', tn i h -> (∀ b ∈ fp, ∀ o, h.get? b = some o -> h'.get? b = some o) -> tn i h'
  item : ∀ (X : Cx), X.prog = P -> X.w = w -> X.K = K -> X.calm = true -> ∀ (i : Nat) (pins : List (Addr × Obj)) (s : Shared) (σ : St) (H : Hp) (E : Value -> Shared -> Prop), Inv X pins σ H s -> (∀ b ∈ fp, FpOk X pins H b) -> tn i s.heap -> J.go i H ->
    wpAny (model P w) X.A (pyNext (.ref it)) (fun r s1 => ∃ u, r = some u /\
      wpAny (model P w) X.A (letOwnedTupleGo tg (.ref it) u) (fun _ s2 => ∃ x H', Inv X pins σ H' s2 /\ RelV x u /\ J.yld i H x H' /\ tn (i + 1) s2.heap /\ ∀ b ∈ fp, H' b = none) E s1) E s
  done : ∀ (X : Cx), X.prog = P -> X.w = w -> X.K = K -> X.calm = true -> ∀ (i : Nat) (pins : List (Addr × Obj)) (s : Shared) (σ : St) (H : Hp) (E : Value -> Shared -> Prop), Inv X pins σ H s -> (∀ b ∈ fp, FpOk X pins H b) -> tn i s.heap -> J.stop i H ->
    wpAny (model P w) X.A (pyNext (.ref it)) (fun r s1 => r = none /\ Inv X pins σ H s1) E s
  self : ∀ (A : Around) (i : Nat) (s : Shared) (Q : Value -> Shared -> Prop) (E : Value -> Shared -> Prop), tn i s.heap -> Q (.ref it) s -> wpAny (model P w) A (pyIter (.ref it)) Q E s
abbrev TI := St -> Hp -> (It -> Hp -> Prop) -> Prop
def PIE (X : Cx) (pins : List (Addr × Obj)) (σ : St) (tg : Expr) (R : It -> Hp -> Prop) (itv : Value) (s2 : Shared) : Prop :=
  ∃ (it : Addr) (fp : List Addr) (tn : Nat -> Heap -> Prop) (J : It) (H' : Hp), itv = .ref it /\ Inv X pins σ H' s2 /\ Turn X.prog X.w X.K tg J fp it tn /\ tn 0 s2.heap /\ (∀ b ∈ fp, FpOk X pins H' b) /\ R J H'
def PI (X : Cx) (tg iter : Expr) (wi : TI) : Prop :=
  ∀ (pins : List (Addr × Obj)) (s : Shared) (σ : St) (H : Hp) (R : It -> Hp -> Prop), Inv X pins σ H s -> wi σ H R ->
    wpAny (model X.prog X.w) X.A (eval iter X.env) (fun v s1 => wpAny (model X.prog X.w) X.A (pyIter v) (PIE X pins σ tg R) X.xe s1) X.xe s
theorem go_of {M : Model} {A : Around} {E : Value -> Shared -> Prop} {s : Shared} {tg : Expr} {it : Addr} {u : Value} {o : Obj} {n : String} {vs : Array Value} {Q : Unit -> Shared -> Prop} (ho : s.heap.get? it = some o) (hc : o.cls = .type n) (hd : o.data = .fields vs)
    (hn : ["enumerate", "zip", "dict_itemiterator", "dict_reverseitemiterator", "odict_iterator", "itertools.zip_longest", "itertools.pairwise"].contains n = false) (hQ : Q () s) : wpAny M A (letOwnedTupleGo tg (.ref it) u) Q E s := by
  unfold letOwnedTupleGo
  cases tg <;> first
    | exact wpAny_pure hQ
    | (cases u <;> first
        | exact wpAny_pure hQ
        | (refine wpAny_bind (wpAny_load ho ?_)
           rw [hc, hd]
           show wpAny M A (if (["enumerate", "zip", "dict_itemiterator", "dict_reverseitemiterator", "odict_iterator", "itertools.zip_longest", "itertools.pairwise"].contains n && vs[0]? == some (rawInt _)) = true then _ else _) Q E s
           rw [if_neg (by intro h; rw [hn, Bool.false_and] at h; cases h)]
           exact wpAny_pure hQ))
def Itl (K : PySem.W.Frag) (a : Addr) : It :=
  ⟨fun i H => ∃ xs x, SqL K H a xs /\ xs[i]? = some x, fun i H x H' => H' = H /\ ∀ xs, SqL K H a xs -> xs[i]? = some x, fun i H => ∃ xs, SqL K H a xs /\ xs.length <= i⟩
def Itt (K : PySem.W.Frag) (a : Addr) : It :=
  ⟨fun i H => ∃ xs x, SqT K H a xs /\ xs[i]? = some x, fun i H x H' => H' = H /\ ∀ xs, SqT K H a xs -> xs[i]? = some x, fun i H => ∃ xs, SqT K H a xs /\ xs.length <= i⟩
def Itr (lo : Int) (n : Nat) : It := ⟨fun i _ => i < n, fun i H x H' => H' = H /\ x = .int (lo + i), fun i _ => n <= i⟩
theorem turn_list {P : Program} {w : World} {K : PySem.W.Frag} {tg : Expr} (a it : Addr) : Turn P w K tg (Itl K a) [it] it (fun i h => h.IsListIter it a i) where
  mem := by simp
  obj := fun i h st b hb => by
    have e : b = it := by simpa using hb
    subst e
    obtain ⟨o, e, c, d⟩ := st
    exact ⟨o, e, fun v z => by rw [d] at z; cases z⟩
  keep := fun i h h' st k => st.at fun o e => k it (by simp) o e
  item := by
    intro X hP hw hK hc i pins s σ H E I hf st hg
    subst hP hw hK
    obtain ⟨xs, x, hq, hx⟩ := hg
    obtain ⟨its, rv, p, hz⟩ := I.list hq
    obtain ⟨u, hu, ru⟩ := rv.get hx
    obtain ⟨f0, f1, f2, f3, f4, f5⟩ := hf it (by simp)
    refine wpAny_pyNext_list_item st p.isList (x := u) (by simpa using hu) fun h' st' sb => ?_
    have I1 : Inv X pins σ H { s with heap := h' } := I.turned (t' := s.toks) (fun b o hb e => (sb.2 b hb).trans e) f0 f1 f3 f4 f5
    obtain ⟨o, e, c, d⟩ := id st'
    exact ⟨u, rfl, go_of (s := { s with heap := h' }) e c d (by decide) ⟨x, H, I1, ru, ⟨rfl, fun ys hy => by rw [I.list_inj hy hq]; exact hx⟩, st', fun b hb => (hf b hb).1⟩⟩
  done := by
    intro X hP hw hK hc i pins s σ H E I hf st hg
    subst hP hw hK
    obtain ⟨xs, hq, hx⟩ := hg
    obtain ⟨its, rv, p, hz⟩ := I.list hq
    obtain ⟨f0, f1, f2, f3, f4, f5⟩ := hf it (by simp)
    have hl := rv.length
    exact wpAny_pyNext_list_end (I.ok.hd hc) st p.isList (by simp; omega) fun h' eb => ⟨rfl, I.turned (t' := s.toks) (fun b o hb e => eb b o hb e) f0 f1 f3 f4 f5⟩
  self := fun _ _ _ _ _ st h => wpAny_pyIter_listiter st h
theorem turn_tuple {P : Program} {w : World} {K : PySem.W.Frag} {tg : Expr} (a it : Addr) : Turn P w K tg (Itt K a) [it] it (fun i h => h.IsTupleIter it a i) where
  mem := by simp
  obj := fun i h st b hb => by
    have e : b = it := by simpa using hb
    subst e
    obtain ⟨o, e, c, d⟩ := st
    exact ⟨o, e, fun v z => by rw [d] at z; cases z⟩
  keep := fun i h h' st k => st.at fun o e => k it (by simp) o e
  item := by
    intro X hP hw hK hc i pins s σ H E I hf st hg
    subst hP hw hK
    obtain ⟨xs, x, hq, hx⟩ := hg
    obtain ⟨its, rv, p, hz⟩ := I.tuple hq
    obtain ⟨u, hu, ru⟩ := rv.get hx
    obtain ⟨f0, f1, f2, f3, f4, f5⟩ := hf it (by simp)
    refine wpAny_pyNext_tuple_item st (show s.heap.IsTuple a its.toArray from p) (x := u) (by simpa using hu) fun h' st' sb => ?_
    have I1 : Inv X pins σ H { s with heap := h' } := I.turned (t' := s.toks) (fun b o hb e => (sb.2 b hb).trans e) f0 f1 f3 f4 f5
    obtain ⟨o, e, c, d⟩ := id st'
    exact ⟨u, rfl, go_of (s := { s with heap := h' }) e c d (by decide) ⟨x, H, I1, ru, ⟨rfl, fun ys hy => by rw [I.tuple_inj hy hq]; exact hx⟩, st', fun b hb => (hf b hb).1⟩⟩
  done := by
    intro X hP hw hK hc i pins s σ H E I hf st hg
    subst hP hw hK
    obtain ⟨xs, hq, hx⟩ := hg
    obtain ⟨its, rv, p, hz⟩ := I.tuple hq
    obtain ⟨f0, f1, f2, f3, f4, f5⟩ := hf it (by simp)
    have hl := rv.length
    exact wpAny_pyNext_tuple_end (I.ok.hd hc) st (show s.heap.IsTuple a its.toArray from p) (by simp; omega) fun h' eb => ⟨rfl, I.turned (t' := s.toks) (fun b o hb e => eb b o hb e) f0 f1 f3 f4 f5⟩
  self := fun _ _ _ _ _ st h => wpAny_pyIter_tupleiter st h
theorem turn_range {P : Program} {w : World} {K : PySem.W.Frag} {tg : Expr} (it : Addr) (lo : Int) (n : Nat) : Turn P w K tg (Itr lo n) [it] it (fun i h => IsRangeIter h it (lo + (i : Nat) * 1) ((n : Int) - (i : Nat)) 1) where
  mem := by simp
  obj := fun i h st b hb => by
    have e : b = it := by simpa using hb
    subst e
    exact ⟨_, st, fun v z => by
      have z' : Data.fields _ = Data.cell v := z
      cases z'⟩
  keep := fun i h h' st k => k it (by simp) _ st
  item := by
    intro X hP hw hK hc i pins s σ H E I hf st hg
    subst hP hw hK
    obtain ⟨f0, f1, f2, f3, f4, f5⟩ := hf it (by simp)
    have W := Walks.range (prog := X.prog) (w := X.w) (I.ok.hd hc) it lo 1 n
    refine W.item i s _ _ hg st fun v h' tk hv st' kk => ?_
    obtain ⟨t, rfl⟩ := hv
    have I1 : Inv X pins σ H { s with heap := h', toks := tk } := I.turned (fun b o hb e => kk b o (by simpa using hb) e) f0 f1 f3 f4 f5
    refine ⟨_, rfl, go_of (s := { s with heap := h', toks := tk }) (n := "range_iterator") st' rfl rfl (by decide) ⟨.int (lo + i), H, I1, ⟨t, ?_⟩, ⟨rfl, rfl⟩, st', fun b hb => (hf b hb).1⟩⟩
    rw [Int.mul_one]
  done := by
    intro X hP hw hK hc i pins s σ H E I hf st hg
    subst hP hw hK
    obtain ⟨f0, f1, f2, f3, f4, f5⟩ := hf it (by simp)
    exact wpAny_pyNext_range_end (I.ok.hd hc) st (by have : n <= i := hg; omega) fun h' eb => ⟨rfl, I.turned (t' := s.toks) (fun b o hb e => eb b o hb e) f0 f1 f3 f4 f5⟩
  self := fun _ _ _ _ _ st h => wpAny_pyIter_rangeiter st h
end L2
namespace L2
open PySem PySem.Spec PyProof.Rows
section
variable {X : Cx} {tg : Expr}
def iList (K : PySem.W.Frag) (tl : TE) : TI := fun σ H R => tl σ H fun x H1 => ∃ a, x = .ref a /\ (∃ xs, SqL K H1 a xs) /\ R (Itl K a) H1
def iTup (K : PySem.W.Frag) (tl : TE) : TI := fun σ H R => tl σ H fun x H1 => ∃ a, x = .ref a /\ (∃ xs, SqT K H1 a xs) /\ R (Itt K a) H1
theorem pi_list {l : Expr} {tl : TE} (hl : PE X l tl) : PI X tg l (iList X.K tl) := by
  intro pins s σ H R I h
  refine thn (hl pins s σ H _ I h) fun v s1 ⟨x, H1, I1, r1, q1⟩ => ?_
  obtain ⟨a, e, ⟨xs, hq⟩, q⟩ := q1
  subst e
  cases r1
  obtain ⟨its, rv, p, hz⟩ := I1.list hq
  refine wpAny_pyIter_list p.isList ?_
  refine ⟨s1.heap.objs.size, [s1.heap.objs.size], _, _, H1, rfl, I1.kept (t' := s1.toks) fun b o e => Heap.get?_push_of_some _ e, turn_list a _, ⟨_, Heap.get?_push_size _ rfl, rfl, rfl⟩, fun b hb => ?_, q⟩
  have e : b = s1.heap.objs.size := by simpa using hb
  subst e
  exact I1.fpOk (Nat.le_refl _) (I1.hok.fresh (Nat.le_refl _))
theorem pi_tup {l : Expr} {tl : TE} (hl : PE X l tl) : PI X tg l (iTup X.K tl) := by
  intro pins s σ H R I h
  refine thn (hl pins s σ H _ I h) fun v s1 ⟨x, H1, I1, r1, q1⟩ => ?_
  obtain ⟨a, e, ⟨xs, hq⟩, q⟩ := q1
  subst e
  cases r1
  obtain ⟨its, rv, p, hz⟩ := I1.tuple hq
  refine wpAny_pyIter_tuple (show s1.heap.IsTuple a its.toArray from p) ?_
  refine ⟨s1.heap.objs.size, [s1.heap.objs.size], _, _, H1, rfl, I1.kept (t' := s1.toks) fun b o e => Heap.get?_push_of_some _ e, turn_tuple a _, ⟨_, Heap.get?_push_size _ rfl, rfl, rfl⟩, fun b hb => ?_, q⟩
  have e : b = s1.heap.objs.size := by simpa using hb
  subst e
  exact I1.fpOk (Nat.le_refl _) (I1.hok.fresh (Nat.le_refl _))
theorem range_it {pins : List (Addr × Obj)} {σ : St} {H : Hp} {s : Shared} {R : It -> Hp -> Prop} {E : Value -> Shared -> Prop} {lo hi : Int} {t u v : Tok} {tk : Nat} (I : Inv X pins σ H s) (h1 : -(2 ^ 62) <= lo) (h2 : lo < 2 ^ 62) (h3 : -(2 ^ 62) <= hi) (h4 : hi < 2 ^ 62)
    (q : R (Itr lo (hi - lo).toNat) H) : wpAny (model X.prog X.w) X.A (pyIter (.ref s.heap.objs.size)) (PIE X pins σ tg R) E { s with heap := s.heap.push { cls := .type "range", data := .fields #[.int lo t, .int hi u, .int 1 v] }, toks := tk } := by
  refine wpAny_pyIter_range (IsRange.new ..) (small_one h1 h2 h3 h4) ?_
  have I1 : Inv X pins σ H { s with heap := s.heap.push { cls := .type "range", data := .fields #[.int lo t, .int hi u, .int 1 v] }, toks := tk } := I.kept fun b o e => Heap.get?_push_of_some _ e
  refine ⟨(s.heap.push { cls := .type "range", data := .fields #[.int lo t, .int hi u, .int 1 v] }).objs.size, [(s.heap.push { cls := .type "range", data := .fields #[.int lo t, .int hi u, .int 1 v] }).objs.size], _, _, H, rfl,
    I1.kept (t' := tk) fun b o e => Heap.get?_push_of_some _ e, turn_range _ lo (hi - lo).toNat, ?_, fun b hb => ?_, q⟩
  · have e1 : lo + ((0 : Nat) : Int) * 1 = lo := by simp
    have e2 : (((hi - lo).toNat : Nat) : Int) - ((0 : Nat) : Int) = Builtin.Range.rangeSize lo hi 1 := by rw [rangeSize_one]; split <;> omega
    show IsRangeIter _ _ (lo + ((0 : Nat) : Int) * 1) ((((hi - lo).toNat : Nat) : Int) - ((0 : Nat) : Int)) 1
    rw [e1, e2]
    exact Heap.get?_push_size _ rfl
  · have e : b = (s.heap.push { cls := .type "range", data := .fields #[.int lo t, .int hi u, .int 1 v] }).objs.size := by simpa using hb
    subst e
    exact I1.fpOk (Nat.le_refl _) (I1.hok.fresh (Nat.le_refl _))
def iRng1 (ta : TA) : TI := fun σ H R => ta σ H fun vs H1 => ∃ j : Int, vs = [.int j] /\ -(2 ^ 62) <= j /\ j < 2 ^ 62 /\ R (Itr 0 j.toNat) H1
theorem pi_range1 {a : Expr} {ta : TA} {p pos : Pos} (hg : Gl X "range") (hm : X.mg "range" = none) (ha : PA X [a] ta) (hs : starEach [a] X.env = [(false, eval a X.env)] := by rfl) : PI X tg (.Call (.Name "range" p) [a] [] pos) (iRng1 ta) := by
  intro pins s σ H R I h
  refine Call_ (ld_blt I hg hm boot_range (PyProof.Rows.callWith_type1 (thn (ha pos pins s σ H _ I h) fun us s1 ⟨vs, H1, I1, r1, q1⟩ => ?_) hs rfl))
  obtain ⟨j, e, q1, q2, q⟩ := q1
  subst e
  cases r1 with
  | cons r rr =>
    cases rr
    obtain ⟨t, rfl⟩ := r
    exact call_range_1 (range_it I1 (by omega) (by omega) q1 q2 (by simpa using q))
def tFor (wi : TI) (g : TG) (tb : TS) : TS := fun D σ H => wi σ H fun J H1 => ∃ W : Nat -> Nat -> St -> Hp -> Prop, (∃ m, W 0 m σ H1) /\ ∀ i m σ H, W i m σ H ->
  (J.stop i H /\ D.nx σ H) ∨ (J.go i H /\ ∃ N : St -> Hp -> Prop, (∀ σ' H', N σ' H' -> ∃ m', m' < m /\ W (i + 1) m' σ' H') /\ ∀ x H', J.yld i H x H' -> g x σ H' fun σ2 H2 => tb { D with nx := N, ct := N, bk := D.nx } σ2 H2)
def pinsAt (fp : List Addr) (h : Heap) : List (Addr × Obj) := fp.filterMap fun b => (h.get? b).map fun o => (b, o)
theorem mem_pinsAt {fp : List Addr} {h : Heap} {b : Addr} {o : Obj} (hb : b ∈ fp) (e : h.get? b = some o) : (b, o) ∈ pinsAt fp h := List.mem_filterMap.mpr ⟨b, hb, by rw [e]; rfl⟩
theorem of_pinsAt {fp : List Addr} {h : Heap} {p : Addr × Obj} (hp : p ∈ pinsAt fp h) : p.1 ∈ fp /\ h.get? p.1 = some p.2 := by
  obtain ⟨b, hb, e⟩ := List.mem_filterMap.mp hp
  cases q : h.get? b with
  | none => rw [q] at e; cases e
  | some o =>
    rw [q] at e
    have e' : (b, o) = p := Option.some.inj e
    subst e'
    exact ⟨hb, q⟩
theorem Inv.pinned {pins : List (Addr × Obj)} {σ : St} {H : Hp} {s : Shared} {fp : List Addr} (I : Inv X pins σ H s) (hf : ∀ b ∈ fp, FpOk X pins H b) (ho : ∀ b ∈ fp, ∃ o, s.heap.get? b = some o /\ ∀ v, o.data ≠ .cell v) : Inv X (pins ++ pinsAt fp s.heap) σ H s :=
  I.pins_of fun p hp => (List.mem_append.mp hp).elim (fun z => I.pin p (List.mem_append_right _ z)) fun z => by
    obtain ⟨hb, e⟩ := of_pinsAt z
    obtain ⟨f0, f1, f2, _⟩ := hf p.1 hb
    obtain ⟨o, e', d⟩ := ho p.1 hb
    rw [e] at e'; cases e'
    exact ⟨e, f0, f1, f2, d⟩
theorem Inv.unpinned {pins pl : List (Addr × Obj)} {σ : St} {H : Hp} {s : Shared} (I : Inv X (pins ++ pl) σ H s) : Inv X pins σ H s := I.pins_of fun p hp => I.pin p (List.mem_append_right _ (List.mem_append_left _ hp))
theorem ps_for {iter : Expr} {body : List Stmt} {wi : TI} {g : TG} {tb : TS} {pos : Pos} (hp : PassesOwn (model X.prog X.w) X.A X.env X.xe) (hc : X.calm = true) (hi : PI X tg iter wi) (hg : PG X tg g) (hb : PSs X body tb)
    (hs : ∀ x, foldedSetIterable iter X.env x = pure x := by intro _; rfl) : PS X (.For tg iter body [] pos) (tFor wi g tb) := by
  intro pins s σ H D I h
  refine wpAny_For (thn (hi pins s σ H _ I h) fun v s1 h1 => thn h1 fun itv s2 h2 => ?_) hs
  obtain ⟨it, fp, tn, J, H2, e, I2, T, st2, f2, W, ⟨m0, w0⟩, turn⟩ := h2
  subst e
  -- what stays true of the iterator's objects through the loop
  have stat : ∀ {H' : Hp}, (∀ b ∈ fp, H' b = none) -> ∀ b ∈ fp, FpOk X pins H' b := fun hn b hb => ⟨hn b hb, (f2 b hb).2⟩
  refine codeAny_forLoop_any (fun n s' => ∃ i σ' H', Inv X pins σ' H' s' /\ tn i s'.heap /\ (∀ b ∈ fp, H' b = none) /\ W i n σ' H') ?_ m0 ⟨0, σ, H2, I2, st2, fun b hb => (f2 b hb).1, w0⟩
  rintro n s3 ⟨i, σ3, H3, I3, st3, fr3, w3⟩
  rcases turn i n σ3 H3 w3 with ⟨stop, qn⟩ | ⟨go, N, hN, step⟩
  · refine wpAny_passesOwn hp (thn (T.done X rfl rfl rfl hc i pins s3 σ3 H3 X.xe I3 (stat fr3) st3 stop) fun r s4 ⟨hr, I4⟩ => ?_)
    subst hr
    exact wpAny_execs_nil ⟨σ3, H3, I4, qn⟩
  · refine wpAny_passesOwn hp (thn (T.item X rfl rfl rfl hc i pins s3 σ3 H3 X.xe I3 (stat fr3) st3 go) fun r s4 ⟨u, hr, h4⟩ => ?_)
    subst hr
    refine wpAny_passesOwn hp (thn h4 fun _ s5 ⟨x, H5, I5, r5, y5, st5, fr5⟩ => ?_)
    have I5' := I5.pinned (stat fr5) (T.obj _ _ st5)
    refine wpAny_passesOwn hp (thn (hg _ s5 σ3 H5 x u _ I5' r5 (step x H5 y5)) fun _ s6 ⟨σ6, H6, I6, q6⟩ => ?_)
    refine wpAny_passesOwn hp (thn (hb _ s6 σ6 H6 _ I6 q6) fun f s7 q7 => ?_)
    have again : ∀ {σ7 : St} {H7 : Hp}, Inv X (pins ++ pinsAt fp s5.heap) σ7 H7 s7 -> N σ7 H7 -> ∃ m, m < n /\ ∃ i σ' H', Inv X pins σ' H' s7 /\ tn i s7.heap /\ (∀ b ∈ fp, H' b = none) /\ W i m σ' H' := fun {σ7 H7} I7 n7 => by
      obtain ⟨m', hm, w7⟩ := hN σ7 H7 n7
      refine ⟨m', hm, i + 1, σ7, H7, I7.unpinned, T.keep _ _ _ st5 fun b hb o e => (I7.pin (b, o) (List.mem_append_right _ (List.mem_append_right _ (mem_pinsAt hb e)))).1, fun b hb => ?_, w7⟩
      obtain ⟨o, e, d⟩ := T.obj _ _ st5 b hb
      exact (I7.pin (b, o) (List.mem_append_right _ (List.mem_append_right _ (mem_pinsAt hb e)))).2.1
    cases f with
    | next => obtain ⟨σ7, H7, I7, n7⟩ := q7; exact again I7 n7
    | cont => obtain ⟨σ7, H7, I7, n7⟩ := q7; exact again I7 n7
    | brk => obtain ⟨σ7, H7, I7, q7⟩ := q7; exact ⟨σ7, H7, I7.unpinned, q7⟩
    | ret v => obtain ⟨x7, σ7, H7, I7, r7, q7⟩ := q7; exact ⟨x7, σ7, H7, I7.unpinned, r7, q7⟩
end
theorem for_tup {K : PySem.W.Frag} {a : Addr} {xs : List V} {g : TG} {tb : TS} {D : Ends} {σ : St} {H : Hp} (Pv : Nat -> St -> Hp -> Prop) (h0 : Pv 0 σ H) (hl : ∀ i σ H, i <= xs.length -> Pv i σ H -> SqT K H a xs)
    (hs : ∀ i x σ H, xs[i]? = some x -> Pv i σ H -> g x σ H fun σ2 H2 => tb { D with nx := Pv (i + 1), ct := Pv (i + 1), bk := D.nx } σ2 H2) (hd : ∀ σ H, Pv xs.length σ H -> D.nx σ H) :
    ∃ W : Nat -> Nat -> St -> Hp -> Prop, (∃ m, W 0 m σ H) /\ ∀ i m σ H, W i m σ H ->
      ((Itt K a).stop i H /\ D.nx σ H) ∨ ((Itt K a).go i H /\ ∃ N : St -> Hp -> Prop, (∀ σ' H', N σ' H' -> ∃ m', m' < m /\ W (i + 1) m' σ' H') /\ ∀ x H', (Itt K a).yld i H x H' -> g x σ H' fun σ2 H2 => tb { D with nx := N, ct := N, bk := D.nx } σ2 H2) := by
  refine ⟨fun i m σ H => m = xs.length - i /\ i <= xs.length /\ Pv i σ H, ⟨xs.length, by simp, Nat.zero_le _, h0⟩, ?_⟩
  rintro i m σ H ⟨rfl, hi, p⟩
  have q := hl i σ H hi p
  by_cases hlt : i < xs.length
  · refine .inr ⟨⟨xs, xs[i], q, by simp [hlt]⟩, Pv (i + 1), fun σ' H' p' => ⟨xs.length - (i + 1), by omega, rfl, hlt, p'⟩, fun x H' y => ?_⟩
    obtain ⟨e, y⟩ := y
    subst e
    exact hs i x σ _ (y xs q) p
  · have e : i = xs.length := by omega
    subst e
    exact .inl ⟨⟨xs, q, Nat.le_refl _⟩, hd σ H p⟩
theorem for_range {lo : Int} {n : Nat} {g : TG} {tb : TS} {D : Ends} {σ : St} {H : Hp} (Pv : Nat -> St -> Hp -> Prop) (h0 : Pv 0 σ H)
    (hs : ∀ i σ H, i < n -> Pv i σ H -> g (.int (lo + i)) σ H fun σ2 H2 => tb { D with nx := Pv (i + 1), ct := Pv (i + 1), bk := D.nx } σ2 H2) (hd : ∀ σ H, Pv n σ H -> D.nx σ H) :
    ∃ W : Nat -> Nat -> St -> Hp -> Prop, (∃ m, W 0 m σ H) /\ ∀ i m σ H, W i m σ H ->
      ((Itr lo n).stop i H /\ D.nx σ H) ∨ ((Itr lo n).go i H /\ ∃ N : St -> Hp -> Prop, (∀ σ' H', N σ' H' -> ∃ m', m' < m /\ W (i + 1) m' σ' H') /\ ∀ x H', (Itr lo n).yld i H x H' -> g x σ H' fun σ2 H2 => tb { D with nx := N, ct := N, bk := D.nx } σ2 H2) := by
  refine ⟨fun i m σ H => m = n - i /\ i <= n /\ Pv i σ H, ⟨n, by simp, Nat.zero_le _, h0⟩, ?_⟩
  rintro i m σ H ⟨rfl, hi, p⟩
  by_cases hlt : i < n
  · refine .inr ⟨hlt, Pv (i + 1), fun σ' H' p' => ⟨n - (i + 1), by omega, rfl, hlt, p'⟩, fun x H' y => ?_⟩
    obtain ⟨e, y⟩ := y
    subst e y
    exact hs i σ _ hlt p
  · have e : i = n := by omega
    subst e
    exact .inl ⟨Nat.le_refl _, hd σ H p⟩
end L2
namespace L2
open PySem PySem.Spec PyProof.Rows
abbrev R2 := V -> V -> Hp -> VK -> Prop
def OpR (X : Cx) (f : Value -> Value -> Sem Value) (r : R2) : Prop :=
  ∀ (pins : List (Addr × Obj)) (s : Shared) (σ : St) (H : Hp) (x y : V) (v u : Value) (Q : VK), Inv X pins σ H s -> RelV x v -> RelV y u -> r x y H Q ->
    wpAny (model X.prog X.w) X.A (f v u) (EP X pins σ Q) X.xe s
def UnR (X : Cx) (f : Value -> Sem Value) (r : V -> Hp -> VK -> Prop) : Prop :=
  ∀ (pins : List (Addr × Obj)) (s : Shared) (σ : St) (H : Hp) (x : V) (v : Value) (Q : VK), Inv X pins σ H s -> RelV x v -> r x H Q ->
    wpAny (model X.prog X.w) X.A (f v) (EP X pins σ Q) X.xe s
def CallR (X : Cx) (f : Value) (r : List V -> Hp -> VK -> Prop) : Prop :=
  ∀ (pins : List (Addr × Obj)) (s : Shared) (σ : St) (H : Hp) (xs : List V) (us : List Value) (Q : VK), Inv X pins σ H s -> Vals xs us -> r xs H Q ->
    wpAny (model X.prog X.w) X.A (call f us) (EP X pins σ Q) X.xe s
def tOp (r : R2) (ta tb : TE) : TE := fun σ H Q => ta σ H fun x H1 => tb σ H1 fun y H2 => r x y H2 Q
def tUn (r : V -> Hp -> VK -> Prop) (ta : TE) : TE := fun σ H Q => ta σ H fun x H1 => r x H1 Q
def rI (C : Int -> Int -> Prop) (g : Int -> Int -> V) : R2 := fun x y H Q => ∃ i j, x = .int i /\ y = .int j /\ C i j /\ Q (g i j) H
def rI0 (g : Int -> Int -> V) : R2 := fun x y H Q => ∃ i j, x = .int i /\ y = .int j /\ Q (g i j) H
def rU (g : Int -> V) : V -> Hp -> VK -> Prop := fun x H Q => ∃ i, x = .int i /\ Q (g i) H
section
variable {X : Cx} {a b c : Expr} {ta tb tc : TE} {pos : Pos}
theorem binT (ha : PE X a ta) (hb : PE X b tb) {pins : List (Addr × Obj)} {s : Shared} {σ : St} {H : Hp} {R : V -> V -> Hp -> Prop} (I : Inv X pins σ H s)
    (h : ta σ H fun x H1 => tb σ H1 fun y H2 => R x y H2) {Q : Value -> Shared -> Prop} {f : Value -> Value -> Sem Value}
    (hf : ∀ v u s2 x y H2, Inv X pins σ H2 s2 -> RelV x v -> RelV y u -> R x y H2 -> wpAny (model X.prog X.w) X.A (f v u) Q X.xe s2) :
    wpAny (model X.prog X.w) X.A (eval a X.env) (fun v s₁ => wpAny (model X.prog X.w) X.A (eval b X.env) (fun u s₂ => wpAny (model X.prog X.w) X.A (f v u) Q X.xe s₂) X.xe s₁) X.xe s := by
  refine thn (ha pins s σ H _ I h) fun v s1 ⟨x, H1, I1, r1, q1⟩ => ?_
  refine thn (hb pins s1 σ H1 _ I1 q1) fun u s2 ⟨y, H2, I2, r2, q2⟩ => ?_
  exact hf v u s2 x y H2 I2 r1 r2 q2
theorem pe_op {op : Operator} {r : R2} (ho : OpR X (binaryOp op) r) (ha : PE X a ta) (hb : PE X b tb) : PE X (.BinOp a op b pos) (tOp r ta tb) := by
  intro pins s σ H Q I h
  exact wpAny_BinOp (binT ha hb I h fun v u s2 x y H2 I2 rx ry q => ho pins s2 σ H2 x y v u Q I2 rx ry q)
theorem pe_un {op : UnaryOp} {r : V -> Hp -> VK -> Prop} (ho : UnR X (unaryOp op) r) (ha : PE X a ta) : PE X (.UnaryOp op a pos) (tUn r ta) := by
  intro pins s σ H Q I h
  exact UnaryOp_ (thn (ha pins s σ H _ I h) fun v s1 ⟨x, H1, I1, r1, q1⟩ => ho pins s1 σ H1 x v Q I1 r1 q1)
theorem opI {f : Value -> Value -> Sem Value} {C : Int -> Int -> Prop} {g : Int -> Int -> Int}
    (rule : ∀ (i j : Int) (t u : Tok) (s : Shared) (Q : Value -> Shared -> Prop) (E : Value -> Shared -> Prop), C i j -> Q (.int (g i j) s.toks) { s with toks := s.toks + 1 } -> wpAny (model X.prog X.w) X.A (f (.int i t) (.int j u)) Q E s) :
    OpR X f (rI C fun i j => .int (g i j)) := by
  intro pins s σ H x y v u Q I rx ry h
  obtain ⟨i, j, rfl, rfl, hc, q⟩ := h
  obtain ⟨t, rfl⟩ := rx
  obtain ⟨t', rfl⟩ := ry
  exact rule i j t t' s _ _ hc ⟨.int (g i j), H, I.tok _, ⟨_, rfl⟩, q⟩
theorem opI0 {f : Value -> Value -> Sem Value} {g : Int -> Int -> Int}
    (rule : ∀ (i j : Int) (t u : Tok) (s : Shared) (Q : Value -> Shared -> Prop) (E : Value -> Shared -> Prop), Q (.int (g i j) s.toks) { s with toks := s.toks + 1 } -> wpAny (model X.prog X.w) X.A (f (.int i t) (.int j u)) Q E s) :
    OpR X f (rI0 fun i j => .int (g i j)) := by
  intro pins s σ H x y v u Q I rx ry h
  obtain ⟨i, j, rfl, rfl, q⟩ := h
  obtain ⟨t, rfl⟩ := rx
  obtain ⟨t', rfl⟩ := ry
  exact rule i j t t' s _ _ ⟨.int (g i j), H, I.tok _, ⟨_, rfl⟩, q⟩
theorem opB0 {f : Value -> Value -> Sem Value} {g : Int -> Int -> Bool}
    (rule : ∀ (i j : Int) (t u : Tok) (s : Shared) (Q : Value -> Shared -> Prop) (E : Value -> Shared -> Prop), Q (.bool (g i j)) s -> wpAny (model X.prog X.w) X.A (f (.int i t) (.int j u)) Q E s) :
    OpR X f (rI0 fun i j => .bl (g i j)) := by
  intro pins s σ H x y v u Q I rx ry h
  obtain ⟨i, j, rfl, rfl, q⟩ := h
  obtain ⟨t, rfl⟩ := rx
  obtain ⟨t', rfl⟩ := ry
  exact rule i j t t' s _ _ ⟨.bl (g i j), H, I, rfl, q⟩
def CDiv (i j : Int) : Prop := 0 < j /\ j < 1073741824
def CMul (i j : Int) : Prop := (-(2 ^ 64) < i /\ i < 2 ^ 64) ∨ (-(2 ^ 64) < j /\ j < 2 ^ 64)
theorem CMul.ok {i j : Int} (h : CMul i j) : IntMulOk i j := by
  rcases h with ⟨h1, h2⟩ | ⟨h1, h2⟩
  · exact .of_left (intBits_le_64 h1 h2)
  · exact .of_right (intBits_le_64 h1 h2)
theorem op_add : OpR X (binaryOp .Add) (rI0 fun i j => .int (i + j)) := opI0 fun _ _ _ _ _ _ _ q => add_int q
theorem op_sub : OpR X (binaryOp .Sub) (rI0 fun i j => .int (i - j)) := opI0 fun _ _ _ _ _ _ _ q => sub_int q
theorem op_mul : OpR X (binaryOp .Mult) (rI CMul fun i j => .int (i * j)) := opI fun _ _ _ _ _ _ _ hc q => mul_int q hc.ok
theorem op_fdiv : OpR X (binaryOp .FloorDiv) (rI CDiv fun i j => .int (i / j)) := opI fun i j _ _ _ _ _ hc q => by
  have h1 : (0 : Int) < j := hc.1
  have h2 : j < 1073741824 := hc.2
  exact floordiv_int (by omega) (by rw [Int.fdiv_eq_ediv_of_nonneg i (by omega)]; exact q) (.inl (PyProof.noPylong_small (by omega)))
theorem op_mod : OpR X (binaryOp .Mod) (rI (fun _ j => 0 < j) fun i j => .int (i % j)) := opI fun i j _ _ _ _ _ hc q => by
  have h1 : (0 : Int) < j := hc
  exact mod_int' (by omega) (by rw [Int.fmod_eq_emod_of_nonneg i (by omega)]; exact q)
theorem unI {f : Value -> Sem Value} {g : Int -> Int}
    (rule : ∀ (i : Int) (t : Tok) (s : Shared) (Q : Value -> Shared -> Prop) (E : Value -> Shared -> Prop), Q (.int (g i) s.toks) { s with toks := s.toks + 1 } -> wpAny (model X.prog X.w) X.A (f (.int i t)) Q E s) :
    UnR X f (rU fun i => .int (g i)) := by
  intro pins s σ H x v Q I rx h
  obtain ⟨i, rfl, q⟩ := h
  obtain ⟨t, rfl⟩ := rx
  exact rule i t s _ _ ⟨.int (g i), H, I.tok _, ⟨_, rfl⟩, q⟩
theorem un_neg : UnR X (unaryOp .USub) (rU fun i => .int (-i)) := unI fun _ _ _ _ _ q => neg_int q
end
def scal : V -> V -> Bool
  | .non, .non => true | .non, .int _ => true | .int _, .non => true | .non, .bl _ => true | .bl _, .non => true | .non, .str _ => true | .str _, .non => true
  | .int _, .int _ => true | .bl _, .bl _ => true | .str _, .str _ => true | .byt _, .byt _ => true
  | .int _, .str _ => true | .str _, .int _ => true | .bl _, .str _ => true | .str _, .bl _ => true
  | _, _ => false
def rEq : R2 := fun x y H Q => scal x y = true /\ Q (.bl (decide (x = y))) H
def rNe : R2 := fun x y H Q => scal x y = true /\ Q (.bl (!decide (x = y))) H
theorem dec_int {i j : Int} : decide (V.int i = V.int j) = (i == j) := by
  rw [Bool.eq_iff_iff]
  simp
theorem dec_bl {i j : Bool} : decide (V.bl i = V.bl j) = (i == j) := by
  rw [Bool.eq_iff_iff]
  simp
theorem dec_str {i j : Str} : decide (V.str i = V.str j) = (i == j) := by
  rw [Bool.eq_iff_iff]
  simp
theorem dec_byt {i j : Array UInt8} : decide (V.byt i = V.byt j) = (i.toList == j.toList) := by
  rw [Bool.eq_iff_iff]
  cases i
  cases j
  simp
section
variable {X : Cx} {a b c : Expr} {ta tb tc : TE} {pos : Pos}
theorem fin_bl {pins : List (Addr × Obj)} {σ : St} {H : Hp} {s : Shared} {Q : VK} {k k' : Bool} (I : Inv X pins σ H s) (q : Q (.bl k) H) (e : k = k') : EP X pins σ Q (.bool k') s := by
  subst e
  exact ⟨.bl k, H, I, rfl, q⟩
theorem op_eq : OpR X (compareOp .Eq) rEq := by
  intro pins s σ H x y v u Q I rx ry h
  obtain ⟨hs, q⟩ := h
  cases x with
  | non =>
    cases rx
    cases y with
    | non => cases ry; exact PySem.EqNone.eq_none_none (fin_bl I q (by simp))
    | bl j => cases ry; exact PySem.EqNone.eq_none_bool (fin_bl I q (by simp))
    | int j => obtain ⟨t', rfl⟩ := ry; exact PySem.EqNone.eq_none_int (fin_bl I q (by simp))
    | str j => obtain ⟨t', rfl⟩ := ry; exact PySem.EqNone.eq_none_str (fin_bl I q (by simp))
    | _ => exact absurd (show false = true from hs) Bool.false_ne_true
  | bl i =>
    cases rx
    cases y with
    | non => cases ry; exact PySem.EqNone.eq_bool_none (fin_bl I q (by simp))
    | bl j => cases ry; exact eq_bool (fin_bl I q dec_bl)
    | str j => obtain ⟨t', rfl⟩ := ry; exact PySem.EqMixed.eq_bool_str (fin_bl I q (by simp))
    | _ => exact absurd (show false = true from hs) Bool.false_ne_true
  | int i =>
    obtain ⟨t, rfl⟩ := rx
    cases y with
    | non => cases ry; exact PySem.EqNone.eq_int_none (fin_bl I q (by simp))
    | int j => obtain ⟨t', rfl⟩ := ry; exact eq_int (fin_bl I q dec_int)
    | str j => obtain ⟨t', rfl⟩ := ry; exact PySem.EqMixed.eq_int_str (fin_bl I q (by simp))
    | _ => exact absurd (show false = true from hs) Bool.false_ne_true
  | str i =>
    obtain ⟨t, rfl⟩ := rx
    cases y with
    | non => cases ry; exact PySem.EqNone.eq_str_none (fin_bl I q (by simp))
    | bl j => cases ry; exact PySem.EqMixed.eq_str_bool (fin_bl I q (by simp))
    | int j => obtain ⟨t', rfl⟩ := ry; exact PySem.EqMixed.eq_str_int (fin_bl I q (by simp))
    | str j => obtain ⟨t', rfl⟩ := ry; exact eq_str (fin_bl I q dec_str)
    | _ => exact absurd (show false = true from hs) Bool.false_ne_true
  | byt i =>
    obtain ⟨t, rfl⟩ := rx
    cases y with
    | byt j => obtain ⟨t', rfl⟩ := ry; exact PySem.W.eq_bytes (fin_bl I q dec_byt)
    | _ => exact absurd (show false = true from hs) Bool.false_ne_true
  | _ => cases y <;> exact absurd (show false = true from hs) Bool.false_ne_true
theorem op_ne : OpR X (compareOp .NotEq) rNe := by
  intro pins s σ H x y v u Q I rx ry h
  obtain ⟨hs, q⟩ := h
  cases x with
  | non =>
    cases rx
    cases y with
    | non => cases ry; exact PySem.EqNone.ne_none_none (fin_bl I q (by simp))
    | bl j => cases ry; exact PySem.EqNone.ne_none_bool (fin_bl I q (by simp))
    | int j => obtain ⟨t', rfl⟩ := ry; exact PySem.EqNone.ne_none_int (fin_bl I q (by simp))
    | str j => obtain ⟨t', rfl⟩ := ry; exact PySem.EqNone.ne_none_str (fin_bl I q (by simp))
    | _ => exact absurd (show false = true from hs) Bool.false_ne_true
  | bl i =>
    cases rx
    cases y with
    | non => cases ry; exact PySem.EqNone.ne_bool_none (fin_bl I q (by simp))
    | bl j => cases ry; exact ne_bool (fin_bl I q (congrArg not dec_bl))
    | str j => obtain ⟨t', rfl⟩ := ry; exact PySem.EqMixed.ne_bool_str (fin_bl I q (by simp))
    | _ => exact absurd (show false = true from hs) Bool.false_ne_true
  | int i =>
    obtain ⟨t, rfl⟩ := rx
    cases y with
    | non => cases ry; exact PySem.EqNone.ne_int_none (fin_bl I q (by simp))
    | int j => obtain ⟨t', rfl⟩ := ry; exact ne_int (fin_bl I q (congrArg not dec_int))
    | str j => obtain ⟨t', rfl⟩ := ry; exact PySem.EqMixed.ne_int_str (fin_bl I q (by simp))
    | _ => exact absurd (show false = true from hs) Bool.false_ne_true
  | str i =>
    obtain ⟨t, rfl⟩ := rx
    cases y with
    | non => cases ry; exact PySem.EqNone.ne_str_none (fin_bl I q (by simp))
    | bl j => cases ry; exact PySem.EqMixed.ne_str_bool (fin_bl I q (by simp))
    | int j => obtain ⟨t', rfl⟩ := ry; exact PySem.EqMixed.ne_str_int (fin_bl I q (by simp))
    | str j => obtain ⟨t', rfl⟩ := ry; exact ne_str (fin_bl I q (congrArg not dec_str))
    | _ => exact absurd (show false = true from hs) Bool.false_ne_true
  | byt i =>
    obtain ⟨t, rfl⟩ := rx
    cases y with
    | byt j => obtain ⟨t', rfl⟩ := ry; exact PySem.W.ne_bytes (fin_bl I q (congrArg not dec_byt))
    | _ => exact absurd (show false = true from hs) Bool.false_ne_true
  | _ => cases y <;> exact absurd (show false = true from hs) Bool.false_ne_true
theorem op_lt : OpR X (compareOp .Lt) (rI0 fun i j => .bl (decide (i < j))) := opB0 fun _ _ _ _ _ _ _ q => lt_int q
theorem op_le : OpR X (compareOp .LtE) (rI0 fun i j => .bl (decide (i <= j))) := opB0 fun _ _ _ _ _ _ _ q => le_int q
theorem op_gt : OpR X (compareOp .Gt) (rI0 fun i j => .bl (decide (j < i))) := opB0 fun _ _ _ _ _ _ _ q => gt_int q
theorem op_isN : OpR X (compareOp .Is) (fun x y H Q => y = .non /\ Q (.bl (decide (x = .non))) H) := by
  intro pins s σ H x y v u Q I rx ry h
  obtain ⟨rfl, q⟩ := h
  cases ry
  refine is_none_gen (fin_bl I q ?_)
  cases x <;> first
    | (cases rx; rfl)
    | (obtain ⟨t, rfl⟩ := rx; rfl)
theorem nomark (b : Expr) {op : CmpOp} (h : op ≠ .In := by decide) (h2 : op ≠ .NotIn := by decide) : behindInMarks op b = false := by
  have e1 : (op == CmpOp.In) = false := by cases op <;> first | rfl | exact absurd rfl h
  have e2 : (op == CmpOp.NotIn) = false := by cases op <;> first | rfl | exact absurd rfl h2
  cases b <;> simp [behindInMarks, e1, e2]
theorem pe_cmpR {op : CmpOp} {r : R2} (ho : OpR X (compareOp op) r) (ha : PE X a ta) (hb : PE X b tb) (hm : behindInMarks op b = false) : PE X (.Compare a [op] [b] pos) (tOp r ta tb) := by
  intro pins s σ H Q I h
  exact wpAny_Compare1 (binT ha hb I h fun v u s2 x y H2 I2 rx ry q => ho pins s2 σ H2 x y v u Q I2 rx ry q) hm
def tTest (t : TE) : TT := fun σ H Q => t σ H fun x H' => ∃ k, x = .bl k /\ Q k H'
theorem pt_cmpR {op : CmpOp} {r : R2} (ho : OpR X (compareOp op) r) (ha : PE X a ta) (hb : PE X b tb) (hm : behindInMarks op b = false) : PT X (.Compare a [op] [b] pos) (tTest (tOp r ta tb)) := by
  intro pins s σ H Q I h
  refine wpAny_isTrue_Compare1 (thn (ha pins s σ H _ I h) fun v s1 ⟨x, H1, I1, r1, q1⟩ => thn (hb pins s1 σ H1 _ I1 q1) fun u s2 ⟨y, H2, I2, r2, q2⟩ =>
    thn (ho pins s2 σ H2 x y v u _ I2 r1 r2 q2) fun c s3 ⟨z, H3, I3, r3, k, e, q3⟩ => ?_) hm
  subst e
  cases r3
  exact wpAny_truthy_bool ⟨H3, I3, q3⟩
def tChain (r r' : R2) (ta tb tc : TE) : TE := fun σ H Q => ta σ H fun x H1 => tb σ H1 fun y H2 => r x y H2 fun z H3 => ∃ k, z = .bl k /\
  (if k = true then tc σ H3 fun w' H4 => r' y w' H4 Q else Q (.bl false) H3)
theorem pe_chain {op op' : CmpOp} {r r' : R2} (ho : OpR X (compareOp op) r) (ho' : OpR X (compareOp op') r') (ha : PE X a ta) (hb : PE X b tb) (hc : PE X c tc)
    (hm : lastMarks [op, op'] [b, c] = false := by with_unfolding_all rfl) : PE X (.Compare a [op, op'] [b, c] pos) (tChain r r' ta tb tc) := by
  intro pins s σ H Q I h
  refine Compare_chain (thn (ha pins s σ H _ I h) fun v s1 ⟨x, H1, I1, r1, q1⟩ => chain_link (thn (hb pins s1 σ H1 _ I1 q1) fun u s2 ⟨y, H2, I2, r2, q2⟩ =>
    thn (ho pins s2 σ H2 x y v u _ I2 r1 r2 q2) fun d s3 ⟨z, H3, I3, r3, k, e, q3⟩ => ?_)) hm
  subst e
  cases r3
  refine wpAny_truthy_bool ?_
  cases k with
  | false => exact ite_ff ⟨.bl false, H3, I3, rfl, q3⟩
  | true => exact ite_tt (chain_last (thn (hc pins s3 σ H3 _ I3 q3) fun w' s4 ⟨z', H4, I4, r4, q4⟩ => ho' pins s4 σ H4 y z' u w' Q I4 r2 r4 q4))
theorem pt_chain {op op' : CmpOp} {r r' : R2} (ho : OpR X (compareOp op) r) (ho' : OpR X (compareOp op') r') (ha : PE X a ta) (hb : PE X b tb) (hc : PE X c tc)
    (hm : lastMarks [op, op'] [b, c] = false := by with_unfolding_all rfl) : PT X (.Compare a [op, op'] [b, c] pos) (tTest (tChain r r' ta tb tc)) := by
  intro pins s σ H Q I h
  refine isTrue_chain (thn (ha pins s σ H _ I h) fun v s1 ⟨x, H1, I1, r1, q1⟩ => test_link (thn (hb pins s1 σ H1 _ I1 q1) fun u s2 ⟨y, H2, I2, r2, q2⟩ =>
    thn (ho pins s2 σ H2 x y v u _ I2 r1 r2 q2) fun d s3 ⟨z, H3, I3, r3, k, e, q3⟩ => ?_)) hm
  subst e
  cases r3
  refine wpAny_truthy_bool ?_
  cases k with
  | false =>
    obtain ⟨k', e', q'⟩ := q3
    cases e'
    exact ite_ff ⟨H3, I3, q'⟩
  | true =>
    refine ite_tt (test_last (thn (hc pins s3 σ H3 _ I3 q3) fun w' s4 ⟨z', H4, I4, r4, q4⟩ => thn (ho' pins s4 σ H4 y z' u w' _ I4 r2 r4 q4) fun d' s5 ⟨z2, H5, I5, r5, k2, e2, q5⟩ => ?_))
    subst e2
    cases r5
    exact wpAny_truthy_bool ⟨H5, I5, q5⟩
theorem line63 : (sizeLine : Nat) < 2 ^ 63 := by rw [sizeLine_eq]; decide
theorem op_add_str : OpR X (binaryOp .Add) (fun x y H Q => ∃ i j, x = .str i /\ y = .str j /\ i.length + j.length <= sizeLine /\ Q (.str (i ++ j)) H) := by
  intro pins s σ H x y v u Q I rx ry h
  obtain ⟨i, j, rfl, rfl, hz, q⟩ := h
  obtain ⟨t, rfl⟩ := rx
  obtain ⟨t', rfl⟩ := ry
  exact add_str (fun t' tk => ⟨.str (i ++ j), H, I.tok _, ⟨_, rfl⟩, q⟩) hz
theorem vals1 {x : V} {us : List Value} (r : Vals [x] us) : ∃ u, us = [u] /\ RelV x u := by
  cases r with
  | cons r1 r2 => cases r2; exact ⟨_, rfl, r1⟩
theorem vals2 {x y : V} {us : List Value} (r : Vals [x, y] us) : ∃ u w', us = [u, w'] /\ RelV x u /\ RelV y w' := by
  cases r with
  | cons r1 r2 =>
    cases r2 with
    | cons r3 r4 => cases r4; exact ⟨_, _, rfl, r1, r3⟩
theorem call_max2 (hc : X.calm = true) : CallR X (.builtin "max") (fun xs H Q => ∃ i j, xs = [.int i, .int j] /\ Q (.int (if j > i then j else i)) H) := by
  intro pins s σ H xs us Q I r h
  obtain ⟨i, j, rfl, q⟩ := h
  obtain ⟨u, w', rfl, ⟨t, rfl⟩, ⟨t', rfl⟩⟩ := vals2 r
  refine max_two_ints (I.ok.hd hc) fun h' tk k => ⟨_, H, I.kept k, ?_, q⟩
  by_cases hj : j > i
  · rw [if_pos hj, if_pos hj]; exact ⟨_, rfl⟩
  · rw [if_neg hj, if_neg hj]; exact ⟨_, rfl⟩
theorem call_str_int : CallR X (.type "str") (fun xs H Q => ∃ i, xs = [.int i] /\ i.natAbs.log2 < 1920 /\ Q (.str (toString i)) H) := by
  intro pins s σ H xs us Q I r h
  obtain ⟨i, rfl, hz, q⟩ := h
  obtain ⟨u, rfl, t, rfl⟩ := vals1 r
  exact PySem.P.str_of_int hz ⟨.str _, H, I.tok _, ⟨_, rfl⟩, q⟩
theorem call_ord : CallR X (.builtin "ord") (fun xs H Q => ∃ x, xs = [.str x] /\ x.length = 1 /\ Q (.int (x.cps.getD 0 0 : Nat)) H) := by
  intro pins s σ H xs us Q I r h
  obtain ⟨x, rfl, hz, q⟩ := h
  obtain ⟨u, rfl, t, rfl⟩ := vals1 r
  exact ord_of_one hz ⟨.int _, H, I.tok _, ⟨_, rfl⟩, q⟩
end
end L2
namespace L2
open PySem PySem.Spec PyProof.Rows
structure ObjM (h : Heap) (x dx C : Addr) (mA : Str -> Option Value) : Prop where
  obj : h.get? x = some (PySem.W.instObj C dx)
  ns : h.Ns1 dx mA
  ne : dx ≠ x
theorem lookIn_ns {h : Heap} {dx : Addr} {mA : Str -> Option Value} (n : h.Ns1 dx mA) : ∃ od, h.get? dx = some od /\ ∀ name, PySem.W.lookIn name od = some (mA name) := by
  obtain ⟨o, es, ep, ho, hd, hk, _, hm⟩ := n
  refine ⟨o, ho, fun name => ?_⟩
  have e := hm name
  unfold nsFind findBy at e
  rw [← Array.find?_toList] at e
  unfold PySem.W.lookIn
  rw [hd]
  dsimp only
  split
  · rename_i y q
    rw [q] at e
    exact congrArg some e
  · rename_i q
    rw [q] at e
    have a : es.toList.any (·.refKey) = false := by
      rw [List.any_eq_false]
      intro y hy
      obtain ⟨z, t, hkey⟩ := hk y (Array.mem_toList_iff.mp hy)
      simp [DictEntry.refKey, hkey]
    have a' : ¬ es.toList.any (·.refKey) = true := by rw [a]; exact Bool.false_ne_true
    rw [if_neg a']
    exact congrArg some e
theorem ObjM.look {h : Heap} {x dx C : Addr} {mA : Str -> Option Value} (I : ObjM h x dx C mA) : ∃ od, PySem.W.InstAt h x (PySem.W.instObj C dx) C (some od) /\ ∀ name, PySem.W.lookIn name od = some (mA name) :=
  let ⟨od, ho, hl⟩ := lookIn_ns I.ns
  ⟨od, ⟨I.obj, rfl, rfl, ho⟩, hl⟩
section
variable {prog : Program} {w : World} {A : Around} {E : Value -> Shared -> Prop} {s : Shared} {K : PySem.W.Frag} {x dx C f : Addr} {mA : Str -> Option Value} {name : Str} {v : Value}
theorem get_map {expr : Bool} {Q : Value -> Shared -> Prop} (X : K.In s.heap) (I : ObjM s.heap x dx C mA) (hg : PySem.W.plainGet K C name = true) (hh : PySem.W.hasDictIn K C = true)
    (ha : PySem.W.findIn K (.ref C) name = some none) (hv : mA name = some v) (hv' : PySem.W.handedIn v = true) (h : Q v { s with toks := s.toks + 1 }) :
    wpAny (model prog w) A (getAttr (.ref x) name expr) Q E s := by
  obtain ⟨od, J, hl⟩ := I.look
  exact PySem.W.get_value X J (PySem.W.plainGet_of hg).1 (PySem.W.findObj_own hh ha rfl (by rw [hl, hv])) hv' h
theorem get_meth {pl : Sem Bool} {Q : Value × List Value -> Shared -> Prop} (X : K.In s.heap) (I : ObjM s.heap x dx C mA) (hg : PySem.W.plainGet K C name = true)
    (hf : PySem.W.findIn K (.ref C) name = some (some (.ref f))) (ht : PySem.W.isFn K (.ref f) = true) (hv : mA name = none) (h : Q (.ref f, [.ref x]) s) :
    wpAny (model prog w) A (getMethod (.ref x) name pl) Q E s := by
  obtain ⟨od, J, hl⟩ := I.look
  exact PySem.W.method_fn X J (PySem.W.plainGet_of hg).1 (PySem.W.plainGet_of hg).2 hf (beq_iff_eq.mp ht) (by show (PySem.W.lookIn name od).map (·.isSome) = some false; rw [hl, hv]; rfl) h
theorem set_map {ns : List Str} {Q : Unit -> Shared -> Prop} (X : K.In s.heap) (I : ObjM s.heap x dx C mA)
    (hs : PySem.W.findIn K (.ref C) "__setattr__" = some (some (.builtin "object.__setattr__"))) (hp : PySem.W.plainOver K C = true) (ht : PySem.W.takerIn K C name = some none) (hh : PySem.W.hasDictIn K C = true)
    (hw : PySem.Within mA ns) (hsz : ns.length <= sizeLine)
    (h : ∀ h', ObjM h' x dx C (fun y => if y = name then some v else mA y) -> Heap.SameBut dx s.heap h' -> Q () { s with heap := h', toks := s.toks + 2 }) :
    wpAny (model prog w) A (setAttr (.ref x) name v) Q E s := by
  obtain ⟨od, J, hl⟩ := I.look
  refine PySem.W.set_plain X J hs (PySem.W.osa_open (s := { s with toks := s.toks + 1 }) (r := none) X J hp ht fun b => ?_)
  obtain ⟨cd, hc, hd'⟩ := PySem.W.any_some hh
  have hx : s.heap.get? x = some ⟨.ref C, some dx, .plain, #[]⟩ := I.obj
  refine wpAny_bind (wpAny_pure (wpAny_bind (wpAny_bind (wpAny_loadPart hx (wpAny_bind (PySem.W.Looks.here (s := { s with toks := s.toks + 1 }) (PySem.W.looks_clsIn X hc) ?_))))))
  rw [hd']
  refine wpAny_pure (a := some dx) (wpAny_bind (wpAny_pure (wpAny_bind ?_)))
  refine wpAny_nsSet1 (s := { s with toks := s.toks + 1 }) I.ns fun h' hn2 hs2 => ?_
  obtain ⟨oD, esD, epD, hoD, hdD, hcD⟩ := hn2.count (PySem.Within.cons name v hw)
  refine wpAny_bind (wpAny_lookBehind hoD (by rw [hdD]; exact pastItsLine_dict (Nat.le_trans hcD (by rw [List.length_cons]; omega))) ?_)
  exact wpAny_pure (h _ ⟨(hs2.2 _ (Ne.symm I.ne)).trans I.obj, hn2, I.ne⟩ hs2)
theorem make_map {R : Result -> Shared -> Prop} {vs : List Value} {kw : List (Str × Value)} (X : K.In s.heap) (hm : PySem.W.makesIn K C = true)
    (hi : PySem.W.findIn K (.ref C) "__init__" = some (some (.ref f))) (hf : PySem.W.typeIn K (.ref f) = some (.type "function"))
    (h : codeAny (model prog w) (A.under (.builtin "type.__call__" ⟨.ref C :: vs, kw⟩)) (.call (.ref f) ⟨.ref (s.heap.objs.size + 1) :: vs, kw⟩) (PySem.W.InitBack (s.heap.objs.size + 1) R)
      { s with heap := (s.heap.push PySem.W.emptyDict).push (PySem.W.instObj C s.heap.objs.size) }) :
    codeAny (model prog w) A (.call (.ref C) ⟨vs, kw⟩) R s := by
  obtain ⟨hh, g, d, t, os⟩ := s
  exact PySem.W.make_core (PySem.W.makes_of X hm) (PySem.W.looks_findIn X hi) (fun self => PySem.W.bind_fn X self hf) (.inl rfl) h
end
def putF (f : Str) (v : V) : List (Str × V) -> List (Str × V)
  | [] => [(f, v)]
  | (g, x) :: r => if g = f then (g, v) :: r else (g, x) :: putF f v r
theorem lookup_putF (f g : Str) (v : V) : ∀ fs : List (Str × V), (putF f v fs).lookup g = if g = f then some v else fs.lookup g
  | [] => by
    show List.lookup g [(f, v)] = _
    by_cases h : g = f
    · have hb : (g == f) = true := beq_iff_eq.mpr h
      simp only [List.lookup, hb, if_pos h]
    · have hb : (g == f) = false := beq_eq_false_iff_ne.mpr h
      simp only [List.lookup, hb, if_neg h]
  | (k, x) :: r => by
    have ih := lookup_putF f g v r
    rw [show putF f v ((k, x) :: r) = (if k = f then (k, v) :: r else (k, x) :: putF f v r) from rfl]
    by_cases hk : k = f
    · rw [if_pos hk]
      by_cases h : g = k
      · have hb : (g == k) = true := beq_iff_eq.mpr h
        simp only [List.lookup, hb, if_pos (h.trans hk)]
      · have hb : (g == k) = false := beq_eq_false_iff_ne.mpr h
        simp only [List.lookup, hb, if_neg (fun e : g = f => h (e.trans hk.symm))]
    · rw [if_neg hk]
      by_cases h : g = k
      · have hb : (g == k) = true := beq_iff_eq.mpr h
        simp only [List.lookup, hb, if_neg (fun e : g = f => hk (h.symm.trans e))]
      · have hb : (g == k) = false := beq_eq_false_iff_ne.mpr h
        simp only [List.lookup, hb]
        exact ih
theorem keys_putF (f : Str) (v : V) : ∀ fs : List (Str × V), f ∈ (putF f v fs).map (·.1) /\ ∀ g, g ∈ fs.map (·.1) -> g ∈ (putF f v fs).map (·.1)
  | [] => ⟨by simp [putF], fun g h => by simp at h⟩
  | (k, x) :: r => by
    obtain ⟨i1, i2⟩ := keys_putF f v r
    rw [show putF f v ((k, x) :: r) = (if k = f then (k, v) :: r else (k, x) :: putF f v r) from rfl]
    by_cases hk : k = f
    · rw [if_pos hk]
      subst hk
      exact ⟨by simp, fun g h => by simpa using h⟩
    · rw [if_neg hk]
      refine ⟨?_, fun g h => ?_⟩
      · rw [List.map_cons]
        exact List.mem_cons_of_mem _ i1
      · rw [List.map_cons] at h ⊢
        rcases List.mem_cons.mp h with e | e
        · exact List.mem_cons.mpr (.inl e)
        · exact List.mem_cons_of_mem _ (i2 g e)
theorem length_putF (f : Str) (v : V) : ∀ fs : List (Str × V), (putF f v fs).length <= fs.length + 1
  | [] => by simp [putF]
  | (k, x) :: r => by
    have ih := length_putF f v r
    rw [show putF f v ((k, x) :: r) = (if k = f then (k, v) :: r else (k, x) :: putF f v r) from rfl]
    by_cases hk : k = f
    · rw [if_pos hk, List.length_cons, List.length_cons]; omega
    · rw [if_neg hk, List.length_cons, List.length_cons]; omega
theorem RelO.some_of {v : V} {o : Option Value} (r : RelO (some v) o) : ∃ u, o = some u /\ RelV v u := by
  cases o with
  | none => exact (show False from r).elim
  | some u => exact ⟨u, rfl, r⟩
theorem RelO.none_of {o : Option Value} (r : RelO none o) : o = none := by
  cases o with
  | none => rfl
  | some u => exact (show False from r).elim
theorem handed_of {v : V} {u : Value} (r : RelV v u) : PySem.W.handedIn u = true := by
  cases v with
  | non => cases (show u = Value.none from r); rfl
  | bl b => cases (show u = Value.bool b from r); rfl
  | int i => obtain ⟨t, e⟩ := (show ∃ t, u = Value.int i t from r); cases e; rfl
  | str x => obtain ⟨t, e⟩ := (show ∃ t, u = Value.str x t from r); cases e; rfl
  | byt b => obtain ⟨t, e⟩ := (show ∃ t, u = Value.bytes b t from r); cases e; rfl
  | flt b => obtain ⟨t, e⟩ := (show ∃ t, u = Value.float b t from r); cases e; rfl
  | ref a => cases (show u = Value.ref a from r); rfl
  | ty n => cases (show u = Value.type n from r); rfl
section
variable {P : Program} {w : World} {H H' : Hp} {h h' : Heap} {a C dx : Addr} {fs fs' : List (Str × V)}
theorem ins_get (hok : HOk P w H h) (e : H a = some (.ins C dx fs)) : ∃ mA, ObjM h a dx C mA /\ (∀ f, RelO (fs.lookup f) (mA f)) /\ PySem.Within mA (fs.map (·.1)) /\ fs.length <= 1000 /\ H dx = some (.own a) := by
  obtain ⟨d, z, ne, ob, mA, n, r, q⟩ := (show ObjOk P w H h a (.ins C dx fs) from hok a _ e)
  exact ⟨mA, ⟨ob, n, ne⟩, r, q, z, d⟩
end
structure Cls (K : PySem.W.Frag) (C : Addr) : Prop where
  pg : PySem.W.plainGet K C Str.empty = true
  hd : PySem.W.hasDictIn K C = true
  po : PySem.W.plainOver K C = true
  sa : PySem.W.findIn K (.ref C) "__setattr__" = some (some (.builtin "object.__setattr__"))
theorem Cls.get {K : PySem.W.Frag} {C : Addr} (c : Cls K C) (f : Str) : PySem.W.plainGet K C f = true := c.pg
def NoAttr (K : PySem.W.Frag) (C : Addr) (f : Str) : Prop := PySem.W.findIn K (.ref C) f = some none
theorem NoAttr.taker {K : PySem.W.Frag} {C : Addr} {f : Str} (n : NoAttr K C f) : PySem.W.takerIn K C f = some none := by
  unfold PySem.W.takerIn
  rw [show PySem.W.findIn K (.ref C) f = some none from n]
  rfl
structure Meth (K : PySem.W.Frag) (C : Addr) (m : Str) (f : Addr) : Prop where
  at_ : PySem.W.findIn K (.ref C) m = some (some (.ref f))
  fn : PySem.W.isFn K (.ref f) = true
  kp : PySem.W.keepIn K (.ref f) = true
section
variable {X : Cx} {pins : List (Addr × Obj)} {σ : St} {H : Hp} {s : Shared} {a C dx : Addr} {fs : List (Str × V)} {f : Str} {v : V} {A : Around} {E : Value -> Shared -> Prop}
theorem getattr_ok {b : Bool} {Q : Value -> Shared -> Prop} (I : Inv X pins σ H s) (e : H a = some (.ins C dx fs)) (c : Cls X.K C) (n : NoAttr X.K C f) (l : fs.lookup f = some v)
    (h : ∀ u s', Inv X pins σ H s' -> RelV v u -> Q u s') : wpAny (model X.prog X.w) A (getAttr (.ref a) f b) Q E s := by
  obtain ⟨mA, O, r, _, _, _⟩ := ins_get I.hok e
  obtain ⟨u, hu, ru⟩ := RelO.some_of (v := v) (o := mA f) (by rw [← l]; exact r f)
  exact get_map I.kIn O (c.get f) c.hd n hu (handed_of ru) (h u _ (I.tok _) ru)
theorem getmeth_ok {m : Str} {g : Addr} {pl : Sem Bool} {Q : Value × List Value -> Shared -> Prop} (I : Inv X pins σ H s) (e : H a = some (.ins C dx fs)) (c : Cls X.K C) (k : Meth X.K C m g) (l : fs.lookup m = none)
    (h : Q (.ref g, [.ref a]) s) : wpAny (model X.prog X.w) A (getMethod (.ref a) m pl) Q E s := by
  obtain ⟨mA, O, r, _, _, _⟩ := ins_get I.hok e
  have hn : mA m = none := RelO.none_of (by rw [← l]; exact r m)
  exact get_meth I.kIn O (c.get m) k.at_ k.fn hn h
theorem setattr_ok {y : V} {u : Value} {Q : Unit -> Shared -> Prop} (I : Inv X pins σ H s) (e : H a = some (.ins C dx fs)) (c : Cls X.K C) (n : NoAttr X.K C f) (hl : fs.length < 1000) (ry : RelV y u)
    (h : ∀ s', Inv X pins σ (upd H a (.ins C dx (putF f y fs))) s' -> Q () s') : wpAny (model X.prog X.w) A (setAttr (.ref a) f u) Q E s := by
  obtain ⟨mA, O, r, wi, _, ho⟩ := ins_get I.hok e
  have hz : (fs.map (·.1)).length <= sizeLine := by rw [List.length_map, sizeLine_eq]; omega
  refine set_map I.kIn O c.sa c.po n.taker c.hd wi hz fun h' O' sb => h _ ?_
  have hd : ∃ o, h'.get? dx = some o := let ⟨o, _, _, e', _⟩ := O'.ns; ⟨o, e'⟩
  refine I.write (x := a) (e := dx) (by rw [e]; exact True.intro) (.inr ho) (fun b q hb z => (sb.2 b hb).trans z) hd ?_
  refine ⟨by rw [upd_ne O.ne]; exact ho, ?_, O.ne, O'.obj, _, O'.ns, fun g => ?_, fun g hg => ?_⟩
  · have := length_putF f y fs; omega
  · show RelO ((putF f y fs).lookup g) (if g = f then some u else mA g)
    rw [lookup_putF]
    by_cases q : g = f
    · rw [if_pos q, if_pos q]; exact ry
    · rw [if_neg q, if_neg q]; exact r g
  · by_cases q : g = f
    · rw [q]; exact (keys_putF f y fs).1
    · refine (keys_putF f y fs).2 g (wi g fun z => hg ?_)
      show (if g = f then some u else mA g) = none
      rw [if_neg q]; exact z
theorem Inv.made (I : Inv X pins σ H s) : Inv X pins σ (upd (upd H s.heap.objs.size (.own (s.heap.objs.size + 1))) (s.heap.objs.size + 1) (.ins C s.heap.objs.size []))
    { s with heap := (s.heap.push PySem.W.emptyDict).push (PySem.W.instObj C s.heap.objs.size) } := by
  have e1 : (s.heap.push PySem.W.emptyDict).get? s.heap.objs.size = some PySem.W.emptyDict := Heap.get?_push_size s.heap rfl
  have e2 : ((s.heap.push PySem.W.emptyDict).push (PySem.W.instObj C s.heap.objs.size)).get? (s.heap.objs.size + 1) = some (PySem.W.instObj C s.heap.objs.size) := by
    have := Heap.get?_push_size (s.heap.push PySem.W.emptyDict) (o := PySem.W.instObj C s.heap.objs.size) rfl
    rwa [Heap.size_push] at this
  have e3 : (s.heap.push PySem.W.emptyDict).Ns s.heap.objs.size (fun _ => none) := ⟨PySem.W.emptyDict, #[], _, e1, rfl, (fun e he => absurd he (by simp)), fun _ => rfl⟩
  have I1 := I.laid (a := s.heap.objs.size) (o := .own (s.heap.objs.size + 1)) (h' := s.heap.push PySem.W.emptyDict) (t' := s.toks) (fun b u q => Heap.get?_push_of_some _ q) (Nat.le_refl _) ⟨_, e1⟩
  refine I1.laid (a := s.heap.objs.size + 1) (o := .ins C s.heap.objs.size []) (t' := s.toks) (fun b u q => Heap.get?_push_of_some _ q) (Nat.le_of_eq (Heap.size_push _ _)) ?_
  have ne : s.heap.objs.size ≠ s.heap.objs.size + 1 := Nat.ne_of_lt (Nat.lt_succ_self _)
  refine ⟨by rw [upd_ne ne, upd_same], Nat.zero_le _, ne, e2, fun _ => none, (Heap.Ns1.of_empty e3).at fun o q => Heap.get?_push_of_some _ q, fun _ => True.intro, fun y hy => absurd rfl hy⟩
theorem attr_of {prog : Program} {w : World} {env : Env} {e : Expr} {f : Str} {pos : Pos} {s : Shared} {Q : Value -> Shared -> Prop} (hb : attributeBase e f env (eval e env) = eval e env)
    (h : wpAny (model prog w) A (eval e env) (fun o s₁ => wpAny (model prog w) A (getAttr o f true) Q E s₁) E s) : wpAny (model prog w) A (eval (.Attribute e f pos) env) Q E s :=
  Attribute_any_ h (by rw [arm_eval_Attribute, hb])
end
def tFld (K : PySem.W.Frag) (ta : TE) (f : Str) : TE := fun σ H Q => ta σ H fun x H1 => ∃ a C dx fs v, x = .ref a /\ H1 a = some (.ins C dx fs) /\ Cls K C /\ NoAttr K C f /\ fs.lookup f = some v /\ Q v H1
def sFld (K : PySem.W.Frag) (ta tv : TE) (f : Str) : TS := fun D σ H => tv σ H fun y H1 => ta σ H1 fun x H2 => ∃ a C dx fs, x = .ref a /\ H2 a = some (.ins C dx fs) /\ Cls K C /\ NoAttr K C f /\ fs.length < 1000 /\
  D.nx σ (upd H2 a (.ins C dx (putF f y fs)))
def InOp (X : Cx) (op : Operator) (rd : V -> V -> Hp -> VK -> Prop) : Prop :=
  ∀ (pins : List (Addr × Obj)) (s : Shared) (σ : St) (H : Hp) (x y : V) (u v : Value) (Q : VK), Inv X pins σ H s -> RelV x u -> RelV y v -> rd x y H Q -> wpAny (model X.prog X.w) X.A (inplaceOp op u v) (EP X pins σ Q) X.xe s
def sFldAug (K : PySem.W.Frag) (ta tv : TE) (rd : V -> V -> Hp -> VK -> Prop) (f : Str) : TS := fun D σ H => ta σ H fun x H1 => ∃ a C dx fs v, x = .ref a /\ H1 a = some (.ins C dx fs) /\ Cls K C /\ NoAttr K C f /\ fs.lookup f = some v /\
  tv σ H1 fun y H2 => rd v y H2 fun z H3 => ∃ dx' fs', H3 a = some (.ins C dx' fs') /\ fs'.length < 1000 /\ D.nx σ (upd H3 a (.ins C dx' (putF f z fs')))
section
variable {X : Cx} {o e value : Expr} {f : Str} {pos pos' tpos : Pos} {ta tv : TE}
theorem pe_fld (he : PE X e ta) (hb : attributeBase e f X.env (eval e X.env) = eval e X.env) : PE X (.Attribute e f pos) (tFld X.K ta f) := by
  intro pins s σ H Q I h
  refine attr_of hb (thn (he pins s σ H _ I h) fun u s1 ⟨x, H1, I1, rx, a, C, dx, fs, v, ex, ea, c, n, l, q⟩ => ?_)
  subst ex
  obtain rfl : u = Value.ref a := rx
  exact getattr_ok I1 ea c n l fun u' s2 I2 ru => ⟨v, H1, I2, ru, q⟩
theorem ps_fld (ha : PE X o ta) (hv : PE X value tv) (hs : swapsWith value (some (.Attribute o f pos')) pos.line X.env = pure false) : PS X (.Assign [.Attribute o f pos'] value pos) (sFld X.K ta tv f) := by
  intro pins s σ H D I h
  refine plainObj_wpAny_Assign_Attribute (thn (hv pins s σ H _ I h) fun u s1 ⟨y, H1, I1, ry, q⟩ => thn (ha pins s1 σ H1 _ I1 q) fun ov s2 ⟨x, H2, I2, rx, a, C, dx, fs, ex, ea, c, n, l, q2⟩ => ?_) hs
  subst ex
  obtain rfl : ov = Value.ref a := rx
  exact setattr_ok I2 ea c n l ry fun s3 I3 => ⟨σ, _, I3, q2⟩
theorem ps_fldaug {op : Operator} {rd : V -> V -> Hp -> VK -> Prop} (ha : PE X o ta) (hv : PE X value tv) (hop : InOp X op rd) : PS X (.AugAssign (.Attribute o f tpos) op value pos) (sFldAug X.K ta tv rd f) := by
  intro pins s σ H D I h
  refine wpAny_AugAssign_AttributeAny (thn (ha pins s σ H _ I h) fun ov s1 ⟨x, H1, I1, rx, a, C, dx, fs, v, ex, ea, c, n, l, q⟩ => ?_)
  subst ex
  obtain rfl : ov = Value.ref a := rx
  refine getattr_ok I1 ea c n l fun u s2 I2 ru => thn (hv pins s2 σ H1 _ I2 q) fun w3 s3 ⟨y, H2, I3, ry, q3⟩ => thn (hop pins s3 σ H2 v y u w3 _ I3 ru ry q3) fun w4 s4 ⟨z, H3, I4, rz, dx', fs', ea', l', q4⟩ => ?_
  exact setattr_ok I4 ea' c n l' rz fun s5 I5 => ⟨σ, _, I5, q4⟩
def rAdd : V -> V -> Hp -> VK -> Prop := fun x y H Q => ∃ i j, x = .int i /\ y = .int j /\ Q (.int (i + j)) H
theorem in_add : InOp X .Add rAdd := by
  rintro pins s σ H x y u v Q I rx ry ⟨i, j, rfl, rfl, q⟩
  obtain ⟨t, rfl⟩ := (show ∃ t, u = Value.int i t from rx)
  obtain ⟨t', rfl⟩ := (show ∃ t', v = Value.int j t' from ry)
  exact PyProof.Rows.iadd_int ⟨.int (i + j), H, I.tok _, ⟨_, rfl⟩, q⟩
end
section
variable {X : Cx} {pins : List (Addr × Obj)} {σ : St} {H : Hp} {s : Shared} {A : Around} {E : Value -> Shared -> Prop} {Q : Value -> Shared -> Prop} {c : Value} {b : Bool}
inductive TyOf (K : PySem.W.Frag) (H : Hp) : V -> Value -> Prop where
  | non : TyOf K H .non (.type "NoneType")
  | bl (x : Bool) : TyOf K H (.bl x) (.type "bool")
  | int (i : Int) : TyOf K H (.int i) (.type "int")
  | str (x : Str) : TyOf K H (.str x) (.type "str")
  | flt (x : UInt64) : TyOf K H (.flt x) (.type "float")
  | lst {a : Addr} {xs : List V} (e : H a = some (.lst xs)) : TyOf K H (.ref a) (.type "list")
  | frz {a : Addr} {o : Obj} {xs : List V} (e : H a = some (.frz o (.lst xs))) : TyOf K H (.ref a) (.type "list")
  | tup {a : Addr} {xs : List V} (e : H a = some (.tup xs)) : TyOf K H (.ref a) (.type "tuple")
  | dK {a : Addr} {kvs : List (Key × V)} (e : H a = some (.dK kvs)) : TyOf K H (.ref a) (.type "dict")
  | dT {a : Addr} {kvs : List (List Key × V)} (e : H a = some (.dT kvs)) : TyOf K H (.ref a) (.type "dict")
  | ins {a C dx : Addr} {fs : List (Str × V)} (e : H a = some (.ins C dx fs)) (cl : Cls K C) (ha : PySem.W.findIn K (.ref C) "__class__" = some (some (.builtin "object.__class__")))
      (hn : PySem.W.specialIn K (.builtin "object.__class__") "__get__" = some (some (.builtin "getset_descriptor.__get__"))) (htk : PySem.W.takesIn K (.builtin "object.__class__") = some true)
      (hm : PySem.W.mroIn K C (.type "object") = some true) : TyOf K H (.ref a) (.ref C)
theorem isinst_ok {x : V} {u t : Value} (I : Inv X pins σ H s) (rx : RelV x u) (ty : TyOf X.K H x t) (e : PySem.W.kitOne X.K t c = some b) (h : ∀ tk, Q (.bool b) { s with toks := tk }) :
    wpAny (model X.prog X.w) A (call (.builtin "isinstance") [u, c]) Q E s := by
  cases ty with
  | non => cases (show u = Value.none from rx); exact PySem.W.kia_one PySem.W.kitx_none I.kIn True.intro e (fun z => nomatch z) h
  | bl y => cases (show u = Value.bool y from rx); exact PySem.W.kia_one PySem.W.kitx_bool I.kIn True.intro e (fun z => nomatch z) h
  | int i => obtain ⟨t, q⟩ := (show ∃ t, u = Value.int i t from rx); cases q; exact PySem.W.kia_one PySem.W.kitx_int I.kIn True.intro e (fun z => nomatch z) h
  | str y => obtain ⟨t, q⟩ := (show ∃ t, u = Value.str y t from rx); cases q; exact PySem.W.kia_one PySem.W.kitx_str I.kIn True.intro e (fun z => nomatch z) h
  | flt y => obtain ⟨t, q⟩ := (show ∃ t, u = Value.float y t from rx); cases q; exact PySem.W.kia_one PySem.W.kitx_float I.kIn True.intro e (fun z => nomatch z) h
  | @lst a xs ea =>
    cases (show u = Value.ref a from rx)
    obtain ⟨_, _, n, _, h1⟩ := (show ObjOk X.prog X.w H s.heap a (.lst xs) from I.hok a _ ea)
    exact PySem.W.kia_one PySem.W.kitx_list I.kIn ⟨_, h1, rfl⟩ e (fun z => nomatch z) h
  | @frz a ob xs ea =>
    cases (show u = Value.ref a from rx)
    obtain ⟨_, _, _, n, _, h1⟩ := (show ObjOk X.prog X.w H s.heap a (.frz ob (.lst xs)) from I.hok a _ ea)
    exact PySem.W.kia_one PySem.W.kitx_list I.kIn ⟨_, h1, rfl⟩ e (fun z => nomatch z) h
  | @tup a xs ea =>
    cases (show u = Value.ref a from rx)
    obtain ⟨_, _, _, p⟩ := (show ObjOk X.prog X.w H s.heap a (.tup xs) from I.hok a _ ea)
    obtain ⟨o, h1, h2, _⟩ := p
    exact PySem.W.kia_one PySem.W.kitx_tuple I.kIn ⟨o, h1, h2⟩ e (fun z => nomatch z) h
  | @dK a kvs ea =>
    cases (show u = Value.ref a from rx)
    obtain ⟨_, _, vs, _, p⟩ := (show ObjOk X.prog X.w H s.heap a (.dK kvs) from I.hok a _ ea)
    obtain ⟨o, es, ep, h1, h2, _⟩ := p
    exact PySem.W.kia_one PySem.W.kitx_dict I.kIn ⟨o, h1, h2.1⟩ e (fun z => nomatch z) h
  | @dT a kvs ea =>
    cases (show u = Value.ref a from rx)
    obtain ⟨_, _, xs, _, o, es, ep, h1, h2, _⟩ := (show ObjOk X.prog X.w H s.heap a (.dT kvs) from I.hok a _ ea)
    exact PySem.W.kia_one PySem.W.kitx_dict I.kIn ⟨o, h1, h2.1⟩ e (fun z => nomatch z) h
  | @ins a C dx fs ea cl ha hn htk hm =>
    cases (show u = Value.ref a from rx)
    obtain ⟨mA, O, _⟩ := ins_get I.hok ea
    obtain ⟨od, J, _⟩ := O.look
    exact PySem.W.kia_one (PySem.W.kitx_own (cl.get _) cl.hd ha hn htk hm) I.kIn J e (fun z => nomatch z) h
end
end L2
namespace L2
open PySem PySem.Spec PyProof.Rows
structure Room (k : Nat) (A : Around) : Prop where
  hd : A.handled = none
  dp : A.depth + 3 * k + 5 < recursionLimit
  un : A.units + 16 * k + 200 < cLine
theorem Room.mono {j k : Nat} {A : Around} (r : Room k A) (h : j <= k) : Room j A := ⟨r.hd, by have := r.dp; omega, by have := r.un; omega⟩
theorem Room.deeper {k : Nat} {A : Around} (r : Room (k + 1) A) (env : Env) : Room k (A.deeper env) :=
  ⟨r.hd, by have := r.dp; show A.depth + 1 + 3 * k + 5 < _; omega, by have := r.un; show A.units + 3 + 16 * k + 200 < _; omega⟩
theorem make_depth {A : Around} {C : Addr} {us : List Value} {kw : List (Str × Value)} : (A.under (.builtin "type.__call__" ⟨.ref C :: us, kw⟩)).depth = A.depth + 1 := by
  first | rfl | simp [Around.under, Code.weight, Code.isCreation, Code.isGuard, Code.isCaller, Code.frames, Code.isFrame, guardIds]
theorem make_units {A : Around} {C : Addr} {us : List Value} {kw : List (Str × Value)} : (A.under (.builtin "type.__call__" ⟨.ref C :: us, kw⟩)).units = A.units + 1 := by
  first | rfl | simp [Around.under, Code.cUnits, Code.frames, Code.isFrame]
theorem Room.make {k : Nat} {A : Around} (r : Room (k + 1) A) (C : Addr) (us : List Value) (kw : List (Str × Value)) : Room k (A.under (.builtin "type.__call__" ⟨.ref C :: us, kw⟩)) :=
  ⟨r.hd, by have := r.dp; rw [make_depth]; omega, by have := r.un; rw [make_units]; omega⟩
theorem Room.depth {k : Nat} {A : Around} (r : Room k A) : A.depth < recursionLimit := by have := r.dp; omega
theorem Room.units {k : Nat} {A : Around} (r : Room k A) : A.units + 64 < cLine := by have := r.un; omega
def tNil : TA := fun _ H Q => Q [] H
def tCons (ta : TE) (tr : TA) : TA := fun σ H Q => ta σ H fun x H1 => tr σ H1 fun xs H2 => Q (x :: xs) H2
section
variable {X : Cx} {e : Expr} {es : List Expr} {te : TE} {t : TA} {pos : Pos}
theorem pa_nil : PA X [] tNil := fun _ _ _ _ H Q I h => Calls.spliced_nil ⟨[], H, I, .nil, h⟩
theorem pa_cons (ha : PE X e te) (hr : PA X es t) (hs : starEach (e :: es) X.env = (false, eval e X.env) :: starEach es X.env := by rfl) : PA X (e :: es) (tCons te t) := by
  intro pos pins s σ H Q I h
  rw [hs]
  show wpAny _ _ (spliced ((false, eval e X.env) :: backTo pos (starEach es X.env))) _ _ s
  refine Calls.spliced_cons (thn (ha pins s σ H _ I h) fun u s1 ⟨x, H1, I1, r1, q1⟩ => ?_)
  exact thn (hr pos pins s1 σ H1 _ I1 q1) fun us s2 ⟨xs, H2, I2, r2, q2⟩ => ⟨x :: xs, H2, I2, .cons r1 r2, q2⟩
def tLst (t : TA) : TE := fun σ H Q => t σ H fun xs H1 => xs.length <= sizeLine /\ ∀ p, H1 p = none -> Q (.ref p) (upd H1 p (.lst xs))
theorem pe_lst (h : PA X es t) : PE X (.List es pos) (tLst t) := by
  intro pins s σ H Q I hq
  refine wpAny_List_spliced (thn (h pos pins s σ H _ I hq) fun us s1 ⟨xs, H1, I1, r, z, q⟩ => ⟨by rw [← r.length]; exact z, ?_⟩)
  have hf : H1 s1.heap.objs.size = none := I1.hok.fresh (Nat.le_refl _)
  refine ⟨.ref s1.heap.objs.size, upd H1 s1.heap.objs.size (.lst xs), I1.laid (t' := s1.toks) (fun b u e => Heap.get?_push_of_some _ e) (Nat.le_refl _) ?_, rfl, q _ hf⟩
  exact ⟨z, us, 0, r, Heap.get?_push_size _ rfl⟩
end
abbrev Sp := List V -> Hp -> VK -> XK -> Prop
abbrev CXT := List Env -> Hp -> Shared -> XK -> Value -> Shared -> Prop
structure Env0 (P : Program) (w : World) (K : PySem.W.Frag) (mg : Str -> Option Value) (base : Heap) (A : Around) (outer : List Env) (s : Shared) (H : Hp) : Prop where
  frames : A.frames = some outer
  mod : Mod K mg base
  bs : ∀ b o, base.get? b = some o -> s.heap.get? b = some o /\ H b = none
  bsz : base.objs.size <= s.heap.objs.size
  funs : s.heap.FunFrames base outer
  frf : ∀ b ∈ frs outer, H b = none
  hok : HOk P w H s.heap
  bare : AllBare s.gens
def CE (outer : List Env) (P : Program) (w : World) (H : Hp) (s : Shared) (Q : VK) (u : Value) (s' : Shared) : Prop :=
  ∃ v H', s'.os = s.os /\ AllBare s'.gens /\ Un (frs outer) [] H H' s.heap s'.heap /\ HOk P w H' s'.heap /\ RelV v u /\ Q v H'
def CR (CX : CXT) (outer : List Env) (P : Program) (w : World) (H : Hp) (s : Shared) (Q : VK) (E : XK) (r : Result) (s' : Shared) : Prop :=
  match r with
  | .ok (.ret u) => CE outer P w H s Q u s'
  | .ok _ => False
  | .error e => CX outer H s E e s'
structure FnOk (P : Program) (w : World) (K : PySem.W.Frag) (mg : Str -> Option Value) (base : Heap) (CX : CXT) (k : Nat) (f : Addr) (fd : FuncData) (ps : List Str) (sp : Sp) : Prop where
  len : ∀ vs H Q E, sp vs H Q E -> vs.length = ps.length
  run : ∀ (A : Around) (outer : List Env) (s : Shared) (H : Hp) (args : Args) (us : List Value) (vs : List V) (Q : VK) (E : XK), Room k A -> Env0 P w K mg base A outer s H -> BindsTo s fd args (ps.zip us) -> Vals vs us -> sp vs H Q E ->
    codeAny (model P w) A (.call (.ref f) args) (CR CX outer P w H s Q E) s
theorem FnOk.mono {P : Program} {w : World} {K : PySem.W.Frag} {mg : Str -> Option Value} {base : Heap} {CX : CXT} {j k : Nat} {f : Addr} {fd : FuncData} {ps : List Str} {sp : Sp} (F : FnOk P w K mg base CX j f fd ps sp) (h : j <= k) :
    FnOk P w K mg base CX k f fd ps sp := ⟨F.len, fun A outer s H args us vs Q E hr => F.run A outer s H args us vs Q E (hr.mono h)⟩
theorem Env0.make {P : Program} {w : World} {K : PySem.W.Frag} {mg : Str -> Option Value} {base : Heap} {A : Around} {outer : List Env} {s : Shared} {H : Hp} (e : Env0 P w K mg base A outer s H) (C : Addr) (us : List Value) (kw : List (Str × Value)) :
    Env0 P w K mg base (A.under (.builtin "type.__call__" ⟨.ref C :: us, kw⟩)) outer s H := ⟨by first | exact e.frames | (simpa [Around.under, Code.envs, Code.isFrame, pushEnvs] using e.frames), e.mod, e.bs, e.bsz, e.funs, e.frf, e.hok, e.bare⟩
section
variable {X : Cx} {pins : List (Addr × Obj)} {σ : St} {H : Hp} {s s' : Shared}
theorem Inv.env0 (I : Inv X pins σ H s) : Env0 X.prog X.w X.K X.mg X.base X.A X.stack s H :=
  ⟨I.ok.frames, I.ok.mod, I.bs, Nat.le_trans I.ok.bsz I.sz, I.stack, I.stkFree, I.hok, I.bare⟩
theorem Inv.after {Q : VK} {u : Value} (I : Inv X pins σ H s) (h : CE X.stack X.prog X.w H s Q u s') : EP X pins σ Q u s' := by
  obtain ⟨v, H', os, bare, un, hok, r, q⟩ := h
  obtain ⟨hh, g, d, t, os'⟩ := s'
  obtain rfl : os' = s.os := os
  exact ⟨v, H', I.call (h' := hh) (g' := g) (d' := d) (t' := t) (ch := []) un hok bare (fun b z => absurd z (by simp)), r, q⟩
end
def tCall (sp : Sp) (dvs : List V) (E : XK) (t : TA) : TE := fun σ H Q => t σ H fun vs H1 => sp (vs ++ dvs) H1 Q E
def tMeth (C : Addr) (m : Str) (sp : Sp) (dvs : List V) (E : XK) (ta : TE) (t : TA) : TE := fun σ H Q => ta σ H fun x H1 => ∃ a dx fs, x = .ref a /\ H1 a = some (.ins C dx fs) /\ fs.lookup m = none /\
  t σ H1 fun vs H2 => sp (x :: (vs ++ dvs)) H2 Q E
def tMake (C : Addr) (sp : Sp) (dvs : List V) (E : XK) (t : TA) : TE := fun σ H Q => t σ H fun vs H1 => ∀ x dx, H1 x = none -> H1 dx = none -> dx ≠ x ->
  sp (.ref x :: (vs ++ dvs)) (upd (upd H1 dx (.own x)) x (.ins C dx [])) (fun v H2 => v = .non /\ Q (.ref x) H2) E
def Binds (K : PySem.W.Frag) (fd : FuncData) (ps : List Str) (ds : List Value) : Prop :=
  ∀ (s : Shared) (us : List Value), K.In s.heap -> (us ++ ds).length = ps.length -> BindsTo s fd ⟨us, []⟩ (ps.zip (us ++ ds))
theorem Binds.all {K : PySem.W.Frag} {fd : FuncData} {ps : List Str} (h : ∀ us : List Value, us.length = ps.length -> bindArgs fd ⟨us, []⟩ = pure (ps.zip us)) : Binds K fd ps [] := fun s us _ hl => by
  rw [List.append_nil] at hl ⊢
  exact .of_eq (h us hl)
def Passes (CX : CXT) (X : Cx) (E : XK) : Prop := ∀ (pins : List (Addr × Obj)) (σ : St) (H : Hp) (s : Shared) (e : Value) (s' : Shared), Inv X pins σ H s -> CX X.stack H s E e s' -> X.xe e s'
section
variable {X : Cx} {CX : CXT} {k : Nat} {f C : Addr} {fd : FuncData} {ps : List Str} {sp : Sp} {dvs : List V} {ds : List Value} {E : XK} {x m : Str} {p pos apos : Pos} {e o : Expr} {es : List Expr} {ta : TE} {t : TA}
theorem run_fn {pins : List (Addr × Obj)} {σ : St} {H : Hp} {s : Shared} {Q : VK} {us : List Value} {vs : List V} (F : FnOk X.prog X.w X.K X.mg X.base CX k f fd ps sp) (hr : Room k X.A) (hb : Binds X.K fd ps ds) (hd : Vals dvs ds) (hx : Passes CX X E)
    (I : Inv X pins σ H s) (r : Vals vs us) (h : sp (vs ++ dvs) H Q E) : wpAny (model X.prog X.w) X.A (call (.ref f) us) (EP X pins σ Q) X.xe s := by
  have r2 : Vals (vs ++ dvs) (us ++ ds) := r.append hd
  have hl : (us ++ ds).length = ps.length := by rw [← r2.length]; exact F.len _ _ _ _ h
  refine wpAny_call (codeAny_mono (F.run X.A X.stack s H ⟨us, []⟩ (us ++ ds) (vs ++ dvs) Q E hr I.env0 (hb s us I.kIn hl) r2 h) fun r s' hq => ?_)
  cases r with
  | error e => exact hx pins σ H s e s' I hq
  | ok fl =>
    cases fl with
    | ret u => exact I.after hq
    | next => exact False.elim hq
    | brk => exact False.elim hq
    | cont => exact False.elim hq
theorem pe_call (F : FnOk X.prog X.w X.K X.mg X.base CX k f fd ps sp) (hr : Room k X.A) (hg : Gl X x) (hm : X.mg x = some (.ref f)) (hk : PySem.W.keepIn X.K (.ref f) = true) (hb : Binds X.K fd ps ds) (hd : Vals dvs ds) (hx : Passes CX X E)
    (ha : PA X (e :: es) t) (hdb : (x == ("__debug__" : Str)) = false := by decide) (he : starEach (e :: es) X.env = (false, eval e X.env) :: starEach es X.env := by rfl) (hpl : (backTo pos (starEach es X.env)).any (·.1) = false := by rfl) :
    PE X (.Call (.Name x p) (e :: es) [] pos) (tCall sp dvs E t) := by
  intro pins s σ H Q I h
  refine wpAny_Call_Name_kw (ld_glob I hg hm ?_ hdb)
  refine PySem.W.callWith_K (h₀ := X.base) I.ok.mod.kin hk (thn (ha pos pins s σ H _ I h) fun us s1 ⟨vs, H1, I1, r, q⟩ => ⟨I1.kIn, ?_⟩) he hpl
  exact run_fn F hr hb hd hx I1 r q
theorem pe_meth {pl : Sem Bool} (he : PE X o ta) (c : Cls X.K C) (hm : Meth X.K C m f) (F : FnOk X.prog X.w X.K X.mg X.base CX k f fd ps sp) (hr : Room k X.A) (hb : Binds X.K fd ps ds) (hd : Vals dvs ds) (hx : Passes CX X E) (ha : PA X (e :: es) t)
    (hst : starEach (e :: es) X.env = (false, eval e X.env) :: starEach es X.env := by rfl) (hpl : (backTo pos (starEach es X.env)).any (·.1) = false := by rfl)
    (ht : eval (.Call (.Attribute o m apos) (e :: es) [] pos) X.env = (do
      let ov ← eval o X.env
      standAt apos.atName
      let (f, first) ← holding [ov] (getMethod ov m pl)
      callWith pos f first (backTo pos (starEach (e :: es) X.env)) (backToKw pos (keywordEach [] X.env))) := by rfl) :
    PE X (.Call (.Attribute o m apos) (e :: es) [] pos) (tMeth C m sp dvs E ta t) := by
  intro pins s σ H Q I h
  refine PySem.W.methodCall_KW (pl := pl) (thn (he pins s σ H _ I h) fun u s1 ⟨x, H1, I1, rx, a, dx, fs, ex, ea, l, q⟩ => ?_) ht
  subst ex
  obtain rfl : u = Value.ref a := rx
  refine getmeth_ok I1 ea c hm l ?_
  refine PySem.W.callWith_K (first := [.ref a]) (h₀ := X.base) I.ok.mod.kin hm.kp (thn (ha pos pins s1 σ H1 _ I1 q) fun us s2 ⟨vs, H2, I2, r, q2⟩ => ⟨I2.kIn, ?_⟩) hst hpl
  exact run_fn (us := .ref a :: us) (vs := .ref a :: vs) F hr hb hd hx I2 (.cons rfl r) q2
theorem pe_meth0 {pl : Sem Bool} (he : PE X o ta) (c : Cls X.K C) (hm : Meth X.K C m f) (F : FnOk X.prog X.w X.K X.mg X.base CX k f fd ps sp) (hr : Room k X.A) (hb : Binds X.K fd ps ds) (hd : Vals dvs ds) (hx : Passes CX X E)
    (ht : eval (.Call (.Attribute o m apos) [] [] pos) X.env = (do
      let ov ← eval o X.env
      standAt apos.atName
      let (f, first) ← holding [ov] (getMethod ov m pl)
      callWith pos f first (backTo pos (starEach [] X.env)) (backToKw pos (keywordEach [] X.env))) := by rfl) :
    PE X (.Call (.Attribute o m apos) [] [] pos) (tMeth C m sp dvs E ta tNil) := by
  intro pins s σ H Q I h
  refine PySem.W.methodCall_KW (pl := pl) (thn (he pins s σ H _ I h) fun u s1 ⟨x, H1, I1, rx, a, dx, fs, ex, ea, l, q⟩ => ?_) ht
  subst ex
  obtain rfl : u = Value.ref a := rx
  refine getmeth_ok I1 ea c hm l ?_
  exact PySem.W.callWith_K0 (first := [.ref a]) I1.kIn hm.kp (run_fn (us := [.ref a]) (vs := [.ref a]) F hr hb hd hx I1 (.cons rfl .nil) q)
structure Mk (K : PySem.W.Frag) (C f : Addr) : Prop where
  makes : PySem.W.makesIn K C = true
  init : PySem.W.findIn K (.ref C) "__init__" = some (some (.ref f))
  fn : PySem.W.isFn K (.ref f) = true
  kp : PySem.W.keepIn K (.ref C) = true
theorem run_make {pins : List (Addr × Obj)} {σ : St} {H : Hp} {s : Shared} {Q : VK} {us : List Value} {vs : List V} (M : Mk X.K C f) (F : FnOk X.prog X.w X.K X.mg X.base CX k f fd ps sp) (hr : Room (k + 1) X.A) (hb : Binds X.K fd ps ds) (hd : Vals dvs ds)
    (hx : Passes CX X E) (I : Inv X pins σ H s) (r : Vals vs us)
    (h : ∀ x dx, H x = none -> H dx = none -> dx ≠ x -> sp (.ref x :: (vs ++ dvs)) (upd (upd H dx (.own x)) x (.ins C dx [])) (fun v H2 => v = .non /\ Q (.ref x) H2) E) :
    wpAny (model X.prog X.w) X.A (call (.ref C) us) (EP X pins σ Q) X.xe s := by
  have hq := h (s.heap.objs.size + 1) s.heap.objs.size (I.hok.fresh (Nat.le_succ _)) (I.hok.fresh (Nat.le_refl _)) (Nat.ne_of_lt (Nat.lt_succ_self _))
  have I2 := Inv.made (C := C) I
  have r2 : Vals (V.ref (s.heap.objs.size + 1) :: (vs ++ dvs)) (Value.ref (s.heap.objs.size + 1) :: (us ++ ds)) := .cons rfl (r.append hd)
  have hl : (Value.ref (s.heap.objs.size + 1) :: us ++ ds).length = ps.length := by
    have e := r2.length
    rw [F.len _ _ _ _ hq] at e
    exact e.symm
  refine wpAny_call (make_map (f := f) I.kIn M.makes M.init (beq_iff_eq.mp M.fn) (codeAny_mono (F.run _ X.stack _ _ ⟨Value.ref (s.heap.objs.size + 1) :: us, []⟩ (Value.ref (s.heap.objs.size + 1) :: (us ++ ds)) _ _ E (hr.make C us [])
    (I2.env0.make C us []) (hb _ (Value.ref (s.heap.objs.size + 1) :: us) I2.kIn hl) r2 hq) fun r s' hq' => ?_))
  cases r with
  | error e => exact hx pins σ _ _ e s' I2 hq'
  | ok fl =>
    cases fl with
    | ret u =>
      obtain ⟨v, H', I3, rv, ev, q3⟩ := I2.after hq'
      subst ev
      exact ⟨rv, ⟨V.ref (s.heap.objs.size + 1), H', I3, rfl, q3⟩⟩
    | next => exact False.elim hq'
    | brk => exact False.elim hq'
    | cont => exact False.elim hq'
theorem pe_make (M : Mk X.K C f) (F : FnOk X.prog X.w X.K X.mg X.base CX k f fd ps sp) (hr : Room (k + 1) X.A) (hg : Gl X x) (hm : X.mg x = some (.ref C)) (hb : Binds X.K fd ps ds) (hd : Vals dvs ds) (hx : Passes CX X E)
    (ha : PA X (e :: es) t) (hdb : (x == ("__debug__" : Str)) = false := by decide) (he : starEach (e :: es) X.env = (false, eval e X.env) :: starEach es X.env := by rfl) (hpl : (backTo pos (starEach es X.env)).any (·.1) = false := by rfl) :
    PE X (.Call (.Name x p) (e :: es) [] pos) (tMake C sp dvs E t) := by
  intro pins s σ H Q I h
  refine wpAny_Call_Name_kw (ld_glob I hg hm ?_ hdb)
  refine PySem.W.callWith_K (h₀ := X.base) I.ok.mod.kin M.kp (thn (ha pos pins s σ H _ I h) fun us s1 ⟨vs, H1, I1, r, q⟩ => ⟨I1.kIn, ?_⟩) he hpl
  exact run_make M F hr hb hd hx I1 r q
end
def PK (X : Cx) (kws : List Keyword) (t : TA) : Prop :=
  ∀ (pos : Pos) (pins : List (Addr × Obj)) (s : Shared) (σ : St) (H : Hp) (Q : List V -> Hp -> Prop), Inv X pins σ H s -> t σ H Q -> wpAny (model X.prog X.w) X.A (evalAll ((backToKw pos (keywordEach kws X.env)).map (·.2))) (AP X pins σ Q) X.xe s
section
variable {X : Cx} {CX : CXT} {k : Nat} {f C : Addr} {fd : FuncData} {ps ks : List Str} {sp : Sp} {E : XK} {x m : Str} {p pos apos kpos : Pos} {e o : Expr} {es : List Expr} {kws : List Keyword} {te ta : TE} {t tk : TA} {nm : Option Str}
theorem pk_nil : PK X [] tNil := fun _ _ _ _ H Q I h => wpAny_evalAll_nil ⟨[], H, I, .nil, h⟩
theorem pk_cons (ha : PE X e te) (hr : PK X kws t) : PK X (⟨nm, e, kpos⟩ :: kws) (tCons te t) := by
  intro pos pins s σ H Q I h
  show wpAny _ _ (evalAll ((do let v ← eval e X.env; standAt pos; pure v) :: (backToKw pos (keywordEach kws X.env)).map (·.2))) _ _ s
  refine wpAny_evalAll_cons (wpAny_bind (thn (ha pins s σ H _ I h) fun u s1 ⟨x, H1, I1, r1, q1⟩ => wpAny_bind (wpAny_standAt (wpAny_pure ?_))))
  exact thn (hr pos pins s1 σ H1 _ I1 q1) fun us s2 ⟨xs, H2, I2, r2, q2⟩ => ⟨x :: xs, H2, I2, .cons r1 r2, q2⟩
variable {g : List Value -> List Value -> List Value} {gV : List V -> List V -> List V}
end
structure FnScope (N P : List Str) (sc : Scope) : Prop where
  kind : sc.kind = .function
  co : sc.isCoroutine = false
  gen : sc.isGenerator = false
  nd : N.Nodup
  pre : N.take P.length = P
  par : ∀ x ∈ P, sc.names.lookup x = some .local ∨ sc.names.lookup x = some .cell
  nofree : ∀ y ∈ sc.names, y.2 ≠ .free
theorem bindL_out {kindOf : Str -> Option NameKind} {x : Str} : ∀ {binds : List (Str × Value)} {m : Str -> Option Value}, (∀ v, (x, v) ∉ binds) -> bindL kindOf binds m x = m x
  | [], _, _ => rfl
  | (n, v) :: r, m, h => by
    unfold bindL
    rw [bindL_out fun w hw => h w (List.mem_cons_of_mem _ hw)]
    split
    · have : x ≠ n := by rintro rfl; exact h v List.mem_cons_self
      simp [this]
    · rfl
theorem bindC_out {kindOf : Str -> Option NameKind} {x : Str} : ∀ {binds : List (Str × Value)} {m : Str -> Option Value}, (∀ v, (x, v) ∉ binds) -> bindC kindOf binds m x = m x
  | [], _, _ => rfl
  | (n, v) :: r, m, h => by
    unfold bindC
    rw [bindC_out fun w hw => h w (List.mem_cons_of_mem _ hw)]
    split
    · rfl
    · have : x ≠ n := by rintro rfl; exact h v List.mem_cons_self
      simp [this]
theorem bindL_get {kindOf : Str -> Option NameKind} {x : Str} {v : Value} : ∀ {P : List Str} {vs : List Value} {i : Nat} {m : Str -> Option Value}, P.Nodup -> P[i]? = some x -> vs[i]? = some v -> kindOf x = some .local ->
    bindL kindOf (P.zip vs) m x = some v
  | [], _, _, _, _, h, _, _ => by simp at h
  | _ :: _, [], _, _, _, _, h, _ => by simp at h
  | p :: P, w :: vs, 0, m, nd, h1, h2, hk => by
    simp at h1 h2; subst h1; subst h2
    show bindL kindOf ((p, w) :: P.zip vs) m p = _
    unfold bindL
    rw [bindL_out fun v hv => (List.nodup_cons.mp nd).1 (List.of_mem_zip hv).1, if_pos hk]
    simp
  | p :: P, w :: vs, i + 1, m, nd, h1, h2, hk => by
    show bindL kindOf ((p, w) :: P.zip vs) m x = _
    unfold bindL
    exact bindL_get (i := i) (List.nodup_cons.mp nd).2 (by simpa using h1) (by simpa using h2) hk
theorem bindC_get {kindOf : Str -> Option NameKind} {x : Str} {v : Value} : ∀ {P : List Str} {vs : List Value} {i : Nat} {m : Str -> Option Value}, P.Nodup -> P[i]? = some x -> vs[i]? = some v -> kindOf x ≠ some .local ->
    bindC kindOf (P.zip vs) m x = some v
  | [], _, _, _, _, h, _, _ => by simp at h
  | _ :: _, [], _, _, _, _, h, _ => by simp at h
  | p :: P, w :: vs, 0, m, nd, h1, h2, hk => by
    simp at h1 h2; subst h1; subst h2
    show bindC kindOf ((p, w) :: P.zip vs) m p = _
    unfold bindC
    rw [bindC_out fun v hv => (List.nodup_cons.mp nd).1 (List.of_mem_zip hv).1, if_neg hk]
    simp
  | p :: P, w :: vs, i + 1, m, nd, h1, h2, hk => by
    show bindC kindOf ((p, w) :: P.zip vs) m x = _
    unfold bindC
    exact bindC_get (i := i) (List.nodup_cons.mp nd).2 (by simpa using h1) (by simpa using h2) hk
def start (N : List Str) (vs : List V) : St := vs.map some ++ List.replicate (N.length - vs.length) none
def cxOf (CX : CXT) (P : Program) (w : World) (K : PySem.W.Frag) (mg : Str -> Option Value) (base : Heap) (N : List Str) (qual : Str) (scope : Scope) (f : Addr) (cd : Value) (A : Around) (outer : List Env) (s : Shared) (H : Hp) (E : XK) : Cx where
  prog := P
  w := w
  K := K
  mg := mg
  base := base
  A := A.deeper (envOfC qual scope s.heap.objs.size f cd)
  N := N
  s_0 := s
  H_0 := H
  env := envOfC qual scope s.heap.objs.size f cd
  outer := outer
  stack := envOfC qual scope s.heap.objs.size f cd :: outer
  ex := []
  calm := true
  fn := fun _ => true
  pn := []
  xe := fun e s' => wpAny (model P w) (A.deeper (envOfC qual scope s.heap.objs.size f cd)) (leaving (envOfC qual scope s.heap.objs.size f cd) e) (fun _ s'' => CX outer H s E e s'') (fun e' s'' => CX outer H s E e' s'') s'
theorem cell_has {sc : Scope} {n : Nat} {x : Str} (h : sc.names.lookup x = some .cell) : ∃ c, (cellsFrom n sc.names []).lookup x = some c := by
  have q := PySem.W.cellsFrom_some sc.names n [] (.inl h)
  exact Option.isSome_iff_exists.mp q
theorem inv_start {CX : CXT} {P : Program} {w : World} {K : PySem.W.Frag} {mg : Str -> Option Value} {base : Heap} {N ps : List Str} {qual : Str} {scope : Scope} {f : Addr} {cd : Value} {A : Around} {outer : List Env} {s s1 : Shared} {H : Hp} {E : XK} {us : List Value} {vs : List V}
    (S : FnScope N ps scope) (hd : A.handled = none) (e0 : Env0 P w K mg base A outer s H) (hl : vs.length = ps.length) (r : Vals vs us)
    (x : InCallC s s.heap.objs.size (bindL (envOfC qual scope s.heap.objs.size f cd).kindOf (ps.zip us) fun _ => none) (cellsFrom (s.heap.objs.size + 1) scope.names []) (bindC (envOfC qual scope s.heap.objs.size f cd).kindOf (ps.zip us) fun _ => none) s1) :
    Inv (cxOf CX P w K mg base N qual scope f cd A outer s H E) [] (start N vs) H s1 := by
  have hpl : ps.length <= N.length := by have := congrArg List.length S.pre; rw [List.length_take] at this; omega
  obtain ⟨h1, tk, rfl, hk⟩ := x.done
  have noA : ∀ b : Addr, b ∉ (cxOf CX P w K mg base N qual scope f cd A outer s H E).ex := fun b z => absurd (show b ∈ ([] : List Addr) from z) (by simp)
  refine ⟨⟨e0.mod, S.kind, rfl, rfl, Nat.le_refl _, fun y z c h1 h2 => ?_, fun y hy => ?_, fun y c _ h => ?_, fun _ => hd, Around.frames_deeper e0.frames, .inr ⟨rfl, rfl⟩, fun b z => absurd z (noA b), e0.bs, e0.bsz, fun b _ _ => noA b, fun b z => absurd z (noA b), e0.funs, e0.frf⟩,
    rfl, e0.bare, Un.kept hk, ⟨_, x.toInCall.ns, fun i y v h1 h2 h3 => ?_⟩, fun y c h => ⟨_, x.cell y c h⟩, e0.hok.fresh (Nat.le_refl _), fun y c h => ?_, fun p hp => absurd (show p ∈ ([] : List (Addr × Obj)) from hp) (by simp), e0.hok.kept hk, ?_⟩
  · exact name_of_addr x.apart (PySem.mem_of_lookup h1) (PySem.mem_of_lookup h2)
  · have hy : scope.names.lookup y = some .cell ∨ scope.names.lookup y = some .free := hy
    rcases hy with hy | hy
    · exact cell_has hy
    · exact absurd rfl (S.nofree _ (PySem.mem_of_lookup hy))
  · exact Nat.le_of_lt (x.above y c (PySem.mem_of_lookup h))
  · have hi : i < vs.length := by
      unfold start at h2
      by_cases hi : i < vs.length
      · exact hi
      · rw [List.getElem?_append_right (by simpa using hi)] at h2
        rw [List.getElem?_replicate] at h2
        split at h2 <;> cases h2
    have ha : vs[i]? = some v := by
      unfold start at h2
      rw [List.getElem?_append_left (by simpa using hi), List.getElem?_map] at h2
      cases e : vs[i]? with
      | none => rw [e] at h2; cases h2
      | some a => rw [e] at h2; cases h2; rfl
    obtain ⟨u, hu, rv⟩ := r.get ha
    have hp : ps[i]? = some y := by
      rw [← S.pre, List.getElem?_take_of_lt (by omega)]; exact h1
    have ndP : ps.Nodup := by rw [← S.pre]; exact S.nd.sublist (List.take_sublist _ _)
    refine ⟨u, rv, ?_⟩
    rcases S.par y (List.mem_of_getElem? hp) with k | k
    · exact .inl ⟨k, bindL_get ndP hp hu k⟩
    · obtain ⟨c, e⟩ := cell_has (n := s.heap.objs.size + 1) k
      refine .inr ⟨.inl k, c, e, ?_⟩
      have q := x.cell y c e
      rw [bindC_get ndP hp hu (by show scope.names.lookup y ≠ _; rw [k]; decide)] at q
      exact q
  · exact e0.hok.fresh (Nat.le_of_lt (x.above y c (PySem.mem_of_lookup h)))
  · unfold start
    show _ = N.length
    rw [List.length_append, List.length_map, List.length_replicate]
    omega
theorem fn_of {CX : CXT} {P : Program} {w : World} {K : PySem.W.Frag} {mg : Str -> Option Value} {base : Heap} {k : Nat} {f : Addr} {name qual : Str} {params : Arguments} {body : List Stmt} {scope : Scope} {dV kV doc pm cdv ct oc : Value} {an od : Option Addr}
    {osl : Array (Option Value)} {N ps : List Str} {sp : Sp} (lk : K.lookup f = some ⟨oc, od, .func (PySem.W.fnOf name qual params body scope dV kV doc pm an cdv ct), osl⟩) (hcd : PySem.W.codeIn K cdv qual = true) (S : FnScope N ps scope)
    (len : ∀ vs H Q E, sp vs H Q E -> vs.length = ps.length)
    (hbody : ∀ (A : Around) (outer : List Env) (s : Shared) (H : Hp) (vs : List V) (Q : VK) (E : XK), Room k (A.deeper (envOfC qual scope s.heap.objs.size f cdv)) -> sp vs H Q E ->
      ∃ t, PSs (cxOf CX P w K mg base N qual scope f cdv A outer s H E) body t /\ t { nx := fun _ H' => Q .non H', rt := Q } (start N vs) H) :
    FnOk P w K mg base CX (k + 1) f (PySem.W.fnOf name qual params body scope dV kV doc pm an cdv ct) ps sp := by
  refine ⟨len, fun A outer s H args us vs Q E hr e0 hb r hsp => ?_⟩
  have hl := len _ _ _ _ hsp
  have KX : K.In s.heap := e0.mod.kin.keeps fun b o e => (e0.bs b o e).1
  have lim : s.heap.NoLimit := e0.mod.nolimit.keeps fun b o e => (e0.bs b o e).1
  have hkind : ∀ y ∈ ps.zip us, scope.names.lookup y.1 = some .local ∨ (scope.names.lookup y.1 = some .cell /\ ((cellsFrom (s.heap.objs.size + 1) scope.names []).lookup y.1).isSome = true) := fun ⟨n, v⟩ hy => by
    rcases S.par n (List.of_mem_zip hy).1 with q | q
    · exact .inl q
    · exact .inr ⟨q, PySem.W.cellsFrom_some _ _ _ (.inl q)⟩
  refine codeAny_call_function hr.depth (KX _ _ lk) rfl S.co S.gen rfl (PySem.W.codeRec_of KX hcd) (hb _ _ _ _ ?_)
  refine wpAny_newFunctionEnv_cells S.kind hkind fun env he s1 x => ?_
  subst he
  refine ⟨lim.keeps x.toInCall.keep, codeAny_func ?_⟩
  obtain ⟨t, ht, hq⟩ := hbody A outer s H vs Q E (hr.deeper _) hsp
  have I : Inv (cxOf CX P w K mg base N qual scope f cdv A outer s H E) [] (start N vs) H s1 := inv_start S hr.hd e0 hl r x
  refine wpAny_mono (ht [] s1 (start N vs) H _ I hq) (fun fl s' hs => ?_) fun e s' hs => hs
  have fin : ∀ {σ' : St} {H' : Hp} {v : V} {u : Value}, Inv (cxOf CX P w K mg base N qual scope f cdv A outer s H E) [] σ' H' s' -> RelV v u -> Q v H' -> CE outer P w H s Q u s' :=
    fun {σ' H' v u} J rv q => ⟨v, H', J.os, J.bare, J.base, J.hok, rv, q⟩
  cases fl with
  | ret u =>
    obtain ⟨v, σ', H', J, rv, q⟩ := hs
    exact fin J rv q
  | next =>
    obtain ⟨σ', H', J, q⟩ := hs
    exact fin (v := V.non) (u := Value.none) J rfl q
  | brk =>
    obtain ⟨_, _, _, q⟩ := hs
    exact False.elim q
  | cont =>
    obtain ⟨_, _, _, q⟩ := hs
    exact False.elim q
end L2
namespace L2
open PySem PySem.Spec PyProof.Rows
section
variable {X : Cx} {x : Str} {p pos : Pos} {e : Expr} {es : List Expr} {t : TA} {id T : String} {r : List V -> Hp -> VK -> Prop}
def tCB (r : List V -> Hp -> VK -> Prop) (t : TA) : TE := fun σ H Q => t σ H fun vs H1 => r vs H1 Q
theorem pe_callB (hc : CallR X (.builtin id) r) (hg : Gl X x) (hm : X.mg x = none) (hv : bootBuiltins x = some (.builtin id)) (ha : PA X (e :: es) t) (hn : x ≠ "__name__" := by decide) (hdb : (x == ("__debug__" : Str)) = false := by decide)
    (he : starEach (e :: es) X.env = (false, eval e X.env) :: starEach es X.env := by rfl) (hpl : (backTo pos (starEach es X.env)).any (·.1) = false := by rfl) : PE X (.Call (.Name x p) (e :: es) [] pos) (tCB r t) := by
  intro pins s σ H Q I h
  refine wpAny_Call_Name_kw (ld_blt I hg hm hv ?_ hn hdb)
  exact PyProof.Rows.callWith_builtin1 (thn (ha pos pins s σ H _ I h) fun us s1 ⟨vs, H1, I1, r1, q1⟩ => hc pins s1 σ H1 vs us Q I1 r1 q1) he hpl
theorem pe_callTy (hc : CallR X (.type T) r) (hg : Gl X x) (hm : X.mg x = none) (hv : bootBuiltins x = some (.type T)) (ha : PA X (e :: es) t) (hn : x ≠ "__name__" := by decide) (hdb : (x == ("__debug__" : Str)) = false := by decide)
    (he : starEach (e :: es) X.env = (false, eval e X.env) :: starEach es X.env := by rfl) (hpl : (backTo pos (starEach es X.env)).any (·.1) = false := by rfl) : PE X (.Call (.Name x p) (e :: es) [] pos) (tCB r t) := by
  intro pins s σ H Q I h
  refine wpAny_Call_Name_kw (ld_blt I hg hm hv ?_ hn hdb)
  exact PyProof.Rows.callWith_type1 (thn (ha pos pins s σ H _ I h) fun us s1 ⟨vs, H1, I1, r1, q1⟩ => hc pins s1 σ H1 vs us Q I1 r1 q1) he hpl
end
end L2
namespace HT
open PySem PyProof.Rows
section
variable {prog : Program} {w : World} {A : Around} {E : Value -> Shared -> Prop} {s : Shared}
def sIx (n d : Nat) : Option Int -> Nat
  | none => d
  | some v => if v < 0 then (v + (n : Int)).toNat else min v.toNat n
theorem sIx_nat (n d k : Nat) : sIx n d (some (k : Int)) = min k n := by
  show (if (k : Int) < 0 then ((k : Int) + (n : Int)).toNat else min (k : Int).toNat n) = min k n
  rw [if_neg (by omega), Int.toNat_natCast]
end
end HT
namespace L2
open PySem PySem.Spec PyProof.Rows
abbrev TO := St -> Hp -> (Option Int -> Hp -> Prop) -> Prop
def PO (X : Cx) (e : Option Expr) (t : TO) : Prop :=
  ∀ (pins : List (Addr × Obj)) (s : Shared) (σ : St) (H : Hp) (Q : Option Int -> Hp -> Prop), Inv X pins σ H s -> t σ H Q ->
    wpAny (model X.prog X.w) X.A (evalPart e X.env) (fun u s' => ∃ o H', Inv X pins σ H' s' /\ IsPart u o /\ Q o H') X.xe s
def tPart (t : TE) : TO := fun σ H Q => t σ H fun x H1 => ∃ i, x = .int i /\ Q (some i) H1
section
variable {X : Cx} {e : Expr} {te : TE} {lo hi : Option Expr} {tl th : TO} {pos p2 : Pos}
theorem po_some (h : PE X e te) : PO X (some e) (tPart te) := by
  intro pins s σ H Q I hw
  rw [evalPart_some]
  refine thn (h pins s σ H _ I hw) fun u s1 ⟨x, H1, I1, r1, q1⟩ => ?_
  obtain ⟨i, rfl, q⟩ := q1
  obtain ⟨t, rfl⟩ := r1
  exact ⟨some i, H1, I1, .int i t, q⟩
def SlR (X : Cx) (r : V -> Option Int -> Option Int -> Hp -> VK -> Prop) : Prop :=
  ∀ (pins : List (Addr × Obj)) (s : Shared) (σ : St) (H : Hp) (x : V) (v vl vu : Value) (lo hi : Option Int) (sl : Addr) (Q : VK), Inv X pins σ H s -> RelV x v -> s.heap.IsSliceOf sl vl vu .none -> IsPart vl lo -> IsPart vu hi -> r x lo hi H Q ->
    ∃ T id, typeLookup (.type T) "__getitem__" = pure (some (.builtin id)) /\ s.TypeIs v T /\ wpAny (model X.prog X.w) X.A (getItem v (.ref sl)) (EP X pins σ Q) X.xe s
def tSl (r : V -> Option Int -> Option Int -> Hp -> VK -> Prop) (te : TE) (tl th : TO) : TE := fun σ H Q => te σ H fun x H1 => tl σ H1 fun l H2 => th σ H2 fun u H3 => r x l u H3 Q
theorem pe_slice {r : V -> Option Int -> Option Int -> Hp -> VK -> Prop} (hr : SlR X r) (he : PE X e te) (hl : PO X lo tl) (hu : PO X hi th) : PE X (.Subscript e (.Slice lo hi none p2) pos) (tSl r te tl th) := by
  intro pins s σ H Q I h
  refine Subscript_ (thn (he pins s σ H _ I h) fun v s1 ⟨x, H1, I1, r1, q1⟩ => ?_)
  refine wpAny_Slice (thn (hl pins s1 σ H1 _ I1 q1) fun vl s2 ⟨l, H2, I2, pl, q2⟩ => thn (hu pins s2 σ H2 _ I2 q2) fun vu s3 ⟨u, H3, I3, pu, q3⟩ => ?_)
  rw [evalPart_none]
  refine wpAny_pure ?_
  have I4 : Inv X pins σ H3 { s3 with heap := s3.heap.push { cls := .type "slice", data := .fields #[vl, vu, .none] } } := I3.kept (t' := s3.toks) fun b ob q => Heap.get?_push_of_some _ q
  obtain ⟨T, id, hT, ht, hg⟩ := hr pins { s3 with heap := s3.heap.push { cls := .type "slice", data := .fields #[vl, vu, .none] } } σ H3 x v vl vu l u s3.heap.objs.size Q I4 r1 (Heap.IsSliceOf.new ..) pl pu q3
  show wpAny (model X.prog X.w) X.A (subscriptTail e (.Slice lo hi none p2) v (.ref s3.heap.objs.size)) (EP X pins σ Q) X.xe { s3 with heap := s3.heap.push { cls := .type "slice", data := .fields #[vl, vu, .none] } }
  exact tail_any (ops := [.ref s3.heap.objs.size, v]) ht hT hg (by with_unfolding_all rfl)
def cutV (xs : List V) (lo hi : Option Int) : List V := (xs.drop (HT.sIx xs.length 0 lo)).take (HT.sIx xs.length xs.length hi - HT.sIx xs.length 0 lo)
theorem cutV_length (xs : List V) (lo hi : Option Int) : (cutV xs lo hi).length <= xs.length := by
  unfold cutV
  rw [List.length_take, List.length_drop]
  omega
end
end L2
namespace L2
open PySem PySem.Spec PyProof.Rows
def ixN (n : Nat) (i : Int) : Option Nat := if 0 <= i then (if i < n then some i.toNat else none) else if -(n : Int) <= i then some (i + n).toNat else none
def atI {α : Type} (xs : List α) (i : Int) : Option α := (ixN xs.length i).bind fun j => xs[j]?
theorem ixN_seq {n : Nat} {i : Int} {j : Nat} (h : ixN n i = some j) : seqIndex? i n = some j /\ j < n /\ -(n : Int) <= i /\ i < n := by
  unfold ixN at h
  by_cases h0 : 0 <= i
  · rw [if_pos h0] at h
    by_cases h1 : i < n
    · rw [if_pos h1] at h
      have e : i.toNat = j := Option.some.inj h
      exact ⟨by rw [seqIndex_of h0 h1, e], by omega, by omega, h1⟩
    · rw [if_neg h1] at h; cases h
  · rw [if_neg h0] at h
    by_cases h1 : -(n : Int) <= i
    · rw [if_pos h1] at h
      have e : (i + n).toNat = j := Option.some.inj h
      exact ⟨by rw [seqIndex_neg (by omega) h1, e], by omega, h1, by omega⟩
    · rw [if_neg h1] at h; cases h
theorem atI_get {α : Type} {xs : List α} {i : Int} {v : α} (h : atI xs i = some v) : ∃ j, seqIndex? i xs.length = some j /\ xs[j]? = some v /\ j < xs.length /\ -(xs.length : Int) <= i /\ i < xs.length := by
  unfold atI at h
  cases e : ixN xs.length i with
  | none => rw [e] at h; cases h
  | some j =>
    rw [e] at h
    obtain ⟨h1, h2, h3, h4⟩ := ixN_seq e
    exact ⟨j, h1, h, h2, h3, h4⟩
theorem atI_nat {α : Type} {xs : List α} {j : Nat} {v : α} (h : xs[j]? = some v) : atI xs (j : Int) = some v := by
  have hj : j < xs.length := (List.getElem?_eq_some_iff.mp h).1
  have e : ixN xs.length (j : Int) = some j := by
    unfold ixN
    rw [if_pos (by omega), if_pos (by omega)]; simp
  unfold atI; rw [e]; exact h
def PlainIx (b : Expr) : Prop := ∀ o i, subscripted b false o i = operate [o, i] (getItem o i)
def IxR (X : Cx) (r : R2) : Prop :=
  ∀ (value slice : Expr) (pins : List (Addr × Obj)) (s : Shared) (σ : St) (H : Hp) (x y : V) (v u : Value) (Q : VK), Inv X pins σ H s -> RelV x v -> RelV y u -> r x y H Q ->
    subscripted slice false v u = operate [v, u] (getItem v u) -> wpAny (model X.prog X.w) X.A (subscriptTail value slice v u) (EP X pins σ Q) X.xe s
def MtR (X : Cx) (id : String) (r : V -> List V -> Hp -> VK -> Prop) : Prop :=
  ∀ (pins : List (Addr × Obj)) (s : Shared) (σ : St) (H : Hp) (x : V) (xs : List V) (v : Value) (us : List Value) (Q : VK), Inv X pins σ H s -> RelV x v -> Vals xs us -> r x xs H Q ->
    wpAny (model X.prog X.w) X.A (call (.builtin id) (v :: us)) (EP X pins σ Q) X.xe s
section
variable {X : Cx} {a b : Expr} {ta tb : TE} {pos : Pos}
theorem pe_ix {r : R2} (hr : IxR X r) (ha : PE X a ta) (hb : PE X b tb) (hs : PlainIx b) : PE X (.Subscript a b pos) (tOp r ta tb) := by
  intro pins s σ H Q I h
  exact Subscript_ (binT ha hb I h fun v u s2 x y H2 I2 rx ry q => hr a b pins s2 σ H2 x y v u Q I2 rx ry q (hs _ _))
def rIxL (K : PySem.W.Frag) : R2 := fun x y H Q => ∃ p xs i v, x = .ref p /\ y = .int i /\ SqL K H p xs /\ atI xs i = some v /\ Q v H
def rIxS : R2 := fun x y H Q => ∃ z i c, x = .str z /\ y = .int i /\ z.length <= sizeLine /\ atI z.cps.toList i = some c /\ Q (.str ⟨#[c]⟩) H
theorem ix_list : IxR X (rIxL X.K) := by
  intro value slice pins s σ H x y v u Q I rx ry h hs
  obtain ⟨p, xs, i, z, rfl, rfl, hq, he, q⟩ := h
  cases rx
  obtain ⟨t, rfl⟩ := ry
  obtain ⟨its, r, pl, hz⟩ := I.list hq
  obtain ⟨j, h1, h2, h3, h4, h5⟩ := atI_get he
  obtain ⟨w, ew, rw'⟩ := r.get h2
  have hl := r.length
  have hn := line63
  have fin : EP X pins σ Q w s := ⟨z, H, I, rw', q⟩
  by_cases h0 : 0 <= i
  · have hj : i.toNat = j := by
      rw [seqIndex_of h0 h5] at h1
      exact Option.some.inj h1
    exact item_listR pl.isList h0 (by omega) (by rw [hj]; simpa using ew) fin hs
  · have hj : (i + (its.toArray.size : Int)).toNat = j := by
      rw [seqIndex_neg (by omega) h4] at h1
      rw [List.size_toArray, ← hl]
      exact Option.some.inj h1
    exact subscriptTail_builtinR (x := w) pl.isList.typeIs slot_list_getitem.lookup
      (wpAny_getItem_list_neg (Q := fun r s' => r = w /\ EP X pins σ Q r s') pl.isList (by omega) (by rw [List.size_toArray] <;> omega) (by omega) (by rw [hj]; simpa using ew) ⟨rfl, fin⟩) hs
theorem ix_str : IxR X rIxS := by
  intro value slice pins s σ H x y v u Q I rx ry h hs
  obtain ⟨z, i, c, rfl, rfl, hz, he, q⟩ := h
  obtain ⟨t, rfl⟩ := rx
  obtain ⟨t', rfl⟩ := ry
  obtain ⟨j, h1, h2, h3, h4, h5⟩ := atI_get he
  have hl : z.cps.toList.length = z.length := by simp [Str.length]
  rw [hl] at h1 h4 h5
  have hn := line63
  exact tail_any (typeIs_str s z t) slot_str_getitem.lookup (getItem_str (c := c) (by
    have e1 : decide (i < -(2 ^ 63 : Int)) = false := decide_eq_false (by omega)
    have e2 : decide (i ≥ 2 ^ 63) = false := decide_eq_false (by omega)
    rw [e1, e2, Bool.or_false]) (by rw [h1]; simpa using h2) ⟨.str ⟨#[c]⟩, H, I.tok _, ⟨_, rfl⟩, q⟩) hs
theorem slice_bounds (lo hi : Option Int) (n : Nat) : (sliceBounds lo hi none n).1 = ((HT.sIx n 0 lo : Nat) : Int) /\ (sliceBounds lo hi none n).2.1 = ((HT.sIx n n hi : Nat) : Int) /\ (sliceBounds lo hi none n).2.2 = 1 := by
  refine ⟨?_, ?_, rfl⟩
  · cases lo with
    | none => simp [sliceBounds, HT.sIx]
    | some i =>
      simp only [sliceBounds, HT.sIx, Option.getD_none, show (1 : Int) > 0 by decide, if_true]
      by_cases h : i < 0
      · simp only [h, if_true] <;> omega
      · simp only [h, if_false] <;> omega
  · cases hi with
    | none => simp [sliceBounds, HT.sIx]
    | some i =>
      simp only [sliceBounds, HT.sIx, Option.getD_none, show (1 : Int) > 0 by decide, if_true]
      by_cases h : i < 0
      · simp only [h, if_true] <;> omega
      · simp only [h, if_false] <;> omega
theorem slicePick_cut (its : List Value) (lo hi : Option Int) : slicePick its.toArray lo hi none = ((its.drop (HT.sIx its.length 0 lo)).take (HT.sIx its.length its.length hi - HT.sIx its.length 0 lo)).toArray := by
  obtain ⟨h1, h2, h3⟩ := slice_bounds lo hi its.toArray.size
  unfold slicePick
  rw [h1, h2, h3]
  simp only [sliceRange_one, pick_run, List.size_toArray] <;> rfl
def rSlL (K : PySem.W.Frag) : V -> Option Int -> Option Int -> Hp -> VK -> Prop := fun x lo hi H Q => ∃ a xs, x = .ref a /\ SqL K H a xs /\ ∀ p, H p = none -> Q (.ref p) (upd H p (.lst (cutV xs lo hi)))
theorem sl_list : SlR X (rSlL X.K) := by
  intro pins s σ H x v vl vu lo hi sl Q I rx hs pl pu h
  obtain ⟨a, xs, rfl, hx, q⟩ := h
  cases rx
  obtain ⟨its, r, ht, hz⟩ := I.list hx
  have hlen := r.length
  refine ⟨"list", _, slot_list_getitem.lookup, ht.isList.typeIs, ?_⟩
  refine wpAny_getItem_list_slice ht.isList hs pl pu .none (by simp) ?_ (by rw [List.size_toArray] <;> omega)
  rw [slicePick_cut, ← hlen]
  refine ⟨.ref s.heap.objs.size, _, I.laid (t' := s.toks) (o := .lst (cutV xs lo hi)) (fun b ob q => Heap.get?_push_of_some _ q) (Nat.le_refl _) ?_, rfl, q _ (I.hok.fresh (Nat.le_refl _))⟩
  exact ⟨Nat.le_trans (cutV_length xs lo hi) hz, _, 0, (r.drop (HT.sIx xs.length 0 lo)).take (HT.sIx xs.length xs.length hi - HT.sIx xs.length 0 lo), Heap.get?_push_size _ rfl⟩
def flatV : V -> Bool
  | .non => true
  | .bl _ => true
  | .int _ => true
  | .str _ => true
  | _ => false
def eqV : V -> V -> Bool
  | .non, .non => true
  | .bl a, .bl b => a == b
  | .bl a, .int b => (if a then 1 else 0) == b
  | .int a, .bl b => a == (if b then 1 else 0)
  | .int a, .int b => a == b
  | .str a, .str b => a == b
  | _, _ => false
theorem eqAt_V {A : Around} {s : Shared} {y x : V} {u v : Value} (ry : RelV y u) (rx : RelV x v) (fy : flatV y = true) (fx : flatV x = true) : SeqAt.EqAt A s u v (eqV y x) := by
  cases y with
  | non =>
    cases ry
    cases x with
    | non => cases rx; exact SeqAt.EqAt.same _
    | bl b => cases rx; exact SeqAt.EqAt.none_bool b
    | int b => obtain ⟨t, rfl⟩ := rx; exact SeqAt.EqAt.none_int b t
    | str b => obtain ⟨t, rfl⟩ := rx; exact SeqAt.EqAt.none_str b t
    | _ => exact absurd (show false = true from fx) Bool.false_ne_true
  | bl a =>
    cases ry
    cases x with
    | non => cases rx; exact SeqAt.EqAt.bool_none a
    | bl b => cases rx; exact SeqAt.EqAt.bool_bool a b
    | int b => obtain ⟨t, rfl⟩ := rx; exact SeqAt.EqAt.bool_int a b t
    | str b => obtain ⟨t, rfl⟩ := rx; exact SeqAt.EqAt.bool_str a b t
    | _ => exact absurd (show false = true from fx) Bool.false_ne_true
  | int a =>
    obtain ⟨t', rfl⟩ := ry
    cases x with
    | non => cases rx; exact SeqAt.EqAt.int_none a t'
    | bl b => cases rx; exact SeqAt.EqAt.int_bool a t' b
    | int b => obtain ⟨t, rfl⟩ := rx; exact SeqAt.EqAt.int_int a t' b t
    | str b => obtain ⟨t, rfl⟩ := rx; exact SeqAt.EqAt.int_str a t' b t
    | _ => exact absurd (show false = true from fx) Bool.false_ne_true
  | str a =>
    obtain ⟨t', rfl⟩ := ry
    cases x with
    | non => cases rx; exact SeqAt.EqAt.str_none a t'
    | bl b => cases rx; exact SeqAt.EqAt.str_bool a t' b
    | int b => obtain ⟨t, rfl⟩ := rx; exact SeqAt.EqAt.str_int a t' b t
    | str b => obtain ⟨t, rfl⟩ := rx; exact SeqAt.EqAt.str_str a t' b t
    | _ => exact absurd (show false = true from fx) Bool.false_ne_true
  | _ => exact absurd (show false = true from fy) Bool.false_ne_true
def eqU (x : V) (u : Value) : Bool := match u with
  | .none => eqV .non x
  | .bool b => eqV (.bl b) x
  | .int i _ => eqV (.int i) x
  | .str z _ => eqV (.str z) x
  | _ => false
theorem eqU_of {x y : V} {u : Value} (r : RelV y u) (f : flatV y = true) : eqU x u = eqV y x := by
  cases y with
  | non => cases r; rfl
  | bl b => cases r; rfl
  | int i => obtain ⟨t, rfl⟩ := r; rfl
  | str z => obtain ⟨t, rfl⟩ := r; rfl
  | _ => exact absurd (show false = true from f) Bool.false_ne_true
theorem any_eqU {x : V} : ∀ {xs : List V} {us : List Value}, Vals xs us -> xs.all flatV = true -> us.any (eqU x) = xs.any fun y => eqV y x
  | _, _, .nil, _ => rfl
  | y :: xs, u :: us, .cons r t, f => by
    rw [List.all_cons, Bool.and_eq_true] at f
    rw [List.any_cons, List.any_cons, eqU_of r f.1, any_eqU t f.2]
theorem mem_eqAt {A : Around} {s : Shared} {x : V} {v : Value} (rx : RelV x v) (fx : flatV x = true) : ∀ {xs : List V} {us : List Value}, Vals xs us -> xs.all flatV = true -> ∀ u ∈ us, SeqAt.EqAt A s u v (eqU x u)
  | _, _, .nil, _ => fun u hu => by cases hu
  | y :: xs, u :: us, .cons r t, f => fun u' hu => by
    rw [List.all_cons, Bool.and_eq_true] at f
    rcases List.mem_cons.mp hu with rfl | hu
    · rw [eqU_of r f.1]; exact eqAt_V r rx f.1 fx
    · exact mem_eqAt rx fx t f.2 u' hu
def inV (x : V) (xs : List V) : Bool := xs.any fun y => eqV y x
def rIn (K : PySem.W.Frag) (neg : Bool) : R2 := fun x y H Q => ∃ p xs, y = .ref p /\ (SqL K H p xs ∨ SqT K H p xs) /\ flatV x = true /\ xs.all flatV = true /\ Q (.bl (if neg then !inV x xs else inV x xs)) H
theorem op_in_seq : OpR X (compareOp .In) (rIn X.K false) := by
  intro pins s σ H x y v u Q I rx ry h
  obtain ⟨p, xs, rfl, hq, fx, fs, q⟩ := h
  cases ry
  rcases hq with hq | hq
  · obtain ⟨its, r, pl, hz⟩ := I.list hq
    refine SeqAt.in_listAt (eqU x) pl.isList (fun w hw => mem_eqAt rx fx r fs w (by simpa using hw)) ⟨.bl _, H, I, rfl, ?_⟩
    rw [show its.toArray.any (eqU x) = its.any (eqU x) by simp, any_eqU r fs]
    exact q
  · obtain ⟨its, r, pl, hz⟩ := I.tuple hq
    refine SeqAt.in_tupleAt (eqU x) pl (fun w hw => mem_eqAt rx fx r fs w (by simpa using hw)) ⟨.bl _, H, I, rfl, ?_⟩
    rw [show its.toArray.any (eqU x) = its.any (eqU x) by simp, any_eqU r fs]
    exact q
theorem call_len_seq : CallR X (.builtin "len") (fun xs H Q => ∃ p ys, xs = [.ref p] /\ (SqL X.K H p ys ∨ SqT X.K H p ys) /\ Q (.int ys.length) H) := by
  intro pins s σ H xs us Q I r h
  obtain ⟨p, ys, rfl, hq, q⟩ := h
  obtain ⟨u, rfl, rx⟩ := vals1 r
  cases rx
  have hn := line63
  rcases hq with hq | hq
  · obtain ⟨its, r', pl, hz⟩ := I.list hq
    have hlen := r'.length
    exact Calls.call_len_list pl.isList (by simp only [List.size_toArray] <;> omega) ⟨.int ys.length, H, I.tok _, ⟨s.toks + 1, by rw [List.size_toArray, hlen]⟩, q⟩
  · obtain ⟨its, r', pl, hz⟩ := I.tuple hq
    have hlen := r'.length
    exact len_tuple pl (by simp only [List.size_toArray] <;> omega) ⟨.int ys.length, H, I.tok _, ⟨s.toks + 1, by rw [List.size_toArray, hlen]⟩, q⟩
theorem call_len_str : CallR X (.builtin "len") (fun xs H Q => ∃ z, xs = [.str z] /\ z.length <= sizeLine /\ Q (.int z.length) H) := by
  intro pins s σ H xs us Q I r h
  obtain ⟨z, rfl, hz, q⟩ := h
  obtain ⟨u, rfl, t, rfl⟩ := vals1 r
  have hn := line63
  exact len_str (by omega) ⟨.int z.length, H, I.tok _, ⟨_, rfl⟩, q⟩
theorem call_tuple_of : CallR X (.type "tuple") (fun xs H Q => ∃ p ys, xs = [.ref p] /\ ((SqL X.K H p ys /\ ∀ l, H l = none -> Q (.ref l) (upd H l (.tup ys))) ∨ (SqT X.K H p ys /\ Q (.ref p) H))) := by
  intro pins s σ H xs us Q I r h
  obtain ⟨p, ys, rfl, h⟩ := h
  obtain ⟨u, rfl, rx⟩ := vals1 r
  cases rx
  rcases h with ⟨hq, q⟩ | ⟨hq, q⟩
  · obtain ⟨its, r', pl, hz⟩ := I.list hq
    have hlen := r'.length
    refine call_tuple_list pl.isList (fun h' kp => ?_) (by simp only [List.size_toArray] <;> omega)
    have I1 : Inv X pins σ H { s with heap := h' } := I.kept (t' := s.toks) kp
    have I2 : Inv X pins σ (upd H h'.objs.size (.tup ys)) { s with heap := h'.push { cls := .type "tuple", data := .seq its.toArray } } :=
      I1.laid (t' := s.toks) (fun b o e => Heap.get?_push_of_some _ e) (Nat.le_refl _) (show ObjOk X.prog X.w _ _ _ (.tup ys) from ⟨hz, its, r', IsTup.new _ _⟩)
    exact ⟨.ref h'.objs.size, _, I2, rfl, q _ (I1.hok.fresh (Nat.le_refl _))⟩
  · obtain ⟨its, r', pl, hz⟩ := I.tuple hq
    exact call_tuple_same pl ⟨.ref p, H, I, rfl, q⟩
def tyV (K : PySem.W.Frag) (T : String) (x : V) (H : Hp) : Prop := match x with
  | .str _ => T = "str"
  | .int _ => T = "int"
  | .ref p => (T = "list" /\ ∃ xs, SqL K H p xs) ∨ (T = "tuple" /\ ∃ o, K.lookup p = some o /\ o.cls = .type "tuple" /\ o.dict = none) ∨
      (T = "dict" /\ ((∃ kvs, H p = some (.dK kvs)) ∨ ∃ kvs, H p = some (.dT kvs))) ∨ (T = "set" /\ ∃ S n, H p = some (.set S n))
  | _ => False
theorem tyV_is {pins : List (Addr × Obj)} {σ : St} {H : Hp} {s : Shared} {T : String} {x : V} {v : Value} (I : Inv X pins σ H s) (r : RelV x v) (ty : tyV X.K T x H) :
    s.TypeIs v T /\ ∀ a, v = .ref a -> ∃ ob, s.heap.get? a = some ob /\ ob.dict = none := by
  cases x with
  | str z =>
    obtain ⟨t, rfl⟩ := r
    cases (show T = "str" from ty)
    exact ⟨typeIs_str s z t, fun _ e => nomatch e⟩
  | int i =>
    obtain ⟨t, rfl⟩ := r
    cases (show T = "int" from ty)
    exact ⟨typeIs_int s i t, fun _ e => nomatch e⟩
  | ref p =>
    cases r
    rcases ty with ⟨rfl, xs, hq⟩ | ⟨rfl, o, hk, hc, hd⟩ | ⟨rfl, hk⟩ | ⟨rfl, S, n, hk⟩
    · obtain ⟨its, _, pl, _⟩ := I.list hq
      refine ⟨pl.isList.typeIs, fun a e => ?_⟩
      cases e
      obtain ⟨o, n, e, c, hd, _⟩ := pl
      exact ⟨o, e, hd⟩
    · refine ⟨⟨o, I.kIn p o hk, hc⟩, fun a e => ?_⟩
      cases e
      exact ⟨o, I.kIn _ o hk, hd⟩
    · have z : ∃ o, s.heap.get? p = some o /\ o.ExactDict := by
        rcases hk with ⟨kvs, hk⟩ | ⟨kvs, hk⟩
        · obtain ⟨_, _, _, _, o, _, _, e, ex, _⟩ := I.hok p _ hk
          exact ⟨o, e, ex⟩
        · obtain ⟨_, _, _, _, o, _, _, e, ex, _⟩ := I.hok p _ hk
          exact ⟨o, e, ex⟩
      obtain ⟨o, e, ex⟩ := z
      refine ⟨⟨o, e, ex.1⟩, fun a e2 => ?_⟩
      cases e2
      exact ⟨o, e, ex.2.1⟩
    · obtain ⟨o, _, _, _, e, ex, _⟩ := I.hok p _ hk
      refine ⟨⟨o, e, ex.1⟩, fun a e2 => ?_⟩
      cases e2
      exact ⟨o, e, ex.2.1⟩
  | _ => exact False.elim ty
def tBM (K : PySem.W.Frag) (T : String) (r : V -> List V -> Hp -> VK -> Prop) (to : TE) (t : TA) : TE := fun σ H Q => to σ H fun x H1 => tyV K T x H1 /\ t σ H1 fun xs H2 => r x xs H2 Q
variable {o e : Expr} {es : List Expr} {to : TE} {t : TA} {name : Str} {apos cpos : Pos} {T id : String} {r : V -> List V -> Hp -> VK -> Prop}
theorem pe_bm (pa : PlainAttrs T) (slot : Slot T name id) (hty : typeOf (.builtin id) = pure (.type "method_descriptor")) (hm : MtR X id r) (ho : PE X o to) (ha : PA X (e :: es) t)
    (hbase : attributeBase o name X.env (eval o X.env) = eval o X.env := by rfl)
    (hfew : ((backTo cpos (starEach (e :: es) X.env)).all (fun x => !x.1) && (backToKw cpos (keywordEach [] X.env)).all (fun x => x.1.isSome)
      && decide ((e :: es).length + ([] : List Keyword).length + (if ([] : List Keyword).isEmpty then 0 else 1) < 30)) = true := by rfl)
    (hline : (apos.endLine == cpos.line) = true := by rfl) (hs : starEach (e :: es) X.env = (false, eval e X.env) :: starEach es X.env := by rfl) (hplain : (backTo cpos (starEach es X.env)).any (·.1) = false := by rfl) :
    PE X (.Call (.Attribute o name apos) (e :: es) [] cpos) (tBM X.K T r to t) := by
  intro pins s σ H Q I h
  refine wpAny_Call_method_late hbase hfew hline rfl (thn (ho pins s σ H _ I h) fun v s1 ⟨x, H1, I1, r1, ty, q1⟩ => ?_)
  obtain ⟨h1, h2⟩ := tyV_is I1 r1 ty
  refine ⟨T, id, pa, slot, hty, h1, h2, ?_⟩
  have hA := ha cpos pins s1 σ H1 _ I1 q1
  rw [hs] at hA ⊢
  refine Calls.callWith_builtin (by show (false || (backTo cpos (starEach es X.env)).any (·.1)) = false; rw [hplain] <;> rfl) (Calls.evalArgs_plain ?_)
  exact thn hA fun us s2 ⟨vs, H2, I2, r2, q2⟩ => hm pins s2 σ H2 x vs v us Q I2 r1 r2 q2
end
end L2
namespace L2
open PySem PySem.Spec PyProof.Rows
def MtM (X : Cx) (id : String) (r : V -> List V -> Hp -> VK -> Prop) : Prop :=
  ∀ (pins : List (Addr × Obj)) (s : Shared) (σ : St) (H : Hp) (x : V) (xs : List V) (v : Value) (us : List Value) (Q : VK), Inv X pins σ H s -> RelV x v -> Vals xs us -> r x xs H Q ->
    wpAny (model X.prog X.w) X.A (call (.builtin id) (v :: us)) (EP X pins σ Q) X.xe s
theorem Vals.one : ∀ {x : V} {us : List Value}, Vals [x] us -> ∃ u, us = [u] /\ RelV x u
  | _, _, .cons r .nil => ⟨_, rfl, r⟩
section
variable {X : Cx} {pins : List (Addr × Obj)} {σ : St} {H : Hp} {s : Shared} {l b : Addr} {xs ys zs : List V}
theorem Inv.lset {its its' : List Value} {n : Nat} {f : Array Value -> Array Value} {t' : Nat} (I : Inv X pins σ H s) (hH : H l = some (.lst xs))
    (e : s.heap.get? l = some { cls := .type "list", data := .seq its.toArray n }) (hf : f its.toArray = its'.toArray) (hv : Vals ys its') (hz : ys.length <= sizeLine) :
    Inv X pins σ (upd H l (.lst ys)) { s with heap := s.heap.update l (Obj.mapSeq f), toks := t' } := by
  have q := PySem.IsL.update e f
  rw [hf] at q
  refine I.write (x := l) (e := l) (by rw [hH]; exact trivial) (.inl rfl) (fun b' u hb hu => (Heap.get?_update_other s.heap (Obj.mapSeq f) (Ne.symm hb)).trans hu) ⟨_, q⟩ ?_
  exact ⟨hz, its', _, hv, q⟩
theorem Inv.lnew {its : List Value} {t' : Nat} (I : Inv X pins σ H s) (hv : Vals ys its) (hz : ys.length <= sizeLine) :
    Inv X pins σ (upd H s.heap.objs.size (.lst ys)) { s with heap := s.heap.push { cls := .type "list", data := .seq its.toArray }, toks := t' } :=
  I.laid (fun _ _ q => Heap.get?_push_of_some _ q) (Nat.le_refl _) ⟨hz, its, 0, hv, Heap.get?_push_size _ rfl⟩
theorem Inv.fresh (I : Inv X pins σ H s) : H s.heap.objs.size = none := I.hok.fresh (Nat.le_refl _)
theorem Inv.lstM (I : Inv X pins σ H s) (hH : H l = some (.lst xs)) : xs.length <= sizeLine /\ ∃ (its : List Value) (n : Nat), Vals xs its /\ xs.length = its.length /\ s.heap.get? l = some { cls := .type "list", data := .seq its.toArray n } := by
  obtain ⟨z, its, n, r, e⟩ := I.hok l _ hH
  exact ⟨z, its, n, r, r.length, e⟩
theorem notLongL {n : Nat} (h : n <= sizeLine) : Builtin.List.listTooLong n = false := by
  unfold Builtin.List.listTooLong
  exact decide_eq_false (by omega)
end
section
variable {X : Cx}
def rAppend : V -> List V -> Hp -> VK -> Prop := fun x vs H Q => ∃ l xs y, x = .ref l /\ vs = [y] /\ H l = some (.lst xs) /\ xs.length < sizeLine /\ Q .non (upd H l (.lst (xs ++ [y])))
theorem mt_append : MtM X "list.append" rAppend := by
  intro pins s σ H x vs v us Q I rx rv h
  obtain ⟨l, xs, y, rfl, rfl, hH, hz, q⟩ := h
  cases rx
  obtain ⟨u, rfl, ru⟩ := rv.one
  obtain ⟨z, its, n, r, hl, e⟩ := I.lstM hH
  refine call_meets F.slot_list_append ⟨_, e, rfl⟩ F.entry_list_append (F.args_list_append_2 _ _) (PySem.list_append l its.toArray n u (by rw [List.size_toArray]; omega)) ⟨e, ?_⟩
  refine ⟨.non, _, I.lset (its' := its ++ [u]) hH e (by simp) (r.append (.cons ru .nil)) ?_, rfl, q⟩
  rw [List.length_append, List.length_singleton]
  omega
def rExtend : V -> List V -> Hp -> VK -> Prop := fun x vs H Q => ∃ l b xs zs, x = .ref l /\ vs = [.ref b] /\ H l = some (.lst xs) /\ H b = some (.lst zs) /\ xs.length + zs.length <= sizeLine /\ Q .non (upd H l (.lst (xs ++ zs)))
theorem mt_extend : MtM X "list.extend" rExtend := by
  intro pins s σ H x vs v us Q I rx rv h
  obtain ⟨l, b, xs, zs, rfl, rfl, hH, hB, hz, q⟩ := h
  cases rx
  obtain ⟨u, rfl, ru⟩ := rv.one
  cases ru
  obtain ⟨z, its, n, r, hl, e⟩ := I.lstM hH
  obtain ⟨z2, its2, n2, r2, hl2, e2⟩ := I.lstM hB
  have hsz : its.toArray.size + its2.toArray.size <= sizeLine := by rw [List.size_toArray, List.size_toArray]; omega
  have hlong : ¬ (!its.toArray.isEmpty && Builtin.List.listTooLong (its.toArray.size + its2.toArray.size)) = true := by
    rw [notLongL hsz, Bool.and_false]
    exact Bool.false_ne_true
  refine call_meets F.slot_list_extend ⟨_, e, rfl⟩ F.entry_list_extend (F.args_list_extend_2 _ _)
    (AutoSeq1.list_extend_list_list_0 l its.toArray n b its2.toArray n2 hlong (by rw [List.size_toArray]; omega) (by omega)) ⟨e, e2, ?_⟩
  refine ⟨.non, _, I.lset (its' := its ++ its2) hH e (by simp) (r.append r2) ?_, rfl, q⟩
  rw [List.length_append]
  omega
def rCat : R2 := fun x y H Q => ∃ l b xs zs, x = .ref l /\ y = .ref b /\ H l = some (.lst xs) /\ H b = some (.lst zs) /\ xs.length + zs.length <= sizeLine /\ ∀ p, H p = none -> Q (.ref p) (upd H p (.lst (xs ++ zs)))
theorem op_cat : OpR X (binaryOp .Add) rCat := by
  intro pins s σ H x y v u Q I rx ry h
  obtain ⟨l, b, xs, zs, rfl, rfl, hH, hB, hz, q⟩ := h
  cases rx
  cases ry
  obtain ⟨z, its, n, r, hl, e⟩ := I.lstM hH
  obtain ⟨z2, its2, n2, r2, hl2, e2⟩ := I.lstM hB
  refine PySem.P.add_list e e2 ?_ (by rw [List.size_toArray, List.size_toArray]; omega)
  have ea : its.toArray ++ its2.toArray = (its ++ its2).toArray := by simp
  rw [ea]
  exact ⟨.ref _, _, I.lnew (t' := s.toks) (r.append r2) (by rw [List.length_append]; omega), rfl, q _ I.fresh⟩
end
end L2
namespace L2
open PySem PySem.Spec PyProof.Rows
theorem Vals.ints : ∀ {ns : List Int} {us : List Value}, Vals (ns.map V.int) us -> IntsAre us ns
  | [], us, h => by
    rw [List.map_nil] at h
    cases h
    exact IntsAre.nil
  | n :: ns, us, h => by
    rw [List.map_cons] at h
    cases h with
    | cons r t =>
      obtain ⟨k, rfl⟩ := r
      exact IntsAre.cons n k (Vals.ints t)
theorem Vals.bls : ∀ {bs : List Bool} {us : List Value}, Vals (bs.map V.bl) us -> us = bs.map Value.bool
  | [], us, h => by
    rw [List.map_nil] at h
    cases h
    rfl
  | b :: bs, us, h => by
    rw [List.map_cons] at h
    cases h with
    | cons r t =>
      cases r
      rw [Vals.bls t, List.map_cons]
theorem Vals.ref1 {a : Addr} {us : List Value} (r : Vals [V.ref a] us) : us = [Value.ref a] := by
  cases r with
  | cons r t =>
    cases t
    cases r
    rfl
section
variable {prog : Program} {w : World} {A : Around} {E : Value -> Shared -> Prop} {s : Shared} {l : Addr} {its : List Value} {ns : List Int} {Q : Value -> Shared -> Prop}
theorem sum_raw (hh : A.handled = none) (hl : s.heap.IsList l its.toArray) (hi : IntsAre its ns)
    (h : ∀ h' tk t', (∀ b o, s.heap.get? b = some o -> h'.get? b = some o) -> Q (.int ns.sum t') { s with heap := h', toks := tk }) : wpAny (model prog w) A (call (.builtin "sum") [.ref l]) Q E s := by
  obtain ⟨xs, e⟩ := hi.allInts.items
  have hn : numsOf (intItems xs).toList = ns := by rw [← e]; exact hi.numsOf
  rw [nums_intItems] at hn
  rw [e] at hl
  refine PySem.sum_intListG hh hl fun h' tk t' hk => ?_
  have := h h' tk t' hk
  rw [preSum_eq, List.take_of_length_le (by simp), hn]; exact this
end
section
variable {X : Cx}
def rSum (K : PySem.W.Frag) : List V -> Hp -> VK -> Prop := fun vs H Q => ∃ (a : Addr) (ns : List Int), vs = [V.ref a] /\ SqL K H a (ns.map V.int) /\ Q (.int ns.sum) H
theorem cr_sum (hc : X.calm = true) : CallR X (.builtin "sum") (rSum X.K) := by
  intro pins s σ H vs us Q I r h
  obtain ⟨a, ns, rfl, hs, q⟩ := h
  obtain ⟨its, rv, hl, _⟩ := I.list hs
  rw [Vals.ref1 r]
  exact sum_raw (I.ok.hd hc) hl.isList rv.ints fun h' tk t' hk => ⟨.int _, H, I.kept hk, ⟨_, rfl⟩, q⟩
end
theorem iter_any {prog : Program} {w : World} {A : Around} {E : Value -> Shared -> Prop} {s : Shared} {l : Addr} {items : Array Value} {Q : Value -> Shared -> Prop} (hl : s.heap.IsList l items)
    (h : ∀ s₂ : Shared, s₂ = { s with heap := s.heap.push { cls := .type "list_iterator", data := .fields #[.ref l, .int 0 0] } } ->
      (s₂.heap.IsListIter s.heap.objs.size l 0 /\ s₂.heap.IsList l items) -> l ≠ s.heap.objs.size -> Q (.ref s.heap.objs.size) s₂) : wpAny (model prog w) A (pyIter (.ref l)) Q E s := by
  have hlt : l < s.heap.objs.size := by obtain ⟨_, e, _⟩ := hl; exact Heap.lt_size e
  exact wpAny_pyIter_list hl (h _ rfl ⟨⟨_, Heap.get?_push_size _ rfl, rfl, rfl⟩, hl.push _⟩ (Nat.ne_of_lt hlt))
theorem truth_bools {prog : Program} {w : World} {A : Around} {bs : List Bool} {its : List Value} (e : its = bs.map Value.bool) :
    TruthOf prog w A (fun i v => its.toArray[i]? = some v) (fun i => bs.getD i false) := fun i v s Q E hv hq => by
  have hv' : its[i]? = some v := by simpa using hv
  rw [e, List.getElem?_map] at hv'
  obtain ⟨b, hb, rfl⟩ := Option.map_eq_some_iff.mp hv'
  have hg : bs.getD i false = b := by rw [List.getD_eq_getElem?_getD, hb] <;> rfl
  have hq' : Q (bs.getD i false) s := hq
  rw [hg] at hq'
  exact wpAny_truthy_bool hq'
theorem all_range : ∀ bs : List Bool, (List.range bs.length).all (fun i => bs.getD i false) = bs.all id
  | [] => rfl
  | b :: bs => by
    rw [List.length_cons, List.range_succ_eq_map, List.all_cons, List.all_map, List.all_cons, ← all_range bs]
    all_goals rfl
section
variable {X : Cx}
def rAll (K : PySem.W.Frag) : List V -> Hp -> VK -> Prop := fun vs H Q => ∃ (a : Addr) (bs : List Bool), vs = [V.ref a] /\ SqL K H a (bs.map V.bl) /\ Q (.bl (bs.all id)) H
theorem cr_all (hc : X.calm = true) : CallR X (.builtin "all") (rAll X.K) := by
  intro pins s σ H vs us Q I r h
  obtain ⟨a, bs, rfl, hs, q⟩ := h
  obtain ⟨its, rv, hl, _⟩ := I.list hs
  rw [Vals.ref1 r]
  have hb := rv.bls
  refine call_all_walk (iter_any hl.isList fun s₂ e2 st hne => ?_)
  subst e2
  refine ⟨_, _, _, _, _, _, _, rfl, Walks.list (A := X.A.in1) (I.ok.hd hc) _ a hne its.toArray, st, truth_bools hb, fun h' tk hk => ?_⟩
  refine ⟨.bl _, H, I.kept fun b o eo => hk b o (fun hmem => ?_) (Heap.get?_push_of_some _ eo), ?_, q⟩
  · rcases List.mem_cons.mp hmem with e1 | hmem
    · exact absurd (e1 ▸ Heap.lt_size eo) (Nat.lt_irrefl _)
    · cases hmem
  · show Value.bool _ = Value.bool _
    rw [← all_range, hb, List.size_toArray, List.length_map]
end
mutual
inductive Dp (K : PySem.W.Frag) (H : Hp) : V -> PyData -> Prop
  | non : Dp K H .non .none
  | bl (b : Bool) : Dp K H (.bl b) (.bool b)
  | int (i : Int) : Dp K H (.int i) (.int i)
  | str (x : Str) : Dp K H (.str x) (.str x)
  | lst {a : Addr} {xs : List V} {ds : List PyData} : SqL K H a xs -> DpAll K H xs ds -> Dp K H (.ref a) (.list ds)
  | tup {a : Addr} {xs : List V} {ds : List PyData} : SqT K H a xs -> DpAll K H xs ds -> Dp K H (.ref a) (.tuple ds)
inductive DpAll (K : PySem.W.Frag) (H : Hp) : List V -> List PyData -> Prop
  | nil : DpAll K H [] []
  | cons {v : V} {vs : List V} {d : PyData} {ds : List PyData} : Dp K H v d -> DpAll K H vs ds -> DpAll K H (v :: vs) (d :: ds)
end
section
variable {X : Cx} {pins : List (Addr × Obj)} {σ : St} {H : Hp} {s : Shared}
mutual
theorem Dp.reads (I : Inv X pins σ H s) : ∀ (d : PyData) (v : V) (u : Value), Dp X.K H v d -> RelV v u -> ∃ as, Reads s.heap u d as
  | .none, _, _, h, r => by
    cases h
    cases r
    exact ⟨_, Reads.none⟩
  | .bool b, _, _, h, r => by
    cases h
    cases r
    exact ⟨_, Reads.bool b⟩
  | .int i, _, _, h, r => by
    cases h
    obtain ⟨t, rfl⟩ := r
    exact ⟨_, Reads.int i t⟩
  | .str x, _, _, h, r => by
    cases h
    obtain ⟨t, rfl⟩ := r
    exact ⟨_, Reads.str x t⟩
  | .list ds, _, _, h, r => by
    cases h with
    | lst hs ha =>
      cases r
      obtain ⟨its, rv, ⟨o, n, ho, hc, _, hd⟩, _⟩ := I.list hs
      obtain ⟨as, hr⟩ := Dp.readsAll I ds _ its ha rv
      exact ⟨_, Reads.list ho hc hd hr⟩
  | .tuple ds, _, _, h, r => by
    cases h with
    | tup hs ha =>
      cases r
      obtain ⟨its, rv, ⟨o, ho, hc, n, hd⟩, _⟩ := I.tuple hs
      obtain ⟨as, hr⟩ := Dp.readsAll I ds _ its ha rv
      exact ⟨_, Reads.tuple ho hc hd hr⟩
  | .dict _, _, _, h, _ => by cases h
theorem Dp.readsAll (I : Inv X pins σ H s) : ∀ (ds : List PyData) (vs : List V) (us : List Value), DpAll X.K H vs ds -> Vals vs us -> ∃ as, ReadsAll s.heap us ds as
  | [], _, _, h, r => by
    cases h
    cases r
    exact ⟨_, ReadsAll.nil⟩
  | d :: ds, _, _, h, r => by
    cases h with
    | cons h1 h2 =>
      cases r with
      | cons r1 r2 =>
        obtain ⟨as, q1⟩ := Dp.reads I d _ _ h1 r1
        obtain ⟨bs, q2⟩ := Dp.readsAll I ds _ _ h2 r2
        exact ⟨_, ReadsAll.cons q1 q2⟩
end
end
section
variable {X : Cx}
def rEqD (K : PySem.W.Frag) : R2 := fun x y H Q => ∃ d e, Dp K H x d /\ Dp K H y e /\ SeqAt.shaped d = true /\ SeqAt.shaped e = true /\ Q (.bl (PyData.eqv d e)) H
theorem op_eqD (hu : X.A.units + 64 < cLine) : OpR X (compareOp .Eq) (rEqD X.K) := by
  intro pins s σ H x y v u Q I rx ry h
  obtain ⟨d, e, hd, he, sd, se, q⟩ := h
  obtain ⟨as, r1⟩ := Dp.reads I d x v hd rx
  obtain ⟨bs, r2⟩ := Dp.reads I e y u he ry
  exact SeqAt.compareEq_shaped r1 r2 sd se hu ⟨.bl _, H, I, rfl, q⟩
end
end L2
namespace L2
open PySem PySem.Spec PyProof.Rows
abbrev CellAt (h : Heap) (c : Addr) (v : Option Value) : Prop := h.IsCell c v
def relS (scope sc : Scope) : Scope :=
  { scope with names := scope.names.map fun (n, k) => if (k == .free && sc.kind == .function && sc.names.lookup n == some .cell) then (n, .cell) else (n, k) }
def cloFrom (cells : List (Str × Addr)) : List (Str × NameKind) -> List (Str × Addr) -> List (Str × Addr)
  | [], acc => acc
  | (n, k) :: r, acc => if k == .free then cloFrom cells r ((n, (cells.lookup n).getD 0) :: acc) else cloFrom cells r acc
theorem closure_loop (env : Env) (f : Str × NameKind -> List (Str × Addr) -> Sem (ForInStep (List (Str × Addr))))
    (hf : ∀ n k c, f (n, k) c = if k == .free then (do let a ← cellOf env n; pure (.yield ((n, a) :: c))) else pure (.yield c)) :
    ∀ (names : List (Str × NameKind)) (acc : List (Str × Addr)), (∀ y ∈ names, y.2 = .free -> ∃ c, env.cells.lookup y.1 = some c) -> forIn names acc f = pure (cloFrom env.cells names acc)
  | [], acc, _ => by rw [List.forIn_nil]; rfl
  | (n, k) :: r, acc, h => by
    rw [List.forIn_cons, hf]
    have ih := fun acc => closure_loop env f hf r acc fun y hy => h y (List.mem_cons_of_mem _ hy)
    unfold cloFrom
    by_cases hk : (k == NameKind.free) = true
    · rw [if_pos hk, if_pos hk]
      obtain ⟨c, hc⟩ := h (n, k) List.mem_cons_self (by simpa using hk)
      have e : cellOf env n = pure c := by unfold cellOf; rw [hc]
      rw [e]
      have e2 : (env.cells.lookup n).getD 0 = c := by rw [hc]; rfl
      rw [e2]
      exact ih _
    · rw [if_neg hk, if_neg hk]
      exact ih _
theorem closure_ok {scope : Scope} {env : Env} (h : ∀ y ∈ scope.names, y.2 = .free -> ∃ c, env.cells.lookup y.1 = some c) : closureFor scope env = pure (cloFrom env.cells scope.names []) := by
  simp only [closureFor]
  rw [closure_loop env _ (fun n k c => rfl) scope.names [] h]
  rfl
theorem mem_lookup {α : Type} : ∀ {l : List (Str × α)} {n : Str} {c : α}, (n, c) ∈ l -> ∃ c', l.lookup n = some c'
  | (k, v) :: r, n, c, h => by
    rw [List.lookup_cons]
    cases hb : n == k with
    | true => exact ⟨_, rfl⟩
    | false =>
      rcases List.mem_cons.mp h with e | h
      · cases e; simp at hb
      · exact mem_lookup h
theorem cloFrom_mem {cells : List (Str × Addr)} : ∀ {names : List (Str × NameKind)} {acc : List (Str × Addr)} {n : Str} {c : Addr}, (n, c) ∈ cloFrom cells names acc -> (n, c) ∈ acc ∨ ((n, .free) ∈ names /\ c = (cells.lookup n).getD 0)
  | [], _, _, _, h => .inl h
  | (m, k) :: r, acc, n, c, h => by
    unfold cloFrom at h
    split at h
    · rename_i hk
      have hk : k = .free := by simpa using hk
      rcases cloFrom_mem h with h | ⟨h1, h2⟩
      · rcases List.mem_cons.mp h with e | h
        · cases e; exact .inr ⟨hk ▸ List.mem_cons_self, rfl⟩
        · exact .inl h
      · exact .inr ⟨List.mem_cons_of_mem _ h1, h2⟩
    · rcases cloFrom_mem h with h | ⟨h1, h2⟩
      · exact .inl h
      · exact .inr ⟨List.mem_cons_of_mem _ h1, h2⟩
theorem cloFrom_acc {cells : List (Str × Addr)} : ∀ {names : List (Str × NameKind)} {acc : List (Str × Addr)} {p : Str × Addr}, p ∈ acc -> p ∈ cloFrom cells names acc
  | [], _, _, h => h
  | (m, k) :: r, acc, p, h => by
    unfold cloFrom
    split
    · exact cloFrom_acc (List.mem_cons_of_mem _ h)
    · exact cloFrom_acc h
theorem cloFrom_has {cells : List (Str × Addr)} : ∀ {names : List (Str × NameKind)} {acc : List (Str × Addr)} {n : Str}, (n, .free) ∈ names -> (n, (cells.lookup n).getD 0) ∈ cloFrom cells names acc
  | (m, k) :: r, acc, n, h => by
    unfold cloFrom
    rcases List.mem_cons.mp h with e | h
    · cases e
      exact cloFrom_acc List.mem_cons_self
    · split
      · exact cloFrom_has h
      · exact cloFrom_has h
theorem cells_mem : ∀ {names : List (Str × NameKind)} {h : Heap} {acc : List (Str × Addr)} {x : Str} {c : Addr}, (x, c) ∈ cellsFrom h.objs.size names acc ->
    (x, c) ∈ acc ∨ ((x, .cell) ∈ names /\ h.objs.size <= c /\ CellAt (pushCells h names) c none)
  | [], _, _, _, _, h => .inl h
  | (n, k) :: r, h, acc, x, c, hm => by
    unfold cellsFrom at hm
    unfold pushCells
    split at hm
    · rename_i hk
      rw [if_pos hk]
      have hk : k = .cell := by simpa using hk
      rw [← Heap.size_push h { cls := .type "cell", data := .cell none }] at hm
      rcases cells_mem hm with hm | ⟨h1, h2, h3⟩
      · rcases List.mem_cons.mp hm with e | hm
        · cases e
          exact .inr ⟨hk ▸ List.mem_cons_self, Nat.le_refl _, _, pushCells_keeps r _ _ _ (Heap.get?_push_size _ rfl), rfl⟩
        · exact .inl hm
      · rw [Heap.size_push] at h2
        exact .inr ⟨List.mem_cons_of_mem _ h1, Nat.le_of_succ_le h2, h3⟩
    · rename_i hk
      rw [if_neg hk]
      rcases cells_mem hm with hm | ⟨h1, h2, h3⟩
      · exact .inl hm
      · exact .inr ⟨List.mem_cons_of_mem _ h1, h2, h3⟩
theorem cells_acc : ∀ {names : List (Str × NameKind)} {n : Nat} {acc : List (Str × Addr)} {p : Str × Addr}, p ∈ acc -> p ∈ cellsFrom n names acc
  | [], _, _, _, h => h
  | (m, k) :: r, n, acc, p, h => by
    unfold cellsFrom
    split
    · exact cells_acc (List.mem_cons_of_mem _ h)
    · exact cells_acc h
theorem cells_has : ∀ {names : List (Str × NameKind)} {n : Nat} {acc : List (Str × Addr)} {x : Str}, (x, .cell) ∈ names -> ∃ c, (x, c) ∈ cellsFrom n names acc
  | (m, k) :: r, n, acc, x, h => by
    unfold cellsFrom
    rcases List.mem_cons.mp h with e | h
    · cases e
      exact ⟨n, cells_acc List.mem_cons_self⟩
    · split
      · exact cells_has h
      · exact cells_has h
theorem cells_inj : ∀ {names : List (Str × NameKind)} {h : Heap} {acc : List (Str × Addr)} {x y : Str} {c : Addr}, (∀ p ∈ acc, p.2 < h.objs.size) -> (∀ x y c, (x, c) ∈ acc -> (y, c) ∈ acc -> x = y) ->
    (x, c) ∈ cellsFrom h.objs.size names acc -> (y, c) ∈ cellsFrom h.objs.size names acc -> x = y
  | [], _, _, _, _, _, _, hi, h1, h2 => hi _ _ _ h1 h2
  | (n, k) :: r, h, acc, x, y, c, hl, hi, h1, h2 => by
    unfold cellsFrom at h1 h2
    split at h1
    · rename_i hk
      rw [if_pos hk] at h2
      rw [← Heap.size_push h { cls := .type "cell", data := .cell none }] at h1 h2
      refine cells_inj (h := h.push _) (fun p hp => ?_) (fun x y c a b => ?_) h1 h2
      · rw [Heap.size_push]
        rcases List.mem_cons.mp hp with rfl | hp
        · exact Nat.lt_succ_self _
        · exact Nat.lt_succ_of_lt (hl p hp)
      · rcases List.mem_cons.mp a with e | a <;> rcases List.mem_cons.mp b with e' | b
        · cases e; cases e'; rfl
        · cases e; exact absurd (hl _ b) (Nat.lt_irrefl _)
        · cases e'; exact absurd (hl _ a) (Nat.lt_irrefl _)
        · exact hi _ _ _ a b
    · rename_i hk
      rw [if_neg hk] at h2
      exact cells_inj hl hi h1 h2
theorem newEnv_comp {M : Model} {A : Around} {E : Value -> Shared -> Prop} {s : Shared} {scope : Scope} {globals : Addr} {closure : List (Str × Addr)} {qual : Str} {func : Option Addr} {code : Value} {around : Env} {builtins : Addr} {Q : Env -> Shared -> Prop}
    (h : Q (newEnv scope s.heap.objs.size globals (cellsFrom (s.heap.objs.size + 1) scope.names closure) qual func code (some around) builtins)
      { s with heap := pushCells (s.heap.push { cls := .type "dict", data := .dict #[] }) scope.names }) :
    wpAny M A (newFunctionEnv scope globals closure [] qual func code (some around) builtins) Q E s := by
  simp only [newFunctionEnv, Option.isSome_some, if_true]
  refine wpAny_bind (wpAny_alloc ?_)
  refine wpAny_bind (wpAny_layCells _ (fun n k c => rfl) scope.names closure _ _ ?_)
  rw [show ({ s with heap := s.heap.push { cls := .type "dict", data := .dict #[] } } : Shared).heap.objs.size = s.heap.objs.size + 1 from Heap.size_push ..]
  rw [List.forIn_nil]
  exact wpAny_bind (wpAny_pure (wpAny_pure h))
theorem lookup_relS {sc : Scope} : ∀ {names : List (Str × NameKind)} {x : Str} {k : NameKind},
    (names.map fun (n, k) => if (k == NameKind.free && sc.kind == .function && sc.names.lookup n == some .cell) then (n, NameKind.cell) else (n, k)).lookup x = some k ->
    ∃ k', names.lookup x = some k' /\ (k = k' ∨ (k' = .free /\ k = .cell))
  | [], _, _, h => by simp at h
  | (n, k₀) :: r, x, k, h => by
    have ih := @lookup_relS sc r x k
    have h' : List.lookup x ((if (k₀ == NameKind.free && sc.kind == .function && sc.names.lookup n == some .cell) = true then (n, NameKind.cell) else (n, k₀)) :: (r.map _)) = some k := h
    cases hx : x == n with
    | true =>
      simp only [List.lookup_cons, hx]
      by_cases hc : (k₀ == NameKind.free && sc.kind == .function && sc.names.lookup n == some .cell) = true
      · rw [if_pos hc] at h'
        simp only [List.lookup_cons, hx] at h'
        cases h'
        simp only [Bool.and_eq_true, beq_iff_eq] at hc
        exact ⟨k₀, rfl, .inr ⟨hc.1.1, rfl⟩⟩
      · rw [if_neg hc] at h'
        simp only [List.lookup_cons, hx] at h'
        cases h'
        exact ⟨_, rfl, .inl rfl⟩
    | false =>
      simp only [List.lookup_cons, hx]
      by_cases hc : (k₀ == NameKind.free && sc.kind == .function && sc.names.lookup n == some .cell) = true
      · rw [if_pos hc] at h'
        simp only [List.lookup_cons, hx] at h'
        exact ih h'
      · rw [if_neg hc] at h'
        simp only [List.lookup_cons, hx] at h'
        exact ih h'
structure BlkOk (N : List Str) (sc scope : Scope) (own : List (Str × Nat)) : Prop where
  kind : scope.kind = .function
  uniq : ∀ y ∈ scope.names, scope.names.lookup y.1 = some y.2
  ix : ∀ p ∈ own, N[p.2]? = some p.1
  free : ∀ y ∈ scope.names, y.2 = .free -> sc.names.lookup y.1 = some .cell ∨ sc.names.lookup y.1 = some .free
  own : ∀ y ∈ scope.names, y.2 = .local ∨ y.2 = .cell -> y.1 ∈ own.map (·.1) ∨ y.1 ∉ N
def wipe (σ : St) : List Nat -> St
  | [] => σ
  | v :: vs => (wipe σ vs).set v none
theorem wipe_length (σ : St) : ∀ vs : List Nat, (wipe σ vs).length = σ.length
  | [] => rfl
  | v :: vs => by unfold wipe; rw [List.length_set, wipe_length σ vs]
theorem wipe_some {σ : St} {i : Nat} {x : V} : ∀ {vs : List Nat}, (wipe σ vs)[i]? = some (some x) -> σ[i]? = some (some x) /\ i ∉ vs
  | [], h => ⟨h, by simp⟩
  | v :: vs, h => by
    unfold wipe at h
    by_cases hi : v = i
    · subst hi
      by_cases hv : v < (wipe σ vs).length
      · rw [List.getElem?_set_self hv] at h; cases h
      · rw [List.getElem?_eq_none (by simpa using hv)] at h; cases h
    · rw [List.getElem?_set_ne hi] at h
      obtain ⟨h1, h2⟩ := wipe_some h
      exact ⟨h1, by simp only [List.mem_cons, not_or]; exact ⟨fun e => hi e.symm, h2⟩⟩
abbrev Cx.blk (X : Cx) (s : Shared) (H : Hp) (scope : Scope) (cenv : Env) (fp : List Addr) : Cx := { X with s_0 := s, H_0 := H, env := cenv, outer := X.stack, ex := fp, fn := fun x => scope.names.lookup x == some .cell, pn := [], xe := fun _ _ => False }
section
variable {X : Cx} {pins : List (Addr × Obj)} {σ : St} {H : Hp} {s : Shared}
theorem block_start {scope : Scope} {own : List (Str × Nat)} {fp : List Addr} (I : Inv X pins σ H s) (ok : BlkOk X.N X.env.scope scope own) (hN : X.N.Nodup) (hfp : ∀ b ∈ fp, FpOk X pins H b /\ b < s.heap.objs.size) :
    Inv (X.blk s H scope (compEnvC scope (cellsFrom (s.heap.objs.size + 1) scope.names (cloFrom X.env.cells scope.names [])) s.heap.objs.size X.env) fp) [] (wipe σ (own.map (·.2))) H { s with heap := pushCells (s.heap.push { cls := .type "dict", data := .dict #[] }) scope.names } := by
  have hfree : ∀ y ∈ scope.names, y.2 = .free -> ∃ c, X.env.cells.lookup y.1 = some c := fun y hy e => by
    rcases ok.free y hy e with k | k
    · exact I.ok.has _ (.inl k)
    · exact I.ok.has _ (.inr k)
  generalize hcenv : compEnvC scope (cellsFrom (s.heap.objs.size + 1) scope.names (cloFrom X.env.cells scope.names [])) s.heap.objs.size X.env = cenv
  have kp : ∀ b o, s.heap.get? b = some o -> (pushCells (s.heap.push { cls := .type "dict", data := .dict #[] }) scope.names).get? b = some o := fun b o e => pushCells_keeps _ _ _ _ (Heap.get?_push_of_some _ e)
  have hL : cenv.locals = s.heap.objs.size := by rw [← hcenv]; rfl
  have hcl : cenv.cells = cellsFrom (s.heap.objs.size + 1) scope.names (cloFrom X.env.cells scope.names []) := by rw [← hcenv]; rfl
  have hsc : cenv.scope = relS scope X.env.scope := by rw [← hcenv]; rfl
  rw [← Heap.size_push s.heap { cls := .type "dict", data := .dict #[] }] at hcl
  have cm : ∀ {y c}, (y, c) ∈ cloFrom X.env.cells scope.names [] -> X.env.cells.lookup y = some c /\ c < s.heap.objs.size := fun {y c} hm => by
    rcases cloFrom_mem hm with hm | ⟨h1, rfl⟩
    · cases hm
    · obtain ⟨c, hc⟩ := hfree _ h1 rfl
      rw [hc]
      obtain ⟨w, z⟩ := I.cell _ _ hc
      exact ⟨rfl, z.lt⟩
  have mem : ∀ {y c}, cenv.cells.lookup y = some c -> (X.env.cells.lookup y = some c /\ c < s.heap.objs.size) ∨ (s.heap.objs.size + 1 <= c /\ CellAt (pushCells (s.heap.push { cls := .type "dict", data := .dict #[] }) scope.names) c none) := fun {y c} e => by
    rw [hcl] at e
    rcases cells_mem (PySem.mem_of_lookup e) with hm | ⟨_, h2, h3⟩
    · exact .inl (cm hm)
    · rw [Heap.size_push] at h2; exact .inr ⟨h2, h3⟩
  have look : ∀ {y}, scope.names.lookup y = some .free -> ∃ c, cenv.cells.lookup y = some c /\ X.env.cells.lookup y = some c := fun {y} hl => by
    have hy : (y, NameKind.free) ∈ scope.names := PySem.mem_of_lookup hl
    obtain ⟨c', e'⟩ := mem_lookup (cells_acc (names := scope.names) (n := (s.heap.push { cls := .type "dict", data := .dict #[] }).objs.size) (cloFrom_has (cells := X.env.cells) (acc := []) hy))
    rw [← hcl] at e'
    refine ⟨c', e', ?_⟩
    rw [hcl] at e'
    rcases cells_mem (PySem.mem_of_lookup e') with hm | ⟨h1, _, _⟩
    · exact (cm hm).1
    · have := ok.uniq _ h1
      rw [hl] at this; cases this
  have okB : (X.blk s H scope cenv fp).Ok := by
    refine ⟨I.ok.mod, by show cenv.scope.kind = _; rw [hsc]; exact ok.kind, by show cenv.globals = _; rw [← hcenv]; exact I.ok.glob, by show cenv.builtins = _; rw [← hcenv]; exact I.ok.blt, by show s.heap.objs.size <= cenv.locals; rw [hL]; exact Nat.le_refl _,
      fun y z c e1 e2 => ?_, fun y hy => ?_, fun y c z e => ?_, I.ok.hd, I.ok.frames, .inl rfl, fun b hb => ⟨?_, fun y c e z => ?_⟩, I.bs, Nat.le_trans I.ok.bsz I.sz, fun b o e hb => ?_, fun b hb z => ?_, I.stack, I.stkFree⟩
    · have e1 : cenv.cells.lookup y = some c := e1
      have e2 : cenv.cells.lookup z = some c := e2
      rw [hcl] at e1 e2
      refine cells_inj (fun p hp => ?_) (fun y z c a b => I.ok.inj y z c (cm a).1 (cm b).1) (PySem.mem_of_lookup e1) (PySem.mem_of_lookup e2)
      rw [Heap.size_push]
      exact Nat.lt_succ_of_lt (cm (y := p.1) (c := p.2) hp).2
    · show ∃ c, cenv.cells.lookup y = some c
      have key : ∀ k, cenv.kindOf y = some k -> (k = .cell ∨ k = .free) -> ∃ c, cenv.cells.lookup y = some c := fun k hk hk' => by
        unfold Env.kindOf at hk
        rw [hsc] at hk
        obtain ⟨k', e, r⟩ := lookup_relS hk
        have : k' = .cell ∨ k' = .free := by
          rcases r with rfl | ⟨rfl, _⟩
          · exact hk'
          · exact .inr rfl
        rcases this with rfl | rfl
        · obtain ⟨c, hm⟩ := cells_has (n := (s.heap.push { cls := .type "dict", data := .dict #[] }).objs.size) (acc := cloFrom X.env.cells scope.names []) (PySem.mem_of_lookup e)
          obtain ⟨c', e'⟩ := mem_lookup hm
          exact ⟨c', by rw [hcl]; exact e'⟩
        · obtain ⟨c, h1, _⟩ := look e
          exact ⟨c, h1⟩
      rcases hy with hy | hy
      · exact key _ hy (.inl rfl)
      · exact key _ hy (.inr rfl)
    · have z : (scope.names.lookup y == some NameKind.cell) = true := z
      have z : scope.names.lookup y = some .cell := by simpa using z
      have e : cenv.cells.lookup y = some c := e
      rw [hcl] at e
      rcases cells_mem (PySem.mem_of_lookup e) with hm | ⟨_, h2, _⟩
      · rcases cloFrom_mem hm with hm | ⟨h1, _⟩
        · cases hm
        · have q := ok.uniq _ h1
          rw [z] at q; cases q
      · rw [Heap.size_push] at h2
        exact Nat.le_of_succ_le h2
    · show b ≠ cenv.locals
      rw [hL]; exact Nat.ne_of_lt (hfp b hb).2
    · have e : cenv.cells.lookup y = some c := e
      rcases mem e with ⟨h1, _⟩ | ⟨h1, _⟩
      · exact (hfp b hb).1.2.2.2.2.1 y c h1 z
      · have h2 : s.heap.objs.size + 1 <= b := by rw [← z]; exact h1
        exact absurd (Nat.lt_of_lt_of_le (hfp b hb).2 (Nat.le_of_succ_le h2)) (Nat.lt_irrefl _)
    · rcases (hfp b hb).1.2.2.2.1 with z | z
      · exact I.ok.noex b o e z
      · exact absurd (Nat.lt_of_lt_of_le (Heap.lt_size e) (Nat.le_trans I.ok.bsz z)) (Nat.lt_irrefl _)
    · rcases List.mem_cons.mp (I.stkSub b z) with z | z
      · exact (hfp b hb).1.2.1 z
      · exact (hfp b hb).1.2.2.1 z
  refine ⟨okB, rfl, I.bare, Un.kept kp, ⟨fun _ => none, ?_, fun i y av e1 e2 e3 => ?_⟩, fun y c e => ?_, ?_, fun y c e => ?_, fun p hp => ?_, I.hok.kept kp, by rw [wipe_length]; exact I.len⟩
  · show Heap.Ns _ cenv.locals _
    rw [hL]
    exact Heap.Ns.keeps (Heap.Ns.new ..) fun b o e => pushCells_keeps _ _ _ _ e
  · obtain ⟨e2, hne⟩ := wipe_some e2
    have hfr : scope.names.lookup y = some .free /\ (cenv.kindOf y = some .cell ∨ cenv.kindOf y = some .free) := by
      have key : ∀ k, cenv.scope.names.lookup y = some k -> k = .local ∨ k = .cell ∨ k = .free -> scope.names.lookup y = some .free /\ (cenv.kindOf y = some .cell ∨ cenv.kindOf y = some .free) := fun k hk hk' => by
        have hk0 := hk
        rw [hsc] at hk
        obtain ⟨k', e, r⟩ := lookup_relS hk
        have no : ¬ (k' = .local ∨ k' = .cell) := fun hh => by
          rcases ok.own _ (PySem.mem_of_lookup e) hh with e' | e'
          · obtain ⟨p, hp, hpy⟩ := List.mem_map.mp e'
            have e3 := ok.ix p hp
            have : p.1 = y := hpy
            rw [this] at e3
            exact hne (List.mem_map.mpr ⟨p, hp, nodup_ix hN e3 e1⟩)
          · exact e' (List.mem_of_getElem? e1)
        rcases r with rfl | ⟨rfl, rfl⟩
        · rcases hk' with rfl | rfl | rfl
          · exact absurd (.inl rfl) no
          · exact absurd (.inr rfl) no
          · exact ⟨e, .inr hk0⟩
        · exact ⟨e, .inl hk0⟩
      have e3 : Vis cenv.scope y := e3
      rcases e3 with e3 | e3 | e3
      · exact key _ e3 (.inl rfl)
      · exact key _ e3 (.inr (.inl rfl))
      · exact key _ e3 (.inr (.inr rfl))
    obtain ⟨m, hn, hl⟩ := I.loc
    have hvis : Vis X.env.scope y := (ok.free _ (PySem.mem_of_lookup hfr.1) rfl).elim (fun k => .inr (.inl k)) (fun k => .inr (.inr k))
    obtain ⟨w, r, q⟩ := hl i y av e1 e2 hvis
    refine ⟨w, r, .inr ⟨hfr.2, ?_⟩⟩
    obtain ⟨c, h1, h2⟩ := look hfr.1
    rcases q with ⟨k, _⟩ | ⟨_, c', e', z⟩
    · have k : X.env.scope.names.lookup y = some .local := k
      rcases ok.free _ (PySem.mem_of_lookup hfr.1) rfl with k' | k' <;> rw [show X.env.scope.names.lookup y = _ from k'] at k <;> cases k
    · rw [h2] at e'; cases e'
      exact ⟨c, h1, z.keeps kp⟩
  · have e : cenv.cells.lookup y = some c := e
    rcases mem e with ⟨h1, _⟩ | ⟨_, z⟩
    · obtain ⟨w, z⟩ := I.cell y c h1
      exact ⟨w, z.keeps kp⟩
    · exact ⟨_, z⟩
  · show H cenv.locals = none
    rw [hL]; exact I.hok.fresh (Nat.le_refl _)
  · have e : cenv.cells.lookup y = some c := e
    rcases mem e with ⟨h1, _⟩ | ⟨h1, _⟩
    · exact I.freeC y c h1
    · exact I.hok.fresh (Nat.le_of_succ_le h1)
  · exact absurd (show p ∈ ([] : List (Addr × Obj)) ++ [] from hp) (by simp)
theorem app_ok {E : Value -> Shared -> Prop} {D : Addr} {xs : List V} {y : V} {v : Value} {Q : Value -> Shared -> Prop} (I : Inv X pins σ H s) (hD : H D = some (.lst xs)) (hz : xs.length < sizeLine) (r : RelV y v)
    (h : ∀ s', Inv X pins σ (upd H D (.lst (xs ++ [y]))) s' -> Q .none s') : wpAny (model X.prog X.w) X.A (call (.builtin "list.append") [.ref D, v]) Q E s := by
  obtain ⟨hz', its, n, ri, e⟩ := I.hok D _ hD
  have hl := ri.length
  refine append_at (hsz := by rw [List.size_toArray]; omega) e fun h' sb ho' => ?_
  refine h { s with heap := h' } (I.write (t' := s.toks) (by rw [hD]; trivial) (.inl rfl) (fun b u hb q => (sb.2 b hb).trans q) ⟨_, ho'⟩ ⟨by rw [List.length_append]; exact hz, its ++ [v], n + 1, ri.append (.cons r .nil), ?_⟩)
  rw [ho']
  simp
def PTs (X : Cx) (ifs : List Expr) (t : TT) : Prop :=
  ∀ (pins : List (Addr × Obj)) (s : Shared) (σ : St) (H : Hp) (Q : Bool -> Hp -> Prop), Inv X pins σ H s -> t σ H Q ->
    wpAny (model X.prog X.w) X.A (forIn ifs true fun c r => if r = true then do let ok ← isTrue c X.env (eval c X.env); pure (ForInStep.yield ok) else pure (ForInStep.yield r)) (TP X pins σ Q) X.xe s
def tYes : TT := fun _ H Q => Q true H
theorem pts_nil : PTs X [] tYes := fun _ _ _ H _ I h => wpAny_tests_nil ⟨H, I, h⟩
end
theorem thnF {α : Type} {t : Sem α} {Q Q' : α -> Shared -> Prop} {M : Model} {A : Around} {E : Value -> Shared -> Prop} {s : Shared} (h : wpAny M A t Q (fun _ _ => False) s) (hQ : ∀ a s, Q a s -> Q' a s) : wpAny M A t Q' E s := wpAny_mono h hQ fun _ _ z => False.elim z
theorem compLoop_any {prog : Program} {w : World} {A : Around} {R : Result -> Shared -> Prop} {s : Shared} {elt target iter : Expr} {ifs : List Expr} {scope : Scope} {pos : Pos} {it acc : Value} {env : Env} (I : Nat -> Shared -> Prop)
    (turn : ∀ n s, I n s -> wpAny (model prog w) A (pyNext it) (fun r s₁ => match r with
      | none => R (.ok .next) s₁
      | some v => wpAny (model prog w) A (letOwnedTupleGo target it v) (fun _ s₁' => wpAny (model prog w) A (assign target env v) (fun _ s₂ =>
          wpAny (model prog w) A (forIn ifs true fun c r => if r = true then do let ok ← isTrue c env (eval c env); pure (ForInStep.yield ok) else pure (ForInStep.yield r)) (fun ok s₃ =>
            if ok = true then wpAny (model prog w) A (eval elt env) (fun x s₄ =>
              wpAny (model prog w) A (call (.builtin "list.append") [acc, x]) (fun _ s₅ => ∃ m, m < n /\ I m s₅) (notedBy (model prog w) A env fun e s' => R (.error e) s') s₄) (notedBy (model prog w) A env fun e s' => R (.error e) s') s₃
            else ∃ m, m < n /\ I m s₃) (notedBy (model prog w) A env fun e s' => R (.error e) s') s₂) (notedBy (model prog w) A env fun e s' => R (.error e) s') s₁') (notedBy (model prog w) A env fun e s' => R (.error e) s') s₁) (notedBy (model prog w) A env fun e s' => R (.error e) s') s)
    (n : Nat) (h : I n s) :
    codeAny (model prog w) A (.compLoop (.ListComp elt [⟨target, iter, ifs, 0⟩] scope pos) 0 it acc env) R s := by
  refine codeAny_loop rfl I (fun n s hI => ?_) n h
  show wpAny _ A ((compTurn (.ListComp elt [⟨target, iter, ifs, 0⟩] scope pos) 0 it acc env).onRaise (fun x => do noteFrame x env; theTreesLotGoes x)) _ _ s
  refine wpAny_noted ?_
  rw [compTurn_list]
  refine wpAny_bind (wpAny_standAt (wpAny_bind (wpAny_mono (turn n s hI) (fun r s₁ h₁ => ?_) fun _ _ h' => h')))
  cases r with
  | none => exact wpAny_pure h₁
  | some v =>
    refine wpAny_bind (wpAny_mono h₁ (fun _ s₁' h₁' => ?_) fun _ _ h' => h')
    refine wpAny_bind (wpAny_mono h₁' (fun _ s₂ h₂ => wpAny_bind (wpAny_mono h₂ (fun ok s₃ h₃ => ?_) fun _ _ h' => h')) fun _ _ h' => h')
    cases ok with
    | false => exact wpAny_pure ⟨rfl, h₃⟩
    | true =>
      exact wpAny_bind (wpAny_bind (wpAny_mono h₃ (fun x s₄ h₄ => wpAny_bind (wpAny_mono h₄ (fun _ s₅ h₅ => wpAny_pure (wpAny_pure ⟨rfl, h₅⟩)) fun _ _ h' => h')) fun _ _ h' => h'))
section
variable {X : Cx}
def tLc (wi : TI) (g : TG) (tt : TT) (te : TE) (vs : List Nat) : TE := fun σ H Q => wi σ H fun J H1 => ∀ D, H1 D = none -> ∃ W : Nat -> Nat -> Hp -> Prop, (∃ m, W 0 m (upd H1 D (.lst []))) /\ ∀ i m H, W i m H ->
  (J.stop i H /\ Q (.ref D) H) ∨ (J.go i H /\ ∃ Nx : Hp -> Prop, (∀ H', Nx H' -> ∃ m', m' < m /\ W (i + 1) m' H') /\ ∀ x H', J.yld i H x H' -> g x (wipe σ vs) H' fun σ2 H2 => wipe σ2 vs = wipe σ vs /\ tt σ2 H2 fun b H3 =>
    if b = true then te σ2 H3 fun y H4 => ∃ acc, H4 D = some (.lst acc) /\ acc.length < sizeLine /\ Nx (upd H4 D (.lst (acc ++ [y]))) else Nx H3)
theorem lc_core {pins : List (Addr × Obj)} {s : Shared} {σ : St} {H : Hp} {Q : VK} {elt tg iter : Expr} {ifs : List Expr} {scope : Scope} {own : List (Str × Nat)} {pos pos' : Pos} {wi : TI} {g : TG} {tt : TT} {te : TE} {use : Option (Value -> Sem Unit)} {Qf : Value -> Shared -> Prop}
    (hc : X.calm = true) (hN : X.N.Nodup) (I : Inv X pins σ H s) (hi : PI X tg iter wi) (ok : BlkOk X.N X.env.scope scope own)
    (hg : ∀ (s : Shared) (H : Hp) (C : Addr) (cl : List (Str × Addr)) (fp : List Addr), PG (X.blk s H scope (compEnvC scope cl C X.env) fp) tg g) (ht : ∀ (s : Shared) (H : Hp) (C : Addr) (cl : List (Str × Addr)) (fp : List Addr), PTs (X.blk s H scope (compEnvC scope cl C X.env) fp) ifs tt)
    (he : ∀ (s : Shared) (H : Hp) (C : Addr) (cl : List (Str × Addr)) (fp : List Addr), PE (X.blk s H scope (compEnvC scope cl C X.env) fp) elt te) (hs : ∀ x, foldedSetIterable iter X.env x = pure x)
    (h : tLc wi g tt te (own.map (·.2)) σ H Q)
    (hRR : ∀ D C s' m H', Inv X pins σ H' s' -> Q (.ref D) H' -> s'.heap.Ns C m -> FpOk X pins H' C -> compPost (model X.prog X.w) X.A X.xe use Qf (.ref D) C (.ok .next) s') :
    wpAny (model X.prog X.w) X.A (comprehension (.ListComp elt [⟨tg, iter, ifs, 0⟩] scope pos) scope X.env pos' (newList []) false (eval iter X.env) use) Qf X.xe s := by
  have hfree : ∀ y ∈ scope.names, y.2 = .free -> ∃ c, X.env.cells.lookup y.1 = some c := fun y hy e => by
    rcases ok.free y hy e with k | k
    · exact I.ok.has _ (.inl k)
    · exact I.ok.has _ (.inr k)
  refine wpAny_comprehension_free (use := use) rfl hs (closure_ok hfree) ok.kind (fun y hy e => by rw [ok.uniq y hy, e])
    (thn (hi pins s σ H _ I h) fun xv s1 hx => thn hx fun itv s2 h2 => ?_)
  obtain ⟨it, fp, tn, J, H2, e, I2, T, st2, f2, q⟩ := h2
  subst e
  refine wpAny_newObj_type (newEnv_comp ?_) (by show 0 <= sizeLine; decide)
  generalize hD : s2.heap.objs.size = D
  have hDn : H2 D = none := I2.hok.fresh (Nat.le_of_eq hD)
  obtain ⟨W, ⟨m0, w0⟩, turn⟩ := q D hDn
  -- the new list
  generalize hs3 : ({ s2 with heap := s2.heap.push { cls := .type "list", data := .seq ([] : List Value).toArray } } : Shared) = s3
  have I3 : Inv X pins σ (upd H2 D (.lst [])) s3 := by
    rw [← hs3]
    refine I2.laid (t' := s2.toks) (fun b o e => Heap.get?_push_of_some _ e) (Nat.le_of_eq hD) ⟨Nat.zero_le _, [], 0, .nil, ?_⟩
    rw [← hD]
    exact Heap.get?_push_size _ rfl
  have h3 : s3.heap = s2.heap.push { cls := .type "list", data := .seq ([] : List Value).toArray } := by rw [← hs3]
  have sz : ∀ b ∈ fp, b < s2.heap.objs.size := fun b hb => by
    obtain ⟨o, e, _⟩ := T.obj _ _ st2 b hb
    exact Heap.lt_size e
  have f3 : ∀ b ∈ fp, FpOk X pins (upd H2 D (.lst [])) b /\ b < s3.heap.objs.size := fun b hb => by
    have hlt := sz b hb
    refine ⟨⟨?_, (f2 b hb).2⟩, by rw [h3, Heap.size_push]; exact Nat.lt_succ_of_lt hlt⟩
    rw [upd_ne (by rw [← hD]; exact Nat.ne_of_lt hlt)]
    exact (f2 b hb).1
  have st3 : tn 0 s3.heap := T.keep _ _ _ st2 fun b _ o e => by rw [h3]; exact Heap.get?_push_of_some _ e
  have I4 := block_start I3 ok hN f3
  have pg := hg s3 (upd H2 D (.lst [])) s3.heap.objs.size (cellsFrom (s3.heap.objs.size + 1) scope.names (cloFrom X.env.cells scope.names [])) fp
  have pt := ht s3 (upd H2 D (.lst [])) s3.heap.objs.size (cellsFrom (s3.heap.objs.size + 1) scope.names (cloFrom X.env.cells scope.names [])) fp
  have pe := he s3 (upd H2 D (.lst [])) s3.heap.objs.size (cellsFrom (s3.heap.objs.size + 1) scope.names (cloFrom X.env.cells scope.names [])) fp
  show codeAny _ _ (.compStart (.ListComp elt [⟨tg, iter, ifs, 0⟩] scope pos) 0 (.ref it) (.ref D) (compEnvC scope (cellsFrom (s3.heap.objs.size + 1) scope.names (cloFrom X.env.cells scope.names [])) s3.heap.objs.size X.env)) (compPost (model X.prog X.w) X.A X.xe use Qf (.ref D) s3.heap.objs.size) { s3 with heap := pushCells (s3.heap.push { cls := .type "dict", data := .dict #[] }) scope.names }
  have nfp : ∀ b ∈ fp, (upd H2 D (.lst [])) b = none := fun b hb => (f3 b hb).1.1
  generalize hce : compEnvC scope (cellsFrom (s3.heap.objs.size + 1) scope.names (cloFrom X.env.cells scope.names [])) s3.heap.objs.size X.env = ce at I4 pg pt pe ⊢
  have cL : ce.locals = s3.heap.objs.size := by subst hce; rfl
  generalize hH3 : upd H2 D (.lst []) = H3 at I3 I4 pg pt pe w0 nfp f3
  generalize hs4 : ({ s3 with heap := pushCells (s3.heap.push { cls := .type "dict", data := .dict #[] }) scope.names } : Shared) = s4 at I4 ⊢
  have st4 : tn 0 s4.heap := T.keep _ _ _ st3 fun b _ o e => by rw [← hs4]; exact pushCells_keeps _ _ _ _ (Heap.get?_push_of_some _ e)
  have stat : ∀ {σ' : St} {H' : Hp} {s' : Shared}, Inv (X.blk s3 H3 scope ce fp) [] σ' H' s' -> (∀ b ∈ fp, H' b = none) -> ∀ b ∈ fp, FpOk (X.blk s3 H3 scope ce fp) [] H' b := fun {σ' H' s'} I' hn b hb =>
    ⟨hn b hb, (I'.ok.exf b hb).1, I'.ok.exfs b hb, .inl hb, fun x c e => (I'.ok.exf b hb).2 x c e, fun p hp => absurd (show p ∈ ([] : List (Addr × Obj)) ++ [] from hp) (by simp)⟩
  have loop : codeAny (model X.prog X.w) X.A (.compLoop (.ListComp elt [⟨tg, iter, ifs, 0⟩] scope pos) 0 (.ref it) (.ref D) ce) (compPost (model X.prog X.w) X.A X.xe use Qf (.ref D) s3.heap.objs.size) s4 := by
    refine compLoop_any (fun n s' => ∃ i H', Inv (X.blk s3 H3 scope ce fp) [] (wipe σ (own.map (·.2))) H' s' /\ tn i s'.heap /\ (∀ b ∈ fp, H' b = none) /\ W i n H') ?_ m0 ⟨0, H3, I4, st4, nfp, w0⟩
    rintro n s5 ⟨i, H5, I5, st5, n5, w5⟩
    rcases turn i n H5 w5 with ⟨stop, qq⟩ | ⟨go, Nx, hNx, step⟩
    · have td := T.done (X.blk s3 H3 scope ce fp) rfl rfl rfl hc i [] s5 _ H5 (fun _ _ => False) I5 (stat I5 n5) st5 stop
      refine thnF td fun r s6 ⟨hr, I6⟩ => ?_
      subst hr
      -- back in the def's context
      have I7 : Inv X pins σ H5 s6 := I3.call' (ch := fp) I6.os I6.base I6.hok I6.bare fun b hb => ⟨(f3 b hb).1.2.2.2.1, (f3 b hb).1.2.1, (f3 b hb).1.2.2.2.2.1, (f3 b hb).1.2.2.2.2.2⟩
      have nC : H5 s3.heap.objs.size = none := by
        have z : H5 ce.locals = none := I6.free
        rw [cL] at z
        exact z
      obtain ⟨m, hn, _⟩ := I6.loc
      have hn : s6.heap.Ns ce.locals m := hn
      rw [cL] at hn
      exact hRR D s3.heap.objs.size s6 m H5 I7 qq hn (I3.fpOk (Nat.le_refl _) nC)
    · have ti := T.item (X.blk s3 H3 scope ce fp) rfl rfl rfl hc i [] s5 _ H5 (fun _ _ => False) I5 (stat I5 n5) st5 go
      refine thnF ti fun r s6 ⟨u, hr, h6⟩ => ?_
      subst hr
      refine thnF h6 fun _ s7 ⟨x, H7, I7, r7, y7, st7, n7⟩ => ?_
      have I7' := I7.pinned (stat I7 n7) (T.obj _ _ st7)
      refine thnF (pg _ s7 _ H7 x u _ I7' r7 (step x H7 y7)) fun _ s8 ⟨σ8, H8, I8, hw8, q8⟩ => ?_
      refine thnF (pt _ s8 σ8 H8 _ I8 q8) fun b s9 ⟨H9, I9, q9⟩ => ?_
      -- the turn's end
      have fin : ∀ {s' : Shared} {H' : Hp}, Inv (X.blk s3 H3 scope ce fp) ([] ++ pinsAt fp s7.heap) σ8 H' s' -> Nx H' -> ∃ m, m < n /\ ∃ i H', Inv (X.blk s3 H3 scope ce fp) [] (wipe σ (own.map (·.2))) H' s' /\ tn i s'.heap /\ (∀ b ∈ fp, H' b = none) /\ W i m H' := fun {s' H'} I' nx => by
        obtain ⟨m', hm, w'⟩ := hNx H' nx
        have pin' : ∀ b ∈ fp, ∀ o, s7.heap.get? b = some o -> s'.heap.get? b = some o /\ H' b = none := fun b hb o e =>
          let z := I'.pin (b, o) (List.mem_append_right _ (List.mem_append_right _ (mem_pinsAt hb e)))
          ⟨z.1, z.2.1⟩
        have hl : (wipe σ (own.map (·.2))).length = σ8.length := by rw [← hw8, wipe_length]
        refine ⟨m', hm, i + 1, H', (I'.unpinned (pins := [])).weak hl (fun j v e => ?_), T.keep _ _ _ st7 fun b hb o e => (pin' b hb o e).1, fun b hb => ?_, w'⟩
        · rw [← hw8] at e
          exact (wipe_some e).1
        · obtain ⟨o, e, _⟩ := T.obj _ _ st7 b hb
          exact (pin' b hb o e).2
      cases b with
      | false =>
        simp only [Bool.false_eq_true, if_false] at q9 ⊢
        exact fin I9 q9
      | true =>
        simp only [if_true] at q9 ⊢
        refine thnF (pe _ s9 σ8 H9 _ I9 q9) fun z s10 ⟨yv, H10, I10, r10, acc, hD10, hz10, nx⟩ => ?_
        exact app_ok (X := X.blk s3 H3 scope ce fp) I10 hD10 hz10 r10 fun s11 I11 => fin I11 nx
  exact codeAny_compStart_list loop (T.self X.A 0 _ _ _ st4 loop)
theorem pe_lc {elt tg iter : Expr} {ifs : List Expr} {scope : Scope} {own : List (Str × Nat)} {pos : Pos} {wi : TI} {g : TG} {tt : TT} {te : TE} (hc : X.calm = true) (hN : X.N.Nodup) (hi : PI X tg iter wi) (ok : BlkOk X.N X.env.scope scope own)
    (hg : ∀ (s : Shared) (H : Hp) (C : Addr) (cl : List (Str × Addr)) (fp : List Addr), PG (X.blk s H scope (compEnvC scope cl C X.env) fp) tg g) (ht : ∀ (s : Shared) (H : Hp) (C : Addr) (cl : List (Str × Addr)) (fp : List Addr), PTs (X.blk s H scope (compEnvC scope cl C X.env) fp) ifs tt)
    (he : ∀ (s : Shared) (H : Hp) (C : Addr) (cl : List (Str × Addr)) (fp : List Addr), PE (X.blk s H scope (compEnvC scope cl C X.env) fp) elt te) (hs : ∀ x, foldedSetIterable iter X.env x = pure x := by intro _; rfl) :
    PE X (.ListComp elt [⟨tg, iter, ifs, 0⟩] scope pos) (tLc wi g tt te (own.map (·.2))) := by
  intro pins s σ H Q I h
  rw [eval_ListComp]
  refine lc_core hc hN I hi ok hg ht he hs h fun D C s' m H' I' q hn f => ⟨m, hn, fun h'' sb => ?_⟩
  obtain ⟨f0, f1, f2, f3, f4, f5⟩ := f
  exact ⟨.ref D, H', I'.turned (t' := s'.toks) (fun b o hb e => (sb.2 b hb).trans e) f0 f1 f3 f4 f5, rfl, q⟩
theorem ps_setLc {i : Nat} {y : Str} {py : Pos} {elt tg iter : Expr} {ifs : List Expr} {scope : Scope} {own : List (Str × Nat)} {pos spos : Pos} {wi : TI} {g : TG} {tt : TT} {te : TE} (hc : X.calm = true) (hN : X.N.Nodup) (hy : X.N[i]? = some y) (hyl : X.env.scope.names.lookup y = some .local)
    (hsw : swapsWith (.ListComp elt [⟨tg, iter, ifs, 0⟩] scope pos) (some (.Name y py)) spos.line X.env = pure true) (hi : PI X tg iter wi) (ok : BlkOk X.N X.env.scope scope own)
    (hg : ∀ (s : Shared) (H : Hp) (C : Addr) (cl : List (Str × Addr)) (fp : List Addr), PG (X.blk s H scope (compEnvC scope cl C X.env) fp) tg g) (ht : ∀ (s : Shared) (H : Hp) (C : Addr) (cl : List (Str × Addr)) (fp : List Addr), PTs (X.blk s H scope (compEnvC scope cl C X.env) fp) ifs tt)
    (he : ∀ (s : Shared) (H : Hp) (C : Addr) (cl : List (Str × Addr)) (fp : List Addr), PE (X.blk s H scope (compEnvC scope cl C X.env) fp) elt te) (hs : ∀ x, foldedSetIterable iter X.env x = pure x := by intro _; rfl) :
    PS X (.Assign [.Name y py] (.ListComp elt [⟨tg, iter, ifs, 0⟩] scope pos) spos) (tAsg (tLc wi g tt te (own.map (·.2))) (gName i)) := by
  intro pins s σ H D I h
  rw [exec_Assign_Name_used _ _ _ _ hsw]
  refine wpAny_bind (wpAny_standAt (wpAny_bind ?_))
  show wpAny _ X.A (do let _ ← comprehension (.ListComp elt [⟨tg, iter, ifs, 0⟩] scope pos) scope X.env (firstIterPos [⟨tg, iter, ifs, 0⟩] pos) (newList []) false (eval iter X.env) (some (assign (.Name y py) X.env))) _ _ s
  have h : tLc wi g tt te (own.map (·.2)) σ H (fun x H1 => gName i x σ H1 D.nx) := h
  refine wpAny_bind (thn (lc_core (Qf := fun _ s' => SP X pins D .next s') hc hN I hi ok hg ht he hs h fun L C s' m H' I' q hn f => ?_) fun _ s' hq => wpAny_pure (wpAny_pure hq))
  show wpAny _ _ (assign (.Name y py) X.env (.ref L)) _ _ _
  refine wpAny_assign_Name (store_ok2 (v := V.ref L) I' hN hy (.inl hyl) rfl (fun s2 I2 ⟨a, sb, ha⟩ => ?_) (.inr hyl))
  obtain ⟨f0, f1, f2, f3, f4, f5⟩ := f
  have haC : C ≠ a := by
    rcases ha with z | z
    · rw [z]; exact f1
    · exact fun e => f4 y a z e.symm
  refine ⟨m, hn.sameBut sb haC, fun h3 sb3 => ?_⟩
  exact ⟨_, H', I2.turned (t' := s2.toks) (fun b o hb e => (sb3.2 b hb).trans e) f0 f1 f3 f4 f5, q⟩
end
theorem lc_list {K : PySem.W.Frag} {a : Addr} {xs : List V} {g : TG} {tt : TT} {te : TE} {vs : List Nat} {σ : St} {H1 : Hp} {D : Addr} {Qd : Hp -> Prop} (Pv : Nat -> Hp -> Prop) (h0 : Pv 0 (upd H1 D (.lst []))) (hl : ∀ i H, i <= xs.length -> Pv i H -> SqL K H a xs)
    (hs : ∀ i x H, xs[i]? = some x -> Pv i H -> g x (wipe σ vs) H fun σ2 H2 => wipe σ2 vs = wipe σ vs /\ tt σ2 H2 fun b H3 =>
      if b = true then te σ2 H3 fun y H4 => ∃ acc, H4 D = some (.lst acc) /\ acc.length < sizeLine /\ Pv (i + 1) (upd H4 D (.lst (acc ++ [y]))) else Pv (i + 1) H3) (hd : ∀ H, Pv xs.length H -> Qd H) :
    ∃ W : Nat -> Nat -> Hp -> Prop, (∃ m, W 0 m (upd H1 D (.lst []))) /\ ∀ i m H, W i m H ->
      ((Itl K a).stop i H /\ Qd H) ∨ ((Itl K a).go i H /\ ∃ Nx : Hp -> Prop, (∀ H', Nx H' -> ∃ m', m' < m /\ W (i + 1) m' H') /\ ∀ x H', (Itl K a).yld i H x H' -> g x (wipe σ vs) H' fun σ2 H2 => wipe σ2 vs = wipe σ vs /\ tt σ2 H2 fun b H3 =>
        if b = true then te σ2 H3 fun y H4 => ∃ acc, H4 D = some (.lst acc) /\ acc.length < sizeLine /\ Nx (upd H4 D (.lst (acc ++ [y]))) else Nx H3) := by
  refine ⟨fun i m H => m = xs.length - i /\ i <= xs.length /\ Pv i H, ⟨xs.length, by simp, Nat.zero_le _, h0⟩, ?_⟩
  rintro i m H ⟨rfl, hi, p⟩
  have q := hl i H hi p
  by_cases hlt : i < xs.length
  · refine .inr ⟨⟨xs, xs[i], q, by simp [hlt]⟩, Pv (i + 1), fun H' p' => ⟨xs.length - (i + 1), by omega, rfl, hlt, p'⟩, fun x H' y => ?_⟩
    obtain ⟨e, y⟩ := y
    subst e
    exact hs i x _ (y xs q) p
  · have e : i = xs.length := by omega
    subst e
    exact .inl ⟨⟨xs, q, Nat.le_refl _⟩, hd H p⟩
def blkC (N : List Str) (sc scope : Scope) (own : List (Str × Nat)) : Bool :=
  (match scope.kind with | .function => true | _ => false) && (scope.names.all fun y => decide (scope.names.lookup y.1 = some y.2)) && (own.all fun p => decide (N[p.2]? = some p.1)) &&
    (scope.names.all fun y => match y.2 with
      | .free => (match sc.names.lookup y.1 with | some .cell => true | some .free => true | _ => false)
      | .local => decide (y.1 ∈ own.map (·.1)) || decide (y.1 ∉ N)
      | .cell => decide (y.1 ∈ own.map (·.1)) || decide (y.1 ∉ N)
      | _ => true)
theorem blkOk_by {N : List Str} {sc scope : Scope} {own : List (Str × Nat)} (h : blkC N sc scope own = true) : BlkOk N sc scope own := by
  unfold blkC at h
  simp only [Bool.and_eq_true, List.all_eq_true, decide_eq_true_eq] at h
  obtain ⟨⟨⟨h1, h2⟩, h3⟩, h4⟩ := h
  refine ⟨?_, h2, h3, fun y hy e => ?_, fun y hy e => ?_⟩
  · split at h1
    · assumption
    · cases h1
  · have q := h4 y hy
    simp only [e] at q
    split at q <;> first | exact .inl (by assumption) | exact .inr (by assumption) | cases q
  · have q := h4 y hy
    rcases e with e | e <;> (simp only [e, Bool.or_eq_true, decide_eq_true_eq] at q; exact q)
end L2
namespace L2
open PySem PySem.Spec PyProof.Rows
section
variable {κ : Type} [DecidableEq κ]
def valV (kvs : List (κ × V)) (k : κ) : Option V := (kvs.find? fun kv => decide (kv.1 = k)).map (·.2)
def putK (kvs : List (κ × V)) (k : κ) (v : V) : List (κ × V) :=
  if (kvs.any fun kv => decide (kv.1 = k)) = true then kvs.map (fun kv => if kv.1 = k then (kv.1, v) else kv) else kvs ++ [(k, v)]
theorem valV_nil {k : κ} : valV ([] : List (κ × V)) k = none := rfl
theorem valV_pos {p : κ × V} {r : List (κ × V)} {k : κ} (e : p.1 = k) : valV (p :: r) k = some p.2 := by simp [valV, List.find?_cons, e]
theorem valV_neg {p : κ × V} {r : List (κ × V)} {k : κ} (e : ¬ p.1 = k) : valV (p :: r) k = valV r k := by simp [valV, List.find?_cons, e]
theorem valV_any (k : κ) : ∀ kvs : List (κ × V), (kvs.any fun kv => decide (kv.1 = k)) = (valV kvs k).isSome
  | [] => rfl
  | p :: r => by
    rw [List.any_cons]
    by_cases e : p.1 = k
    · simp only [valV_pos e, decide_eq_true e, Bool.true_or, Option.isSome_some]
    · rw [valV_neg e, decide_eq_false e, Bool.false_or]; exact valV_any k r
theorem length_putK (kvs : List (κ × V)) (k : κ) (v : V) : (putK kvs k v).length <= kvs.length + 1 := by
  unfold putK
  split
  · rw [List.length_map]; omega
  · rw [List.length_append, List.length_cons, List.length_nil]; omega
theorem putK_new {kvs : List (κ × V)} {k : κ} (v : V) (h : valV kvs k = none) : putK kvs k v = kvs ++ [(k, v)] := by
  unfold putK
  rw [valV_any, h]
  exact if_neg (by decide)
theorem RelO.isSome_eq {o : Option V} {u : Option Value} (r : RelO o u) : o.isSome = u.isSome := by
  cases o with
  | none => cases u with
    | none => rfl
    | some _ => exact (show False from r).elim
  | some _ => cases u with
    | none => exact (show False from r).elim
    | some _ => rfl
theorem KV.val {kvs : List (κ × V)} {vs : List (κ × Value)} (r : KV kvs vs) (k : κ) : RelO (valV kvs k) (valueAt vs k) := by
  unfold KV at r
  induction r with
  | nil => exact True.intro
  | @cons p q ps qs h t ih =>
    obtain ⟨h1, h2⟩ := h
    by_cases e : p.1 = k
    · have e' : q.1 = k := h1.symm.trans e
      have b : valueAt (q :: qs) k = some q.2 := by simp [valueAt, List.find?_cons, e']
      rw [valV_pos e, b]; exact h2
    · have e' : ¬ q.1 = k := fun z => e (h1.trans z)
      have b : valueAt (q :: qs) k = valueAt qs k := by simp [valueAt, List.find?_cons, e']
      rw [valV_neg e, b]; exact ih
theorem KV.any {kvs : List (κ × V)} {vs : List (κ × Value)} (r : KV kvs vs) (k : κ) : (kvs.any fun kv => decide (kv.1 = k)) = vs.any fun kv => decide (kv.1 = k) := by
  unfold KV at r
  induction r with
  | nil => rfl
  | cons h t ih => rw [List.any_cons, List.any_cons, ih, h.1]
theorem KV.repl {kvs : List (κ × V)} {vs : List (κ × Value)} (r : KV kvs vs) (k : κ) {y : V} {u : Value} (ry : RelV y u) :
    KV (kvs.map fun kv => if kv.1 = k then (kv.1, y) else kv) (vs.map fun kv => if kv.1 = k then (kv.1, u) else kv) := by
  unfold KV at r ⊢
  induction r with
  | nil => exact .nil
  | @cons p q ps qs h t ih =>
    rw [List.map_cons, List.map_cons]
    refine .cons ?_ ih
    obtain ⟨h1, h2⟩ := h
    by_cases e : p.1 = k
    · rw [if_pos e, if_pos (h1.symm.trans e)]; exact ⟨h1, ry⟩
    · rw [if_neg e, if_neg (fun z => e (h1.trans z))]; exact ⟨h1, h2⟩
theorem KV.put {kvs : List (κ × V)} {vs : List (κ × Value)} (r : KV kvs vs) (k : κ) {y : V} {u : Value} (ry : RelV y u) : KV (putK kvs k y) (stored vs k u) := by
  unfold putK stored
  rw [r.any k]
  by_cases e : (vs.any fun kv => decide (kv.1 = k)) = true
  · rw [if_pos e, if_pos e]; exact r.repl k ry
  · rw [if_neg e, if_neg e]; exact Paired.snoc r ⟨rfl, ry⟩
theorem KV.length {kvs : List (κ × V)} {vs : List (κ × Value)} (r : KV kvs vs) : kvs.length = vs.length := Paired.length r
end
theorem kV_is {P : Program} {w : World} {k : Key} {u : Value} (r : RelV (kV k) u) : (mixKind P w).is k u = true := by
  cases k with
  | inl i => obtain ⟨t, e⟩ := (show ∃ t, u = Value.int i t from r); subst e; exact mixKind_int P w i t
  | inr x => obtain ⟨t, e⟩ := (show ∃ t, u = Value.str x t from r); subst e; exact mixKind_str P w x t
theorem items_are {P : Program} {w : World} : ∀ {ks : List Key} {us : List Value}, Vals (ks.map kV) us -> ItemsAre (mixKind P w) ks us
  | [], _, r => by rw [List.map_nil] at r; cases r; exact .nil
  | k :: ks, _, r => by
    rw [List.map_cons] at r
    cases r with
    | cons h t => exact .cons (kV_is h) (items_are t)
abbrev KT (H : Hp) : List (List Key × V) -> List (List Key × Addr × Value) -> Prop := Paired fun p q => p.1 = q.1 /\ H q.2.1 = some (.tup (p.1.map kV)) /\ RelV p.2 q.2.2
theorem KT.val {H : Hp} {kvs : List (List Key × V)} {xs : List (List Key × Addr × Value)} (r : KT H kvs xs) (k : List Key) : RelO (valV kvs k) ((atKey xs k).map (·.2)) := by
  induction r with
  | nil => exact True.intro
  | @cons p q ps qs h t ih =>
    obtain ⟨h1, _, h2⟩ := h
    by_cases e : p.1 = k
    · have e' : q.1 = k := h1.symm.trans e
      have b : atKey (q :: qs) k = some q.2 := by simp [atKey, List.find?_cons, e']
      rw [valV_pos e, b]; exact h2
    · have e' : ¬ q.1 = k := fun z => e (h1.trans z)
      have b : atKey (q :: qs) k = atKey qs k := by simp [atKey, List.find?_cons, e']
      rw [valV_neg e, b]; exact ih
theorem KT.repl {H : Hp} {kvs : List (List Key × V)} {xs : List (List Key × Addr × Value)} (r : KT H kvs xs) (k : List Key) {y : V} {u : Value} (ry : RelV y u) :
    KT H (kvs.map fun kv => if kv.1 = k then (kv.1, y) else kv) (xs.map (putAt k u)) := by
  induction r with
  | nil => exact .nil
  | @cons p q ps qs h t ih =>
    rw [List.map_cons, List.map_cons]
    refine .cons ?_ ih
    obtain ⟨h1, h2, h3⟩ := h
    unfold putAt
    by_cases e : p.1 = k
    · rw [if_pos e, if_pos (h1.symm.trans e)]; exact ⟨h1, h2, ry⟩
    · rw [if_neg e, if_neg (fun z => e (h1.trans z))]; exact ⟨h1, h2, h3⟩
theorem KT.put {H : Hp} {kvs : List (List Key × V)} {xs : List (List Key × Addr × Value)} (r : KT H kvs xs) (k : List Key) {b : Addr} {y : V} {u : Value} (hb : H b = some (.tup (k.map kV))) (ry : RelV y u) :
    KT H (putK kvs k y) (storedH xs k b u) := by
  have e : (kvs.any fun kv => decide (kv.1 = k)) = (atKey xs k).isSome := by
    rw [valV_any, (r.val k).isSome_eq, Option.isSome_map]
  unfold putK storedH
  rw [e]
  by_cases q : (atKey xs k).isSome = true
  · rw [if_pos q, if_pos q]; exact r.repl k ry
  · rw [if_neg q, if_neg q]; exact Paired.snoc r ⟨rfl, hb, ry⟩
theorem KT.keeps {H H' : Hp} {kvs : List (List Key × V)} {xs : List (List Key × Addr × Value)} (r : KT H kvs xs) (ht : ∀ b ys, H b = some (.tup ys) -> H' b = some (.tup ys)) : KT H' kvs xs :=
  Paired.mapP r fun _ _ z => ⟨z.1, ht _ _ z.2.1, z.2.2⟩
section
variable {P : Program} {w : World} {H : Hp} {h : Heap} {a : Addr}
theorem rd_of {u : HO} (ok : HOk P w H h) (e : Rd H a u) : ObjOk P w H h a u := e.ok ok
theorem dk_rd {kvs : List (Key × V)} (ok : HOk P w H h) (e : Rd H a (.dK kvs)) : kvs.length <= sizeLine /\ (a == sysModules) = false /\ ∃ vs, KV kvs vs /\ h.DictOf (mixKind P w) a vs :=
  show ObjOk P w H h a (.dK kvs) from rd_of ok e
theorem dk_of {kvs : List (Key × V)} (ok : HOk P w H h) (e : H a = some (.dK kvs)) : kvs.length <= sizeLine /\ (a == sysModules) = false /\ ∃ vs, KV kvs vs /\ h.DictOf (mixKind P w) a vs := dk_rd ok (.inl e)
theorem key_of {ks : List Key} (ok : HOk P w H h) (e : H a = some (.tup (ks.map kV))) : (tupleKind (mixKind P w)).is h ks a := by
  obtain ⟨_, its, r, o, h1, h2, n, h3⟩ := (show ObjOk P w H h a (.tup (ks.map kV)) from ok a _ e)
  exact ⟨o, its.toArray, n, h1, h2, h3, by simpa using items_are r⟩
theorem dt_rd {kvs : List (List Key × V)} (ok : HOk P w H h) (e : Rd H a (.dT kvs)) : kvs.length <= sizeLine /\ (a == sysModules) = false /\
    ∃ xs, KT H kvs xs /\ h.DictOfH (tupleKind (mixKind P w)) a xs := by
  obtain ⟨z, y, xs, r, o, es, ep, h1, h2, h3, h4, h5⟩ := (show ObjOk P w H h a (.dT kvs) from rd_of ok e)
  refine ⟨z, y, xs, r, o, es, ep, h1, h2, h3, h4, fun x hx => ?_, h5⟩
  have all : ∀ {l : List (List Key × V)} {m : List (List Key × Addr × Value)}, KT H l m -> ∀ x ∈ m, (tupleKind (mixKind P w)).is h x.1 x.2.1 := by
    intro l m q
    induction q with
    | nil => intro x hx; exact nomatch hx
    | @cons p q ps qs hq t ih =>
      intro x hx
      rcases List.mem_cons.mp hx with e | hx
      · subst e
        exact key_of ok (by rw [← hq.1]; exact hq.2.1)
      · exact ih x hx
  exact all r x hx
theorem dt_of {kvs : List (List Key × V)} (ok : HOk P w H h) (e : H a = some (.dT kvs)) : kvs.length <= sizeLine /\ (a == sysModules) = false /\
    ∃ xs, KT H kvs xs /\ h.DictOfH (tupleKind (mixKind P w)) a xs := dt_rd ok (.inl e)
end
def DGet (H : Hp) (a : Addr) (y : V) (r : Option V) : Prop :=
  (∃ kvs k, Rd H a (.dK kvs) /\ y = kV k /\ r = valV kvs k) ∨ ∃ kvs k b, Rd H a (.dT kvs) /\ y = .ref b /\ H b = some (.tup (k.map kV)) /\ r = valV kvs k
def DPut (H : Hp) (a : Addr) (y v : V) (H' : Hp) : Prop :=
  (∃ kvs k, H a = some (.dK kvs) /\ y = kV k /\ kvs.length < sizeLine /\ H' = upd H a (.dK (putK kvs k v))) ∨
  ∃ kvs k b, H a = some (.dT kvs) /\ y = .ref b /\ H b = some (.tup (k.map kV)) /\ kvs.length < sizeLine /\ H' = upd H a (.dT (putK kvs k v))
theorem DGet.t {H : Hp} {a b : Addr} {kvs : List (List Key × V)} {k : List Key} (e : H a = some (.dT kvs)) (eb : H b = some (.tup (k.map kV))) : DGet H a (.ref b) (valV kvs k) := .inr ⟨kvs, k, b, .inl e, rfl, eb, rfl⟩
theorem DPut.t {H : Hp} {a b : Addr} {kvs : List (List Key × V)} {k : List Key} {v : V} (e : H a = some (.dT kvs)) (eb : H b = some (.tup (k.map kV))) (hl : kvs.length < sizeLine) :
    DPut H a (.ref b) v (upd H a (.dT (putK kvs k v))) := .inr ⟨kvs, k, b, e, rfl, eb, hl, rfl⟩
section
variable {X : Cx} {pins : List (Addr × Obj)} {σ : St} {H : Hp} {s : Shared} {a : Addr} {y v : V} {u r : Value} {o : Option V} {A : Around} {E : Value -> Shared -> Prop}
theorem Inv.big (I : Inv X pins σ H s) : sysModules < s.heap.objs.size := by
  have h : mainGlobals < s.heap.objs.size := (I.mod.glob.keeps I.bk).lt
  exact Nat.lt_trans (by decide) h
theorem d_getItem {Q : Value -> Shared -> Prop} (hu : A.units + 1 < cLine) (I : Inv X pins σ H s) (g : DGet H a y (some v)) (ry : RelV y u) (h : ∀ w' s', Inv X pins σ H s' -> RelV v w' -> Q w' s') :
    wpAny (model X.prog X.w) A (getItem (.ref a) u) Q E s := by
  rcases g with ⟨kvs, k, e, ey, l⟩ | ⟨kvs, k, b, e, ey, eb, l⟩
  · subst ey
    obtain ⟨z, hd, vs, rel, dd⟩ := dk_rd I.hok e
    obtain ⟨w', hw, rw'⟩ := RelO.some_of (v := v) (o := valueAt vs k) (by rw [l]; exact rel.val k)
    exact wpAny_getItem_of (kV_is ry) dd.mapOf hw (h w' _ (I.tok _) rw')
  · subst ey
    cases (show u = Value.ref b from ry)
    obtain ⟨z, hd, xs, rel, dd⟩ := dt_rd I.hok e
    obtain ⟨w', hw, rw'⟩ := RelO.some_of (v := v) (o := (atKey xs k).map (·.2)) (by rw [l]; exact rel.val k)
    obtain ⟨p, hp, hp2⟩ := Option.map_eq_some_iff.mp hw
    refine wpAny_getItem_heap (tupleKind_room_in1 hu) (key_of I.hok eb) dd hp ?_
    rw [hp2]
    exact h w' _ (I.tok _) rw'
theorem d_in {Q : Value -> Shared -> Prop} (hu : A.units + 1 < cLine) (I : Inv X pins σ H s) (g : DGet H a y o) (ry : RelV y u) (h : ∀ s', Inv X pins σ H s' -> Q (.bool o.isSome) s') :
    wpAny (model X.prog X.w) A (compareOp .In u (.ref a)) Q E s := by
  rcases g with ⟨kvs, k, e, ey, l⟩ | ⟨kvs, k, b, e, ey, eb, l⟩
  · subst ey
    obtain ⟨z, hd, vs, rel, dd⟩ := dk_rd I.hok e
    refine wpAny_in_of (kV_is ry) hd dd.mapOf ?_
    rw [← (rel.val k).isSome_eq, ← l]
    exact h _ (I.tok _)
  · subst ey
    cases (show u = Value.ref b from ry)
    obtain ⟨z, hd, xs, rel, dd⟩ := dt_rd I.hok e
    refine wpAny_in_heap (tupleKind_room_in1 hu) (key_of I.hok eb) hd dd ?_
    have q := (rel.val k).isSome_eq
    rw [Option.isSome_map] at q
    rw [← q, ← l]
    exact h _ (I.tok _)
theorem d_notIn {Q : Value -> Shared -> Prop} (hu : A.units + 1 < cLine) (I : Inv X pins σ H s) (g : DGet H a y o) (ry : RelV y u) (h : ∀ s', Inv X pins σ H s' -> Q (.bool (!o.isSome)) s') :
    wpAny (model X.prog X.w) A (compareOp .NotIn u (.ref a)) Q E s := by
  rcases g with ⟨kvs, k, e, ey, l⟩ | ⟨kvs, k, b, e, ey, eb, l⟩
  · subst ey
    obtain ⟨z, hd, vs, rel, dd⟩ := dk_rd I.hok e
    refine wpAny_notIn_of (kV_is ry) hd dd.mapOf ?_
    rw [← (rel.val k).isSome_eq, ← l]
    exact h _ (I.tok _)
  · subst ey
    cases (show u = Value.ref b from ry)
    obtain ⟨z, hd, xs, rel, dd⟩ := dt_rd I.hok e
    refine wpAny_notIn_heap (tupleKind_room_in1 hu) (key_of I.hok eb) hd dd ?_
    have q := (rel.val k).isSome_eq
    rw [Option.isSome_map] at q
    rw [← q, ← l]
    exact h _ (I.tok _)
theorem d_write {h' : Heap} {t' : Nat} {ob : HO} (I : Inv X pins σ H s) (mu : Mut (H a)) (hs : Heap.SameBut a s.heap h') (he : ∃ q, h'.get? a = some q) (new : ObjOk X.prog X.w (upd H a ob) h' a ob) :
    Inv X pins σ (upd H a ob) { s with heap := h', toks := t' } :=
  I.write (x := a) (e := a) mu (.inl rfl) (fun b q hb z => (hs.2 b hb).trans z) he new
theorem dk_new {P : Program} {w : World} {H' : Hp} {h' : Heap} {kvs : List (Key × V)} {vs : List (Key × Value)} (z : kvs.length <= sizeLine) (hd : (a == sysModules) = false) (rel : KV kvs vs) (dd : h'.DictOf (mixKind P w) a vs) :
    ObjOk P w H' h' a (.dK kvs) := ⟨z, hd, vs, rel, dd⟩
theorem d_setItem {H' : Hp} {Q : Unit -> Shared -> Prop} (hu : A.units + 1 < cLine) (I : Inv X pins σ H s) (g : DPut H a y v H') (ry : RelV y u) (rv : RelV v r) (h : ∀ s', Inv X pins σ H' s' -> Q () s') :
    wpAny (model X.prog X.w) A (setItem (.ref a) u r) Q E s := by
  rcases g with ⟨kvs, k, e, ey, l, eH⟩ | ⟨kvs, k, b, e, ey, eb, l, eH⟩
  · subst ey eH
    obtain ⟨z, hd, vs, rel, dd⟩ := dk_of I.hok e
    have hz : vs.length <= sizeLine := by rw [← rel.length]; exact z
    have hl : (putK kvs k v).length <= sizeLine := by have := length_putK kvs k v; omega
    refine wpAny_setItem_pairs (hsz := hz) (kV_is ry) dd fun h' dd' hs => h _ ?_
    have he : ∃ q, h'.get? a = some q := let ⟨q, _, _, hq, _⟩ := dd'; ⟨q, hq⟩
    exact d_write I (by rw [e]; exact True.intro) hs he (dk_new hl hd (rel.put k rv) dd')
  · subst ey eH
    cases (show u = Value.ref b from ry)
    obtain ⟨z, hd, xs, rel, dd⟩ := dt_of I.hok e
    have hz : xs.length <= sizeLine := by rw [← Paired.length rel]; exact z
    have hl : (putK kvs k v).length <= sizeLine := by have := length_putK kvs k v; omega
    refine wpAny_setItem_heap (hsz := hz) (tupleKind_room_in1 hu) (key_of I.hok eb) dd fun h' dd' hs => h _ ?_
    obtain ⟨q, es, ep, hq, h2, h3, h4, _, h5⟩ := dd'
    refine d_write I (by rw [e]; exact True.intro) hs ⟨q, hq⟩ ⟨hl, hd, _, (rel.put k eb rv).keeps fun c ys ec => ?_, q, es, ep, hq, h2, h3, h4, h5⟩
    rw [upd_ne (ne_of ec e (fun z => nomatch z))]
    exact ec
end
def NoSl (i : Expr) : Prop := ∀ ov iv, subscripted i false ov iv = operate [ov, iv] (getItem ov iv)
theorem subD_of {prog : Program} {w : World} {A : Around} {E : Value -> Shared -> Prop} {s : Shared} {env : Env} {value slice : Expr} {pos : Pos} {T id : String} {Q : Value -> Shared -> Prop}
    (hl : typeLookup (.type T) "__getitem__" = pure (some (.builtin id))) (hs : NoSl slice)
    (h : wpAny (model prog w) A (eval value env) (fun o s₁ => wpAny (model prog w) A (eval slice env) (fun i s₂ => s₂.TypeIs o T /\ wpAny (model prog w) A (getItem o i) Q E s₂) E s₁) E s) :
    wpAny (model prog w) A (eval (.Subscript value slice pos) env) Q E s := by
  refine Subscript_ (wpAny_mono h (fun o s₁ h₁ => wpAny_mono h₁ (fun i s₂ h₂ => ?_) fun _ _ x => x) fun _ _ x => x)
  obtain ⟨hT, h₂⟩ := h₂
  unfold subscriptTail
  refine wpAny_bind ?_
  rw [getitemInPython_of_ne hT.not_modules]
  refine wpAny_bind (wpAny_specialOf hT hl ?_)
  have fin : wpAny (model prog w) A (subscripted slice false o i) (fun r s₃ => wpAny (model prog w) A (letTemporaryGo value o r >>= fun _ => pure r) Q E s₃) E s₂ := by
    rw [hs o i]
    exact wpAny_operating (wpAny_mono h₂ (fun r s₃ h₃ => wpAny_bind (wpAny_letTemporaryGo (wpAny_pure h₃))) fun _ _ x => x)
  first
    | exact wpAny_pure (wpAny_bind fin)
    | exact wpAny_bind (wpAny_pure (wpAny_bind fin))
    | exact wpAny_bind fin
theorem dict_typeIs {X : Cx} {pins : List (Addr × Obj)} {σ : St} {H : Hp} {s : Shared} {a : Addr} {y : V} {o : Option V} (I : Inv X pins σ H s) (g : DGet H a y o) : s.TypeIs (.ref a) "dict" := by
  rcases g with ⟨kvs, k, e, _, _⟩ | ⟨kvs, k, b, e, _, _, _⟩
  · obtain ⟨_, _, vs, _, dd⟩ := dk_rd I.hok e
    exact dd.typeIs
  · obtain ⟨_, _, xs, _, dd⟩ := dt_rd I.hok e
    exact dd.typeIs
def tDGet (td ty : TE) : TE := fun σ H Q => td σ H fun x H1 => ty σ H1 fun y H2 => ∃ a v, x = .ref a /\ DGet H2 a y (some v) /\ Q v H2
def tDIn (ty td : TE) : TE := fun σ H Q => ty σ H fun y H1 => td σ H1 fun x H2 => ∃ a o, x = .ref a /\ DGet H2 a y o /\ Q (.bl o.isSome) H2
def tDNotIn (ty td : TE) : TE := fun σ H Q => ty σ H fun y H1 => td σ H1 fun x H2 => ∃ a o, x = .ref a /\ DGet H2 a y o /\ Q (.bl (!o.isSome)) H2
def sDPut (td ty tv : TE) : TS := fun D σ H => tv σ H fun v H1 => td σ H1 fun x H2 => ty σ H2 fun y H3 => ∃ a H4, x = .ref a /\ DPut H3 a y v H4 /\ D.nx σ H4
section
variable {X : Cx} {o i e value : Expr} {pos pos' tpos : Pos} {td ty tv : TE}
theorem pe_dget (hu : X.A.units + 1 < cLine) (ho : PE X o td) (hi : PE X i ty) (hs : NoSl i) : PE X (.Subscript o i pos) (tDGet td ty) := by
  intro pins s σ H Q I h
  refine subD_of PySem.F.slot_dict_getitem.lookup hs (thn (ho pins s σ H _ I h) fun u s1 ⟨x, H1, I1, rx, q1⟩ => thn (hi pins s1 σ H1 _ I1 q1) fun iv s2 ⟨y, H2, I2, ry, a, v, ex, g, q2⟩ => ?_)
  subst ex
  obtain rfl : u = Value.ref a := rx
  exact ⟨dict_typeIs I2 g, d_getItem hu I2 g ry fun w' s3 I3 rw' => ⟨v, H2, I3, rw', q2⟩⟩
theorem pc_din (hu : X.A.units + 1 < cLine) (hi : PE X i ty) (ho : PE X o td) : PC X .In i o (tDIn ty td) := by
  intro pins s σ H Q I h
  refine thn (hi pins s σ H _ I h) fun iv s1 ⟨y, H1, I1, ry, q1⟩ => thn (ho pins s1 σ H1 _ I1 q1) fun u s2 ⟨x, H2, I2, rx, a, ov, ex, g, q2⟩ => ?_
  subst ex
  obtain rfl : u = Value.ref a := rx
  exact d_in hu I2 g ry fun s3 I3 => ⟨.bl ov.isSome, H2, I3, rfl, q2⟩
theorem pc_dnotin (hu : X.A.units + 1 < cLine) (hi : PE X i ty) (ho : PE X o td) : PC X .NotIn i o (tDNotIn ty td) := by
  intro pins s σ H Q I h
  refine thn (hi pins s σ H _ I h) fun iv s1 ⟨y, H1, I1, ry, q1⟩ => thn (ho pins s1 σ H1 _ I1 q1) fun u s2 ⟨x, H2, I2, rx, a, ov, ex, g, q2⟩ => ?_
  subst ex
  obtain rfl : u = Value.ref a := rx
  exact d_notIn hu I2 g ry fun s3 I3 => ⟨.bl (!ov.isSome), H2, I3, rfl, q2⟩
theorem ps_dput (hu : X.A.units + 1 < cLine) (ho : PE X o td) (hi : PE X i ty) (hv : PE X value tv) (hs : swapsWith value (some (.Subscript o i pos')) pos.line X.env = pure false) :
    PS X (.Assign [.Subscript o i pos'] value pos) (sDPut td ty tv) := by
  intro pins s σ H D I h
  refine wpAny_Assign_Subscript (thn (hv pins s σ H _ I h) fun r s1 ⟨v, H1, I1, rv, q1⟩ => thn (ho pins s1 σ H1 _ I1 q1) fun u s2 ⟨x, H2, I2, rx, q2⟩ => thn (hi pins s2 σ H2 _ I2 q2) fun iv s3 ⟨y, H3, I3, ry, a, H4, ex, g, q3⟩ => ?_) hs
  subst ex
  obtain rfl : u = Value.ref a := rx
  exact d_setItem hu I3 g ry rv fun s4 I4 => ⟨σ, H4, I4, q3⟩
end
theorem dt_empty {P : Program} {w : World} {H : Hp} (h : Heap) (hb : sysModules < h.objs.size) : ObjOk P w H (h.push { cls := .type "dict", data := .dict #[] }) h.objs.size (.dT []) :=
  ⟨Nat.zero_le _, beq_eq_false_iff_ne.mpr (Ne.symm (Nat.ne_of_lt hb)), [], .nil, _, #[], 0, Heap.get?_push_size _ rfl, ⟨rfl, rfl, rfl⟩, rfl, rfl, List.nodup_nil⟩
def tDNewT : TE := fun _ H Q => ∀ p, H p = none -> Q (.ref p) (upd H p (.dT []))
section
variable {X : Cx} {pos : Pos}
theorem pe_dnewT : PE X (.Dict [] [] pos) tDNewT := fun pins s σ H Q I h =>
  wpAny_Dict_empty ⟨.ref s.heap.objs.size, _, I.laid (a := s.heap.objs.size) (o := .dT []) (t' := s.toks) (fun _ _ q => Heap.get?_push_of_some _ q) (Nat.le_refl _) (dt_empty s.heap I.big), rfl, h _ (I.hok.fresh (Nat.le_refl _))⟩
end
end L2
namespace L2
open PySem PySem.Spec PyProof.Rows
section
variable {X : Cx} {pins : List (Addr × Obj)} {σ : St} {H : Hp} {s : Shared} {h' : Heap}
theorem Inv.turnedL {t' : Nat} {ch : List Addr} (I : Inv X pins σ H s) (k : ∀ b o, b ∉ ch -> s.heap.get? b = some o -> h'.get? b = some o) (hf : ∀ b ∈ ch, FpOk X pins H b) : Inv X pins σ H { s with heap := h', toks := t' } := by
  have nit : ∀ b u, H b = some u -> b ∉ ch := fun b u e z => by
    have q := (hf b z).1
    rw [q] at e; cases e
  refine I.step (g' := s.gens) (d' := s.drawn) (ch := ch) (fun b hb => ⟨(hf b hb).2.2.2.1, (hf b hb).2.1, (hf b hb).2.2.2.2.1, (hf b hb).2.2.2.2.2⟩) (fun b o _ _ hc e _ => k b o hc e) (fun b o _ _ hc e _ => ⟨o.slots, k b o hc e⟩)
    (fun _ _ _ _ n => n) (fun b o hc e => ⟨o, k b o hc e⟩) (fun _ _ e => e) (fun _ _ _ e => e) (fun b ps e => ⟨#[], by rw [e]; simp⟩) (fun m hm => ?_) (fun b u e => ?_) I.bare
  · obtain ⟨o, es, ep, ho, r⟩ := hm
    exact ⟨o, es, ep, k _ o (fun z => (hf _ z).2.1 rfl) ho, r⟩
  · refine (I.hok b u e).stay (fun c v hc q => k c v ?_ q) (fun _ q => q) fun _ _ q => q
    rcases hc with z | z
    · rw [z]; exact nit b u e
    · exact nit c _ z
theorem Inv.turnedNew {t' : Nat} {ch : List Addr} {T : Addr} {ob : HO} (I : Inv X pins σ H s) (k : ∀ b o, b ∉ ch -> s.heap.get? b = some o -> h'.get? b = some o) (hf : ∀ b ∈ ch, FpOk X pins H b) (hT : s.heap.objs.size <= T)
    (new : ObjOk X.prog X.w (upd H T ob) h' T ob) : Inv X pins σ (upd H T ob) { s with heap := h', toks := t' } := by
  have hn : H T = none := I.hok.fresh hT
  have nit : ∀ b u, H b = some u -> b ∉ ch := fun b u e z => by
    have q := (hf b z).1
    rw [q] at e; cases e
  refine I.step (g' := s.gens) (d' := s.drawn) (ch := ch) (fun b hb => ⟨(hf b hb).2.2.2.1, (hf b hb).2.1, (hf b hb).2.2.2.2.1, (hf b hb).2.2.2.2.2⟩) (fun b o _ _ hc e _ => k b o hc e) (fun b o _ _ hc e _ => ⟨o.slots, k b o hc e⟩)
    (fun b o _ e n => ?_) (fun b o hc e => ⟨o, k b o hc e⟩) (fun b xs e => ?_) (fun b o u e => ?_) (fun b ps e => ⟨#[], ?_⟩) (fun m hm => ?_) (fun b u e => ?_) I.bare
  · rw [upd_ne (Nat.ne_of_lt (Nat.lt_of_lt_of_le (Heap.lt_size e) hT))]; exact n
  · rw [upd_ne (ne_of_none e hn)]; exact e
  · rw [upd_ne (ne_of_none e hn)]; exact e
  · rw [upd_ne (ne_of_none e hn), e]; simp
  · obtain ⟨o, es, ep, ho, r⟩ := hm
    exact ⟨o, es, ep, k _ o (fun z => (hf _ z).2.1 rfl) ho, r⟩
  · by_cases hb : b = T
    · subst hb
      rw [upd_same] at e
      cases e
      exact new
    · rw [upd_ne hb] at e
      refine (I.hok b u e).stay (fun c v hc q => k c v ?_ q) (fun c q => by rw [upd_ne (ne_of_none q hn)]; exact q) fun c xs q => by rw [upd_ne (ne_of_none q hn)]; exact q
      rcases hc with z | z
      · rw [z]; exact nit b u e
      · exact nit c _ z
theorem Inv.lock {d : Addr} {u : HO} (I : Inv X pins σ H s) (h : H d = some u) (mu : Mut (some u)) : ∃ od, Inv X pins σ (upd H d (.frz od u)) s := by
  have x := I.hok d u h
  have ex : ∃ od, s.heap.get? d = some od := by
    cases u with
    | lst xs => obtain ⟨_, _, _, _, e⟩ := x; exact ⟨_, e⟩
    | dK kvs => obtain ⟨_, _, _, _, o, _, _, e, _⟩ := x; exact ⟨o, e⟩
    | dT kvs => obtain ⟨_, _, _, _, o, _, _, e, _⟩ := x; exact ⟨o, e⟩
    | set S n => obtain ⟨o, _, _, _, e, _⟩ := x; exact ⟨o, e⟩
    | ins C dx fs => obtain ⟨_, _, _, e, _⟩ := x; exact ⟨_, e⟩
    | ext φ => obtain ⟨_, ⟨_, e⟩, _⟩ := x; exact ⟨_, e⟩
    | _ => exact False.elim mu
  obtain ⟨od, e⟩ := ex
  have new : ObjOk X.prog X.w (upd H d (.frz od u)) s.heap d (.frz od u) := by
    refine ⟨e, x.stay (fun b v _ q => q) (fun b q => ?_) fun b xs q => ?_⟩
    · rw [upd_ne (fun z => by rw [z, h] at q; cases q; exact mu)]; exact q
    · rw [upd_ne (fun z => by rw [z, h] at q; cases q; exact mu)]; exact q
  exact ⟨od, I.write (x := d) (e := d) (t' := s.toks) (h' := s.heap) (by rw [h]; exact mu) (.inl rfl) (fun b v _ q => q) ⟨od, e⟩ new⟩
end
section
variable {X : Cx}
theorem pi_one {tg : Expr} {pins : List (Addr × Obj)} {σ : St} {H : Hp} {s : Shared} {R : It -> Hp -> Prop} {J : It} {tn : Nat -> Heap -> Prop} {tk : Nat} (I : Inv X pins σ H s) (o : Obj)
    (T : Turn X.prog X.w X.K tg J [s.heap.objs.size] s.heap.objs.size tn) (st : tn 0 (s.heap.push o)) (q : R J H) : PIE X pins σ tg R (.ref s.heap.objs.size) { s with heap := s.heap.push o, toks := tk } := by
  refine ⟨s.heap.objs.size, [s.heap.objs.size], tn, J, H, rfl, I.kept fun b ob e => Heap.get?_push_of_some _ e, T, st, fun b hb => ?_, q⟩
  have e : b = s.heap.objs.size := by simpa using hb
  subst e
  exact I.fpOk (Nat.le_refl _) (I.hok.fresh (Nat.le_refl _))
end
def Its (x : Str) : It := ⟨fun i _ => i < x.cps.size, fun i H v H' => H' = H /\ ∃ c, x.cps[i]? = some c /\ v = .str ⟨#[c]⟩, fun i _ => x.cps.size <= i⟩
theorem turn_str {P : Program} {w : World} {K : PySem.W.Frag} {tg : Expr} (it : Addr) (x : Str) (t : Tok) (ty : String) (hty : ty = "str_ascii_iterator" ∨ ty = "str_iterator") :
    Turn P w K tg (Its x) [it] it (fun i h => h.IsStrIter it ty x t i) where
  mem := by simp
  obj := fun i h st b hb => by
    have e : b = it := by simpa using hb
    subst e
    obtain ⟨o, e, c, d⟩ := st
    exact ⟨o, e, fun v z => by rw [d] at z; cases z⟩
  keep := fun i h h' st k => let ⟨o, ho, r⟩ := st; ⟨o, k it (by simp) o ho, r⟩
  item := by
    intro X hP hw hK hc i pins s σ H E I hf st hg
    subst hP hw hK
    obtain ⟨f0, f1, f2, f3, f4, f5⟩ := hf it (by simp)
    have W : Walks X.prog X.w X.A it [it] [it] x.cps.size (SignAt x) (fun i h => h.IsStrIter it ty x t i) := by
      rcases hty with e | e
      · rw [e]; exact Walks.strAscii (I.ok.hd hc) it x t
      · rw [e]; exact Walks.strWide (I.ok.hd hc) it x t
    have hno : ["enumerate", "zip", "dict_itemiterator", "dict_reverseitemiterator", "odict_iterator", "itertools.zip_longest", "itertools.pairwise"].contains ty = false := by
      rcases hty with e | e
      · rw [e]; decide
      · rw [e]; decide
    refine W.item i s _ _ hg st fun v h' tk hv st' kk => ?_
    obtain ⟨c, u, hcx, rfl⟩ := hv
    have I1 : Inv X pins σ H { s with heap := h', toks := tk } := I.turned (fun b o hb e => kk b o (by simpa using hb) e) f0 f1 f3 f4 f5
    obtain ⟨oi, e, cc, dd⟩ := id st'
    exact ⟨_, rfl, go_of (s := { s with heap := h', toks := tk }) e cc dd hno ⟨.str ⟨#[c]⟩, H, I1, ⟨u, rfl⟩, ⟨rfl, c, hcx, rfl⟩, st', fun b hb => (hf b hb).1⟩⟩
  done := by
    intro X hP hw hK hc i pins s σ H E I hf st hg
    subst hP hw hK
    obtain ⟨f0, f1, f2, f3, f4, f5⟩ := hf it (by simp)
    have hx : x.cps[i]? = none := Array.getElem?_eq_none hg
    rcases hty with e | e
    · rw [e] at st
      exact wpAny_pyNext_ascii_end (I.ok.hd hc) st hx fun h' eb => ⟨rfl, I.turned (t' := s.toks) (fun b o hb e => eb b o hb e) f0 f1 f3 f4 f5⟩
    · rw [e] at st
      exact wpAny_pyNext_wide_end (I.ok.hd hc) st hx fun h' eb => ⟨rfl, I.turned (t' := s.toks) (fun b o hb e => eb b o hb e) f0 f1 f3 f4 f5⟩
  self := fun A i s Q E st h => by
    rcases hty with e | e
    · rw [e] at st; exact wpAny_pyIter_striter_ascii st h
    · rw [e] at st; exact wpAny_pyIter_striter_wide st h
def iStr (te : TE) : TI := fun σ H R => te σ H fun v H1 => ∃ x, v = .str x /\ R (Its x) H1
theorem pi_str {X : Cx} {tg e : Expr} {te : TE} (he : PE X e te) : PI X tg e (iStr te) := by
  intro pins s σ H R I h
  refine thn (he pins s σ H _ I h) fun v s1 ⟨y, H1, I1, r1, x, ex, q⟩ => ?_
  subst ex
  obtain ⟨t, rfl⟩ := r1
  cases ha : x.cps.all (· < 128)
  · exact wpAny_pyIter_wide ha (pi_one (tk := s1.toks) I1 _ (turn_str _ x t "str_iterator" (.inr rfl)) ⟨_, Heap.get?_push_size _ rfl, rfl, rfl⟩ q)
  · exact wpAny_pyIter_ascii ha (pi_one (tk := s1.toks) I1 _ (turn_str _ x t "str_ascii_iterator" (.inl rfl)) ⟨_, Heap.get?_push_size _ rfl, rfl, rfl⟩ q)
section
variable {prog : Program} {w : World} {A : Around} {E : Value -> Shared -> Prop} {s : Shared}
theorem iter_keys {d : Addr} {o : Obj} {es : Array DictEntry} {ep : Nat} {Q : Value -> Shared -> Prop} (hd : (d == sysModules) = false) (ho : s.heap.get? d = some o) (hc : o.ExactDict) (hdat : o.data = .dict es ep)
    (hQ : Q (.ref s.heap.objs.size) { s with heap := s.heap.push { cls := .type "dict_keyiterator", data := .fields #[.ref d, .int 0 0, .int es.size 0, .int ep 0] } }) :
    wpAny (model prog w) A (pyIter (.ref d)) Q E s := by
  have hT : s.TypeIs (.ref d) "dict" := ⟨o, ho, hc.1⟩
  refine wpAny_pyIter_slot hT F.slot_dict_iter (wpAny_call_entry F.slot_dict_iter hT F.entry_dict_iter ?_ (F.args_dict_iter_1 _))
  unfold Builtin.«dict.__iter__»
  refine wpAny_bind ?_
  unfold Builtin.Dict.dictSlotNone
  refine wpAny_bind (wpAny_notOrdered_dict hT ?_)
  show wpAny _ _ (pure (Value.ref d)) _ _ s
  refine wpAny_pure ?_
  show wpAny _ _ (Builtin.Dict.showsAll d >>= _) _ _ s
  unfold Builtin.Dict.showsAll
  rw [if_neg (by rw [hd]; exact Bool.false_ne_true)]
  refine wpAny_bind (wpAny_pure ?_)
  refine wpAny_bind (wpAny_dictEntries ho hdat ?_)
  refine wpAny_bind (wpAny_dictEpoch ho hdat ?_)
  refine wpAny_bind (wpAny_newObj_type (wpAny_pure ⟨_, rfl, "dict_keyiterator", _, ⟨_, Heap.get?_push_size _ rfl, rfl⟩, F.slot_dict_keyiterator_next.lookup, ?_⟩))
  simpa [rawInt] using hQ
theorem next_key_item {it d : Addr} {i n ep : Nat} {od : Obj} {es : Array DictEntry} {en : DictEntry} {Q : Option Value -> Shared -> Prop} (hit : s.heap.IsKeyIter it d i n ep) (hod : s.heap.get? d = some od) (hdd : od.data = .dict es ep)
    (hsz : es.size = n) (hx : es[i]? = some en) (hQ : ∀ h', h'.IsKeyIter it d (i + 1) n ep -> Heap.SameBut it s.heap h' -> Q (some en.key) { s with heap := h' }) : wpAny (model prog w) A (pyNext (.ref it)) Q E s := by
  obtain ⟨o, ho, hc, hd⟩ := id hit
  unfold pyNext
  refine wpAny_bind (wpAny_attempt (wpAny_callSpecial?_slot (name := Str.ofString "__next__") hit.typeIs F.slot_dict_keyiterator_next
    (wpAny_call_entry F.slot_dict_keyiterator_next hit.typeIs F.entry_dict_keyiterator_next ?_ (F.args_dict_keyiterator_next_1 _))))
  refine wpAny_bind (wpAny_pure ?_)
  refine wpAny_bind ?_
  refine wpAny_bind ?_
  first | refine wpAny_bind (wpAny_typeNameOfWhole_keyiter hit.typeIs (wpAny_pure ?_)) | refine wpAny_bind (wpAny_typeNameOf_keyiter hit.typeIs (wpAny_pure ?_))
  refine wpAny_bind (wpAny_fieldsOf ho hd ?_)
  have hown : Builtin.Dict_items.ownsTuple "dict_keyiterator" = false := by decide
  simp only [hown, Bool.false_eq_true, if_false]
  show wpAny _ _ (if (Value.ref d == Value.none) = true then _ else _) _ _ s
  rw [if_neg (show ¬ ((Value.ref d == Value.none) = true) from Bool.false_ne_true)]
  refine wpAny_bind (wpAny_pure ?_)
  refine wpAny_bind (wpAny_dictEntries hod hdd ?_)
  rw [if_neg (by rw [hsz]; simp)]
  refine wpAny_bind (wpAny_pure ?_)
  refine wpAny_bind (wpAny_dictEpoch hod hdd ?_)
  rw [if_neg (by simp)]
  refine wpAny_pure ?_
  obtain ⟨hlt', hen⟩ := Array.getElem?_eq_some_iff.mp hx
  simp only [show ¬ ((i : Int) < 0) from by omega, if_false, Int.toNat_natCast, Array.getElem?_eq_getElem hlt']
  refine wpAny_bind ?_
  first | refine wpAny_bind (wpAny_typeNameOfWhole_keyiter hit.typeIs (wpAny_pure ?_)) | refine wpAny_bind (wpAny_typeNameOf_keyiter hit.typeIs (wpAny_pure ?_))
  refine wpAny_bind (wpAny_isOneOf_keyiter hit.typeIs ?_)
  show wpAny _ _ (setField (.ref it) 1 (rawInt ((i : Int) + 1)) >>= _) _ _ s
  refine wpAny_bind (wpAny_setField ho hd (by simp) ?_)
  have hit' : (s.heap.update it (Obj.mapFields (·.setIfInBounds 1 (rawInt ((i : Int) + 1))))).IsKeyIter it d (i + 1) n ep :=
    ⟨_, Heap.get?_update_self _ ho (Obj.isFreed_of_fields (Obj.data_mapFields hd _)), (Obj.cls_mapFields ..).trans hc, by rw [Obj.data_mapFields hd]; simp [rawInt]⟩
  refine wpAny_bind (wpAny_holding ?_)
  refine wpAny_bind (wpAny_isOneOf_keyiter (s := { s with heap := s.heap.update it (Obj.mapFields (·.setIfInBounds 1 (rawInt ((i : Int) + 1)))) }) hit'.typeIs ?_)
  show wpAny _ _ (pure es[i].key) _ _ _
  rw [hen]
  exact wpAny_pure (wpAny_pure ⟨_, rfl, wpAny_pure (hQ _ hit' (Heap.SameBut.update ..))⟩)
theorem next_key_end {it d : Addr} {i n ep : Nat} {od : Obj} {es : Array DictEntry} {Q : Option Value -> Shared -> Prop} (hh : A.handled = none) (hit : s.heap.IsKeyIter it d i n ep) (hod : s.heap.get? d = some od) (hdd : od.data = .dict es ep)
    (hsz : es.size = n) (hge : n <= i) (hQ : ∀ h', Heap.ExtBut it s.heap h' -> Q none { s with heap := h' }) : wpAny (model prog w) A (pyNext (.ref it)) Q E s := by
  obtain ⟨o, ho, hc, hd⟩ := id hit
  unfold pyNext
  refine wpAny_bind (wpAny_attempt (wpAny_callSpecial?_slot (name := Str.ofString "__next__") hit.typeIs F.slot_dict_keyiterator_next
    (wpAny_call_entry F.slot_dict_keyiterator_next hit.typeIs F.entry_dict_keyiterator_next ?_ (F.args_dict_keyiterator_next_1 _))))
  refine wpAny_bind (wpAny_pure ?_)
  refine wpAny_bind ?_
  refine wpAny_bind ?_
  first | refine wpAny_bind (wpAny_typeNameOfWhole_keyiter hit.typeIs (wpAny_pure ?_)) | refine wpAny_bind (wpAny_typeNameOf_keyiter hit.typeIs (wpAny_pure ?_))
  refine wpAny_bind (wpAny_fieldsOf ho hd ?_)
  have hown : Builtin.Dict_items.ownsTuple "dict_keyiterator" = false := by decide
  simp only [hown, Bool.false_eq_true, if_false]
  show wpAny _ _ (if (Value.ref d == Value.none) = true then _ else _) _ _ s
  rw [if_neg (show ¬ ((Value.ref d == Value.none) = true) from Bool.false_ne_true)]
  refine wpAny_bind (wpAny_pure ?_)
  refine wpAny_bind (wpAny_dictEntries hod hdd ?_)
  rw [if_neg (by rw [hsz]; simp)]
  refine wpAny_bind (wpAny_pure ?_)
  refine wpAny_bind (wpAny_dictEpoch hod hdd ?_)
  rw [if_neg (by simp)]
  refine wpAny_pure ?_
  have hge' : es.size <= i := by rw [hsz]; exact hge
  simp only [show ¬ ((i : Int) < 0) from by omega, if_false, Int.toNat_natCast, Array.getElem?_eq_none hge']
  refine wpAny_bind ?_
  first | refine wpAny_bind (wpAny_typeNameOfWhole_keyiter hit.typeIs (wpAny_pure ?_)) | refine wpAny_bind (wpAny_typeNameOf_keyiter hit.typeIs (wpAny_pure ?_))
  show wpAny _ _ (setField (.ref it) 0 .none >>= _) _ _ s
  refine wpAny_bind (wpAny_setField ho hd (by simp) ?_)
  show wpAny _ _ (newExc (.type "StopIteration") [] >>= _) _ _ _
  refine wpAny_bind ?_
  simp only [newExc, newTuple]
  refine wpAny_bind (wpAny_newObj_type ?_ (by size_fits))
  refine wpAny_bind (m := firstArgMember _ _) (wpAny_of_eq (a := Value.none) (by first | rfl | (simp only [firstArgMember]; rfl)) ?_)
  refine wpAny_newObj_type ?_ (by size_fits)
  simp only [raiseNew]
  refine wpAny_bind (wpAny_handled ?_)
  rw [show A.in1.handled = none from hh]
  refine wpAny_bind (wpAny_pure (wpAny_throw ?_))
  refine wpAny_bind (wpAny_isInstance (T := "StopIteration") (b := true) ⟨_, Heap.get?_push_size _ rfl, rfl⟩ isSubtype_stop ?_)
  exact wpAny_pure (hQ _ (((Heap.SameBut.update ..).extBut.push _).push _))
end
theorem kv_get {κ : Type} {kvs : List (κ × V)} {vs : List (κ × Value)} (h : KV kvs vs) : ∀ {i : Nat} {k : κ} {v : V}, kvs[i]? = some (k, v) -> ∃ u, vs[i]? = some (k, u) /\ RelV v u := by
  unfold KV at h
  induction h with
  | nil => intro i k v e; simp at e
  | @cons a b l₁ l₂ r t ih =>
    intro i k v e
    cases i with
    | zero =>
      simp only [List.getElem?_cons_zero, Option.some.injEq] at e
      subst e
      refine ⟨b.2, ?_, r.2⟩
      simp only [List.getElem?_cons_zero]
      exact congrArg some (Prod.ext r.1.symm rfl)
    | succ j =>
      simp only [List.getElem?_cons_succ] at e ⊢
      exact ih e
theorem paired_get {α β : Type} {G : α -> β -> Prop} {l₁ : List α} {l₂ : List β} (h : Paired G l₁ l₂) : ∀ {i : Nat} {a : α}, l₁[i]? = some a -> ∃ b, l₂[i]? = some b /\ G a b := by
  induction h with
  | nil => intro i a e; simp at e
  | @cons a b l₁ l₂ r t ih =>
    intro i a' e
    cases i with
    | zero =>
      simp only [List.getElem?_cons_zero, Option.some.injEq] at e
      subst e
      exact ⟨b, rfl, r⟩
    | succ j =>
      simp only [List.getElem?_cons_succ] at e ⊢
      exact ih e
theorem relV_key {k : Key} {u : Value} (h : keyIs k u = true) : RelV (kV k) u := by
  rcases keyIs_shape h with ⟨i, t, rfl, rfl⟩ | ⟨x, t, rfl, rfl⟩
  · exact ⟨t, rfl⟩
  · exact ⟨t, rfl⟩
section
variable {X : Cx} {pins : List (Addr × Obj)} {σ : St} {H : Hp} {s : Shared} {d : Addr} {o : Obj}
theorem Inv.frzK {kvs : List (Key × V)} (I : Inv X pins σ H s) (h : H d = some (.frz o (.dK kvs))) :
    (d == sysModules) = false /\ s.heap.get? d = some o /\ o.ExactDict /\ ∃ (es : Array DictEntry) (ep : Nat) (vs : List (Key × Value)), o.data = .dict es ep /\ es.size = kvs.length /\ KV kvs vs /\ s.heap.DictAt (mixKind X.prog X.w) d vs ep := by
  obtain ⟨hd, z, hs, vs, kv, o', es, ep, ho, hx, hdt, r⟩ := I.hok d _ h
  rw [hd] at ho
  cases ho
  refine ⟨hs, hd, hx, es, ep, vs, hdt, ?_, kv, o, es, hd, hx, hdt, r⟩
  have l1 := r.2.1.length
  have l2 : kvs.length = vs.length := Paired.length kv
  rw [Array.length_toList] at l1
  omega
theorem Inv.frzT {kvs : List (List Key × V)} (I : Inv X pins σ H s) (h : H d = some (.frz o (.dT kvs))) :
    (d == sysModules) = false /\ s.heap.get? d = some o /\ o.ExactDict /\ ∃ (es : Array DictEntry) (ep : Nat), o.data = .dict es ep /\ es.size = kvs.length /\
      ∀ (i : Nat) (k : List Key) (v : V), kvs[i]? = some (k, v) -> ∃ (en : DictEntry) (q : Addr), es[i]? = some en /\ en.key = .ref q /\ H q = some (.tup (k.map kV)) := by
  obtain ⟨hd, z, hs, xs, pr, o', es, ep, ho, hx, hdt, he, _⟩ := I.hok d _ h
  rw [hd] at ho
  cases ho
  refine ⟨hs, hd, hx, es, ep, hdt, ?_, fun i k v e => ?_⟩
  · have l1 : es.size = xs.length := size_of_entries he
    have l2 : kvs.length = xs.length := Paired.length pr
    omega
  · obtain ⟨b, hb, e1, e2, _⟩ := paired_get pr e
    have q := entry_at he i
    rw [hb] at q
    exact ⟨_, b.2.1, q, rfl, e2⟩
end
def Itk (d : Addr) (o : Obj) (kvs : List (Key × V)) : It :=
  ⟨fun i H => H d = some (.frz o (.dK kvs)) /\ i < kvs.length, fun i H x H' => H' = H /\ ∃ k v, kvs[i]? = some (k, v) /\ x = kV k, fun i H => H d = some (.frz o (.dK kvs)) /\ kvs.length <= i⟩
def Itkt (d : Addr) (o : Obj) (kvs : List (List Key × V)) : It :=
  ⟨fun i H => H d = some (.frz o (.dT kvs)) /\ i < kvs.length, fun i H x H' => H' = H /\ ∃ (k : List Key) (v : V) (q : Addr), kvs[i]? = some (k, v) /\ x = .ref q /\ H q = some (.tup (k.map kV)), fun i H => H d = some (.frz o (.dT kvs)) /\ kvs.length <= i⟩
theorem dict_ep {o : Obj} {es es' : Array DictEntry} {ep ep' : Nat} (h : o.data = .dict es ep) (h' : o.data = .dict es' ep') : es' = es /\ ep' = ep := by
  rw [h] at h'
  cases h'
  exact ⟨rfl, rfl⟩
section
variable {P : Program} {w : World} {K : PySem.W.Frag} {tg : Expr} {d : Addr} {o : Obj} {es : Array DictEntry} {ep : Nat}
theorem turn_keys {kvs : List (Key × V)} (it : Addr) (hod : o.data = .dict es ep) : Turn P w K tg (Itk d o kvs) [it] it (fun i h => h.IsKeyIter it d i kvs.length ep) where
  mem := by simp
  obj := fun i h st b hb => by
    have e : b = it := by simpa using hb
    subst e
    obtain ⟨oi, e, c, dd⟩ := st
    exact ⟨oi, e, fun v z => by rw [dd] at z; cases z⟩
  keep := fun i h h' st k => st.at fun oi e => k it (by simp) oi e
  item := by
    intro X hP hw hK hc i pins s σ H E I hf st hg
    subst hP hw hK
    obtain ⟨hd, hi⟩ := hg
    obtain ⟨f0, f1, f2, f3, f4, f5⟩ := hf it (by simp)
    obtain ⟨hs, hgd, hx, es', ep', vs, hdt, hsz, kv, hm⟩ := I.frzK hd
    obtain ⟨rfl, rfl⟩ := dict_ep hod hdt
    obtain ⟨⟨k, v⟩, hkv⟩ : ∃ p, kvs[i]? = some p := ⟨kvs[i], List.getElem?_eq_getElem hi⟩
    obtain ⟨u, hu, ru⟩ := kv_get kv hkv
    have hl : kvs.length = vs.length := Paired.length kv
    rw [hl] at st
    refine wpAny_pyNext_dict_item st hm hu fun key h' hkey st' sb => ?_
    have I1 : Inv X pins σ H { s with heap := h' } := I.turned (t' := s.toks) (fun b ob hb e => (sb.2 b hb).trans e) f0 f1 f3 f4 f5
    obtain ⟨oi, e, c, dd⟩ := id st'
    refine ⟨key, rfl, go_of (s := { s with heap := h' }) e c dd (by decide) ⟨kV k, H, I1, relV_key (show keyIs k key = true from hkey), ⟨rfl, k, v, hkv, rfl⟩, ?_, fun b hb => (hf b hb).1⟩⟩
    show h'.IsKeyIter it d (i + 1) kvs.length _
    rw [hl]
    exact st'
  done := by
    intro X hP hw hK hc i pins s σ H E I hf st hg
    subst hP hw hK
    obtain ⟨hd, hi⟩ := hg
    obtain ⟨f0, f1, f2, f3, f4, f5⟩ := hf it (by simp)
    obtain ⟨hs, hgd, hx, es', ep', vs, hdt, hsz, kv, hm⟩ := I.frzK hd
    obtain ⟨rfl, rfl⟩ := dict_ep hod hdt
    exact next_key_end (I.ok.hd hc) st hgd hdt hsz hi fun h' eb => ⟨rfl, I.turned (t' := s.toks) (fun b ob hb e => eb b ob hb e) f0 f1 f3 f4 f5⟩
  self := fun A i s Q E st h => wpAny_pyIter_keyiter st h
theorem turn_keysT {kvs : List (List Key × V)} (it : Addr) (hod : o.data = .dict es ep) : Turn P w K tg (Itkt d o kvs) [it] it (fun i h => h.IsKeyIter it d i kvs.length ep) where
  mem := by simp
  obj := fun i h st b hb => by
    have e : b = it := by simpa using hb
    subst e
    obtain ⟨oi, e, c, dd⟩ := st
    exact ⟨oi, e, fun v z => by rw [dd] at z; cases z⟩
  keep := fun i h h' st k => st.at fun oi e => k it (by simp) oi e
  item := by
    intro X hP hw hK hc i pins s σ H E I hf st hg
    subst hP hw hK
    obtain ⟨hd, hi⟩ := hg
    obtain ⟨f0, f1, f2, f3, f4, f5⟩ := hf it (by simp)
    obtain ⟨hs, hgd, hx, es', ep', hdt, hsz, ent⟩ := I.frzT hd
    obtain ⟨rfl, rfl⟩ := dict_ep hod hdt
    obtain ⟨⟨k, v⟩, hkv⟩ : ∃ p, kvs[i]? = some p := ⟨kvs[i], List.getElem?_eq_getElem hi⟩
    obtain ⟨en, q, hen, hkey, hq⟩ := ent i k v hkv
    refine next_key_item st hgd hdt hsz hen fun h' st' sb => ?_
    have I1 : Inv X pins σ H { s with heap := h' } := I.turned (t' := s.toks) (fun b ob hb e => (sb.2 b hb).trans e) f0 f1 f3 f4 f5
    obtain ⟨oi, e, c, dd⟩ := id st'
    exact ⟨en.key, rfl, go_of (s := { s with heap := h' }) e c dd (by decide) ⟨.ref q, H, I1, hkey, ⟨rfl, k, v, q, hkv, rfl, hq⟩, st', fun b hb => (hf b hb).1⟩⟩
  done := by
    intro X hP hw hK hc i pins s σ H E I hf st hg
    subst hP hw hK
    obtain ⟨hd, hi⟩ := hg
    obtain ⟨f0, f1, f2, f3, f4, f5⟩ := hf it (by simp)
    obtain ⟨hs, hgd, hx, es', ep', hdt, hsz, ent⟩ := I.frzT hd
    obtain ⟨rfl, rfl⟩ := dict_ep hod hdt
    exact next_key_end (I.ok.hd hc) st hgd hdt hsz hi fun h' eb => ⟨rfl, I.turned (t' := s.toks) (fun b ob hb e => eb b ob hb e) f0 f1 f3 f4 f5⟩
  self := fun A i s Q E st h => by
    refine wpAny_pyIter_slot st.typeIs F.slot_dict_keyiterator_iter (wpAny_call_entry F.slot_dict_keyiterator_iter st.typeIs F.entry_dict_keyiterator_iter ?_ (F.args_dict_keyiterator_iter_1 _))
    show wpAny _ _ (ret (.ref it)) _ _ s
    exact wpAny_pure ⟨_, rfl, "dict_keyiterator", _, st.typeIs, F.slot_dict_keyiterator_next.lookup, h⟩
end
def iKeys (td : TE) : TI := fun σ H R => td σ H fun x H1 => ∃ d o, x = .ref d /\ ((∃ kvs, H1 d = some (.frz o (.dK kvs)) /\ R (Itk d o kvs) H1) ∨ ∃ kvs, H1 d = some (.frz o (.dT kvs)) /\ R (Itkt d o kvs) H1)
section
variable {X : Cx} {tg e : Expr} {td : TE} {apos cpos : Pos}
theorem pi_keys (he : PE X e td) : PI X tg e (iKeys td) := by
  intro pins s σ H R I h
  refine thn (he pins s σ H _ I h) fun u s1 ⟨x, H1, I1, rx, d, o, ex, q⟩ => ?_
  subst ex
  obtain rfl : u = Value.ref d := rx
  rcases q with ⟨kvs, hd, q⟩ | ⟨kvs, hd, q⟩
  · obtain ⟨hs, hgd, hx, es, ep, vs, hdt, hsz, kv, hm⟩ := I1.frzK hd
    refine iter_keys hs hgd hx hdt (pi_one (tk := s1.toks) I1 _ (turn_keys _ hdt) ⟨_, Heap.get?_push_size _ rfl, rfl, ?_⟩ q)
    rw [hsz] <;> rfl
  · obtain ⟨hs, hgd, hx, es, ep, hdt, hsz, ent⟩ := I1.frzT hd
    refine iter_keys hs hgd hx hdt (pi_one (tk := s1.toks) I1 _ (turn_keysT _ hdt) ⟨_, Heap.get?_push_size _ rfl, rfl, ?_⟩ q)
    rw [hsz] <;> rfl
end
theorem boot_zip5 : bootBuiltins "zip" = some (.type "zip") := by decide +kernel
def Itz (K : PySem.W.Frag) (a b : Addr) : It :=
  ⟨fun i H => ∃ (xs ys : List V) (x y : V), SqL K H a xs /\ SqL K H b ys /\ xs[i]? = some x /\ ys[i]? = some y,
    fun i H v H' => ∃ T x y, v = .ref T /\ H T = none /\ H' = upd H T (.tup [x, y]) /\ (∀ xs, SqL K H a xs -> xs[i]? = some x) /\ ∀ ys, SqL K H b ys -> ys[i]? = some y,
    fun i H => ∃ xs ys : List V, SqL K H a xs /\ SqL K H b ys /\ (xs.length <= i ∨ ys.length <= i)⟩
theorem turn_zip {P : Program} {w : World} {K : PySem.W.Frag} {elts : List Expr} {kk : Nat} {tpos : Pos} {a b z TI TO i1 i2 : Addr} (D : ZipApart z TI TO i1 i2 a b) :
    Turn P w K (.Tuple elts kk tpos) (Itz K a b) [z, TI, TO, i1, i2] z (fun i h => IsZip h z TI TO .none /\ IsPair h TI (.ref i1) (.ref i2) /\ (∃ x y, IsPair h TO x y) /\ h.IsListIter i1 a i /\ h.IsListIter i2 b i) where
  mem := by simp
  obj := fun i h st c hc => by
    obtain ⟨hz, hTI, ⟨x, y, hTO⟩, ⟨o1, e1, _, d1⟩, ⟨o2, e2, _, d2⟩⟩ := st
    have e' : c = z ∨ c = TI ∨ c = TO ∨ c = i1 ∨ c = i2 := by simpa using hc
    rcases e' with q | q | q | q | q
    · rw [q]; exact ⟨_, hz, fun v q => nomatch q⟩
    · rw [q]; exact ⟨_, hTI, fun v q => nomatch q⟩
    · rw [q]; exact ⟨_, hTO, fun v q => nomatch q⟩
    · rw [q]; exact ⟨o1, e1, fun v q => by rw [d1] at q; cases q⟩
    · rw [q]; exact ⟨o2, e2, fun v q => by rw [d2] at q; cases q⟩
  keep := fun i h h' st k => by
    obtain ⟨hz, hTI, ⟨x, y, hTO⟩, h1, h2⟩ := st
    exact ⟨k z (by simp) _ hz, k TI (by simp) _ hTI, ⟨x, y, k TO (by simp) _ hTO⟩, h1.at fun o q => k i1 (by simp) o q, h2.at fun o q => k i2 (by simp) o q⟩
  item := by
    intro X hP hw hK hc i pins s σ H E I hf st hg
    subst hP hw hK
    obtain ⟨hz, hTI, ⟨x0, y0, hTO⟩, h1, h2⟩ := st
    obtain ⟨xs, ys, x, y, hqx, hqy, hx, hy⟩ := hg
    obtain ⟨its, rv, p, _⟩ := I.list hqx
    obtain ⟨its2, rv2, p2, _⟩ := I.list hqy
    obtain ⟨u, hu, ru⟩ := rv.get hx
    obtain ⟨u2, hu2, ru2⟩ := rv2.get hy
    have hzl : z < s.heap.objs.size := Heap.lt_size hz
    refine wpAny_pyNext_zip_item D hz hTI hTO h1 h2 p.isList p2.isList (x := u) (y := u2) (by simpa using hu) (by simpa using hu2) fun h' z' TO' h1' h2' hT hsz hk => ?_
    refine ⟨_, rfl, wpAny_letOwnedTupleGo_zip (s := { s with heap := h' }) z' fun h'' z'' sb => ?_⟩
    have hT2 : h''.get? s.heap.objs.size = some { cls := .type "tuple", data := .seq #[u, u2] } := (sb.2 _ (Nat.ne_of_gt hzl)).trans hT
    have new : ObjOk X.prog X.w (upd H s.heap.objs.size (.tup [x, y])) h'' s.heap.objs.size (.tup [x, y]) :=
      ⟨by show 2 <= sizeLine; decide, [u, u2], .cons ru (.cons ru2 .nil), ⟨_, hT2, rfl, _, rfl⟩⟩
    have I1 : Inv X pins σ (upd H s.heap.objs.size (.tup [x, y])) { s with heap := h'' } :=
      I.turnedNew (t' := s.toks) (ch := [z, TI, TO, i1, i2]) (fun c o hb q => (sb.2 c (fun q' => hb (by simp [q']))).trans (hk c o (fun q' => hb (by simp [q'])) (fun q' => hb (by simp [q'])) (fun q' => hb (by simp [q'])) (fun q' => hb (by simp [q'])) q)) hf (Nat.le_refl _) new
    refine ⟨.ref s.heap.objs.size, _, I1, rfl, ⟨_, x, y, rfl, I.hok.fresh (Nat.le_refl _), rfl, fun l hl => by rw [I.list_inj hl hqx]; exact hx, fun l hl => by rw [I.list_inj hl hqy]; exact hy⟩, ⟨z'', ?_, ⟨u, u2, ?_⟩, ?_, ?_⟩, fun c hcm => ?_⟩
    · exact (sb.2 _ D.TIz).trans (hk _ _ D.TIz D.TITO D.TIi1 D.TIi2 hTI)
    · exact (sb.2 _ D.TOz).trans TO'
    · exact h1'.at fun o q => (sb.2 _ D.i1z).trans q
    · exact h2'.at fun o q => (sb.2 _ D.i2z).trans q
    · have hlt : c < s.heap.objs.size := by
        have e' : c = z ∨ c = TI ∨ c = TO ∨ c = i1 ∨ c = i2 := by simpa using hcm
        rcases e' with q | q | q | q | q
        · rw [q]; exact hzl
        · rw [q]; exact Heap.lt_size hTI
        · rw [q]; exact Heap.lt_size hTO
        · rw [q]; obtain ⟨_, e1, _⟩ := h1; exact Heap.lt_size e1
        · rw [q]; obtain ⟨_, e2, _⟩ := h2; exact Heap.lt_size e2
      rw [upd_ne (Nat.ne_of_lt hlt)]
      exact (hf c hcm).1
  done := by
    intro X hP hw hK hc i pins s σ H E I hf st hg
    subst hP hw hK
    obtain ⟨hz, hTI, ⟨x0, y0, hTO⟩, h1, h2⟩ := st
    obtain ⟨xs, ys, hqx, hqy, hend⟩ := hg
    obtain ⟨its, rv, p, _⟩ := I.list hqx
    obtain ⟨its2, rv2, p2, _⟩ := I.list hqy
    have l1 := rv.length
    have l2 := rv2.length
    have he : its.toArray[i]? = none ∨ its2.toArray[i]? = none := by
      rcases hend with q | q
      · exact .inl (by simp; omega)
      · exact .inr (by simp; omega)
    exact wpAny_pyNext_zip_end (I.ok.hd hc) D hz hTI hTO h1 h2 p.isList p2.isList he fun h' hk => ⟨rfl, I.turnedL (t' := s.toks) (ch := [z, TI, TO, i1, i2]) (fun c o hb q =>
      hk c o (fun q' => hb (by simp [q'])) (fun q' => hb (by simp [q'])) (fun q' => hb (by simp [q'])) (fun q' => hb (by simp [q'])) q) hf⟩
  self := fun A i s Q E st h => wpAny_pyIter_zip st.1 h
def iZip (K : PySem.W.Frag) (ta : TA) : TI := fun σ H R => ta σ H fun vs H1 => ∃ a b xs ys, vs = [.ref a, .ref b] /\ SqL K H1 a xs /\ SqL K H1 b ys /\ R (Itz K a b) H1
theorem pi_zip {X : Cx} {e e2 : Expr} {ta : TA} {p pos tpos : Pos} {elts : List Expr} {kk : Nat} (hg : Gl X "zip") (hm : X.mg "zip" = none) (ha : PA X [e, e2] ta)
    (hs : starEach [e, e2] X.env = (false, eval e X.env) :: starEach [e2] X.env := by rfl) (hpl : (backTo pos (starEach [e2] X.env)).any (·.1) = false := by rfl) :
    PI X (.Tuple elts kk tpos) (.Call (.Name "zip" p) [e, e2] [] pos) (iZip X.K ta) := by
  intro pins s σ H R I h
  refine Call_ (ld_blt I hg hm boot_zip5 (PyProof.Rows.callWith_type1 (thn (ha pos pins s σ H _ I h) fun us s1 ⟨vs, H1, I1, r1, q1⟩ => ?_) hs hpl))
  obtain ⟨a, b, xs, ys, ex, hqx, hqy, q⟩ := q1
  subst ex
  cases r1 with
  | cons r rr =>
    cases rr with
    | cons r' rr =>
      cases rr
      cases r
      cases r'
      obtain ⟨its, rv, p1, _⟩ := I1.list hqx
      obtain ⟨its2, rv2, p2, _⟩ := I1.list hqy
      have la : a < s1.heap.objs.size := p1.lt
      have lb : b < s1.heap.objs.size := p2.lt
      refine call_zip_2 p1.isList p2.isList fun h' hz hTI hTO h1 h2 hsz hk => wpAny_pyIter_zip hz ?_
      have I2 : Inv X pins σ H1 { s1 with heap := h' } := I1.kept (t' := s1.toks) hk
      refine ⟨s1.heap.objs.size + 4, [s1.heap.objs.size + 4, s1.heap.objs.size + 2, s1.heap.objs.size + 3, s1.heap.objs.size, s1.heap.objs.size + 1], _, _, H1, rfl, I2, turn_zip (PySem.W.ktu_apart s1.heap.objs.size a b la lb), ⟨hz, hTI, ⟨_, _, hTO⟩, h1, h2⟩, fun c hcm => ?_, q⟩
      have e' : c = s1.heap.objs.size + 4 ∨ c = s1.heap.objs.size + 2 ∨ c = s1.heap.objs.size + 3 ∨ c = s1.heap.objs.size ∨ c = s1.heap.objs.size + 1 := by simpa using hcm
      have hle : s1.heap.objs.size <= c := by
        rcases e' with z | z | z | z | z
        · rw [z]; exact Nat.le_add_right _ _
        · rw [z]; exact Nat.le_add_right _ _
        · rw [z]; exact Nat.le_add_right _ _
        · rw [z]; exact Nat.le_refl _
        · rw [z]; exact Nat.le_add_right _ _
      exact I1.fpOk hle (I1.hok.fresh hle)
end L2
namespace L2
open PySem PySem.Spec PyProof.Rows
def inClass (s : Stmt) (j : Nat) : Stmt := match s with
  | .ClassDef _ _ _ body _ _ _ _ _ _ _ => body.getD j (.Pass ⟨0, 0, 0, 0⟩)
  | _ => .Pass ⟨0, 0, 0, 0⟩
def defArgs (s : Stmt) : Arguments := match s with
  | .FunctionDef _ a _ _ _ _ _ _ _ _ => a
  | _ => { posonlyargs := [], args := [], vararg := none, kwonlyargs := [], kw_defaults := [], kwarg := none, defaults := [] }
def defBody (s : Stmt) : List Stmt := match s with
  | .FunctionDef _ _ b _ _ _ _ _ _ _ => b
  | _ => []
def defScope (s : Stmt) : Scope := match s with
  | .FunctionDef _ _ _ _ _ _ sc _ _ _ => sc
  | _ => { kind := .function, names := [], isGenerator := false, isCoroutine := false }
abbrev CX0 : CXT := fun _ _ _ _ _ _ => False
abbrev E0 : XK := fun _ _ _ => False
theorem pass0 {X : Cx} : Passes CX0 X E0 := fun _ _ _ _ _ _ _ h => h.elim
structure Fun (K : PySem.W.Frag) (x qual : Str) (st : Stmt) (f : Addr) (fd : FuncData) : Prop where
  ex : ∃ (oc : Value) (od : Option Addr) (kV doc pm : Value) (an : Option Addr) (cdv ct : Value) (osl : Array (Option Value)),
    fd = PySem.W.fnOf x qual (defArgs st) (defBody st) (defScope st) .none kV doc pm an cdv ct /\ K.lookup f = some ⟨oc, od, .func fd, osl⟩ /\ PySem.W.codeIn K cdv qual = true
  kp : PySem.W.keepIn K (.ref f) = true
section
variable {P : Program} {w : World} {K : PySem.W.Frag} {mg : Str -> Option Value} {base : Heap}
theorem Fun.ok {x qual : Str} {st : Stmt} {f : Addr} {fd : FuncData} {N ps : List Str} {k : Nat} {sp : Sp} (F : Fun K x qual st f fd) (S : FnScope N ps (defScope st)) (len : ∀ vs H Q E, sp vs H Q E -> vs.length = ps.length)
    (hbody : ∀ (cdv : Value) (A : Around) (outer : List Env) (s : Shared) (H : Hp) (vs : List V) (Q : VK) (E : XK), Room k (A.deeper (envOfC qual (defScope st) s.heap.objs.size f cdv)) -> sp vs H Q E ->
      ∃ t, PSs (cxOf CX0 P w K mg base N qual (defScope st) f cdv A outer s H E).nox (defBody st) t /\ t { nx := fun _ H' => Q .non H', rt := Q } (start N vs) H) : FnOk P w K mg base CX0 (k + 1) f fd ps sp := by
  obtain ⟨oc, od, kV, doc, pm, an, cdv, ct, osl, rfl, lk, hcd⟩ := F.ex
  refine fn_of lk hcd S len fun A outer s H vs Q E hr hsp => ?_
  obtain ⟨t, h, q⟩ := hbody cdv A outer s H vs Q E hr hsp
  exact ⟨t, h.nox, q⟩
theorem Fun.binds {x qual : Str} {st : Stmt} {f : Addr} {fd : FuncData} {ps : List Str} (F : Fun K x qual st f fd)
    (h : ∀ (kV doc pm : Value) (an : Option Addr) (cdv ct : Value) (us : List Value), us.length = ps.length -> bindArgs (PySem.W.fnOf x qual (defArgs st) (defBody st) (defScope st) .none kV doc pm an cdv ct) ⟨us, []⟩ = pure (ps.zip us)) : Binds K fd ps [] := by
  obtain ⟨oc, od, kV, doc, pm, an, cdv, ct, osl, rfl, lk, hcd⟩ := F.ex
  exact .all (h kV doc pm an cdv ct)
theorem fun_mk {x qual : Str} {st : Stmt} {f : Addr} {oc : Value} {od an : Option Addr} {osl : Array (Option Value)} {kV doc pm cdv ct : Value} (l : K.lookup f = some ⟨oc, od, .func (PySem.W.fnOf x qual (defArgs st) (defBody st) (defScope st) .none kV doc pm an cdv ct), osl⟩)
    (c : PySem.W.codeIn K cdv qual = true) (k : PySem.W.keepIn K (.ref f) = true) : Fun K x qual st f (PySem.W.fnOf x qual (defArgs st) (defBody st) (defScope st) .none kV doc pm an cdv ct) := ⟨⟨oc, od, kV, doc, pm, an, cdv, ct, osl, rfl, l, c⟩, k⟩
end
theorem hu_of {A : Around} {k : Nat} (hr : Room k A) : A.units + 1 < cLine := Nat.lt_of_le_of_lt (Nat.add_le_add_left (by decide : 1 <= 64) _) hr.units
section
variable {X : Cx}
theorem pv (i : Nat) {x : Str} {pos : Pos} (hN : X.N[i]? = some x := by rfl) (hv : Vis X.env.scope x := by first | exact Or.inl rfl | exact Or.inr (Or.inl rfl) | exact Or.inr (Or.inr rfl)) (hd : (x == ("__debug__" : Str)) = false := by decide)
    (hcd : (x == ("__classdict__" : Str)) = false := by decide) : PE X (.Name x pos) (tVar i) := pe_var hN hv hd hcd
end
theorem iteF {A B : Prop} (h : B) : if false = true then A else B := by
  rw [if_neg Bool.false_ne_true]
  exact h
theorem iteT {A B : Prop} (h : A) : if true = true then A else B := by
  rw [if_pos rfl]
  exact h
theorem ite2 {c A B : Prop} [Decidable c] (h1 : c -> A) (h2 : ¬ c -> B) : if c then A else B := by
  by_cases h : c
  · rw [if_pos h]
    exact h1 h
  · rw [if_neg h]
    exact h2 h
def Same (H H' : Hp) : Prop := ∀ b o, H b = some o -> H' b = some o
theorem Same.refl (H : Hp) : Same H H := fun _ _ h => h
theorem Same.trans {H H1 H2 : Hp} (a : Same H H1) (b : Same H1 H2) : Same H H2 := fun c o h => b c o (a c o h)
theorem Same.free {H H' : Hp} (e : Same H H') {l : Addr} (h : H' l = Option.none) : H l = Option.none := by
  cases q : H l with
  | none => rfl
  | some o =>
    rw [e l o q] at h
    cases h
theorem Same.seq {K : PySem.W.Frag} {H H' : Hp} {a : Addr} {xs : List V} (e : Same H H') (h : SqL K H a xs) : SqL K H' a xs := by
  rcases h with (h | ⟨o, h⟩) | h
  · exact .inl (.inl (e _ _ h))
  · exact .inl (.inr ⟨o, e _ _ h⟩)
  · exact .inr h
end L2
set_option linter.all false
namespace L2
open PySem PySem.Spec PyProof.Rows
open PySem.W (WData Codec OpenSpec Well WellAll ReadsW ReadsAllW)
mutual
/-- x stands for the datum d, lists and tuples all the way -/
inductive Dw (K : PySem.W.Frag) (H : Hp) : V -> WData -> Prop
  | non : Dw K H .non .none
  | bl (b : Bool) : Dw K H (.bl b) (.bool b)
  | int (i : Int) : Dw K H (.int i) (.int i)
  | str (x : Str) : Dw K H (.str x) (.str x)
  | byt (b : Array UInt8) : Dw K H (.byt b) (.bytes b.toList)
  | lst {a : Addr} {xs : List V} {ds : List WData} : SqL K H a xs -> DwAll K H xs ds -> Dw K H (.ref a) (.list ds)
  | tup {a : Addr} {xs : List V} {ds : List WData} : SqT K H a xs -> DwAll K H xs ds -> Dw K H (.ref a) (.tuple ds)
inductive DwAll (K : PySem.W.Frag) (H : Hp) : List V -> List WData -> Prop
  | nil : DwAll K H [] []
  | cons {v : V} {vs : List V} {d : WData} {ds : List WData} : Dw K H v d -> DwAll K H vs ds -> DwAll K H (v :: vs) (d :: ds)
end
theorem dw_ints {K : PySem.W.Frag} {H : Hp} : ∀ ns : List Int, DwAll K H (ns.map V.int) (ns.map WData.int)
  | [] => .nil
  | n :: r => .cons (.int n) (dw_ints r)
theorem ints_dw {K : PySem.W.Frag} {H : Hp} : ∀ (ns : List Int) (xs : List V), DwAll K H xs (ns.map WData.int) -> xs = ns.map V.int
  | [], xs, h => by
    cases h
    rfl
  | n :: r, xs, h => by
    cases h with
    | cons h1 h2 =>
      cases h1
      rw [ints_dw r _ h2] <;> rfl
section
variable {P : Program} {w : World} {K : PySem.W.Frag} {H : Hp} {h : Heap} {R : PySem.W.WRecords} {cl : Str -> Option Addr}
theorem sqL_at {a : Addr} {xs : List V} (hok : HOk P w H h) (KX : K.In h) (q : SqL K H a xs) : ∃ (its : List Value) (o : Obj) (n : Nat), Vals xs its /\ h.get? a = some o /\ o.cls = .type "list" /\ o.data = .seq its.toArray n := by
  rcases q with q | ⟨o, its, n, e, hc, _, hd, _, hv⟩
  · obtain ⟨_, its, n, hv, e⟩ := (show ObjOk P w H h a (.lst xs) from q.ok hok)
    exact ⟨its, _, n, hv, e, rfl, rfl⟩
  · exact ⟨its.toList, o, n, hv, KX _ _ e, hc, by simp [hd]⟩
theorem sqT_at {a : Addr} {xs : List V} (hok : HOk P w H h) (KX : K.In h) (q : SqT K H a xs) : ∃ (its : List Value) (o : Obj) (n : Nat), Vals xs its /\ h.get? a = some o /\ o.cls = .type "tuple" /\ o.data = .seq its.toArray n := by
  rcases q with q | ⟨o, its, n, e, hc, hd, _, hv⟩
  · obtain ⟨_, its, hv, o, e, hc, n, hd⟩ := (show ObjOk P w H h a (.tup xs) from q.ok hok)
    exact ⟨its, o, n, hv, e, hc, hd⟩
  · exact ⟨its.toList, o, n, hv, KX _ _ e, hc, by simp [hd]⟩
mutual
theorem Dw.reads (hok : HOk P w H h) (KX : K.In h) : ∀ (d : WData) (v : V) (u : Value), Dw K H v d -> RelV v u -> ∃ as, ReadsW R cl h u d as
  | .none, _, _, x, r => by
    cases x
    cases r
    exact ⟨_, ReadsW.none⟩
  | .bool b, _, _, x, r => by
    cases x
    cases r
    exact ⟨_, ReadsW.bool b⟩
  | .int i, _, _, x, r => by
    cases x
    obtain ⟨t, rfl⟩ := r
    exact ⟨_, ReadsW.int i t⟩
  | .str s, _, _, x, r => by
    cases x
    obtain ⟨t, rfl⟩ := r
    exact ⟨_, ReadsW.str s t⟩
  | .bytes b, _, _, x, r => by
    cases x
    obtain ⟨t, rfl⟩ := r
    exact ⟨_, ReadsW.bytes _ t⟩
  | .list ds, _, _, x, r => by
    cases x with
    | lst hs ha =>
      cases r
      obtain ⟨its, o, n, rv, ho, hc, hd⟩ := sqL_at hok KX hs
      obtain ⟨as, hr⟩ := Dw.readsAll hok KX ds _ its ha rv
      exact ⟨_, ReadsW.list ho hc hd hr⟩
  | .tuple ds, _, _, x, r => by
    cases x with
    | tup hs ha =>
      cases r
      obtain ⟨its, o, n, rv, ho, hc, hd⟩ := sqT_at hok KX hs
      obtain ⟨as, hr⟩ := Dw.readsAll hok KX ds _ its ha rv
      exact ⟨_, ReadsW.tuple ho hc hd hr⟩
  | .float _, _, _, x, _ => by cases x
  | .dict _, _, _, x, _ => by cases x
  | .bytearray _, _, _, x, _ => by cases x
  | .set _, _, _, x, _ => by cases x
  | .frozenset _, _, _, x, _ => by cases x
  | .obj _ _, _, _, x, _ => by cases x
theorem Dw.readsAll (hok : HOk P w H h) (KX : K.In h) : ∀ (ds : List WData) (vs : List V) (us : List Value), DwAll K H vs ds -> Vals vs us -> ∃ as, ReadsAllW R cl h us ds as
  | [], _, _, x, r => by
    cases x
    cases r
    exact ⟨_, ReadsAllW.nil⟩
  | d :: ds, _, _, x, r => by
    cases x with
    | cons h1 h2 =>
      cases r with
      | cons r1 r2 =>
        obtain ⟨as, q1⟩ := Dw.reads hok KX d _ _ h1 r1
        obtain ⟨bs, q2⟩ := Dw.readsAll hok KX ds _ _ h2 r2
        exact ⟨_, ReadsAllW.cons q1 q2⟩
end
end
mutual
/-- data that a codec tells -/
def plW : WData -> Bool
  | .none => true
  | .bool _ => true
  | .int _ => true
  | .str _ => true
  | .bytes _ => true
  | .list xs => plWs xs
  | .tuple xs => plWs xs
  | _ => false
def plWs : List WData -> Bool
  | [] => true
  | x :: r => plW x && plWs r
end
theorem plWs_map {α : Type} {f : α -> WData} (h : ∀ a, plW (f a) = true) : ∀ l : List α, plWs (l.map f) = true
  | [] => rfl
  | x :: r => by
    show (plW (f x) && plWs (r.map f)) = true
    rw [h x, plWs_map h r] <;> rfl
theorem pl_enc : ∀ (c : Codec) (a : c.denote), plW (c.enc a) = true
  | .unit, _ => rfl
  | .bool, _ => rfl
  | .int _ _, _ => rfl
  | .nat _ _, _ => rfl
  | .u8, _ => rfl
  | .bytes _ _, _ => rfl
  | .text _ _ _ _, _ => rfl
  | .list _ _ c, a => plWs_map (fun x => pl_enc c x) a
  | .pair c d, a => by
    show (plW (c.enc a.1) && (plW (d.enc a.2) && true)) = true
    rw [pl_enc c a.1, pl_enc d a.2] <;> rfl
  | .triple c d e, a => by
    show (plW (c.enc a.1) && (plW (d.enc a.2.1) && (plW (e.enc a.2.2) && true))) = true
    rw [pl_enc c a.1, pl_enc d a.2.1, pl_enc e a.2.2] <;> rfl
  | .option c, none => rfl
  | .option c, some x => pl_enc c x
theorem pl_encAll : ∀ (cs : List Codec) (a : Codec.denoteAll cs), plWs (Codec.encAll cs a) = true
  | [], _ => rfl
  | c :: cs, a => by
    show (plW (c.enc a.1) && plWs (Codec.encAll cs a.2)) = true
    rw [pl_enc c a.1, pl_encAll cs a.2] <;> rfl
theorem weight_mem : ∀ {xs : List WData} {d : WData}, d ∈ xs -> d.weight <= WData.weightAll xs
  | [], d, h => absurd h (by simp)
  | x :: r, d, h => by
    show d.weight <= x.weight + 1 + WData.weightAll r
    rcases List.mem_cons.mp h with e | m
    · rw [e]
      omega
    · have z := weight_mem m
      omega
def toV : Value -> V
  | .none => .non
  | .bool b => .bl b
  | .int i _ => .int i
  | .str x _ => .str x
  | .bytes b _ => .byt b
  | .ref a => .ref a
  | _ => .non
def OkU (A : List Addr) : Value -> Prop
  | .none => True
  | .bool _ => True
  | .int _ _ => True
  | .str _ _ => True
  | .bytes _ _ => True
  | .ref a => a ∈ A
  | _ => False
theorem OkU.mono {A B : List Addr} (h : ∀ a ∈ A, a ∈ B) : ∀ {u : Value}, OkU A u -> OkU B u := fun {u} x => by
  cases u with
  | ref a => exact h a x
  | none => trivial
  | bool b => trivial
  | int i t => trivial
  | str s t => trivial
  | bytes b t => trivial
  | _ => exact False.elim x
theorem relV_toV {A : List Addr} {u : Value} (x : OkU A u) : RelV (toV u) u := by
  cases u with
  | ref a => rfl
  | none => rfl
  | bool b => rfl
  | int i t => exact ⟨t, rfl⟩
  | str s t => exact ⟨t, rfl⟩
  | bytes b t => exact ⟨t, rfl⟩
  | _ => exact False.elim x
theorem vals_toV {A : List Addr} : ∀ {vs : List Value}, (∀ u ∈ vs, OkU A u) -> Vals (vs.map toV) vs
  | [], _ => .nil
  | u :: r, h => .cons (relV_toV (h u (List.mem_cons_self ..))) (vals_toV fun x hx => h x (List.mem_cons_of_mem _ hx))
def ArgOb (h : Heap) (A : List Addr) (a : Addr) : Prop := ∃ vs : List Value, vs.length <= sizeLine /\ (∀ u ∈ vs, OkU A u) /\
  (h.get? a = some { cls := .type "list", data := .seq vs.toArray } ∨ h.get? a = some { cls := .type "tuple", data := .seq vs.toArray })
theorem ArgOb.mono {h : Heap} {A B : List Addr} {a : Addr} (k : ∀ a ∈ A, a ∈ B) (x : ArgOb h A a) : ArgOb h B a := by
  obtain ⟨vs, h1, h2, h3⟩ := x
  exact ⟨vs, h1, fun u hu => (h2 u hu).mono k, h3⟩
theorem wellAll_len {P : Params} {h : Heap} : ∀ {vs : List Value} {ds : List WData}, WellAll P h vs ds -> vs.length = ds.length
  | _, _, .nil => rfl
  | _, _, .cons _ b => by
    show _ + 1 = _ + 1
    rw [wellAll_len b]
theorem well_list {P : Params} {h : Heap} {v : Value} {ds : List WData} (x : Well P h v (.list ds)) : ∃ (a : Addr) (vs : List Value), v = .ref a /\ h.get? a = some { cls := .type "list", data := .seq vs.toArray } /\ WellAll P h vs ds := by
  cases x with
  | list ho hall => exact ⟨_, _, rfl, ho, hall⟩
theorem well_tuple {P : Params} {h : Heap} {v : Value} {ds : List WData} (x : Well P h v (.tuple ds)) : ∃ (a : Addr) (vs : List Value), v = .ref a /\ h.get? a = some { cls := .type "tuple", data := .seq vs.toArray } /\ WellAll P h vs ds := by
  cases x with
  | tuple ho hall => exact ⟨_, _, rfl, ho, hall⟩
theorem well_cons {P : Params} {h : Heap} {us : List Value} {d : WData} {ds : List WData} (x : WellAll P h us (d :: ds)) : ∃ (v : Value) (vs : List Value), us = v :: vs /\ Well P h v d /\ WellAll P h vs ds := by
  cases x with
  | cons a b => exact ⟨_, _, rfl, a, b⟩
theorem line_of {n : Nat} (h : n <= 1048576) : n <= sizeLine := Nat.le_trans h (by decide)
section
variable {P : Params} {h : Heap}
mutual
theorem area_one : ∀ (d : WData) (v : Value), Well P h v d -> plW d = true -> d.weight <= 1048576 -> ∃ A : List Addr, OkU A v /\ ∀ a ∈ A, ArgOb h A a
  | .none, _, x, _, _ => by
    cases x
    exact ⟨[], trivial, fun a m => absurd m (by simp)⟩
  | .bool b, _, x, _, _ => by
    cases x
    exact ⟨[], trivial, fun a m => absurd m (by simp)⟩
  | .int i, _, x, _, _ => by
    cases x
    exact ⟨[], trivial, fun a m => absurd m (by simp)⟩
  | .str s, _, x, _, _ => by
    cases x
    exact ⟨[], trivial, fun a m => absurd m (by simp)⟩
  | .bytes b, _, x, _, _ => by
    cases x
    exact ⟨[], trivial, fun a m => absurd m (by simp)⟩
  | .list ds, _, x, p, z => by
    obtain ⟨a, vs, rfl, ho, hall⟩ := well_list x
    have z2 : WData.weightAll ds <= 1048576 := z
    obtain ⟨A, h1, h2⟩ := area_all ds _ hall p fun d hd => Nat.le_trans (weight_mem hd) z2
    have k : ∀ b ∈ A, b ∈ a :: A := fun b hb => List.mem_cons_of_mem _ hb
    refine ⟨a :: A, List.mem_cons_self .., fun b hb => ?_⟩
    rcases List.mem_cons.mp hb with e | m
    · rw [e]
      exact ⟨vs, line_of (by rw [wellAll_len hall]; exact Nat.le_trans (PySem.W.length_le_weightAllW ds) z2), fun u hu => (h1 u hu).mono k, .inl ho⟩
    · exact (h2 b m).mono k
  | .tuple ds, _, x, p, z => by
    obtain ⟨a, vs, rfl, ho, hall⟩ := well_tuple x
    have z2 : WData.weightAll ds <= 1048576 := z
    obtain ⟨A, h1, h2⟩ := area_all ds _ hall p fun d hd => Nat.le_trans (weight_mem hd) z2
    have k : ∀ b ∈ A, b ∈ a :: A := fun b hb => List.mem_cons_of_mem _ hb
    refine ⟨a :: A, List.mem_cons_self .., fun b hb => ?_⟩
    rcases List.mem_cons.mp hb with e | m
    · rw [e]
      exact ⟨vs, line_of (by rw [wellAll_len hall]; exact Nat.le_trans (PySem.W.length_le_weightAllW ds) z2), fun u hu => (h1 u hu).mono k, .inr ho⟩
    · exact (h2 b m).mono k
  | .float _, _, _, p, _ => Bool.noConfusion (show false = true from p)
  | .dict _, _, _, p, _ => Bool.noConfusion (show false = true from p)
  | .bytearray _, _, _, p, _ => Bool.noConfusion (show false = true from p)
  | .set _, _, _, p, _ => Bool.noConfusion (show false = true from p)
  | .frozenset _, _, _, p, _ => Bool.noConfusion (show false = true from p)
  | .obj _ _, _, _, p, _ => Bool.noConfusion (show false = true from p)
theorem area_all : ∀ (ds : List WData) (vs : List Value), WellAll P h vs ds -> plWs ds = true -> (∀ d ∈ ds, d.weight <= 1048576) -> ∃ A : List Addr, (∀ u ∈ vs, OkU A u) /\ ∀ a ∈ A, ArgOb h A a
  | [], _, x, _, _ => by
    cases x
    exact ⟨[], fun u m => absurd m (by simp), fun a m => absurd m (by simp)⟩
  | d :: ds, _, x, p, z => by
    obtain ⟨v, vs, rfl, x1, x2⟩ := well_cons x
    have q : plW d = true /\ plWs ds = true := Bool.and_eq_true_iff.mp p
    obtain ⟨A, a1, a2⟩ := area_one d v x1 q.1 (z d (List.mem_cons_self ..))
    obtain ⟨B, b1, b2⟩ := area_all ds vs x2 q.2 fun e he => z e (List.mem_cons_of_mem _ he)
    have kA : ∀ b ∈ A, b ∈ A ++ B := fun b hb => List.mem_append.mpr (.inl hb)
    have kB : ∀ b ∈ B, b ∈ A ++ B := fun b hb => List.mem_append.mpr (.inr hb)
    refine ⟨A ++ B, fun u hu => ?_, fun b hb => ?_⟩
    · rcases List.mem_cons.mp hu with e | m
      · rw [e]
        exact a1.mono kA
      · exact (b1 u m).mono kB
    · rcases List.mem_append.mp hb with m | m
      · exact (a2 b m).mono kA
      · exact (b2 b m).mono kB
end
end
def hoOf (o : Obj) : Option HO := match o.data with
  | .seq vs _ => if (o.cls == Value.type "list") = true then some (.frz o (.lst (vs.toList.map toV))) else some (.frz o (.tup (vs.toList.map toV)))
  | _ => none
def argH (K : PySem.W.Frag) (h : Heap) (A : List Addr) : Hp := fun b => if b ∈ A then (if (K.lookup b).isNone = true then (h.get? b).bind hoOf else none) else none
def OnlyF (H : Hp) : Prop := ∀ b, H b = none ∨ ∃ o u, H b = some (.frz o u)
theorem hoOf_lst (vs : List Value) : hoOf { cls := .type "list", data := .seq vs.toArray } = some (.frz { cls := .type "list", data := .seq vs.toArray } (.lst (vs.map toV))) := by
  show (if (Value.type "list" == Value.type "list") = true then some (HO.frz { cls := .type "list", data := .seq vs.toArray } (.lst (vs.toArray.toList.map toV))) else some (HO.frz { cls := .type "list", data := .seq vs.toArray } (.tup (vs.toArray.toList.map toV)))) = _
  rw [if_pos (beq_self_eq_true _)]
theorem hoOf_tup (vs : List Value) : hoOf { cls := .type "tuple", data := .seq vs.toArray } = some (.frz { cls := .type "tuple", data := .seq vs.toArray } (.tup (vs.map toV))) := by
  show (if (Value.type "tuple" == Value.type "list") = true then some (HO.frz { cls := .type "tuple", data := .seq vs.toArray } (.lst (vs.toArray.toList.map toV))) else some (HO.frz { cls := .type "tuple", data := .seq vs.toArray } (.tup (vs.toArray.toList.map toV)))) = _
  rw [if_neg (by decide)]
section
variable {P : Program} {w : World} {K : PySem.W.Frag} {h : Heap} {A : List Addr}
theorem argH_at {b : Addr} {o : Obj} (hb : b ∈ A) (hk : K.lookup b = none) (e : h.get? b = some o) : argH K h A b = hoOf o := by
  unfold argH
  rw [if_pos hb, hk, if_pos (show (none : Option Obj).isNone = true from rfl), e] <;> rfl
theorem of_argH {b : Addr} {u : HO} (q : argH K h A b = some u) : b ∈ A /\ K.lookup b = none := by
  unfold argH at q
  by_cases hb : b ∈ A
  · rw [if_pos hb] at q
    cases hk : K.lookup b with
    | none => exact ⟨hb, rfl⟩
    | some o =>
      rw [hk, if_neg (by simp)] at q
      cases q
  · rw [if_neg hb] at q
    cases q
theorem argH_is (ar : ∀ a ∈ A, ArgOb h A a) {b : Addr} {u : HO} (q : argH K h A b = some u) : K.lookup b = none /\ ∃ vs : List Value, vs.length <= sizeLine /\ (∀ u ∈ vs, OkU A u) /\
    ((h.get? b = some { cls := .type "list", data := .seq vs.toArray } /\ u = .frz { cls := .type "list", data := .seq vs.toArray } (.lst (vs.map toV))) ∨
     (h.get? b = some { cls := .type "tuple", data := .seq vs.toArray } /\ u = .frz { cls := .type "tuple", data := .seq vs.toArray } (.tup (vs.map toV)))) := by
  obtain ⟨hb, hk⟩ := of_argH q
  obtain ⟨vs, h1, h2, h3⟩ := ar b hb
  refine ⟨hk, vs, h1, h2, ?_⟩
  rcases h3 with e | e
  · rw [argH_at hb hk e, hoOf_lst] at q
    exact .inl ⟨e, (Option.some.inj q).symm⟩
  · rw [argH_at hb hk e, hoOf_tup] at q
    exact .inr ⟨e, (Option.some.inj q).symm⟩
theorem argH_only (ar : ∀ a ∈ A, ArgOb h A a) : OnlyF (argH K h A) := fun b => by
  cases q : argH K h A b with
  | none => exact .inl rfl
  | some u =>
    obtain ⟨_, vs, _, _, ⟨_, e⟩ | ⟨_, e⟩⟩ := argH_is ar q
    · exact .inr ⟨_, _, by rw [e]⟩
    · exact .inr ⟨_, _, by rw [e]⟩
theorem argH_ok (ar : ∀ a ∈ A, ArgOb h A a) : HOk P w (argH K h A) h := fun b u q => by
  obtain ⟨_, vs, h1, h2, ⟨e, rfl⟩ | ⟨e, rfl⟩⟩ := argH_is ar q
  · exact ⟨e, by rw [List.length_map]; exact h1, vs, _, vals_toV h2, e⟩
  · exact ⟨e, by rw [List.length_map]; exact h1, vs, vals_toV h2, _, e, rfl, _, rfl⟩
theorem seq_inj {c c' : Value} {vs us : List Value} (e : (some { cls := c, data := .seq vs.toArray } : Option Obj) = some { cls := c', data := .seq us.toArray }) : c = c' /\ vs = us := by
  have e1 := Option.some.inj e
  have e2 : c = c' := congrArg Obj.cls e1
  have e3 : Data.seq vs.toArray = Data.seq us.toArray := congrArg Obj.data e1
  injection e3 with e4
  refine ⟨e2, ?_⟩
  have e5 := congrArg Array.toList e4
  simpa using e5
theorem argL (KX : K.In h) (ar : ∀ a ∈ A, ArgOb h A a) {a : Addr} {vs : List Value} (ha : a ∈ A) (e : h.get? a = some { cls := .type "list", data := .seq vs.toArray }) : (∀ u ∈ vs, OkU A u) /\ SqL K (argH K h A) a (vs.map toV) := by
  obtain ⟨us, h1, h2, h3⟩ := ar a ha
  have hu : us = vs := by
    rcases h3 with q | q
    · rw [e] at q
      exact (seq_inj q).2.symm
    · rw [e] at q
      exact absurd (Value.type.inj (seq_inj q).1) (by decide)
  subst hu
  refine ⟨h2, ?_⟩
  cases hk : K.lookup a with
  | none => exact .inl (.inr ⟨_, by rw [argH_at ha hk e, hoOf_lst]⟩)
  | some o =>
    have e2 := KX a o hk
    rw [e] at e2
    obtain rfl := Option.some.inj e2
    exact .inr ⟨_, us.toArray, _, hk, rfl, rfl, rfl, by rw [List.size_toArray]; exact h1, by simpa using vals_toV h2⟩
theorem argT (KX : K.In h) (ar : ∀ a ∈ A, ArgOb h A a) {a : Addr} {vs : List Value} (ha : a ∈ A) (e : h.get? a = some { cls := .type "tuple", data := .seq vs.toArray }) : (∀ u ∈ vs, OkU A u) /\ SqT K (argH K h A) a (vs.map toV) := by
  obtain ⟨us, h1, h2, h3⟩ := ar a ha
  have hu : us = vs := by
    rcases h3 with q | q
    · rw [e] at q
      exact absurd (Value.type.inj (seq_inj q).1) (by decide)
    · rw [e] at q
      exact (seq_inj q).2.symm
  subst hu
  refine ⟨h2, ?_⟩
  cases hk : K.lookup a with
  | none => exact .inl (.inr ⟨_, by rw [argH_at ha hk e, hoOf_tup]⟩)
  | some o =>
    have e2 := KX a o hk
    rw [e] at e2
    obtain rfl := Option.some.inj e2
    exact .inr ⟨_, us.toArray, _, hk, rfl, rfl, by rw [List.size_toArray]; exact h1, by simpa using vals_toV h2⟩
mutual
theorem dw_one {Pm : Params} (KX : K.In h) (ar : ∀ a ∈ A, ArgOb h A a) : ∀ (d : WData) (v : Value), Well Pm h v d -> plW d = true -> OkU A v -> Dw K (argH K h A) (toV v) d
  | .none, _, x, _, _ => by
    cases x
    exact .non
  | .bool b, _, x, _, _ => by
    cases x
    exact .bl b
  | .int i, _, x, _, _ => by
    cases x
    exact .int i
  | .str s, _, x, _, _ => by
    cases x
    exact .str s
  | .bytes b, _, x, _, _ => by
    cases x
    have z := Dw.byt (K := K) (H := argH K h A) b.toArray
    exact z
  | .list ds, _, x, p, hu => by
    obtain ⟨a, vs, rfl, ho, hall⟩ := well_list x
    obtain ⟨h2, hs⟩ := argL KX ar hu ho
    exact .lst hs (dw_all KX ar ds _ hall p h2)
  | .tuple ds, _, x, p, hu => by
    obtain ⟨a, vs, rfl, ho, hall⟩ := well_tuple x
    obtain ⟨h2, hs⟩ := argT KX ar hu ho
    exact .tup hs (dw_all KX ar ds _ hall p h2)
  | .float _, _, _, p, _ => Bool.noConfusion (show false = true from p)
  | .dict _, _, _, p, _ => Bool.noConfusion (show false = true from p)
  | .bytearray _, _, _, p, _ => Bool.noConfusion (show false = true from p)
  | .set _, _, _, p, _ => Bool.noConfusion (show false = true from p)
  | .frozenset _, _, _, p, _ => Bool.noConfusion (show false = true from p)
  | .obj _ _, _, _, p, _ => Bool.noConfusion (show false = true from p)
theorem dw_all {Pm : Params} (KX : K.In h) (ar : ∀ a ∈ A, ArgOb h A a) : ∀ (ds : List WData) (vs : List Value), WellAll Pm h vs ds -> plWs ds = true -> (∀ u ∈ vs, OkU A u) -> DwAll K (argH K h A) (vs.map toV) ds
  | [], _, x, _, _ => by
    cases x
    exact .nil
  | d :: ds, _, x, p, hu => by
    obtain ⟨v, vs, rfl, x1, x2⟩ := well_cons x
    have q : plW d = true /\ plWs ds = true := Bool.and_eq_true_iff.mp p
    exact .cons (dw_one KX ar d v x1 q.1 (hu _ (List.mem_cons_self ..))) (dw_all KX ar ds vs x2 q.2 fun u m => hu u (List.mem_cons_of_mem _ m))
end
end
theorem spec_call {P : Program} {w : World} {K : PySem.W.Frag} {mg mb : Str -> Option Value} {CX : CXT} {k : Nat} {fa : Addr} {fd : FuncData} {ps : List Str} {sp : Sp} {s₁ : Shared} {vals : List Value} {ds : List WData} {R : PySem.W.WRecords} {cl : Str -> Option Addr} {d0 : WData}
    (KX : K.In s₁.heap) (hns : s₁.heap.Ns mainGlobals mg) (hb : s₁.heap.Ns builtinsNs mb) (hbb : ∀ x : Str, x ≠ "__name__" -> mb x = bootBuiltins x) (hlim : s₁.heap.NoLimit) (hg : s₁.gens = #[])
    (hwl : WellAll w.params s₁.heap vals ds) (hpl : plWs ds = true) (hwt : ∀ d ∈ ds, d.weight <= 1048576) (hr : Room k callerA)
    (F : ∀ base : Heap, K.In base -> base.Ns mainGlobals mg -> FnOk P w K mg base CX k fa fd ps sp) (hbind : ∀ (s : Shared) (us : List Value), us.length = ps.length -> BindsTo s fd ⟨us, []⟩ (ps.zip us)) (hlen : ds.length = ps.length)
    (hsp : ∀ (H : Hp) (xs : List V), OnlyF H -> DwAll K H xs ds -> sp xs H (fun v H' => Dw K H' v d0) fun _ _ _ => False)
    (hCX : ∀ H e s', CX [] H s₁ (fun _ _ _ => False) e s' -> False) :
    codeAny (model P w) callerA (.call (.ref fa) ⟨vals, []⟩) (fun r s' => ∃ u as, r = .ok (.ret u) /\ ReadsW R cl s'.heap u d0 as /\ OldK s₁.heap s'.heap /\ s'.os = s₁.os /\ AllBare s'.gens) s₁ := by
  obtain ⟨A, ho, ar⟩ := area_all ds vals hwl hpl hwt
  have hO : OnlyF (argH K s₁.heap A) := argH_only ar
  have hok : HOk P w (argH K s₁.heap A) s₁.heap := argH_ok ar
  have hS := dw_all KX ar ds vals hwl hpl ho
  have hV := vals_toV ho
  have hK : ∀ b u, argH K s₁.heap A b = some u -> K.lookup b = none := fun b u q => (argH_is ar q).1
  have noA : ∀ {b : Addr} {o : Obj} {es : Array DictEntry} {ep : Nat}, s₁.heap.get? b = some o -> o.data = .dict es ep -> argH K s₁.heap A b = none := fun {b o es ep} e d => by
    cases q : argH K s₁.heap A b with
    | none => rfl
    | some u =>
      obtain ⟨_, vs, _, _, ⟨e2, _⟩ | ⟨e2, _⟩⟩ := argH_is ar q
      · rw [e2] at e
        cases e
        have d' : Data.seq vs.toArray _ = Data.dict es ep := d
        cases d'
      · rw [e2] at e
        cases e
        have d' : Data.seq vs.toArray _ = Data.dict es ep := d
        cases d'
  generalize argH K s₁.heap A = H at hO hok hS hK noA
  have base_of : ∀ {b : Addr} {o : Obj}, s₁.heap.get? b = some o -> H b = none -> (hidT s₁.heap H).get? b = some o := fun e n => hidT_get e n
  have nsK : ∀ {b : Addr} {m : Str -> Option Value}, s₁.heap.Ns b m -> (hidT s₁.heap H).Ns b m := fun {b m} ⟨o, es, ep, e, d, r⟩ => ⟨o, es, ep, base_of e (noA e d), d, r⟩
  have nK : ∀ b o, K.lookup b = some o -> H b = none := fun b o e => by
    cases q : H b with
    | none => rfl
    | some u =>
      rw [hK b u q] at e
      cases e
  have hKb : K.In (hidT s₁.heap H) := fun b o e => base_of (KX b o e) (nK b o e)
  have hM : Mod K mg (hidT s₁.heap H) := ⟨hKb, nsK hns, ⟨mb, nsK hb, hbb⟩, let ⟨mc, h1, h2⟩ := hlim; ⟨mc, nsK h1, h2⟩⟩
  have e0 : Env0 P w K mg (hidT s₁.heap H) callerA [] s₁ H := ⟨rfl, hM, fun b o e => of_hidT e, Nat.le_of_eq (hidT_size _ _), trivial, fun b hb => absurd (show b ∈ ([] : List Addr) from hb) (by simp), hok, .of_eq hg⟩
  have hl : vals.length = ps.length := by rw [wellAll_len hwl]; exact hlen
  refine codeAny_mono ((F _ hKb (nsK hns)).run callerA [] s₁ H ⟨vals, []⟩ vals (vals.map toV) _ _ hr e0 (hbind s₁ vals hl) hV (hsp H _ hO hS)) fun r s' x => ?_
  cases r with
  | error e => exact (hCX H e s' x).elim
  | ok fl =>
    cases fl with
    | next => exact False.elim x
    | brk => exact False.elim x
    | cont => exact False.elim x
    | ret u =>
      obtain ⟨v, H', os, bare, un, hok', r', q⟩ := x
      have kept : ∀ b o, s₁.heap.get? b = some o -> s'.heap.get? b = some o := fun b o e => by
        cases q2 : H b with
        | none => exact un.keep b o e q2 (by intro z; exact absurd (show b ∈ ([] : List Addr) from z) (by simp)) (by simp)
        | some u2 =>
          rcases hO b with z | ⟨ob, u3, z⟩
          · rw [q2] at z
            cases z
          · have z2 := un.frzs b ob _ z
            obtain ⟨e1, _⟩ := hok b _ z
            obtain ⟨e2, _⟩ := hok' b _ z2
            rw [e] at e1
            cases e1
            exact e2
      have KX' : K.In s'.heap := fun b o e => kept b o (KX b o e)
      obtain ⟨as, hrd⟩ := Dw.reads (R := R) (cl := cl) hok' KX' d0 v u q r'
      exact ⟨u, as, rfl, hrd, OldK.of_keep kept, os, bare⟩
theorem layable_weight {ds : List WData} (h : WData.layableAll ds = true) : ∀ d ∈ ds, d.weight <= 1048576 := fun d hd =>
  (PySem.W.layableW_iff.mp (List.all_eq_true.mp h d hd)).2.2
theorem encAll_len : ∀ (cs : List Codec) (a : Codec.denoteAll cs), (Codec.encAll cs a).length = cs.length
  | [], _ => rfl
  | c :: cs, a => by
    show (Codec.encAll cs a.2).length + 1 = cs.length + 1
    rw [encAll_len cs a.2]
theorem walk_spec {r : OpenSpec} {k : Nat} {q : Program} {loose : List Str} {XP : (Str -> Option Value) -> Heap -> Prop} {YP : World -> Heap -> Prop} {d : DefRec} {K : Params -> PySem.W.Frag} {CX : World -> CXT} {ps : List Str} {sp : World -> Sp}
    (hwell : r.wellSaid = true) (hdf : d.params.defaults = []) (hlen : r.args.length = ps.length) (hr : Room k callerA)
    (hY : ∀ (w : World) (h : Heap), YP w h -> (K w.params).In h)
    (F : ∀ (w : World) (mg : Str -> Option Value) (fa : Addr) (h : Heap), YP w h -> (K w.params).In h -> h.Ns mainGlobals mg -> mg d.name = some (.ref fa) ->
      ∃ fd : FuncData, (∀ (s : Shared) (us : List Value), us.length = ps.length -> BindsTo s fd ⟨us, []⟩ (ps.zip us)) /\
        ∀ base : Heap, (K w.params).In base -> base.Ns mainGlobals mg -> FnOk r.prog w (K w.params) mg base (CX w) k fa fd ps (sp w))
    (hsp : ∀ (w : World) (H : Hp) (xs : List V) (a : Codec.denoteAll r.args), OnlyF H -> Codec.withinAll r.args a = true -> Codec.app r.args r.asked a = true -> DwAll (K w.params) H xs (Codec.encAll r.args a) ->
      sp w xs H (fun v H' => Dw (K w.params) H' v (r.ret.enc (Codec.app r.args r.f a))) fun _ _ _ => False)
    (hCX : ∀ (w : World) (H : Hp) (s : Shared) (e : Value) (s' : Shared), CX w [] H s (fun _ _ _ => False) e s' -> False) :
    PySem.W.WalkOS q loose XP YP r d [] (fun f vs => PySem.call f vs) := by
  intro w s_0 s₁ mg mb G Y fa o pm cd doc dV kV ho hd hcd hD hmg hg args vals as hpre hlay hrd hwl hlo
  obtain ⟨a, e1, e2⟩ := PySem.W.os_pre_some hpre
  obtain ⟨e3, hwi⟩ := Codec.encAll_of_decAll r.args args a e1
  subst e3
  have KX := hY w _ Y
  obtain ⟨fd, hb, hF⟩ := F w mg fa _ Y KX G.T.g hmg
  refine PySem.W.enter_call (codeAny_mono (spec_call (R := []) (cl := classAt s_0.heap) (d0 := r.ret.enc (Codec.app r.args r.f a)) KX G.T.g G.T.b G.T.builtins G.T.nolimit hg hwl (pl_encAll _ _) (layable_weight hlay) hr hF hb (by rw [encAll_len]; exact hlen)
    (fun H xs hO hS => hsp w H xs a hO hwi e2 hS) fun H e s' => hCX w H s₁ e s') fun r' s' hq => ?_)
  obtain ⟨u, as', rfl, h1, h2, h3, h4⟩ := hq
  exact ⟨.inl ⟨u, _, as', rfl, fun _ => rfl, h1, (OpenSpec.post_iff hwell hwi _ _).mpr rfl, fun z => Bool.noConfusion (show false = true from z)⟩, h2, h3, h4⟩
theorem walk_specK {r : OpenSpec} {k : Nat} {q : Program} {loose : List Str} {XP : (Str -> Option Value) -> Heap -> Prop} {YP : World -> Heap -> Prop} {d : DefRec} {K : Params -> PySem.W.Frag} {CX : CXT} {ps : List Str} {sp : PySem.W.Frag -> Sp}
    (hwell : r.wellSaid = true) (hdf : d.params.defaults = []) (hlen : r.args.length = ps.length) (hr : Room k callerA)
    (hY : ∀ (w : World) (h : Heap), YP w h -> (K w.params).In h)
    (F : ∀ (w : World) (mg : Str -> Option Value) (fa : Addr) (h : Heap), YP w h -> (K w.params).In h -> h.Ns mainGlobals mg -> mg d.name = some (.ref fa) ->
      ∃ fd : FuncData, (∀ (s : Shared) (us : List Value), us.length = ps.length -> BindsTo s fd ⟨us, []⟩ (ps.zip us)) /\
        ∀ base : Heap, (K w.params).In base -> base.Ns mainGlobals mg -> FnOk r.prog w (K w.params) mg base CX k fa fd ps (sp (K w.params)))
    (hsp : ∀ (K : PySem.W.Frag) (H : Hp) (xs : List V) (a : Codec.denoteAll r.args), OnlyF H -> Codec.withinAll r.args a = true -> Codec.app r.args r.asked a = true -> DwAll K H xs (Codec.encAll r.args a) ->
      sp K xs H (fun v H' => Dw K H' v (r.ret.enc (Codec.app r.args r.f a))) fun _ _ _ => False)
    (hCX : ∀ (H : Hp) (s : Shared) (e : Value) (s' : Shared), CX [] H s (fun _ _ _ => False) e s' -> False) :
    PySem.W.WalkOS q loose XP YP r d [] (fun f vs => PySem.call f vs) :=
  walk_spec (K := K) (CX := fun _ => CX) (sp := fun w => sp (K w.params)) hwell hdf hlen hr hY F (fun w H xs a h1 h2 h3 h4 => hsp (K w.params) H xs a h1 h2 h3 h4) fun _ H s e s' => hCX H s e s'
end L2
set_option Elab.async false
set_option linter.all false
set_option maxRecDepth 100000
set_option maxHeartbeats 4000000
namespace L2
open PySem PySem.Spec PyProof.Rows
abbrev bmE : List Value := [.type "Exception", .type "BaseException", .type "object"]
def xcIn (K : PySem.W.Frag) (C : Addr) : Bool := match K.lookup C with
  | some ⟨.type "type", _, .cls cd, sl⟩ => (match cd.mro, sl.toList with
    | .ref C' :: bm, [_, _, _, _, some (.builtin n), _] => C' == C && n == "Exception.__new__" && !cd.hasDel && bm == bmE && PySem.W.nsOkIn K cd.ns && PySem.W.nsIn K cd.ns "__init__" == some none
    | _, _ => false)
  | _ => false
def XObj (h : Heap) (C : Addr) : Prop := ∃ nm q N bs hdct sn sub ab col dd k0 k1 k2 k3 k5 mN,
  h.get? C = some (excClassObj nm q C N bs bmE hdct sn sub ab col dd k0 k1 k2 k3 k5 "Exception.__new__") /\ h.Ns N mN /\ mN "__init__" = Option.none
theorem xc_of {K : PySem.W.Frag} {h : Heap} {C : Addr} (X : K.In h) (q : xcIn K C = true) : XObj h C := by
  unfold xcIn at q
  split at q
  · rename_i dd cd sl ho
    split at q
    · rename_i C' bm k0 k1 k2 k3 n k5 hm hs
      simp only [Bool.and_eq_true, beq_iff_eq, Bool.not_eq_true'] at q
      obtain ⟨⟨⟨⟨⟨rfl, rfl⟩, hdel⟩, rfl⟩, hok⟩, hni⟩ := q
      obtain ⟨nm, bs, mro, ns, qn, hd, sn, sub, ab, col, del⟩ := cd
      dsimp only at hm hdel hok hni
      subst hm hdel
      have hsl : sl = #[k0, k1, k2, k3, some (.builtin "Exception.__new__"), k5] := by
        obtain ⟨l⟩ := sl
        simp only at hs
        rw [hs]
      subst hsl
      exact ⟨nm, qn, ns, bs, hd, sn, sub, ab, col, dd, k0, k1, k2, k3, k5, _, X _ _ ho, .of_isNs (PySem.W.isNs_of_in X hok), PySem.W.nsMap_none_of_in X hok hni⟩
    · cases q
  · cases q
theorem ObjOk.thereX {P : Program} {w : World} {H : Hp} {h : Heap} {a : Addr} {o : HO} (x : ObjOk P w H h a o) : ∃ ob, h.get? a = some ob := by
  cases o with
  | lst xs => obtain ⟨_, _, _, _, e⟩ := x; exact ⟨_, e⟩
  | tup xs => obtain ⟨_, _, _, ob, e, _⟩ := x; exact ⟨_, e⟩
  | dK kvs => obtain ⟨_, _, _, _, o, _, _, e, _⟩ := x; exact ⟨_, e⟩
  | dT kvs => obtain ⟨_, _, _, _, o, _, _, e, _⟩ := x; exact ⟨_, e⟩
  | set S n => obtain ⟨o, _, _, _, e, _⟩ := x; exact ⟨_, e⟩
  | ins C dx fs => obtain ⟨_, _, _, e, _⟩ := x; exact ⟨_, e⟩
  | own y => obtain ⟨_, e⟩ := x; exact ⟨_, e⟩
  | xd fs => obtain ⟨_, ⟨_, _, _, e, _⟩, _⟩ := x; exact ⟨_, e⟩
  | rng lo hi => obtain ⟨_, _, _, e⟩ := x; exact ⟨_, e⟩
  | frz ob u => obtain ⟨e, _⟩ := x; exact ⟨_, e⟩
  | tbl ps => exact ⟨_, (show h.get? a = some _ from x)⟩
  | met f y => exact ⟨_, (show h.get? a = some _ from x)⟩
  | ext φ => obtain ⟨_, ⟨_, e⟩, _⟩ := x; exact ⟨_, e⟩
def CXw (P : Program) (w : World) : CXT := fun outer H s E e s' => ∃ (a C : Addr) (H' : Hp) (B : Heap) (t : Value), e = .ref a /\ s'.os = s.os /\ AllBare s'.gens /\ Un (frs outer) [] H H' s.heap s'.heap /\ HOk P w H' s'.heap /\
  Heap.FlyingW B outer a (.ref C) t s'.heap /\ (∀ b u, H' b = some u -> ∃ o, B.get? b = some o) /\ (∀ b o, s.heap.get? b = some o -> b ∉ frs outer -> ∃ o', B.get? b = some o') /\ E (.ref C) Option.none H'
def F2 (h : Heap) (e : Addr) : Prop := ∃ oe vs, h.get? e = some oe /\ oe.data = .fields vs /\ vs[2]? = some Value.none
def CXe (P : Program) (w : World) : CXT := fun outer H s E e s' => CXw P w outer H s E e s' /\ ∃ a, e = .ref a /\ F2 s'.heap a
theorem pass_of_w {P : Program} {w : World} {X : Cx} {E : XK} (h : Passes (CXw P w) X E) : Passes (CXe P w) X E := fun pins σ H s e s' I z => h pins σ H s e s' I z.1
theorem fly_hok {P : Program} {w : World} {H : Hp} {B h h' : Heap} (st : B.StaysIn h) (st' : B.StaysIn h') (hB : ∀ b u, H b = some u -> ∃ o, B.get? b = some o) (ok : HOk P w H h) : HOk P w H h' := fun a o e =>
  (ok a o e).stay (fun b u hb q => by
    have z : ∃ o, B.get? b = some o := by
      rcases hb with rfl | hb
      · exact hB _ _ e
      · exact hB _ _ hb
    obtain ⟨o', e'⟩ := z
    have y := st b o' e'
    rw [q] at y
    cases y
    exact st' b _ e') (fun _ q => q) fun _ _ q => q
theorem fly_un {fs : List Addr} {H0 H' : Hp} {B h0 h h' : Heap} (u : Un fs [] H0 H' h0 h) (st : B.StaysIn h) (st' : B.StaysIn h') (up : h.UpToSlots h') (hO : ∀ b o, h0.get? b = some o -> b ∉ fs -> ∃ o', B.get? b = some o')
    (hf : ∀ b ∈ fs, ∃ o, h.get? b = some o /\ ∀ vs, o.data ≠ .fields vs) : Un fs [] H0 H' h0 h' where
  keep := fun b o e n hb hx => by
    obtain ⟨o', e'⟩ := hO b o e hb
    have y := st b o' e'
    rw [u.keep b o e n hb hx] at y
    cases y
    exact st' b _ e'
  slot := fun b o e n hb hx => by
    obtain ⟨sl, e1⟩ := u.slot b o e n hb hx
    obtain ⟨o2, e2, hd⟩ := hf b hb
    obtain ⟨sl', e3⟩ := up b o2 e2 hd
    rw [e1] at e2
    cases e2
    exact ⟨sl', e3⟩
  free := u.free
  there := fun b o e hx => by
    by_cases hb : b ∈ fs
    · obtain ⟨o2, e2, hd⟩ := hf b hb
      obtain ⟨sl', e3⟩ := up b o2 e2 hd
      exact ⟨_, e3⟩
    · obtain ⟨o', e'⟩ := hO b o e hb
      exact ⟨o', st' b _ e'⟩
  tups := u.tups
  frzs := u.frzs
  tbls := u.tbls
theorem frs_cons {env : Env} {outer : List Env} {L : Addr} (hf : env.frame = some L) : frs (env :: outer) = L :: frs outer := by
  unfold frs
  rw [List.filterMap_cons, hf]
section
variable {M : Model} {A : Around} {E : Value -> Shared -> Prop} {s : Shared} {B : Heap} {env : Env} {outer : List Env} {L e : Addr} {cls a0 : Value} {Q : Unit -> Shared -> Prop}
theorem ent2 {oe : Obj} {vs : Array Value} {hd0 : Value} {nx : Bool} (fr : A.frames = some (env :: outer)) (ff : s.heap.FunFrames B (env :: outer)) (fl : env.frame = some L) (he : s.heap.get? e = some oe) (sb : B.StaysIn s.heap) (nb : B.get? e = Option.none) (dt : oe.data = .fields vs) (sz : 1 < vs.size) (v0 : vs[0]? = some a0)
    (q : ∀ h', Heap.HeldW B (env :: outer) e oe.cls a0 L h' -> (vs[2]? = some Value.none -> F2 h' e) -> s.heap.UpToSlots h' -> Q () { s with heap := h' }) :
    wpAny M A (do let a ← frameOf env; let pl ← entryPlaceOf L nx; let b ← EntryCells.newEntry hd0 a .none (rawInt L) .none pl; setField (.ref e) 1 b) Q E s := by
  have ni : e ∉ (env :: outer).filterMap (·.frame) := fun z => by
    obtain ⟨_, o, ho, hn⟩ := ff.mem z
    cases he.symm.trans ho
    exact hn vs dt
  refine wpAny_bind (wpAny_frameOf_fun fr ff fl fun g so => ?_)
  have eg : g.get? e = some oe := (so.2.1 e ni).trans he
  have bg : B.StaysIn g := fun b o z => (so.2.1 b fun y => by rw [(ff.mem y).1] at z; cases z).trans (sb b o z)
  have ne : g.objs.size ≠ e := Nat.ne_of_gt (Heap.lt_size eg)
  refine wpAny_bind (wpAny_entryPlaceOf fun pq ip => ?_)
  unfold EntryCells.newEntry
  unfold newFields
  refine wpAny_bind (wpAny_newObj_type ?_ (ip.sizeOk5 _ _ _ _ _))
  have keep : ∀ (O : Obj) (b : Addr) (o : Obj), b ≠ e -> g.get? b = some o -> ((g.push O).update e (Obj.mapFields (·.setIfInBounds 1 (Value.ref g.objs.size)))).get? b = some o := fun O b o n z => by
    rw [Heap.get?_update_other _ _ (Ne.symm n)]
    exact Heap.get?_push_of_some _ z
  have nr : ∀ b o, s.heap.get? b = some o -> (∀ ws, o.data ≠ .fields ws) -> b ≠ e := fun b o z hn y => by
    rw [y, he] at z
    cases z
    exact hn vs dt
  have d3 := Obj.data_mapFields dt (·.setIfInBounds 1 (Value.ref g.objs.size))
  refine wpAny_setField (Heap.get?_push_of_some _ eg) dt sz (q _ ⟨fun b o z => keep _ b o (fun y => by rw [y, nb] at z; cases z) (bg b o z), nb, ff.of_keeps fun b o z hn => ?_, ?_⟩ (fun v2 => ?_) fun b o z hn => ?_)
  · obtain ⟨sl, y⟩ := so.2.2 b o z
    exact ⟨_, keep _ b _ (nr b o z hn) y, rfl⟩
  · exact ⟨_, _, g.objs.size, _, _, Heap.get?_update_self _ (Heap.get?_push_of_some _ eg) (Obj.isFreed_of_fields d3), ⟨Obj.cls_mapFields _ _, by rw [Array.getElem?_setIfInBounds_ne (by decide)]; exact v0⟩, d3, by simp [sz], bg.fresh, ne, (Heap.get?_update_other _ _ (Ne.symm ne)).trans (Heap.get?_push_size g rfl), rfl,
      by first | (simp; done) | (rcases ip with rfl | ⟨_, _, _, _, _, _, _, rfl⟩ <;> simp)⟩
  · exact ⟨_, _, Heap.get?_update_self _ (Heap.get?_push_of_some _ eg) (Obj.isFreed_of_fields d3), d3, by rw [Array.getElem?_setIfInBounds_ne (by decide)]; exact v2⟩
  · obtain ⟨sl, y⟩ := so.2.2 b o z
    exact ⟨sl, keep _ b _ (nr b o z hn) y⟩
theorem note2 (fr : A.frames = some (env :: outer)) (fl : env.frame = some L) (R : Heap.FlyingW B (env :: outer) e cls a0 s.heap) (f2 : F2 s.heap e)
    (q : ∀ h', Heap.HeldW B (env :: outer) e cls a0 L h' -> F2 h' e -> s.heap.UpToSlots h' -> Q () { s with heap := h' }) : wpAny M A (noteFrame (.ref e) env) Q E s := by
  obtain ⟨sb, nb, ff, oe, vs, T, oT, ts, he, ⟨rfl, v0⟩, dt, v1, nT, Te, hT, dT, t3⟩ := R
  obtain ⟨oe', vs', he', dt', v2⟩ := f2
  cases he.symm.trans he'
  cases dt.symm.trans dt'
  unfold noteFrame
  simp only [fl]
  refine wpAny_bind (wpAny_field he dt v1 ?_)
  rw [if_pos (show (Value.ref T != Value.none) = true from by simp)]
  refine wpAny_bind (wpAny_field hT dT t3 ?_)
  rw [if_neg (show ¬ ((Value.none == rawInt L) = true) from by simp [rawInt])]
  refine wpAny_bind (wpAny_setField hT dT (Array.getElem?_eq_some_iff.mp t3).1 ?_)
  have oth : ∀ b, b ≠ T -> (s.heap.update T (Obj.mapFields (·.setIfInBounds 3 Value.none))).get? b = s.heap.get? b := fun b n => Heap.get?_update_other _ _ (Ne.symm n)
  have nr : ∀ b o, s.heap.get? b = some o -> (∀ ws, o.data ≠ .fields ws) -> b ≠ T := fun b o z hn y => by
    rw [y, hT] at z
    cases z
    exact hn ts dT
  exact ent2 fr (ff.of_keeps fun b o z hn => ⟨o, (oth b (nr b o z hn)).trans z, rfl⟩) fl ((oth e (Ne.symm Te)).trans he) (fun b o z => (oth b fun y => by rw [y, nT] at z; cases z).trans (sb b o z)) nb dt (Array.getElem?_eq_some_iff.mp v1).1 v0
    fun h' k1 k2 k3 => q h' k1 (k2 v2) fun b o z hn => k3 b o ((oth b (nr b o z hn)).trans z) hn
theorem land2 {l : List Env} {fv : Value} (sb : B.StaysIn s.heap) (nb : B.get? e = Option.none) (ff : s.heap.FunFrames B l) (ht : s.heap.TracedAtW B e cls a0 fv) (fo : Option Addr)
    (q : ∀ h', B.StaysIn h' -> h'.FunFrames B l -> h'.TracedAtW B e cls a0 (fo.elim .none fun f => rawInt f) -> (F2 s.heap e -> F2 h' e) -> s.heap.UpToSlots h' -> Q () { s with heap := h' }) : wpAny M A (setFlight (.ref e) fo) Q E s := by
  obtain ⟨oe, vs, T, oT, ts, he, hc, dt, v1, nT, Te, hT, dT, t3⟩ := ht
  have z3 : 3 < ts.size := (Array.getElem?_eq_some_iff.mp t3).1
  have oth : ∀ b, b ≠ T -> (s.heap.update T (Obj.mapFields (·.setIfInBounds 3 (fo.elim .none fun f => rawInt f)))).get? b = s.heap.get? b := fun b n => Heap.get?_update_other _ _ (Ne.symm n)
  have nr : ∀ b o, s.heap.get? b = some o -> (∀ ws, o.data ≠ .fields ws) -> b ≠ T := fun b o z hn y => by
    rw [y, hT] at z
    cases z
    exact hn ts dT
  unfold setFlight
  refine wpAny_bind (wpAny_field he dt v1 ?_)
  rw [if_pos (show (Value.ref T != Value.none) = true from by simp)]
  refine wpAny_setField hT dT z3 (q _ (fun b o z => (oth b fun y => by rw [y, nT] at z; cases z).trans (sb b o z)) (ff.of_keeps fun b o z hn => ⟨o, (oth b (nr b o z hn)).trans z, rfl⟩) ?_ (fun ⟨oe', vs', he', r⟩ => ⟨oe', vs', (oth e (Ne.symm Te)).trans he', r⟩) fun b o z hn => ⟨o.slots, (oth b (nr b o z hn)).trans z⟩)
  exact ⟨oe, vs, T, _, _, (oth e (Ne.symm Te)).trans he, hc, dt, v1, nT, Te, Heap.get?_update_self _ hT (Obj.isFreed_of_fields (Obj.data_mapFields dT _)), Obj.data_mapFields dT _, by simp [z3]⟩
theorem leave2 (fr : A.frames = some (env :: outer)) (fl : env.frame = some L) (R : Heap.FlyingW B (env :: outer) e cls a0 s.heap) (f2 : F2 s.heap e) (q : ∀ h', Heap.FlyingW B outer e cls a0 h' -> F2 h' e -> s.heap.UpToSlots h' -> Q () { s with heap := h' }) : wpAny M A (leaving env (.ref e)) Q E s := by
  unfold leaving
  refine wpAny_bind (note2 fr fl R f2 fun h1 r1 g1 u1 => ?_)
  exact land2 (s := { s with heap := h1 }) r1.1 r1.2.1 r1.2.2.1 r1.2.2.2 Option.none fun h2 k1 ⟨_, _, k2⟩ k3 k4 k5 => q h2 ⟨k1, R.2.1, k2, k3⟩ (k4 g1) (u1.trans k5)
theorem made2 {h : Heap} (fr : A.frames = some (env :: outer)) (fl : env.frame = some L) (sb : B.StaysIn h) (ff : h.FunFrames B (env :: outer)) (x : Heap.MadeExcOf h s.heap e cls []) (q : ∀ h' t, Heap.FlyingW B outer e cls (.ref t) h' -> F2 h' e -> s.heap.UpToSlots h' -> Q () { s with heap := h' }) : wpAny M A (leaving env (.ref e)) Q E s := by
  obtain ⟨t, he, tn, ht⟩ := x.there
  have nb : B.get? e = Option.none := by
    cases z : B.get? e with
    | none => rfl
    | some o => have y := sb _ _ z; rw [x.new] at y; cases y
  unfold leaving noteFrame
  simp only [fl]
  refine wpAny_bind (wpAny_bind (wpAny_field he rfl (x := .none) rfl ?_))
  rw [if_neg (by decide)]
  refine ent2 (a0 := .ref t) fr (ff.of_keeps fun b o z _ => ⟨o, x.keeps b o z, rfl⟩) fl he (fun b o z => x.keeps b o (sb b o z)) nb rfl (show 1 < 6 by decide) rfl fun h1 r1 g1 u1 => ?_
  exact land2 (s := { s with heap := h1 }) r1.1 r1.2.1 r1.2.2.1 r1.2.2.2 Option.none fun h2 k1 ⟨_, _, k2⟩ k3 k4 k5 => q h2 t ⟨k1, nb, k2, k3⟩ (k4 (g1 rfl)) (u1.trans k5)
end
section
variable {P : Program} {w : World} {K : PySem.W.Frag} {mg : Str -> Option Value} {base : Heap} {N : List Str} {qual : Str} {scope : Scope} {f : Addr} {cd : Value} {A : Around} {outer : List Env} {s_0 : Shared} {H_0 : Hp} {E : XK}
theorem pass_core {CX : CXT} {pins : List (Addr × Obj)} {σ : St} {H : Hp} {s s' : Shared} {e : Value} (I : Inv (cxOf CX P w K mg base N qual scope f cd A outer s_0 H_0 E) pins σ H s) (h : CXw P w (cxOf CX P w K mg base N qual scope f cd A outer s_0 H_0 E).stack H s E e s') :
    ∃ (a C : Addr) (B : Heap) (t : Value), e = .ref a /\ Heap.FlyingW B (cxOf CX P w K mg base N qual scope f cd A outer s_0 H_0 E).stack a (.ref C) t s'.heap /\ ∀ h', Heap.FlyingW B outer a (.ref C) t h' -> s'.heap.UpToSlots h' -> CXw P w outer H_0 s_0 E (.ref a) { s' with heap := h' } := by
  obtain ⟨a, C, H', B, t, rfl, os, bare, un, hok, fly, hB, hO, hE⟩ := h
  have I' := I.call' os un hok bare (fun b z => absurd z (by simp))
  refine ⟨a, C, B, t, rfl, fly, fun h' fly' up => ?_⟩
  have hold : ∀ b o, s_0.heap.get? b = some o -> b ∉ frs outer -> ∃ o', B.get? b = some o' := fun b o e hb => by
    obtain ⟨o1, e1⟩ := I.base.there b o e (fun z => absurd (show b ∈ ([] : List Addr) from z) (by simp))
    refine hO b o1 e1 fun z => ?_
    rw [show frs (cxOf CX P w K mg base N qual scope f cd A outer s_0 H_0 E).stack = (cxOf CX P w K mg base N qual scope f cd A outer s_0 H_0 E).env.locals :: frs outer from frs_cons rfl] at z
    rcases List.mem_cons.mp z with z | z
    · have q1 := Heap.lt_size e
      have q2 := I.ok.above
      rw [← z] at q2
      exact absurd (Nat.lt_of_lt_of_le q1 q2) (Nat.lt_irrefl _)
    · exact hb z
  refine ⟨a, C, H', B, t, rfl, I'.os, I'.bare, fly_un I'.base fly.1 fly'.1 up hold (fun b hb => ?_), fly_hok fly.1 fly'.1 hB hok, fly', hB, hold, hE⟩
  exact (fly.2.2.1.2.2.mem hb).2
theorem pass_cw : Passes (CXw P w) (cxOf (CXw P w) P w K mg base N qual scope f cd A outer s_0 H_0 E) E := by
  intro pins σ H s e s' I h
  obtain ⟨a, C, B, t, rfl, fly, q⟩ := pass_core I h
  show wpAny _ _ (leaving _ (.ref a)) _ _ s'
  exact wpAny_leaves_onW I.ok.frames rfl fly q
theorem pass_cx : Passes (CXe P w) (cxOf (CXe P w) P w K mg base N qual scope f cd A outer s_0 H_0 E) E := by
  intro pins σ H s e s' I h
  obtain ⟨a', ea, g2⟩ := h.2
  obtain ⟨a, C, B, t, rfl, fly, q⟩ := pass_core I h.1
  obtain rfl := Value.ref.inj ea
  show wpAny _ _ (leaving _ (.ref a)) _ _ s'
  exact leave2 I.ok.frames rfl fly g2 fun h' k1 k2 k3 => ⟨q h' k1 k3, a, rfl, k2⟩
abbrev hid (s : Shared) (l : List Env) : Heap := PySem.W.hideAll s.heap (frs l)
theorem hid_stays {s : Shared} {l : List Env} : (hid s l).StaysIn s.heap := fun b o q => PySem.W.of_hideAll _ q
theorem raise_core {CX : CXT} {pins : List (Addr × Obj)} {σ : St} {H : Hp} {s : Shared} {h' : Heap} {e C : Addr} {t : Value} (I : Inv (cxOf CX P w K mg base N qual scope f cd A outer s_0 H_0 E) pins σ H s) (fly : Heap.FlyingW (hid s (cxOf CX P w K mg base N qual scope f cd A outer s_0 H_0 E).stack) outer e (.ref C) t h') (up : s.heap.UpToSlots h') (hE : E (.ref C) Option.none H) :
    CXw P w outer H_0 s_0 E (.ref e) { s with heap := h' } := by
  have hst : ∀ b o, s.heap.get? b = some o -> b ∉ frs (cxOf CX P w K mg base N qual scope f cd A outer s_0 H_0 E).stack -> (hid s (cxOf CX P w K mg base N qual scope f cd A outer s_0 H_0 E).stack).get? b = some o := fun b o q z => PySem.W.hideAll_get _ q z
  have hold : ∀ b o, s_0.heap.get? b = some o -> b ∉ frs outer -> ∃ o', (hid s (cxOf CX P w K mg base N qual scope f cd A outer s_0 H_0 E).stack).get? b = some o' := fun b o e hb => by
    obtain ⟨o1, e1⟩ := I.base.there b o e (fun z => absurd (show b ∈ ([] : List Addr) from z) (by simp))
    refine ⟨o1, hst b o1 e1 fun z => ?_⟩
    rw [show frs (cxOf CX P w K mg base N qual scope f cd A outer s_0 H_0 E).stack = (cxOf CX P w K mg base N qual scope f cd A outer s_0 H_0 E).env.locals :: frs outer from frs_cons rfl] at z
    rcases List.mem_cons.mp z with z | z
    · have q1 := Heap.lt_size e
      have q2 := I.ok.above
      rw [← z] at q2
      exact absurd (Nat.lt_of_lt_of_le q1 q2) (Nat.lt_irrefl _)
    · exact hb z
  have hB : ∀ b u, H b = some u -> ∃ o, (hid s (cxOf CX P w K mg base N qual scope f cd A outer s_0 H_0 E).stack).get? b = some o := fun b u e => by
    obtain ⟨o, ho⟩ := (I.hok b u e).thereX
    refine ⟨o, hst b o ho fun z => ?_⟩
    rw [I.stkFree b z] at e
    cases e
  refine ⟨e, C, H, _, t, rfl, I.os, I.bare, fly_un I.base hid_stays fly.1 up hold (fun b hb => ?_), fly_hok hid_stays fly.1 hB I.hok, fly, hB, hold, hE⟩
  have z := (I.stack.mem (b := b) (List.mem_filterMap.mpr ?_)).2
  · exact z
  · obtain ⟨env, he, ha⟩ := List.mem_filterMap.mp hb
    exact ⟨env, List.mem_cons_of_mem _ he, ha⟩
def RaisesTo (X : Cx) (E : XK) (C : Addr) : Prop := ∀ (pins : List (Addr × Obj)) (σ : St) (H : Hp) (s : Shared) (h' : Heap) (e : Addr), Inv X pins σ H s -> Heap.MadeExcOf s.heap h' e (.ref C) [] -> E (.ref C) Option.none H -> X.xe (.ref e) { s with heap := h' }
theorem raises_cx {C : Addr} : RaisesTo (cxOf (CXe P w) P w K mg base N qual scope f cd A outer s_0 H_0 E) E C := by
  intro pins σ H s h' e I hx hE
  show wpAny _ _ (leaving _ (.ref e)) _ _ { s with heap := h' }
  exact made2 (B := hid s (cxOf (CXe P w) P w K mg base N qual scope f cd A outer s_0 H_0 E).stack) (h := s.heap) I.ok.frames rfl hid_stays (PySem.W.funFrames_hide I.stack fun env he a ha => List.mem_filterMap.mpr ⟨env, he, ha⟩) hx
    fun h'' t fly g2 up => ⟨raise_core (s := s) I fly ((Heap.UpToSlots.of_keeps hx.keeps).trans up) hE, e, rfl, g2⟩
end
end L2
set_option Elab.async false
set_option linter.all false
set_option maxRecDepth 100000
set_option maxHeartbeats 4000000
namespace L2
open PySem PySem.Spec PyProof.Rows
theorem ps_raise {X : Cx} {E : XK} {x : Str} {C : Addr} {np cpos pos : Pos} (hc : X.calm = true) (hg : Gl X x) (hm : X.mg x = some (.ref C)) (xc : xcIn X.K C = true) (R : RaisesTo X E C) (hd : (x == ("__debug__" : Str)) = false := by decide) :
    PS X (.Raise (some (.Call (.Name x np) [] [] cpos)) Option.none pos) (fun _ _ H => E (.ref C) Option.none H) := by
  intro pins s σ H D I h
  obtain ⟨nm, q, N, bs, hdct, sn, sub, ab, col, dd, k0, k1, k2, k3, k5, mN, hC, hN, hni⟩ := xc_of I.kIn xc
  refine wpAny_Raise_call_sub (C := C) (nm := nm) (q := q) (N := N) (bs := bs) (bm := bmE) (hdct := hdct) (sn := sn) (sub := sub) (ab := ab) (col := col) (dd := dd) (k0 := k0) (k1 := k1) (k2 := k2) (k3 := k3) (k5 := k5)
    PySem.F.excBase_Exception (mN := mN) (I.ok.hd hc) rfl hni (ld_glob I hg hm ⟨rfl, ?_⟩ hd)
  exact evalArgs_empty ⟨rfl, Nat.zero_le _, hC, hN, fun h' e hx => R pins σ H s h' e I hx h⟩
section
variable {P : Program} {w : World} {K : PySem.W.Frag} {mg : Str -> Option Value} {base : Heap}
theorem Fun.okX {x qual : Str} {st : Stmt} {f : Addr} {fd : FuncData} {N ps : List Str} {k : Nat} {sp : Sp} (F : Fun K x qual st f fd) (S : FnScope N ps (defScope st)) (len : ∀ vs H Q E, sp vs H Q E -> vs.length = ps.length)
    (hbody : ∀ (cdv : Value) (A : Around) (outer : List Env) (s : Shared) (H : Hp) (vs : List V) (Q : VK) (E : XK), Room k (A.deeper (envOfC qual (defScope st) s.heap.objs.size f cdv)) -> sp vs H Q E ->
      ∃ t, PSs (cxOf (CXe P w) P w K mg base N qual (defScope st) f cdv A outer s H E) (defBody st) t /\ t { nx := fun _ H' => Q .non H', rt := Q } (start N vs) H) : FnOk P w K mg base (CXe P w) (k + 1) f fd ps sp := by
  obtain ⟨oc, od, kV, doc, pm, an, cdv, ct, osl, rfl, lk, hcd⟩ := F.ex
  exact fn_of lk hcd S len fun A outer s H vs Q E hr hsp => hbody cdv A outer s H vs Q E hr hsp
end
theorem matches_self {M : Model} {A : Around} {E : Value -> Shared -> Prop} {s : Shared} {e C : Addr} {oe : Obj} {Q : Bool -> Shared -> Prop} (xc : XObj s.heap C) (he : s.heap.get? e = some oe) (hcls : oe.cls = .ref C)
    (hq : Q true s) : wpAny M A (excMatches (.ref e) (.ref C)) Q E s := by
  obtain ⟨nm, q, N, bs, hdct, sn, sub, ab, col, dd, k0, k1, k2, k3, k5, mN, hC, _, _⟩ := xc
  obtain ⟨hp, g, d, tk, os⟩ := s
  exact wpAny_excMatches_sub_self hC he hcls (by decide) hq
abbrev Cx.at (X : Cx) (A : Around) (c : Bool) (E : Value -> Shared -> Prop) (pn : List (Addr × Obj)) : Cx := { X with A := A, calm := c, xe := E, pn := pn }
theorem Inv.at {X : Cx} {pins pn pins' : List (Addr × Obj)} {σ : St} {H : Hp} {s : Shared} {A : Around} {c : Bool} {E : Value -> Shared -> Prop} (I : Inv X pins σ H s) (hf : A.frames = some X.stack) (hc : c = true -> A.handled = Option.none)
    (hp : ∀ p ∈ pn ++ pins', p ∈ X.pn ++ pins) : Inv (X.at A c E pn) pins' σ H s :=
  ⟨⟨I.ok.mod, I.ok.kind, I.ok.glob, I.ok.blt, I.ok.above, I.ok.inj, I.ok.has, I.ok.cab, hc, hf, I.ok.stk, I.ok.exf, I.ok.bs, I.ok.bsz, I.ok.noex, I.ok.exfs, I.ok.funs, I.ok.frf⟩, I.os, I.bare, I.base, I.loc, I.cell, I.free, I.freeC, fun p q => I.pin p (hp p q), I.hok, I.len⟩
theorem Inv.unat {X : Cx} {pins pn pins' : List (Addr × Obj)} {σ : St} {H : Hp} {s : Shared} {A : Around} {c : Bool} {E : Value -> Shared -> Prop} (I : Inv (X.at A c E pn) pins' σ H s) (hf : X.A.frames = some X.stack) (hc : X.calm = true -> X.A.handled = Option.none)
    (hp : ∀ p ∈ X.pn ++ pins, p ∈ pn ++ pins') : Inv X pins σ H s :=
  ⟨⟨I.ok.mod, I.ok.kind, I.ok.glob, I.ok.blt, I.ok.above, I.ok.inj, I.ok.has, I.ok.cab, hc, hf, I.ok.stk, I.ok.exf, I.ok.bs, I.ok.bsz, I.ok.noex, I.ok.exfs, I.ok.funs, I.ok.frf⟩, I.os, I.bare, I.base, I.loc, I.cell, I.free, I.freeC, fun p q => I.pin p (hp p q), I.hok, I.len⟩
theorem SP.unat {X : Cx} {pins pn pins' : List (Addr × Obj)} {A : Around} {c : Bool} {E : Value -> Shared -> Prop} {D : Ends} {f : Flow} {s : Shared} (h : SP (X.at A c E pn) pins' D f s) (hf : X.A.frames = some X.stack) (hc : X.calm = true -> X.A.handled = Option.none)
    (hp : ∀ p ∈ X.pn ++ pins, p ∈ pn ++ pins') : SP X pins D f s := by
  cases f with
  | next => obtain ⟨σ, H, I, q⟩ := h; exact ⟨σ, H, I.unat hf hc hp, q⟩
  | brk => obtain ⟨σ, H, I, q⟩ := h; exact ⟨σ, H, I.unat hf hc hp, q⟩
  | cont => obtain ⟨σ, H, I, q⟩ := h; exact ⟨σ, H, I.unat hf hc hp, q⟩
  | ret u => obtain ⟨v, σ, H, I, r, q⟩ := h; exact ⟨v, σ, H, I.unat hf hc hp, r, q⟩
end L2
set_option Elab.async false
set_option linter.all false
set_option maxRecDepth 100000
set_option maxHeartbeats 4000000
namespace L2
open PySem PySem.Spec PyProof.Rows
def Gv (mg : Str -> Option Value) (x : Str) (v : V) : Prop := ∃ u, mg x = some u /\ RelV v u
theorem pe_g {X : Cx} {x : Str} {v : V} {pos : Pos} (g : Gv X.mg x v) (hg : Gl X x := by rfl) (hd : (x == ("__debug__" : Str)) = false := by decide) : PE X (.Name x pos) (tC v) := by
  obtain ⟨u, e, r⟩ := g
  exact pe_glob hg e r hd
def DefOk (P : Program) (w : World) (K : PySem.W.Frag) (mg : Str -> Option Value) (base : Heap) (CX : CXT) (k : Nat) (x : Str) (ps : List Str) (sp : Sp) : Prop :=
  ∃ f fd, mg x = some (.ref f) /\ FnOk P w K mg base CX k f fd ps sp /\ Binds K fd ps [] /\ PySem.W.keepIn K (.ref f) = true
theorem pe_callD {X : Cx} {CX : CXT} {k k' : Nat} {x : Str} {ps : List Str} {sp : Sp} {E : XK} {e : Expr} {es : List Expr} {t : TA} {p pos : Pos} (F : DefOk X.prog X.w X.K X.mg X.base CX k x ps sp) (hr : Room k' X.A) (hx : Passes CX X E) (ha : PA X (e :: es) t)
    (hk : k <= k' := by omega) (hg : Gl X x := by rfl) (hdb : (x == ("__debug__" : Str)) = false := by decide) (he : starEach (e :: es) X.env = (false, eval e X.env) :: starEach es X.env := by rfl) (hpl : (backTo pos (starEach es X.env)).any (·.1) = false := by rfl) :
    PE X (.Call (.Name x p) (e :: es) [] pos) (tCall sp [] E t) := by
  obtain ⟨f, fd, hm, G, b, kp⟩ := F
  exact pe_call (G.mono hk) hr hg hm kp b .nil hx ha hdb he hpl
def MethOk (P : Program) (w : World) (K : PySem.W.Frag) (mg : Str -> Option Value) (base : Heap) (CX : CXT) (k : Nat) (C : Addr) (x : Str) (ps : List Str) (sp : Sp) : Prop :=
  ∃ f fd, Meth K C x f /\ FnOk P w K mg base CX k f fd ps sp /\ Binds K fd ps []
theorem pe_methD {X : Cx} {CX : CXT} {k k' : Nat} {C : Addr} {x : Str} {ps : List Str} {sp : Sp} {E : XK} {o e : Expr} {es : List Expr} {ta : TE} {t : TA} {apos pos : Pos} {pl : Sem Bool} (he : PE X o ta) (c : Cls X.K C) (F : MethOk X.prog X.w X.K X.mg X.base CX k C x ps sp) (hr : Room k' X.A) (hx : Passes CX X E) (ha : PA X (e :: es) t)
    (hk : k <= k' := by omega) (hst : starEach (e :: es) X.env = (false, eval e X.env) :: starEach es X.env := by rfl) (hpl : (backTo pos (starEach es X.env)).any (·.1) = false := by rfl)
    (ht : eval (.Call (.Attribute o x apos) (e :: es) [] pos) X.env = (do
      let ov ← eval o X.env
      standAt apos.atName
      let (f, first) ← holding [ov] (getMethod ov x pl)
      callWith pos f first (backTo pos (starEach (e :: es) X.env)) (backToKw pos (keywordEach [] X.env))) := by rfl) :
    PE X (.Call (.Attribute o x apos) (e :: es) [] pos) (tMeth C x sp [] E ta t) := by
  obtain ⟨f, fd, hm, G, b⟩ := F
  exact pe_meth he c hm (G.mono hk) hr b .nil hx ha hst hpl ht
theorem pe_methD0 {X : Cx} {CX : CXT} {k k' : Nat} {C : Addr} {x : Str} {ps : List Str} {sp : Sp} {E : XK} {o : Expr} {ta : TE} {apos pos : Pos} {pl : Sem Bool} (he : PE X o ta) (c : Cls X.K C) (F : MethOk X.prog X.w X.K X.mg X.base CX k C x ps sp) (hr : Room k' X.A) (hx : Passes CX X E)
    (hk : k <= k' := by omega)
    (ht : eval (.Call (.Attribute o x apos) [] [] pos) X.env = (do
      let ov ← eval o X.env
      standAt apos.atName
      let (f, first) ← holding [ov] (getMethod ov x pl)
      callWith pos f first (backTo pos (starEach [] X.env)) (backToKw pos (keywordEach [] X.env))) := by rfl) :
    PE X (.Call (.Attribute o x apos) [] [] pos) (tMeth C x sp [] E ta tNil) := by
  obtain ⟨f, fd, hm, G, b⟩ := F
  exact pe_meth0 he c hm (G.mono hk) hr b .nil hx ht
theorem call_isinst {X : Cx} {T : String} : CallR X (.builtin "isinstance") (fun xs H Q => ∃ x t b, xs = [x, .ty T] /\ TyOf X.K H x t /\ PySem.W.kitOne X.K t (.type T) = some b /\ Q (.bl b) H) := by
  intro pins s σ H xs us Q I r h
  obtain ⟨x, t, b, rfl, ty, e, q⟩ := h
  obtain ⟨u, u2, rfl, r1, r2⟩ := vals2 r
  obtain rfl : u2 = Value.type T := r2
  exact isinst_ok I r1 ty e fun tk => ⟨.bl b, H, I.tok _, rfl, q⟩
theorem op_is_bl {X : Cx} : OpR X (compareOp .Is) (fun x y H Q => ∃ b, y = .bl b /\ Q (.bl (decide (x = .bl b))) H) := by
  intro pins s σ H x y u v Q I rx ry h
  obtain ⟨b, rfl, q⟩ := h
  obtain rfl : v = Value.bool b := ry
  have e : (u == Value.bool b) = decide (x = V.bl b) := by
    cases x with
    | bl c => 
      obtain rfl : u = Value.bool c := rx
      cases b <;> cases c <;> rfl
    | non => obtain rfl : u = Value.none := rx; rfl
    | int i => obtain ⟨t, rfl⟩ := rx; rfl
    | str i => obtain ⟨t, rfl⟩ := rx; rfl
    | byt i => obtain ⟨t, rfl⟩ := rx; rfl
    | flt i => obtain ⟨t, rfl⟩ := rx; rfl
    | ref a => obtain rfl : u = Value.ref a := rx; rfl
    | ty n => obtain rfl : u = Value.type n := rx; rfl
  refine wpAny_is_plain ?_ ⟨.bl _, H, I, ?_, q⟩
  · cases x with
    | bl c => obtain rfl : u = Value.bool c := rx; rfl
    | non => obtain rfl : u = Value.none := rx; rfl
    | int i => obtain ⟨t, rfl⟩ := rx; rfl
    | str i => obtain ⟨t, rfl⟩ := rx; rfl
    | byt i => obtain ⟨t, rfl⟩ := rx; rfl
    | flt i => obtain ⟨t, rfl⟩ := rx; rfl
    | ref a => obtain rfl : u = Value.ref a := rx; rfl
    | ty n => obtain rfl : u = Value.type n := rx; rfl
  · rw [← e]
    rfl
end L2
set_option Elab.async false
set_option linter.all false
set_option maxRecDepth 100000
set_option maxHeartbeats 4000000
namespace L2
open PySem PySem.Spec PyProof.Rows
structure ModD (P : Program) (w : World) (K : PySem.W.Frag) (d : Addr) (kvs : List (Key × V)) : Prop where
  ns : (d == sysModules) = false
  ex : ∃ (o : Obj) (es : Array DictEntry) (ep : Nat) (vs : List (Key × Value)), K.lookup d = some o /\ o.ExactDict /\ o.data = .dict es ep /\ KV kvs vs /\ KeysOf (mixKind P w) es /\ Pairs (mixKind P w) es.toList vs /\ (vs.map (·.1)).Nodup
theorem ModD.at_ {P : Program} {w : World} {K : PySem.W.Frag} {d : Addr} {kvs : List (Key × V)} (D : ModD P w K d kvs) : ∃ (ep : Nat) (vs : List (Key × Value)), KV kvs vs /\ ∀ h : Heap, K.In h -> h.DictAt (mixKind P w) d vs ep := by
  obtain ⟨o, es, ep, vs, h1, h2, h3, h4, h5, h6, h7⟩ := D.ex
  exact ⟨ep, vs, h4, fun h kin => ⟨o, es, kin _ _ h1, h2, h3, h5, h6, h7⟩⟩
section
variable {X : Cx} {d : Addr} {kvs : List (Key × V)} {e o i : Expr} {td ty : TE} {pos apos cpos : Pos}
def tMGet (d : Addr) (kvs : List (Key × V)) (td ty : TE) : TE := fun σ H Q => td σ H fun x H1 => ty σ H1 fun y H2 => ∃ k v, x = .ref d /\ y = kV k /\ valV kvs k = some v /\ Q v H2
theorem pe_mget (D : ModD X.prog X.w X.K d kvs) (ho : PE X o td) (hi : PE X i ty) (hs : NoSl i) : PE X (.Subscript o i pos) (tMGet d kvs td ty) := by
  intro pins s σ H Q I h
  refine subD_of PySem.F.slot_dict_getitem.lookup hs (thn (ho pins s σ H _ I h) fun u s1 ⟨x, H1, I1, rx, q1⟩ => thn (hi pins s1 σ H1 _ I1 q1) fun iv s2 ⟨y, H2, I2, ry, k, v, ex, ey, l, q2⟩ => ?_)
  subst ex ey
  obtain rfl : u = Value.ref d := rx
  obtain ⟨ep, vs, rel, dd⟩ := D.at_
  have dd := (dd _ I2.kIn).dictOf
  obtain ⟨w', hw, rw'⟩ := RelO.some_of (v := v) (o := valueAt vs k) (by rw [← l]; exact rel.val k)
  exact ⟨dd.typeIs, wpAny_getItem_of (kV_is ry) dd.mapOf hw ⟨v, H2, I2.tok _, rw', q2⟩⟩
def tMNotIn (d : Addr) (kvs : List (Key × V)) (ty td : TE) : TE := fun σ H Q => ty σ H fun y H1 => td σ H1 fun x H2 => ∃ k, x = .ref d /\ y = kV k /\ Q (.bl (!(valV kvs k).isSome)) H2
theorem pc_mnotin (D : ModD X.prog X.w X.K d kvs) (hi : PE X i ty) (ho : PE X o td) : PC X .NotIn i o (tMNotIn d kvs ty td) := by
  intro pins s σ H Q I h
  refine thn (hi pins s σ H _ I h) fun iv s1 ⟨y, H1, I1, ry, q1⟩ => thn (ho pins s1 σ H1 _ I1 q1) fun u s2 ⟨x, H2, I2, rx, k, ex, ey, q2⟩ => ?_
  subst ex ey
  obtain rfl : u = Value.ref d := rx
  obtain ⟨ep, vs, rel, dd⟩ := D.at_
  have dd := (dd _ I2.kIn).dictOf
  refine wpAny_notIn_of (kV_is ry) D.ns dd.mapOf ?_
  rw [← (rel.val k).isSome_eq]
  exact ⟨.bl _, H2, I2.tok _, rfl, q2⟩
def ItM (kvs : List (Key × V)) : It :=
  ⟨fun i _ => i < kvs.length, fun i H x H' => ∃ T k v, kvs[i]? = some (k, v) /\ x = .ref T /\ H T = Option.none /\ H' = upd H T (.tup [kV k, v]), fun i _ => kvs.length <= i⟩
theorem turn_mitems {P : Program} {w : World} {K : PySem.W.Frag} {vs : List (Key × Value)} {ep : Nat} {elts : List Expr} {kk : Nat} {tpos : Pos} (it : Addr) (rel : KV kvs vs) (dd : ∀ h : Heap, K.In h -> h.DictAt (mixKind P w) d vs ep) :
    Turn P w K (.Tuple elts kk tpos) (ItM kvs) [it] it (fun i h => ∃ ok ov, IsItemIter h it d i vs.length ep ok ov) where
  mem := by simp
  obj := fun i h st b hb => by
    have e : b = it := by simpa using hb
    subst e
    obtain ⟨ok, ov, e⟩ := st
    exact ⟨_, e, fun v z => nomatch z⟩
  keep := fun i h h' st k => let ⟨ok, ov, e⟩ := st; ⟨ok, ov, k it (by simp) _ e⟩
  item := by
    intro X hP hw hK hc i pins s σ H E I hf st hi
    subst hP hw hK
    have hi : i < kvs.length := hi
    have hm := dd _ I.kIn
    obtain ⟨⟨k, v⟩, hkv⟩ : ∃ p, kvs[i]? = some p := ⟨kvs[i], List.getElem?_eq_getElem hi⟩
    obtain ⟨u, hu, ru⟩ := kv_get rel hkv
    obtain ⟨ok, ov, he⟩ := st
    have hlt : it < s.heap.objs.size := Heap.lt_size he
    refine wpAny_pyNext_items_item he hm hu fun key h' hkey ho hT hz hk => ?_
    refine ⟨_, rfl, wpAny_letOwnedTupleGo_items (s := { s with heap := h' }) ho fun h'' he' sb => ?_⟩
    have hT2 : h''.get? s.heap.objs.size = some { cls := .type "tuple", data := .seq #[key, u] } := (sb.2 _ (Nat.ne_of_gt hlt)).trans hT
    have new : ObjOk X.prog X.w (upd H s.heap.objs.size (.tup [kV k, v])) h'' s.heap.objs.size (.tup [kV k, v]) :=
      ⟨by show 2 <= sizeLine; decide, [key, u], .cons (relV_key (show keyIs k key = true from hkey)) (.cons ru .nil), ⟨_, hT2, rfl, _, rfl⟩⟩
    have I1 : Inv X pins σ (upd H s.heap.objs.size (.tup [kV k, v])) { s with heap := h'' } :=
      I.turnedNew (t' := s.toks) (ch := [it]) (fun b ob hb e => (sb.2 b (by simpa using hb)).trans (hk b ob (by simpa using hb) e)) hf (Nat.le_refl _) new
    refine ⟨.ref s.heap.objs.size, _, I1, rfl, ⟨_, k, v, hkv, rfl, I.hok.fresh (Nat.le_refl _), rfl⟩, ⟨key, u, he'⟩, fun b hb => ?_⟩
    have e : b = it := by simpa using hb
    rw [e, upd_ne (Nat.ne_of_lt hlt)]
    exact (hf it (by simp)).1
  done := by
    intro X hP hw hK hc i pins s σ H E I hf st hi
    subst hP hw hK
    have hi : kvs.length <= i := hi
    obtain ⟨f0, f1, f2, f3, f4, f5⟩ := hf it (by simp)
    have hm := dd _ I.kIn
    have hl : kvs.length = vs.length := Paired.length rel
    obtain ⟨ok, ov, he⟩ := st
    exact wpAny_pyNext_items_end (I.ok.hd hc) he hm (List.getElem?_eq_none (by omega)) fun h' eb => ⟨rfl, I.turned (t' := s.toks) (fun b ob hb e => eb b ob hb e) f0 f1 f3 f4 f5⟩
  self := fun A i s Q E st h => let ⟨_, _, e⟩ := st; PySem.W.kcp_self e h
def iMItems (d : Addr) (kvs : List (Key × V)) (td : TE) : TI := fun σ H R => td σ H fun x H1 => x = .ref d /\ R (ItM kvs) H1
theorem pi_mitems {elts : List Expr} {kk : Nat} {tpos : Pos} (D : ModD X.prog X.w X.K d kvs) (he : PE X e td) (hbase : attributeBase e "items" X.env (eval e X.env) = eval e X.env := by rfl) (hline : (apos.endLine == cpos.line) = true := by rfl) :
    PI X (.Tuple elts kk tpos) (.Call (.Attribute e "items" apos) [] [] cpos) (iMItems d kvs td) := by
  intro pins s σ H R I h
  refine wpAny_Call_method (T := "dict") (id := "dict.items") hbase rfl hline F.plainAttrs_dict F.slot_dict_items F.type_dict_items (thn (he pins s σ H _ I h) fun u s1 ⟨x, H1, I1, rx, ex, q⟩ => ?_)
  subst ex
  obtain rfl : u = Value.ref d := rx
  obtain ⟨ep, vs, rel, dd⟩ := D.at_
  have hm := dd _ I1.kIn
  refine ⟨hm.dictOf.typeIs, hm.dictOf.mapOf.noDict, ?_⟩
  have I2 : Inv X pins σ H1 { s1 with heap := s1.heap.push { cls := .type "dict_items", data := .fields #[.ref d] } } := I1.kept (t' := s1.toks) fun b ob q => Heap.get?_push_of_some _ q
  have fin : wpAny (model X.prog X.w) X.A (pyIter (.ref s1.heap.objs.size)) (PIE X pins σ (.Tuple elts kk tpos) R) X.xe { s1 with heap := s1.heap.push { cls := .type "dict_items", data := .fields #[.ref d] } } := by
    refine wpAny_pyIter_items (d := d) (knd := mixKind X.prog X.w) ⟨_, Heap.get?_push_size _ rfl, rfl, rfl⟩ (hm.push _) (pi_one (tk := s1.toks) I2 _ (turn_mitems _ rel dd) ⟨.none, .none, ?_⟩ q)
    exact Heap.get?_push_size _ rfl
  show wpAny _ _ (callWith cpos (.builtin "dict.items") [.ref d] [] []) _ X.xe s1
  exact method_meetsIn F.slot_dict_items F.entry_dict_items rfl (PySem.evalArgs_none ⟨rfl, hm.dictOf.typeIs, F.args_dict_items_1 _, _, meets_dict_items (mixKind X.prog X.w) d D.ns, ⟨vs, hm.dictOf⟩, fin⟩)
end
end L2
set_option Elab.async false
set_option linter.all false
set_option maxRecDepth 100000
namespace Pw
open PySem L2
def top (i : Nat) : Stmt := PySem.Challenge.pw_patchwords_s04_same.main.body.getD i (.Pass ⟨0, 0, 0, 0⟩)
abbrev s_is_digit : Stmt := top 27
abbrev s_spelled : Stmt := top 28
abbrev s_is_same : Stmt := top 30
abbrev s_are_same_members : Stmt := top 31
abbrev s_are_same_lists : Stmt := top 32
abbrev s_is_same_plain : Stmt := top 33
abbrev s_plain_bytes : Stmt := top 36
abbrev s_name_bytes : Stmt := top 37
abbrev s_text_bytes : Stmt := top 38
abbrev m_init_Value : Stmt := inClass (top 40) 0
abbrev s_plain_value : Stmt := top 41
abbrev s_text_value : Stmt := top 42
abbrev s_list_value : Stmt := top 43
abbrev s_members_value : Stmt := top 44
abbrev s_enclosed_size : Stmt := top 45
abbrev s_enclosed_depth : Stmt := top 46
abbrev s_is_utf8 : Stmt := top 49
abbrev s_character_size : Stmt := top 50
abbrev s_is_tail : Stmt := top 51
abbrev s_character_bytes : Stmt := top 52
abbrev s_tail_byte : Stmt := top 53
abbrev s_read_document : Stmt := top 60
abbrev s_read_nested : Stmt := top 61
abbrev m_init_Reader : Stmt := inClass (top 62) 0
abbrev m_peek : Stmt := inClass (top 62) 1
abbrev m_take : Stmt := inClass (top 62) 2
abbrev m_take_if : Stmt := inClass (top 62) 3
abbrev m_expect : Stmt := inClass (top 62) 4
abbrev m_skip_blanks : Stmt := inClass (top 62) 5
abbrev m_read_value : Stmt := inClass (top 62) 6
abbrev m_read_bare_value : Stmt := inClass (top 62) 7
abbrev m_read_list : Stmt := inClass (top 62) 8
abbrev m_read_members : Stmt := inClass (top 62) 9
abbrev m_enter : Stmt := inClass (top 62) 10
abbrev m_read_name : Stmt := inClass (top 62) 11
abbrev m_read_text : Stmt := inClass (top 62) 12
abbrev m_read_escaped : Stmt := inClass (top 62) 13
abbrev m_read_character : Stmt := inClass (top 62) 14
abbrev m_read_four_digits : Stmt := inClass (top 62) 15
abbrev m_read_number : Stmt := inClass (top 62) 16
abbrev m_read_digits : Stmt := inClass (top 62) 17
abbrev m_read_word : Stmt := inClass (top 62) 18
abbrev s_is_first_half : Stmt := top 63
abbrev s_is_second_half : Stmt := top 64
abbrev s_digit_of_sixteen : Stmt := top 65
abbrev s_same : Stmt := top 67
abbrev s_compared : Stmt := top 68
abbrev s_read_second : Stmt := top 69
abbrev s_answered : Stmt := top 70
abbrev nm_WORDS : Str := "WORDS"
abbrev nm_ESC : Str := "ESCAPES"
end Pw
set_option Elab.async false
set_option linter.all false
set_option maxRecDepth 100000
set_option maxHeartbeats 4000000
namespace Pw
open PySem PySem.Spec PyProof.Rows L2
section
variable {P : Program} {w : World} {K : PySem.W.Frag} {mg : Str -> Option Value} {base : Heap} {f : Addr} {fd : FuncData}
def isD (i : Int) : Bool := decide (48 <= i) && decide (i <= 57)
def spDigit : Sp := fun vs H Q _ => ∃ i : Int, vs = [.int i] /\ Q (.bl (isD i)) H
theorem sc_is_digit : FnScope ["sign"] ["sign"] (defScope s_is_digit) := ⟨rfl, rfl, rfl, by decide +kernel, rfl, by decide +kernel, by decide +kernel⟩
theorem ok_is_digit (F : Fun K "is_digit" "is_digit" s_is_digit f fd) (g0 : Gv mg "ZERO" (.int 48)) (g9 : Gv mg "NINE" (.int 57)) : FnOk P w K mg base CX0 1 f fd ["sign"] spDigit := by
  refine F.ok sc_is_digit (fun vs H Q E h => ?_) (fun cdv A outer s H vs Q E hr h => ?_)
  · obtain ⟨i, rfl, _⟩ := h
    rfl
  obtain ⟨i, rfl, q⟩ := h
  refine ⟨_, pss_one (ps_ret (pe_chain op_le op_le (pe_g g0) (pv 0) (pe_g g9))), ?_⟩
  refine ⟨_, rfl, _, _, rfl, rfl, _, rfl, ?_⟩
  unfold isD at q
  refine ite2 (fun c => ?_) (fun c => ?_)
  · refine ⟨_, _, rfl, rfl, ?_⟩
    rw [show decide ((48 : Int) <= i) = true from c, Bool.true_and] at q
    exact q
  · rw [show decide ((48 : Int) <= i) = false from Bool.eq_false_iff.mpr c, Bool.false_and] at q
    exact q
end
end Pw
namespace Pw
open PySem PySem.Spec PyProof.Rows L2
section
variable {P : Program} {w : World} {K : PySem.W.Frag} {mg : Str -> Option Value} {base : Heap} {f : Addr} {fd : FuncData}
def cpsV (x : Str) : List V := x.cps.toList.map fun c => V.int (c : Nat)
def spSpelled : Sp := fun vs H Q _ => ∃ x : Str, vs = [.str x] /\ x.length <= sizeLine /\ ∀ p, H p = Option.none -> Q (.ref p) (upd H p (.lst (cpsV x)))
theorem sc_spelled : FnScope ["word", "letter"] ["word"] (defScope s_spelled) := ⟨rfl, rfl, rfl, by decide +kernel, rfl, by decide +kernel, by decide +kernel⟩
theorem boot_ord1 : bootBuiltins "ord" = some (.builtin "ord") := by decide +kernel
theorem take_snoc {α : Type} {l : List α} {i : Nat} {x : α} (h : l[i]? = some x) : l.take (i + 1) = l.take i ++ [x] := by
  rw [List.take_add_one, h]
  rfl
theorem ok_spelled (F : Fun K "spelled" "spelled" s_spelled f fd) (mo : mg "ord" = Option.none) : FnOk P w K mg base CX0 1 f fd ["word"] spSpelled := by
  refine F.ok sc_spelled (fun vs H Q E h => ?_) (fun cdv A outer s H vs Q E hr h => ?_)
  · obtain ⟨x, rfl, _⟩ := h
    rfl
  obtain ⟨x, rfl, hz, q⟩ := h
  refine ⟨_, pss_one (ps_ret (pe_lc (own := [("letter", 1)]) rfl sc_spelled.nd (pi_str (pv 0)) (blkOk_by (by show blkC ["word", "letter"] (defScope s_spelled) _ _ = true; decide +kernel)) (fun _ _ _ _ _ => pg_name (i := 1) sc_spelled.nd rfl (Or.inl rfl)) (fun _ _ _ _ _ => pts_nil)
    (fun _ _ _ _ _ => pe_callB call_ord rfl mo boot_ord1 (pa_cons (pv 1) pa_nil)))), ?_⟩
  refine ⟨_, rfl, x, rfl, fun D hD => ?_⟩
  refine ⟨fun i m H' => m = x.cps.size - i /\ i <= x.cps.size /\ H' = upd H D (.lst ((cpsV x).take i)), ⟨x.cps.size, by simp, Nat.zero_le _, rfl⟩, ?_⟩
  rintro i m H' ⟨rfl, hi, rfl⟩
  by_cases hlt : i < x.cps.size
  · refine .inr ⟨hlt, fun H' => H' = upd H D (.lst ((cpsV x).take (i + 1))), fun H' e => ⟨x.cps.size - (i + 1), by omega, rfl, hlt, e⟩, ?_⟩
    rintro v H' ⟨rfl, c, hc, rfl⟩
    refine ⟨rfl, ?_⟩
    refine ⟨_, rfl, _, rfl, rfl, ?_⟩
    refine ⟨_, upd_same, ?_, ?_⟩
    · have e1 : ((cpsV x).take i).length <= i := by rw [List.length_take]; exact Nat.min_le_left _ _
      exact Nat.lt_of_le_of_lt e1 (Nat.lt_of_lt_of_le hlt hz)
    · rw [upd_upd]
      have e2 : (cpsV x)[i]? = some (V.int (c : Nat)) := by
        unfold cpsV
        rw [List.getElem?_map, Array.getElem?_toList, hc]
        rfl
      rw [take_snoc e2]
      rfl
  · have e : i = x.cps.size := by omega
    subst e
    refine .inl ⟨Nat.le_refl _, ?_⟩
    have e3 : (cpsV x).take x.cps.size = cpsV x := List.take_of_length_le (by unfold cpsV; simp)
    rw [e3]
    exact q D hD
end
end Pw
set_option Elab.async false
set_option linter.all false
set_option maxRecDepth 100000
set_option maxHeartbeats 4000000
namespace Pw
open PySem PySem.Spec PyProof.Rows L2
abbrev bV (l : List Nat) : List V := l.map fun c => V.int (c : Nat)
theorem small_line {n : Nat} (h : n <= 1000000) : n <= sizeLine := Nat.le_trans h (by decide)
theorem Same.upd {H : Hp} {p : Addr} (h : H p = Option.none) (o : HO) : Same H (upd H p o) := fun b u q => by rw [upd_ne (ne_of_none q h)]; exact q
section
variable {P : Program} {w : World} {K : PySem.W.Frag} {mg : Str -> Option Value} {base : Heap} {f : Addr} {fd : FuncData}
def spTailByte : Sp := fun vs H Q _ => ∃ n : Nat, vs = [.int (n : Int)] /\ Q (.int ((128 + n % 64 : Nat) : Int)) H
theorem sc_tail_byte : FnScope ["number"] ["number"] (defScope s_tail_byte) := ⟨rfl, rfl, rfl, by decide +kernel, rfl, by decide +kernel, by decide +kernel⟩
theorem ok_tail_byte (F : Fun K "tail_byte" "tail_byte" s_tail_byte f fd) : FnOk P w K mg base CX0 1 f fd ["number"] spTailByte := by
  refine F.ok sc_tail_byte (fun vs H Q E h => ?_) (fun cdv A outer s H vs Q E hr h => ?_)
  · obtain ⟨i, rfl, _⟩ := h
    rfl
  obtain ⟨n, rfl, q⟩ := h
  refine ⟨_, pss_one (ps_ret (pe_op op_add pe_int (pe_op op_mod (pv 0) pe_int))), ?_⟩
  refine ⟨_, rfl, _, _, rfl, rfl, (by show (0 : Int) < 64; decide), _, _, rfl, rfl, ?_⟩
  have e : (128 + (n : Int) % 64) = ((128 + n % 64 : Nat) : Int) := by omega
  show Q (.int (128 + (n : Int) % 64)) H
  rw [e]
  exact q
def spCharBytes : Sp := fun vs H Q _ => ∃ n : Nat, vs = [.int (n : Int)] /\ ∀ p, H p = Option.none -> Q (.ref p) (upd H p (.lst (bV (Sn77.encoded n))))
theorem sc_character_bytes : FnScope ["number"] ["number"] (defScope s_character_bytes) := ⟨rfl, rfl, rfl, by decide +kernel, rfl, by decide +kernel, by decide +kernel⟩
theorem ok_character_bytes (F : Fun K "character_bytes" "character_bytes" s_character_bytes f fd) (T : DefOk P w K mg base CX0 1 "tail_byte" ["number"] spTailByte) : FnOk P w K mg base CX0 2 f fd ["number"] spCharBytes := by
  refine F.ok sc_character_bytes (fun vs H Q E h => ?_) (fun cdv A outer s H vs Q E hr h => ?_)
  · obtain ⟨i, rfl, _⟩ := h
    rfl
  obtain ⟨n, rfl, q⟩ := h
  refine ⟨_, pss_cons (ps_if (pt_cmpR op_lt (pv 0) pe_int (nomark _)) (pss_one (ps_ret (pe_lst (pa_cons (pv 0) pa_nil)))) pss_nil)
    (pss_cons (ps_if (pt_cmpR op_lt (pv 0) pe_int (nomark _)) (pss_one (ps_ret (pe_lst (pa_cons (pe_op op_add pe_int (pe_op op_fdiv (pv 0) pe_int)) (pa_cons (pe_callD T hr pass0 (pa_cons (pv 0) pa_nil)) pa_nil))))) pss_nil)
    (pss_cons (ps_if (pt_cmpR op_lt (pv 0) pe_int (nomark _)) (pss_one (ps_ret (pe_lst (pa_cons (pe_op op_add pe_int (pe_op op_fdiv (pv 0) pe_int)) (pa_cons (pe_callD T hr pass0 (pa_cons (pe_op op_fdiv (pv 0) pe_int) pa_nil)) (pa_cons (pe_callD T hr pass0 (pa_cons (pv 0) pa_nil)) pa_nil)))))) pss_nil)
    (pss_one (ps_ret (pe_lst (pa_cons (pe_op op_add pe_int (pe_op op_fdiv (pv 0) pe_int)) (pa_cons (pe_callD T hr pass0 (pa_cons (pe_op op_fdiv (pv 0) pe_int) pa_nil)) (pa_cons (pe_callD T hr pass0 (pa_cons (pe_op op_fdiv (pv 0) pe_int) pa_nil)) (pa_cons (pe_callD T hr pass0 (pa_cons (pv 0) pa_nil)) pa_nil))))))))), ?_⟩
  unfold Sn77.encoded at q
  have d1 : ∀ k : Nat, CDiv (n : Int) (k : Int) = (0 < (k : Int) /\ (k : Int) < 1073741824) := fun k => rfl
  have ed : ∀ k : Nat, (n : Int) / (k : Int) = ((n / k : Nat) : Int) := fun k => rfl
  refine ⟨_, rfl, _, _, rfl, rfl, _, rfl, ?_⟩
  generalize hb : decide ((n : Int) < 128) = b
  rcases Bool.eq_false_or_eq_true b with c | c
  · subst c
    have c := of_decide_eq_true hb
    refine iteT ?_
    have c' : n < 0x80 := by omega
    rw [if_pos c'] at q
    exact ⟨_, rfl, (by show 1 <= sizeLine; decide), fun p hp => q p hp⟩
  subst c
  have c := of_decide_eq_false hb
  refine iteF ?_
  have c1 : ¬ n < 0x80 := by omega
  rw [if_neg c1] at q
  refine ⟨_, rfl, _, _, rfl, rfl, _, rfl, ?_⟩
  generalize hb : decide ((n : Int) < 2048) = b
  rcases Bool.eq_false_or_eq_true b with c | c
  · subst c
    have c := of_decide_eq_true hb
    refine iteT ?_
    have c' : n < 0x800 := by omega
    rw [if_pos c'] at q
    refine ⟨_, rfl, _, _, rfl, rfl, ⟨by decide, by decide⟩, _, _, rfl, rfl, _, rfl, n, rfl, (by show 2 <= sizeLine; decide), fun p hp => ?_⟩
    have e : (192 + (n : Int) / 64) = ((0xC0 + n / 64 : Nat) : Int) := by omega
    show Q (.ref p) (upd H p (.lst [V.int (192 + (n : Int) / 64), V.int ((128 + n % 64 : Nat) : Int)]))
    rw [e]
    exact q p hp
  subst c
  have c := of_decide_eq_false hb
  refine iteF ?_
  have c2 : ¬ n < 0x800 := by omega
  rw [if_neg c2] at q
  refine ⟨_, rfl, _, _, rfl, rfl, _, rfl, ?_⟩
  generalize hb : decide ((n : Int) < 65536) = b
  rcases Bool.eq_false_or_eq_true b with c | c
  · subst c
    have c := of_decide_eq_true hb
    refine iteT ?_
    have c' : n < 0x10000 := by omega
    rw [if_pos c'] at q
    refine ⟨_, rfl, _, _, rfl, rfl, ⟨by decide, by decide⟩, _, _, rfl, rfl, _, rfl, _, _, rfl, rfl, ⟨by decide, by decide⟩, n / 64, rfl, _, rfl, n, rfl, (by show 3 <= sizeLine; decide), fun p hp => ?_⟩
    have e : (224 + (n : Int) / 4096) = ((0xE0 + n / 4096 : Nat) : Int) := by omega
    show Q (.ref p) (upd H p (.lst [V.int (224 + (n : Int) / 4096), V.int ((128 + n / 64 % 64 : Nat) : Int), V.int ((128 + n % 64 : Nat) : Int)]))
    rw [e]
    exact q p hp
  subst c
  have c := of_decide_eq_false hb
  refine iteF ?_
  have c3 : ¬ n < 0x10000 := by omega
  rw [if_neg c3] at q
  refine ⟨_, rfl, _, _, rfl, rfl, ⟨by decide, by decide⟩, _, _, rfl, rfl, _, rfl, _, _, rfl, rfl, ⟨by decide, by decide⟩, n / 4096, rfl, _, rfl, _, _, rfl, rfl, ⟨by decide, by decide⟩, n / 64, rfl, _, rfl, n, rfl, (by show 4 <= sizeLine; decide), fun p hp => ?_⟩
  have e : (240 + (n : Int) / 262144) = ((0xF0 + n / 262144 : Nat) : Int) := by omega
  show Q (.ref p) (upd H p (.lst [V.int (240 + (n : Int) / 262144), V.int ((128 + n / 4096 % 64 : Nat) : Int), V.int ((128 + n / 64 % 64 : Nat) : Int), V.int ((128 + n % 64 : Nat) : Int)]))
  rw [e]
  exact q p hp
def spBetween (lo hi : Int) : Sp := fun vs H Q _ => ∃ i : Int, vs = [.int i] /\ Q (.bl (decide (lo <= i) && decide (i <= hi))) H
theorem sc_is_first_half : FnScope ["number"] ["number"] (defScope s_is_first_half) := ⟨rfl, rfl, rfl, by decide +kernel, rfl, by decide +kernel, by decide +kernel⟩
theorem ok_is_first_half (F : Fun K "is_first_half" "is_first_half" s_is_first_half f fd) : FnOk P w K mg base CX0 1 f fd ["number"] (spBetween 55296 56319) := by
  refine F.ok sc_is_first_half (fun vs H Q E h => ?_) (fun cdv A outer s H vs Q E hr h => ?_)
  · obtain ⟨i, rfl, _⟩ := h
    rfl
  obtain ⟨i, rfl, q⟩ := h
  refine ⟨_, pss_one (ps_ret (pe_chain op_le op_le pe_int (pv 0) pe_int)), ?_⟩
  refine ⟨_, rfl, _, _, rfl, rfl, _, rfl, ?_⟩
  refine ite2 (fun c => ?_) (fun c => ?_)
  · refine ⟨_, _, rfl, rfl, ?_⟩
    rw [show decide ((55296 : Int) <= i) = true from c, Bool.true_and] at q
    exact q
  · rw [show decide ((55296 : Int) <= i) = false from Bool.eq_false_iff.mpr c, Bool.false_and] at q
    exact q
theorem sc_is_second_half : FnScope ["number"] ["number"] (defScope s_is_second_half) := ⟨rfl, rfl, rfl, by decide +kernel, rfl, by decide +kernel, by decide +kernel⟩
theorem ok_is_second_half (F : Fun K "is_second_half" "is_second_half" s_is_second_half f fd) : FnOk P w K mg base CX0 1 f fd ["number"] (spBetween 56320 57343) := by
  refine F.ok sc_is_second_half (fun vs H Q E h => ?_) (fun cdv A outer s H vs Q E hr h => ?_)
  · obtain ⟨i, rfl, _⟩ := h
    rfl
  obtain ⟨i, rfl, q⟩ := h
  refine ⟨_, pss_one (ps_ret (pe_chain op_le op_le pe_int (pv 0) pe_int)), ?_⟩
  refine ⟨_, rfl, _, _, rfl, rfl, _, rfl, ?_⟩
  refine ite2 (fun c => ?_) (fun c => ?_)
  · refine ⟨_, _, rfl, rfl, ?_⟩
    rw [show decide ((56320 : Int) <= i) = true from c, Bool.true_and] at q
    exact q
  · rw [show decide ((56320 : Int) <= i) = false from Bool.eq_false_iff.mpr c, Bool.false_and] at q
    exact q
def spHex (cN : Addr) : Sp := fun vs H Q E => ∃ c : Nat, vs = [.int (c : Int)] /\ (∀ n, Sn77.hex c = some n -> Q (.int (n : Nat)) H) /\ (Sn77.hex c = Option.none -> E (.ref cN) Option.none H)
theorem sc_digit_of_sixteen : FnScope ["sign"] ["sign"] (defScope s_digit_of_sixteen) := ⟨rfl, rfl, rfl, by decide +kernel, rfl, by decide +kernel, by decide +kernel⟩
theorem ok_digit_of_sixteen {cN : Addr} (F : Fun K "digit_of_sixteen" "digit_of_sixteen" s_digit_of_sixteen f fd) (D : DefOk P w K mg base CX0 1 "is_digit" ["sign"] spDigit) (g0 : Gv mg "ZERO" (.int 48))
    (g1 : Gv mg "SMALL_A" (.int 97)) (g2 : Gv mg "SMALL_F" (.int 102)) (g3 : Gv mg "LARGE_A" (.int 65)) (g4 : Gv mg "LARGE_F" (.int 70)) (mN : mg "NotDocument" = some (.ref cN)) (xN : xcIn K cN = true) : FnOk P w K mg base (CXe P w) 2 f fd ["sign"] (spHex cN) := by
  refine F.okX sc_digit_of_sixteen (fun vs H Q E h => ?_) (fun cdv A outer s H vs Q E hr h => ?_)
  · obtain ⟨i, rfl, _⟩ := h
    rfl
  obtain ⟨c, rfl, q, qe⟩ := h
  refine ⟨_, pss_cons (ps_if (pt_val (pe_callD D hr pass0 (pa_cons (pv 0) pa_nil))) (pss_one (ps_ret (pe_op op_sub (pv 0) (pe_g g0)))) pss_nil)
    (pss_cons (ps_if (pt_chain op_le op_le (pe_g g1) (pv 0) (pe_g g2)) (pss_one (ps_ret (pe_op op_add (pe_op op_sub (pv 0) (pe_g g1)) pe_int))) pss_nil)
    (pss_cons (ps_if (pt_chain op_le op_le (pe_g g3) (pv 0) (pe_g g4)) (pss_one (ps_ret (pe_op op_add (pe_op op_sub (pv 0) (pe_g g3)) pe_int))) pss_nil)
    (pss_one (ps_raise rfl rfl mN xN raises_cx)))), ?_⟩
  unfold Sn77.hex at q qe
  refine ⟨_, rfl, _, rfl, _, rfl, ?_⟩
  unfold isD
  refine ite2 (fun k => ?_) (fun k => ?_)
  · simp only [Bool.and_eq_true, decide_eq_true_eq] at k
    have k' : 48 <= c /\ c <= 57 := by omega
    refine ⟨_, rfl, _, _, rfl, rfl, ?_⟩
    have := q (c - 48) (if_pos k')
    have e : ((c : Int) - 48) = ((c - 48 : Nat) : Int) := by omega
    show Q (.int ((c : Int) - 48)) H
    rw [e]
    exact this
  have k1 : ¬ (48 <= c /\ c <= 57) := by
    intro z
    refine k ?_
    simp only [Bool.and_eq_true, decide_eq_true_eq]
    omega
  rw [if_neg k1] at qe
  simp only [if_neg k1] at q
  have rest : ¬ (97 <= c /\ c <= 102) -> tSeq (tIfS (tTest (tChain (rI0 fun i j => .bl (decide (i <= j))) (rI0 fun i j => .bl (decide (i <= j))) (tC (.int 65)) (tVar 0) (tC (.int 70)))) (tRet (tOp (rI0 fun i j => .int (i + j)) (tOp (rI0 fun i j => .int (i - j)) (tVar 0) (tC (.int 65))) (tC (.int 10)))) tNext)
      (fun _ _ H => E (.ref cN) Option.none H) { nx := fun _ H' => Q .non H', rt := Q } (start ["sign"] [V.int (c : Int)]) H := fun k2 => by
    rw [if_neg k2] at qe
    simp only [if_neg k2] at q
    refine ⟨_, rfl, _, _, rfl, rfl, _, rfl, ?_⟩
    refine ite2 (fun k => ?_) (fun k => ?_)
    · have k3 := of_decide_eq_true k
      refine ⟨_, _, rfl, rfl, _, rfl, ?_⟩
      refine ite2 (fun k => ?_) (fun k => ?_)
      · have k4 := of_decide_eq_true k
        have k' : 65 <= c /\ c <= 70 := by omega
        have := q (c - 55) (if_pos k')
        refine ⟨_, rfl, _, _, rfl, rfl, _, _, rfl, rfl, ?_⟩
        have e : ((c : Int) - 65 + 10) = ((c - 55 : Nat) : Int) := by omega
        show Q (.int ((c : Int) - 65 + 10)) H
        rw [e]
        exact this
      · have k4 := of_decide_eq_false (Bool.eq_false_iff.mpr k)
        exact qe (if_neg (by omega))
    · have k3 := of_decide_eq_false (Bool.eq_false_iff.mpr k)
      exact ⟨_, rfl, iteF (qe (if_neg (by omega)))⟩
  refine ⟨_, rfl, _, _, rfl, rfl, _, rfl, ?_⟩
  refine ite2 (fun k => ?_) (fun k => ?_)
  · have k3 := of_decide_eq_true k
    refine ⟨_, _, rfl, rfl, _, rfl, ?_⟩
    refine ite2 (fun k => ?_) (fun k => ?_)
    · have k4 := of_decide_eq_true k
      have k' : 97 <= c /\ c <= 102 := by omega
      have := q (c - 87) (if_pos k')
      refine ⟨_, rfl, _, _, rfl, rfl, _, _, rfl, rfl, ?_⟩
      have e : ((c : Int) - 97 + 10) = ((c - 87 : Nat) : Int) := by omega
      show Q (.int ((c : Int) - 97 + 10)) H
      rw [e]
      exact this
    · have k4 := of_decide_eq_false (Bool.eq_false_iff.mpr k)
      exact rest (by omega)
  · have k3 := of_decide_eq_false (Bool.eq_false_iff.mpr k)
    exact ⟨_, rfl, iteF (rest (by omega))⟩
end
end Pw
set_option linter.all false
set_option maxRecDepth 100000
set_option maxHeartbeats 4000000
namespace Mt
def forms : List (Nat × Nat × Nat × Nat × Nat) := [(0, 127, 0, 0, 0), (194, 223, 1, 128, 191), (224, 224, 2, 160, 191), (225, 236, 2, 128, 191), (237, 237, 2, 128, 159), (238, 239, 2, 128, 191), (240, 240, 3, 144, 191), (241, 243, 3, 128, 191), (244, 244, 3, 128, 143)]
def inTail (b : Nat) : Bool := decide (128 <= b) && decide (b <= 191)
def tailOk (l : List Nat) (lo hi : Nat) : Bool := match l with
  | [] => true
  | c :: r => (decide (lo <= c) && decide (c <= hi)) && (c :: r).all inTail
def sizeBy : List (Nat × Nat × Nat × Nat × Nat) -> Nat -> List Nat -> Nat
  | [], _, _ => 0
  | f :: r, c, t => if f.1 <= c /\ c <= f.2.1 /\ (t.take f.2.2.1).length = f.2.2.1 /\ tailOk (t.take f.2.2.1) f.2.2.2.1 f.2.2.2.2 = true then 1 + f.2.2.1 else sizeBy r c t
def chSize : List Nat -> Nat
  | [] => 0
  | c :: t => sizeBy forms c t
def kOf (c : Nat) : Nat := if c < 0x80 then 0 else if 0xC2 <= c /\ c <= 0xDF then 1 else if 0xE0 <= c /\ c <= 0xEF then 2 else if 0xF0 <= c /\ c <= 0xF4 then 3 else 4
def xOf (k c : Nat) (t : List Nat) : Nat := t.foldl (fun a b => 64 * a + b % 64) (if k = 0 then c else if k = 1 then c % 32 else if k = 2 then c % 16 else c % 8)
def okOne (c : Nat) (r : List Nat) : Bool :=
  let k := kOf c
  let t := r.take k
  let x := xOf k c t
  decide (k < 4) && (t.length == k && (t.all (fun b => decide (0x80 <= b) && decide (b < 0xC0)) && (decide (x < 0x110000) && (!(decide (0xD800 <= x) && decide (x < 0xE000)) && (Sn77.encoded x == c :: t)))))
theorem utf8_cons (n c : Nat) (r : List Nat) : Sn77.utf8 (n + 1) (c :: r) = (okOne c r && Sn77.utf8 n (r.drop (kOf c))) := by
  rw [Sn77.utf8]
  show (decide (kOf c < 4) && ((r.take (kOf c)).length == kOf c && ((r.take (kOf c)).all (fun b => decide (0x80 <= b) && decide (b < 0xC0)) && (decide (xOf (kOf c) c (r.take (kOf c)) < 0x110000) && (!(decide (0xD800 <= xOf (kOf c) c (r.take (kOf c))) && decide (xOf (kOf c) c (r.take (kOf c)) < 0xE000)) && (Sn77.encoded (xOf (kOf c) c (r.take (kOf c))) == c :: r.take (kOf c) && Sn77.utf8 n (r.drop (kOf c)))))))) = _
  unfold okOne
  dsimp only
  simp only [Bool.and_assoc]
theorem sizeBy_cons (f : Nat × Nat × Nat × Nat × Nat) (fs : List (Nat × Nat × Nat × Nat × Nat)) (c : Nat) (t : List Nat) :
    sizeBy (f :: fs) c t = if f.1 <= c /\ c <= f.2.1 /\ (t.take f.2.2.1).length = f.2.2.1 /\ tailOk (t.take f.2.2.1) f.2.2.2.1 f.2.2.2.2 = true then 1 + f.2.2.1 else sizeBy fs c t := rfl
theorem sb_skip : ∀ {fs : List (Nat × Nat × Nat × Nat × Nat)} {more : List (Nat × Nat × Nat × Nat × Nat)} {c : Nat} {t : List Nat}, (∀ g ∈ fs, c < g.1 ∨ g.2.1 < c) -> sizeBy (fs ++ more) c t = sizeBy more c t
  | [], _, _, _, _ => rfl
  | f :: r, more, c, t, h => by
    have h0 := h f (List.mem_cons_self ..)
    rw [List.cons_append, sizeBy_cons, if_neg (by intro z; omega)]
    exact sb_skip fun g hg => h g (List.mem_cons_of_mem _ hg)
theorem sb_one {pre post : List (Nat × Nat × Nat × Nat × Nat)} {f : Nat × Nat × Nat × Nat × Nat} {c : Nat} {t : List Nat} (h1 : ∀ g ∈ pre, c < g.1 ∨ g.2.1 < c) (h2 : ∀ g ∈ post, c < g.1 ∨ g.2.1 < c) (hf : f.1 <= c /\ c <= f.2.1) :
    sizeBy (pre ++ f :: post) c t = if (t.take f.2.2.1).length = f.2.2.1 /\ tailOk (t.take f.2.2.1) f.2.2.2.1 f.2.2.2.2 = true then 1 + f.2.2.1 else 0 := by
  have e : sizeBy post c t = 0 := by
    have := sb_skip (more := []) (t := t) h2
    rw [List.append_nil] at this
    rw [this]
    rfl
  rw [sb_skip h1, sizeBy_cons, e]
  by_cases z : (t.take f.2.2.1).length = f.2.2.1 /\ tailOk (t.take f.2.2.1) f.2.2.2.1 f.2.2.2.2 = true
  · rw [if_pos z, if_pos ⟨hf.1, hf.2, z.1, z.2⟩]
  · rw [if_neg z, if_neg (fun y => z ⟨y.2.2.1, y.2.2.2⟩)]
theorem one0 {c : Nat} (r : List Nat) (h : c < 0x80) : okOne c r = true /\ chSize (c :: r) = 1 := by
  have k : kOf c = 0 := by unfold kOf; rw [if_pos h]
  refine ⟨?_, ?_⟩
  · unfold okOne
    simp only [k, List.take_zero, xOf, List.foldl_nil]
    have e : Sn77.encoded c = [c] := by unfold Sn77.encoded; rw [if_pos h]
    simp [e]
    omega
  · show sizeBy forms c r = 1
    unfold forms
    rw [sizeBy_cons, if_pos ⟨Nat.zero_le _, by show c <= 127; omega, rfl, rfl⟩]
    all_goals rfl
theorem oneBad {c : Nat} (r : List Nat) (h1 : ¬ c < 0x80 /\ ¬ (0xC2 <= c /\ c <= 0xDF) /\ ¬ (0xE0 <= c /\ c <= 0xEF) /\ ¬ (0xF0 <= c /\ c <= 0xF4)) : kOf c = 4 /\ okOne c r = false /\ chSize (c :: r) = 0 := by
  have h : kOf c = 4 := by
    unfold kOf
    rw [if_neg h1.1, if_neg h1.2.1, if_neg h1.2.2.1, if_neg h1.2.2.2]
  refine ⟨h, by unfold okOne; simp [h], ?_⟩
  show sizeBy forms c r = 0
  have := sb_skip (fs := forms) (more := []) (c := c) (t := r) (fun f hf => by
    simp only [forms, List.mem_cons, List.not_mem_nil, or_false] at hf
    rcases hf with rfl | rfl | rfl | rfl | rfl | rfl | rfl | rfl | rfl <;> (simp only; omega))
  rw [List.append_nil] at this
  rw [this]
  rfl
theorem tail1 {c : Nat} (r : List Nat) (hc : 0xC2 <= c /\ c <= 0xDF) : okOne c r = true ↔ (r.take 1).length = 1 /\ tailOk (r.take 1) 128 191 = true := by
  have h : kOf c = 1 := by
    unfold kOf
    rw [if_neg (by omega), if_pos hc]
  unfold okOne
  simp only [h]
  cases r with
  | nil => simp
  | cons b r =>
    simp only [List.take_succ_cons, List.take_zero, tailOk, List.all_cons, List.all_nil, xOf, List.foldl_cons, List.foldl_nil, inTail]
    by_cases hb : 128 <= b /\ b <= 191
    · have x1 : 64 * (c % 32) + b % 64 < 0x800 /\ ¬ 64 * (c % 32) + b % 64 < 0x80 := by omega
      have en : Sn77.encoded (64 * (c % 32) + b % 64) = [c, b] := by
        unfold Sn77.encoded
        rw [if_neg x1.2, if_pos x1.1]
        have e1 : 0xC0 + (64 * (c % 32) + b % 64) / 64 = c := by omega
        have e2 : 0x80 + (64 * (c % 32) + b % 64) % 64 = b := by omega
        rw [e1, e2]
      simp [en]
      omega
    · constructor
      · intro z
        simp at z
        omega
      · intro z
        simp at z
        omega
theorem tail2 {c lo hi : Nat} (r : List Nat) (hc : (c = 0xE0 /\ lo = 160 /\ hi = 191) ∨ (0xE1 <= c /\ c <= 0xEC /\ lo = 128 /\ hi = 191) ∨ (c = 0xED /\ lo = 128 /\ hi = 159) ∨ (0xEE <= c /\ c <= 0xEF /\ lo = 128 /\ hi = 191)) :
    okOne c r = true ↔ (r.take 2).length = 2 /\ tailOk (r.take 2) lo hi = true := by
  have h : kOf c = 2 := by
    unfold kOf
    rw [if_neg (by omega), if_neg (by omega), if_pos (by omega)]
  unfold okOne
  simp only [h]
  match r with
  | [] => simp
  | [b] => simp
  | b :: b2 :: r =>
    simp only [List.take_succ_cons, List.take_zero, tailOk, List.all_cons, List.all_nil, xOf, List.foldl_cons, List.foldl_nil, inTail]
    by_cases hb : (128 <= b /\ b <= 191) /\ (128 <= b2 /\ b2 <= 191)
    · by_cases hx : 64 * (64 * (c % 16) + b % 64) + b2 % 64 < 0x800
      · have en : (Sn77.encoded (64 * (64 * (c % 16) + b % 64) + b2 % 64) == [c, b, b2]) = false := by
          unfold Sn77.encoded
          by_cases h2 : 64 * (64 * (c % 16) + b % 64) + b2 % 64 < 0x80
          · rw [if_pos h2]
            simp
          · rw [if_neg h2, if_pos hx]
            simp
        simp [en]
        omega
      · have en : Sn77.encoded (64 * (64 * (c % 16) + b % 64) + b2 % 64) = [c, b, b2] := by
          unfold Sn77.encoded
          rw [if_neg (by omega), if_neg hx, if_pos (by omega)]
          have e1 : 0xE0 + (64 * (64 * (c % 16) + b % 64) + b2 % 64) / 4096 = c := by omega
          have e2 : 0x80 + (64 * (64 * (c % 16) + b % 64) + b2 % 64) / 64 % 64 = b := by omega
          have e3 : 0x80 + (64 * (64 * (c % 16) + b % 64) + b2 % 64) % 64 = b2 := by omega
          rw [e1, e2, e3]
        simp [en]
        omega
    · constructor
      · intro z
        simp at z
        omega
      · intro z
        simp at z
        omega
theorem tail3 {c lo hi : Nat} (r : List Nat) (hc : (c = 0xF0 /\ lo = 144 /\ hi = 191) ∨ (0xF1 <= c /\ c <= 0xF3 /\ lo = 128 /\ hi = 191) ∨ (c = 0xF4 /\ lo = 128 /\ hi = 143)) :
    okOne c r = true ↔ (r.take 3).length = 3 /\ tailOk (r.take 3) lo hi = true := by
  have h : kOf c = 3 := by
    unfold kOf
    rw [if_neg (by omega), if_neg (by omega), if_neg (by omega), if_pos (by omega)]
  unfold okOne
  simp only [h]
  match r with
  | [] => simp
  | [b] => simp
  | [b, b2] => simp
  | b :: b2 :: b3 :: r =>
    simp only [List.take_succ_cons, List.take_zero, tailOk, List.all_cons, List.all_nil, xOf, List.foldl_cons, List.foldl_nil, inTail]
    by_cases hb : (128 <= b /\ b <= 191) /\ (128 <= b2 /\ b2 <= 191) /\ (128 <= b3 /\ b3 <= 191)
    · by_cases hx : 64 * (64 * (64 * (c % 8) + b % 64) + b2 % 64) + b3 % 64 < 0x10000
      · have en : (Sn77.encoded (64 * (64 * (64 * (c % 8) + b % 64) + b2 % 64) + b3 % 64) == [c, b, b2, b3]) = false := by
          unfold Sn77.encoded
          by_cases h2 : 64 * (64 * (64 * (c % 8) + b % 64) + b2 % 64) + b3 % 64 < 0x80
          · rw [if_pos h2]
            simp
          · rw [if_neg h2]
            by_cases h3 : 64 * (64 * (64 * (c % 8) + b % 64) + b2 % 64) + b3 % 64 < 0x800
            · rw [if_pos h3]
              simp
            · rw [if_neg h3, if_pos hx]
              simp
        simp [en]
        omega
      · have en : Sn77.encoded (64 * (64 * (64 * (c % 8) + b % 64) + b2 % 64) + b3 % 64) = [c, b, b2, b3] := by
          unfold Sn77.encoded
          rw [if_neg (by omega), if_neg (by omega), if_neg hx]
          have e1 : 0xF0 + (64 * (64 * (64 * (c % 8) + b % 64) + b2 % 64) + b3 % 64) / 262144 = c := by omega
          have e2 : 0x80 + (64 * (64 * (64 * (c % 8) + b % 64) + b2 % 64) + b3 % 64) / 4096 % 64 = b := by omega
          have e3 : 0x80 + (64 * (64 * (64 * (c % 8) + b % 64) + b2 % 64) + b3 % 64) / 64 % 64 = b2 := by omega
          have e4 : 0x80 + (64 * (64 * (64 * (c % 8) + b % 64) + b2 % 64) + b3 % 64) % 64 = b3 := by omega
          rw [e1, e2, e3, e4]
        simp [en]
        omega
    · constructor
      · intro z
        simp at z
        omega
      · intro z
        simp at z
        omega
theorem rows_at (i : Nat) (f : Nat × Nat × Nat × Nat × Nat) (h : forms[i]? = some f) : forms = forms.take i ++ f :: forms.drop (i + 1) := by
  obtain ⟨hi, e⟩ := List.getElem?_eq_some_iff.mp h
  rw [← e]
  exact (List.take_append_drop i forms).symm.trans (congrArg (forms.take i ++ ·) (List.drop_eq_getElem_cons hi))
theorem size_row {c : Nat} (r : List Nat) (i : Nat) {lo hi k x y : Nat} (h : forms[i]? = some (lo, hi, k, x, y)) (hc : lo <= c /\ c <= hi) (ho : ∀ j g, j ≠ i -> forms[j]? = some g -> c < g.1 ∨ g.2.1 < c) :
    chSize (c :: r) = if (r.take k).length = k /\ tailOk (r.take k) x y = true then 1 + k else 0 := by
  show sizeBy forms c r = _
  have e := rows_at i _ h
  rw [e]
  refine sb_one (fun g hg => ?_) (fun g hg => ?_) hc
  · obtain ⟨j, hj⟩ := List.getElem?_of_mem hg
    rw [List.getElem?_take] at hj
    split at hj
    · exact ho j g (by omega) hj
    · cases hj
  · obtain ⟨j, hj⟩ := List.getElem?_of_mem hg
    rw [List.getElem?_drop] at hj
    exact ho (i + 1 + j) g (by omega) hj
theorem chSize_eq (c : Nat) (r : List Nat) : chSize (c :: r) = if okOne c r = true then 1 + kOf c else 0 := by
  by_cases h0 : c < 0x80
  · obtain ⟨h1, h2⟩ := one0 r h0
    have k : kOf c = 0 := by unfold kOf; rw [if_pos h0]
    rw [h2, if_pos h1, k]
  have oth : ∀ (i : Nat) (lo hi : Nat), (∀ j g, j ≠ i -> forms[j]? = some g -> c < g.1 ∨ g.2.1 < c) -> True := fun _ _ _ _ => trivial
  by_cases h1 : 0xC2 <= c /\ c <= 0xDF
  · have k : kOf c = 1 := by unfold kOf; rw [if_neg h0, if_pos h1]
    rw [size_row r 1 (lo := 194) (hi := 223) (k := 1) (x := 128) (y := 191) rfl (by omega) ?_, k]
    · by_cases z : okOne c r = true
      · rw [if_pos z, if_pos ((tail1 r h1).mp z)]
      · rw [if_neg z, if_neg (fun y => z ((tail1 r h1).mpr y))]
    · intro j g hj hg
      match j, hj, hg with
      | 0, _, hg => cases hg; simp only; omega
      | 1, hj, _ => exact absurd rfl hj
      | 2, _, hg => cases hg; simp only; omega
      | 3, _, hg => cases hg; simp only; omega
      | 4, _, hg => cases hg; simp only; omega
      | 5, _, hg => cases hg; simp only; omega
      | 6, _, hg => cases hg; simp only; omega
      | 7, _, hg => cases hg; simp only; omega
      | 8, _, hg => cases hg; simp only; omega
  by_cases h2 : 0xE0 <= c /\ c <= 0xEF
  · have k : kOf c = 2 := by unfold kOf; rw [if_neg h0, if_neg h1, if_pos h2]
    have fin : ∀ (i lo hi x y : Nat), forms[i]? = some (lo, hi, 2, x, y) -> lo <= c /\ c <= hi -> (∀ j g, j ≠ i -> forms[j]? = some g -> c < g.1 ∨ g.2.1 < c) ->
        ((c = 0xE0 /\ x = 160 /\ y = 191) ∨ (0xE1 <= c /\ c <= 0xEC /\ x = 128 /\ y = 191) ∨ (c = 0xED /\ x = 128 /\ y = 159) ∨ (0xEE <= c /\ c <= 0xEF /\ x = 128 /\ y = 191)) -> chSize (c :: r) = if okOne c r = true then 1 + kOf c else 0 := fun i lo hi x y e hc ho ht => by
      rw [size_row r i e hc ho, k]
      by_cases z : okOne c r = true
      · rw [if_pos z, if_pos ((tail2 r ht).mp z)]
      · rw [if_neg z, if_neg (fun y => z ((tail2 r ht).mpr y))]
    have ho : ∀ i, (i = 2 /\ c = 0xE0) ∨ (i = 3 /\ 0xE1 <= c /\ c <= 0xEC) ∨ (i = 4 /\ c = 0xED) ∨ (i = 5 /\ 0xEE <= c) -> ∀ j g, j ≠ i -> forms[j]? = some g -> c < g.1 ∨ g.2.1 < c := fun i hi j g hj hg => by
      match j, hj, hg with
      | 0, _, hg => cases hg; simp only; omega
      | 1, _, hg => cases hg; simp only; omega
      | 2, _, hg => cases hg; simp only; omega
      | 3, _, hg => cases hg; simp only; omega
      | 4, _, hg => cases hg; simp only; omega
      | 5, _, hg => cases hg; simp only; omega
      | 6, _, hg => cases hg; simp only; omega
      | 7, _, hg => cases hg; simp only; omega
      | 8, _, hg => cases hg; simp only; omega
    by_cases a : c = 0xE0
    · exact fin 2 224 224 160 191 rfl (by omega) (ho 2 (by omega)) (by omega)
    by_cases b : c <= 0xEC
    · exact fin 3 225 236 128 191 rfl (by omega) (ho 3 (by omega)) (by omega)
    by_cases d : c = 0xED
    · exact fin 4 237 237 128 159 rfl (by omega) (ho 4 (by omega)) (by omega)
    · exact fin 5 238 239 128 191 rfl (by omega) (ho 5 (by omega)) (by omega)
  by_cases h3 : 0xF0 <= c /\ c <= 0xF4
  · have k : kOf c = 3 := by unfold kOf; rw [if_neg h0, if_neg h1, if_neg h2, if_pos h3]
    have fin : ∀ (i lo hi x y : Nat), forms[i]? = some (lo, hi, 3, x, y) -> lo <= c /\ c <= hi -> (∀ j g, j ≠ i -> forms[j]? = some g -> c < g.1 ∨ g.2.1 < c) ->
        ((c = 0xF0 /\ x = 144 /\ y = 191) ∨ (0xF1 <= c /\ c <= 0xF3 /\ x = 128 /\ y = 191) ∨ (c = 0xF4 /\ x = 128 /\ y = 143)) -> chSize (c :: r) = if okOne c r = true then 1 + kOf c else 0 := fun i lo hi x y e hc ho ht => by
      rw [size_row r i e hc ho, k]
      by_cases z : okOne c r = true
      · rw [if_pos z, if_pos ((tail3 r ht).mp z)]
      · rw [if_neg z, if_neg (fun y => z ((tail3 r ht).mpr y))]
    have ho : ∀ i, (i = 6 /\ c = 0xF0) ∨ (i = 7 /\ 0xF1 <= c /\ c <= 0xF3) ∨ (i = 8 /\ c = 0xF4) -> ∀ j g, j ≠ i -> forms[j]? = some g -> c < g.1 ∨ g.2.1 < c := fun i hi j g hj hg => by
      match j, hj, hg with
      | 0, _, hg => cases hg; simp only; omega
      | 1, _, hg => cases hg; simp only; omega
      | 2, _, hg => cases hg; simp only; omega
      | 3, _, hg => cases hg; simp only; omega
      | 4, _, hg => cases hg; simp only; omega
      | 5, _, hg => cases hg; simp only; omega
      | 6, _, hg => cases hg; simp only; omega
      | 7, _, hg => cases hg; simp only; omega
      | 8, _, hg => cases hg; simp only; omega
    by_cases a : c = 0xF0
    · exact fin 6 240 240 144 191 rfl (by omega) (ho 6 (by omega)) (by omega)
    by_cases b : c <= 0xF3
    · exact fin 7 241 243 128 191 rfl (by omega) (ho 7 (by omega)) (by omega)
    · exact fin 8 244 244 128 143 rfl (by omega) (ho 8 (by omega)) (by omega)
  obtain ⟨_, b1, b2⟩ := oneBad r ⟨h0, h1, h2, h3⟩
  rw [b1, b2]
  rfl
theorem utf8_step (n c : Nat) (r : List Nat) : Sn77.utf8 (n + 1) (c :: r) = if chSize (c :: r) = 0 then false else Sn77.utf8 n ((c :: r).drop (chSize (c :: r))) := by
  rw [utf8_cons, chSize_eq]
  by_cases z : okOne c r = true
  · rw [if_pos z, if_neg (by omega), z, Bool.true_and, Nat.add_comm 1 (kOf c), List.drop_succ_cons]
  · rw [if_neg z, if_pos rfl, Bool.eq_false_iff.mpr z, Bool.false_and]
theorem chSize_le : ∀ l : List Nat, chSize l <= l.length
  | [] => Nat.le_refl _
  | c :: r => by
    rw [chSize_eq]
    split
    · rename_i h
      unfold okOne at h
      simp only [Bool.and_eq_true, beq_iff_eq] at h
      have := h.2.1
      rw [List.length_take] at this
      rw [List.length_cons]
      omega
    · exact Nat.zero_le _
end Mt
set_option linter.all false
set_option maxRecDepth 100000
set_option maxHeartbeats 4000000
namespace Mt
open Sn77
theorem skip_len : ∀ l : B, (skip l).length <= l.length
  | [] => Nat.le_refl _
  | c :: t => by
    unfold skip
    rw [List.dropWhile_cons]
    split
    · exact Nat.le_succ_of_le (skip_len t)
    · exact Nat.le_refl _
theorem skip_cons {c : Nat} {t : B} (h : blank c = false) : skip (c :: t) = c :: t := by
  unfold skip
  rw [List.dropWhile_cons, if_neg (by rw [h]; exact Bool.false_ne_true)]
theorem skip_head {l : B} {c : Nat} {t : B} (h : skip l = c :: t) : blank c = false := by
  induction l with
  | nil => cases h
  | cons a r ih =>
    unfold skip at h
    rw [List.dropWhile_cons] at h
    by_cases z : blank a = true
    · rw [if_pos z] at h
      exact ih h
    · rw [if_neg z] at h
      cases h
      exact Bool.eq_false_iff.mpr z
theorem skip_skip (l : B) : skip (skip l) = skip l := by
  cases e : skip l with
  | nil => rfl
  | cons c t => exact skip_cons (skip_head e)
theorem digit_noblank {c : Nat} (h : digit c = true) : blank c = false := by
  unfold digit at h
  simp only [Bool.and_eq_true, decide_eq_true_eq] at h
  unfold blank
  simp only [Bool.or_eq_false_iff, beq_eq_false_iff_ne]
  omega
def charOf (q : B) : Option (Nat × B) := (hexes (q.take 4)).bind fun a =>
  if 0xDC00 <= a /\ a < 0xE000 then none
  else if 0xD800 <= a /\ a < 0xDC00 then
    (if (q.drop 4).take 2 = [92, 117] then (hexes (((q.drop 4).drop 2).take 4)).bind fun b => if 0xDC00 <= b /\ b < 0xE000 then some (0x10000 + (a - 0xD800) * 1024 + (b - 0xDC00), (q.drop 4).drop 6) else none else none)
  else some (a, q.drop 4)
def esc (r : B) : Option (B × B) := if r.head? = some 117 then (charOf (r.drop 1)).map fun x => (encoded x.1, x.2) else (r.head?.bind simple).map fun d => ([d], r.drop 1)
theorem inside_cons (n c : Nat) (r : B) : inside (n + 1) (c :: r) = if c = 34 then some ([], r) else if c < 32 then none else if c ≠ 92 then (inside n r).map fun x => (c :: x.1, x.2)
    else (esc r).bind fun x => (inside n x.2).map fun y => (x.1 ++ y.1, y.2) := by
  rw [inside]
  by_cases h1 : c = 34
  · rw [if_pos h1, if_pos h1]
  rw [if_neg h1, if_neg h1]
  by_cases h2 : c < 32
  · rw [if_pos h2, if_pos h2]
  rw [if_neg h2, if_neg h2]
  by_cases h3 : c ≠ 92
  · rw [if_pos h3, if_pos h3]
  rw [if_neg h3, if_neg h3]
  unfold esc
  by_cases h4 : r.head? = some 117
  · rw [if_pos h4, if_pos h4]
    unfold charOf
    cases hexes ((r.drop 1).take 4) with
    | none => rfl
    | some a =>
      have e1 : (r.drop 1).drop 4 = r.drop 5 := by rw [List.drop_drop]
      simp only [Option.bind_some, e1]
      by_cases z1 : 0xDC00 <= a /\ a < 0xE000
      · rw [if_pos z1, if_pos z1]
        rfl
      rw [if_neg z1, if_neg z1]
      by_cases z2 : 0xD800 <= a /\ a < 0xDC00
      · rw [if_pos z2, if_pos z2]
        by_cases z3 : (r.drop 5).take 2 = [92, 117]
        · rw [if_pos z3, if_pos z3]
          cases hexes (((r.drop 5).drop 2).take 4) with
          | none => rfl
          | some b =>
            simp only [Option.bind_some]
            by_cases z4 : 0xDC00 <= b /\ b < 0xE000
            · rw [if_pos z4, if_pos z4]
              simp only [Option.map_some, Option.bind_some]
            · rw [if_neg z4, if_neg z4]
              rfl
        · rw [if_neg z3, if_neg z3]
          rfl
      · rw [if_neg z2, if_neg z2]
        rfl
  · rw [if_neg h4, if_neg h4]
    cases r.head?.bind simple with
    | none => rfl
    | some d => rfl
theorem encoded_len (n : Nat) : (encoded n).length <= 4 := by
  unfold encoded
  repeat' split
  all_goals simp
theorem hexes_len {l : B} {a : Nat} (h : hexes l = some a) : l.length = 4 := by
  unfold hexes at h
  split at h
  · cases h
  · rename_i z
    omega
theorem charOf_len {q r : B} {n : Nat} (h : charOf q = some (n, r)) : r.length + 4 <= q.length := by
  unfold charOf at h
  cases e : hexes (q.take 4) with
  | none => rw [e] at h; cases h
  | some a =>
    have hl := hexes_len e
    rw [List.length_take] at hl
    rw [e] at h
    simp only [Option.bind_some] at h
    by_cases z1 : 0xDC00 <= a /\ a < 0xE000
    · rw [if_pos z1] at h
      cases h
    rw [if_neg z1] at h
    by_cases z2 : 0xD800 <= a /\ a < 0xDC00
    · rw [if_pos z2] at h
      by_cases z3 : (q.drop 4).take 2 = [92, 117]
      · rw [if_pos z3] at h
        cases e2 : hexes (((q.drop 4).drop 2).take 4) with
        | none => rw [e2] at h; cases h
        | some b =>
          rw [e2] at h
          simp only [Option.bind_some] at h
          by_cases z4 : 0xDC00 <= b /\ b < 0xE000
          · rw [if_pos z4] at h
            obtain ⟨_, rfl⟩ := Prod.mk.inj (Option.some.inj h)
            rw [List.length_drop, List.length_drop]
            omega
          · rw [if_neg z4] at h
            cases h
      · rw [if_neg z3] at h
        cases h
    · rw [if_neg z2] at h
      cases h
      rw [List.length_drop]
      omega
theorem esc_len {r b q : B} (h : esc r = some (b, q)) : q.length < r.length /\ b.length <= 4 := by
  unfold esc at h
  by_cases h4 : r.head? = some 117
  · rw [if_pos h4] at h
    cases e : charOf (r.drop 1) with
    | none => rw [e] at h; cases h
    | some x =>
      rw [e] at h
      cases h
      have := charOf_len (q := r.drop 1) (r := x.2) (n := x.1) e
      rw [List.length_drop] at this
      exact ⟨by omega, encoded_len _⟩
  · rw [if_neg h4] at h
    cases r with
    | nil => cases h
    | cons c t =>
      cases e : simple c with
      | none =>
        simp only [List.head?_cons, Option.bind_some, e] at h
        cases h
      | some d =>
        simp only [List.head?_cons, Option.bind_some, e] at h
        cases h
        exact ⟨by simp, by simp⟩
theorem inside_fuel : ∀ (n m : Nat) (l : B), l.length < n -> l.length < m -> inside n l = inside m l
  | 0, _, _, h, _ => absurd h (Nat.not_lt_zero _)
  | _, 0, _, _, h => absurd h (Nat.not_lt_zero _)
  | n + 1, m + 1, [], _, _ => by rw [inside, inside]
  | n + 1, m + 1, c :: r, h1, h2 => by
    rw [List.length_cons] at h1 h2
    rw [inside_cons, inside_cons, inside_fuel n m r (by omega) (by omega)]
    cases e : esc r with
    | none => rfl
    | some x =>
      have hx := esc_len (r := r) (b := x.1) (q := x.2) e
      simp only [Option.bind_some]
      rw [inside_fuel n m x.2 (by omega) (by omega)]
def ins (l : B) : Option (B × B) := inside (l.length + 1) l
theorem ins_nil : ins [] = none := by unfold ins; rw [inside]
theorem ins_cons (c : Nat) (r : B) : ins (c :: r) = if c = 34 then some ([], r) else if c < 32 then none else if c ≠ 92 then (ins r).map fun x => (c :: x.1, x.2)
    else (esc r).bind fun x => (ins x.2).map fun y => (x.1 ++ y.1, y.2) := by
  unfold ins
  rw [List.length_cons, inside_cons]
  cases e : esc r with
  | none => rfl
  | some x =>
    have hx := esc_len (r := r) (b := x.1) (q := x.2) e
    simp only [Option.bind_some]
    rw [inside_fuel (r.length + 1) (x.2.length + 1) x.2 (by omega) (by omega)]
theorem ins_len : ∀ (n : Nat) (l : B) {s r : B}, l.length <= n -> ins l = some (s, r) -> r.length < l.length
  | _, [], _, _, _, h => by rw [ins_nil] at h; cases h
  | 0, _ :: _, _, _, hn, _ => by simp at hn
  | n + 1, c :: t, s, r, hn, h => by
    rw [List.length_cons] at hn
    rw [ins_cons] at h
    rw [List.length_cons]
    split at h
    · cases h
      omega
    split at h
    · cases h
    split at h
    · cases e : ins t with
      | none => rw [e] at h; cases h
      | some x =>
        rw [e] at h
        cases h
        have := ins_len n t (s := x.1) (r := x.2) (by omega) e
        omega
    · cases e : esc t with
      | none => rw [e] at h; cases h
      | some x =>
        rw [e] at h
        simp only [Option.bind_some] at h
        have hx := esc_len (r := t) (b := x.1) (q := x.2) e
        cases e2 : ins x.2 with
        | none => rw [e2] at h; cases h
        | some y =>
          rw [e2] at h
          cases h
          have := ins_len n x.2 (s := y.1) (r := y.2) (by omega) e2
          omega
def txt : B -> Option (B × B)
  | 34 :: r => ins r
  | _ => none
theorem txt_len {l s r : B} (h : txt l = some (s, r)) : r.length + 1 < l.length := by
  unfold txt at h
  split at h
  · rename_i t
    have := ins_len _ t (Nat.le_refl _) h
    rw [List.length_cons]
    omega
  · cases h
def hexF (l : B) : Option Nat := l.foldl (fun a c => a.bind fun x => (hex c).map fun y => 16 * x + y) (some 0)
theorem hexF_snoc (l : B) (c : Nat) : hexF (l ++ [c]) = (hexF l).bind fun x => (hex c).map fun y => 16 * x + y := by
  unfold hexF
  rw [List.foldl_append]
  rfl
theorem foldl_none (l : B) : l.foldl (fun (a : Option Nat) c => a.bind fun x => (hex c).map fun y => 16 * x + y) none = none := by
  induction l with
  | nil => rfl
  | cons c r ih => exact ih
theorem hexF_none {l m : B} (h : hexF l = none) : hexF (l ++ m) = none := by
  unfold hexF at h ⊢
  rw [List.foldl_append, h]
  exact foldl_none m
theorem hexes_eq (l : B) : hexes l = if l.length ≠ 4 then none else hexF l := rfl
theorem natOf_snoc (l : B) (c : Nat) : natOf (l ++ [c]) = 10 * natOf l + (c - 48) := by
  unfold natOf
  rw [List.foldl_append]
  rfl
theorem natOf_le (l m : B) : natOf l <= natOf (l ++ m) := by
  induction m generalizing l with
  | nil => rw [List.append_nil]; exact Nat.le_refl _
  | cons c r ih =>
    have h1 := ih (l ++ [c])
    rw [List.append_assoc] at h1
    refine Nat.le_trans ?_ h1
    rw [natOf_snoc]
    omega
end Mt
set_option linter.all false
set_option maxRecDepth 100000
set_option maxHeartbeats 4000000
namespace Mt
open Sn77
def nameOf (l : B) : Option (B × B) := (txt (skip l)).bind fun x => match skip x.2 with
  | 58 :: t => some (x.1, t)
  | _ => none
def digs (most : Nat) (l : B) : Option (Nat × B) := if l.takeWhile digit = [] ∨ most < natOf (l.takeWhile digit) then none else some (natOf (l.takeWhile digit), l.drop (l.takeWhile digit).length)
def num (l : B) : Option (V × B) :=
  if l.head? = some 45 then (if l.tail.head? = some 48 then none else (digs (2 ^ 63) l.tail).map fun x => (.int (-(x.1 : Int)), x.2))
  else if l.head? = some 48 then some (.int 0, l.tail) else (digs (2 ^ 63 - 1) l).map fun x => (.int (x.1 : Int), x.2)
def word (l : B) : Option (V × B) := if l.take 4 = ascii "null" then some (.null, l.drop 4) else if l.take 4 = ascii "true" then some (.bool true, l.drop 4) else if l.take 5 = ascii "false" then some (.bool false, l.drop 5) else none
def loopL (f : B -> Option (V × B)) : Nat -> B -> Option (Vs × B)
  | 0, _ => none
  | n + 1, l => (f l).bind fun x => match x.2 with
    | 93 :: r => some (.cons x.1 .nil, r)
    | 44 :: r => (loopL f n r).map fun y => (.cons x.1 y.1, y.2)
    | _ => none
def loopM (f : B -> Option (V × B)) : Nat -> List B -> B -> Option (Ms × B)
  | 0, _, _ => none
  | n + 1, seen, l => (nameOf l).bind fun k => if k.1 ∈ seen then none else (f k.2).bind fun x => match x.2 with
    | 125 :: r => some (.cons k.1 x.1 .nil, r)
    | 44 :: r => (loopM f n (seen ++ [k.1]) r).map fun y => (.cons k.1 x.1 y.1, y.2)
    | _ => none
def lsL (f : B -> Option (V × B)) (l : B) : Option (Vs × B) := loopL f (l.length + 1) l
def lsM (f : B -> Option (V × B)) (seen : List B) (l : B) : Option (Ms × B) := loopM f (l.length + 1) seen l
def listAt (f : B -> Option (V × B)) (l : B) : Option (V × B) := match l with
  | 91 :: r => if (skip r).head? = some 93 then some (.list .nil, (skip r).tail) else (lsL f (skip r)).map fun x => (.list x.1, x.2)
  | _ => none
def objAt (f : B -> Option (V × B)) (l : B) : Option (V × B) := match l with
  | 123 :: r => if (skip r).head? = some 125 then some (.obj .nil, (skip r).tail) else (lsM f [] (skip r)).map fun x => (.obj x.1, x.2)
  | _ => none
def plainAt (l : B) : Option (V × B) := if l.head? = some 34 then (txt l).map fun x => (.str x.1, x.2)
  else if l.head? = some 45 ∨ (l.head?.map digit) = some true then num l else word l
def bare : Nat -> B -> Option (V × B)
  | 0, l => if l.head? = some 91 ∨ l.head? = some 123 then none else plainAt l
  | d + 1, l => if l.head? = some 91 then listAt (fun m => (bare d (skip m)).map fun x => (x.1, skip x.2)) l
    else if l.head? = some 123 then objAt (fun m => (bare d (skip m)).map fun x => (x.1, skip x.2)) l else plainAt l
def pval (d : Nat) (l : B) : Option (V × B) := (bare d (skip l)).map fun x => (x.1, skip x.2)
theorem bare_succ (d : Nat) (l : B) : bare (d + 1) l = if l.head? = some 91 then listAt (pval d) l else if l.head? = some 123 then objAt (pval d) l else plainAt l := by
  rw [bare]
  rfl
def Eats (f : B -> Option (V × B)) : Prop := ∀ l v r, f l = some (v, r) -> r.length < l.length
theorem nameOf_len {l s r : B} (h : nameOf l = some (s, r)) : r.length + 2 < l.length := by
  unfold nameOf at h
  cases e : txt (skip l) with
  | none => rw [e] at h; cases h
  | some x =>
    rw [e] at h
    simp only [Option.bind_some] at h
    have h1 := txt_len (l := skip l) (s := x.1) (r := x.2) e
    have h2 := skip_len l
    have h3 := skip_len x.2
    split at h
    · rename_i t e2
      cases h
      have := congrArg List.length e2
      rw [List.length_cons] at this
      omega
    · cases h
theorem loopL_fuel {f : B -> Option (V × B)} (hf : Eats f) : ∀ (n m : Nat) (l : B), l.length < n -> l.length < m -> loopL f n l = loopL f m l
  | 0, _, _, h, _ => absurd h (Nat.not_lt_zero _)
  | _, 0, _, _, h => absurd h (Nat.not_lt_zero _)
  | n + 1, m + 1, l, h1, h2 => by
    unfold loopL
    cases e : f l with
    | none => rfl
    | some x =>
      have hx := hf l x.1 x.2 e
      simp only [Option.bind_some]
      split
      · rfl
      · rename_i r e2
        have := congrArg List.length e2
        rw [List.length_cons] at this
        rw [loopL_fuel hf n m r (by omega) (by omega)]
      · rfl
theorem lsL_eq {f : B -> Option (V × B)} (hf : Eats f) (l : B) : lsL f l = (f l).bind fun x => match x.2 with
    | 93 :: r => some (.cons x.1 .nil, r)
    | 44 :: r => (lsL f r).map fun y => (.cons x.1 y.1, y.2)
    | _ => none := by
  unfold lsL
  rw [loopL]
  cases e : f l with
  | none => rfl
  | some x =>
    have hx := hf l x.1 x.2 e
    simp only [Option.bind_some]
    split
    · rfl
    · rename_i r e2
      have := congrArg List.length e2
      rw [List.length_cons] at this
      rw [loopL_fuel hf l.length (r.length + 1) r (by omega) (by omega)]
    · rfl
theorem loopM_fuel {f : B -> Option (V × B)} (hf : Eats f) : ∀ (n m : Nat) (seen : List B) (l : B), l.length < n -> l.length < m -> loopM f n seen l = loopM f m seen l
  | 0, _, _, _, h, _ => absurd h (Nat.not_lt_zero _)
  | _, 0, _, _, _, h => absurd h (Nat.not_lt_zero _)
  | n + 1, m + 1, seen, l, h1, h2 => by
    unfold loopM
    cases e0 : nameOf l with
    | none => rfl
    | some k =>
      have hk := nameOf_len (l := l) (s := k.1) (r := k.2) e0
      simp only [Option.bind_some]
      split
      · rfl
      cases e : f k.2 with
      | none => rfl
      | some x =>
        have hx := hf k.2 x.1 x.2 e
        simp only [Option.bind_some]
        split
        · rfl
        · rename_i r e2
          have := congrArg List.length e2
          rw [List.length_cons] at this
          rw [loopM_fuel hf n m _ r (by omega) (by omega)]
        · rfl
theorem lsM_eq {f : B -> Option (V × B)} (hf : Eats f) (seen : List B) (l : B) : lsM f seen l = (nameOf l).bind fun k => if k.1 ∈ seen then none else (f k.2).bind fun x => match x.2 with
    | 125 :: r => some (.cons k.1 x.1 .nil, r)
    | 44 :: r => (lsM f (seen ++ [k.1]) r).map fun y => (.cons k.1 x.1 y.1, y.2)
    | _ => none := by
  unfold lsM
  rw [loopM]
  cases e0 : nameOf l with
  | none => rfl
  | some k =>
    have hk := nameOf_len (l := l) (s := k.1) (r := k.2) e0
    simp only [Option.bind_some]
    split
    · rfl
    cases e : f k.2 with
    | none => rfl
    | some x =>
      have hx := hf k.2 x.1 x.2 e
      simp only [Option.bind_some]
      split
      · rfl
      · rename_i r e2
        have := congrArg List.length e2
        rw [List.length_cons] at this
        rw [loopM_fuel hf l.length (r.length + 1) _ r (by omega) (by omega)]
      · rfl
theorem lsL_len {f : B -> Option (V × B)} (hf : Eats f) : ∀ (n : Nat) (l : B) (v : Vs) (r : B), l.length <= n -> lsL f l = some (v, r) -> r.length < l.length
  | n, l, v, r, hn, h => by
    rw [lsL_eq hf] at h
    cases e : f l with
    | none => rw [e] at h; cases h
    | some x =>
      have hx := hf l x.1 x.2 e
      rw [e] at h
      simp only [Option.bind_some] at h
      split at h
      · rename_i t e2
        cases h
        have := congrArg List.length e2
        rw [List.length_cons] at this
        omega
      · rename_i t e2
        have := congrArg List.length e2
        rw [List.length_cons] at this
        cases n with
        | zero => omega
        | succ n =>
          cases e3 : lsL f t with
          | none => rw [e3] at h; cases h
          | some y =>
            rw [e3] at h
            cases h
            have := lsL_len hf n t y.1 y.2 (by omega) e3
            omega
      · cases h
theorem lsM_len {f : B -> Option (V × B)} (hf : Eats f) : ∀ (n : Nat) (seen : List B) (l : B) (v : Ms) (r : B), l.length <= n -> lsM f seen l = some (v, r) -> r.length < l.length
  | n, seen, l, v, r, hn, h => by
    rw [lsM_eq hf] at h
    cases e0 : nameOf l with
    | none => rw [e0] at h; cases h
    | some k =>
      have hk := nameOf_len (l := l) (s := k.1) (r := k.2) e0
      rw [e0] at h
      simp only [Option.bind_some] at h
      split at h
      · cases h
      cases e : f k.2 with
      | none => rw [e] at h; cases h
      | some x =>
        have hx := hf k.2 x.1 x.2 e
        rw [e] at h
        simp only [Option.bind_some] at h
        split at h
        · rename_i t e2
          cases h
          have := congrArg List.length e2
          rw [List.length_cons] at this
          omega
        · rename_i t e2
          have := congrArg List.length e2
          rw [List.length_cons] at this
          cases n with
          | zero => omega
          | succ n =>
            cases e3 : lsM f (seen ++ [k.1]) t with
            | none => rw [e3] at h; cases h
            | some y =>
              rw [e3] at h
              cases h
              have := lsM_len hf n _ t y.1 y.2 (by omega) e3
              omega
        · cases h
theorem digs_len {m : Nat} {l : B} {x : Nat × B} (h : digs m l = some x) : x.2.length < l.length := by
  unfold digs at h
  split at h
  · cases h
  · rename_i z
    cases h
    have h1 : l.takeWhile digit ≠ [] := fun y => z (.inl y)
    cases l with
    | nil => exact absurd rfl h1
    | cons c t =>
      have : 0 < ((c :: t).takeWhile digit).length := List.length_pos_iff.mpr h1
      rw [List.length_drop, List.length_cons]
      omega
theorem num_len {l r : B} {v : V} (h : num l = some (v, r)) : r.length < l.length := by
  unfold num at h
  cases l with
  | nil =>
    rw [if_neg (by simp), if_neg (by simp)] at h
    cases e : digs (2 ^ 63 - 1) [] with
    | none => rw [e] at h; cases h
    | some x => exact absurd (digs_len e) (Nat.not_lt_zero _)
  | cons c t =>
    rw [List.length_cons]
    split at h
    · split at h
      · cases h
      · cases e : digs (2 ^ 63) (c :: t).tail with
        | none => rw [e] at h; cases h
        | some x =>
          rw [e] at h
          cases h
          have := digs_len e
          rw [List.tail_cons] at this
          omega
    · split at h
      · cases h
        rw [List.tail_cons]
        omega
      · cases e : digs (2 ^ 63 - 1) (c :: t) with
        | none => rw [e] at h; cases h
        | some x =>
          rw [e] at h
          cases h
          have := digs_len e
          rw [List.length_cons] at this
          omega
theorem take_len {l : B} {k n : Nat} {s : B} (h : l.take k = s) (hs : s.length = n) : n <= l.length := by
  have := congrArg List.length h
  rw [List.length_take, hs] at this
  omega
theorem word_len {l r : B} {v : V} (h : word l = some (v, r)) : r.length < l.length := by
  unfold word at h
  split at h
  · rename_i z
    cases h
    have := take_len z (n := 4) rfl
    rw [List.length_drop]
    omega
  split at h
  · rename_i z
    cases h
    have := take_len z (n := 4) rfl
    rw [List.length_drop]
    omega
  split at h
  · rename_i z
    cases h
    have := take_len z (n := 5) rfl
    rw [List.length_drop]
    omega
  · cases h
theorem plainAt_len {l r : B} {v : V} (h : plainAt l = some (v, r)) : r.length < l.length := by
  unfold plainAt at h
  split at h
  · cases e : txt l with
    | none => rw [e] at h; cases h
    | some x =>
      rw [e] at h
      cases h
      have := txt_len (l := l) (s := x.1) (r := x.2) e
      omega
  split at h
  · exact num_len h
  · exact word_len h
theorem listAt_len {f : B -> Option (V × B)} (hf : Eats f) {l r : B} {v : V} (h : listAt f l = some (v, r)) : r.length < l.length := by
  unfold listAt at h
  split at h
  · rename_i t
    have hs := skip_len t
    rw [List.length_cons]
    split at h
    · cases h
      rw [List.length_tail]
      omega
    · cases e : lsL f (skip t) with
      | none => rw [e] at h; cases h
      | some x =>
        rw [e] at h
        cases h
        have := lsL_len hf _ _ x.1 x.2 (Nat.le_refl _) e
        omega
  · cases h
theorem objAt_len {f : B -> Option (V × B)} (hf : Eats f) {l r : B} {v : V} (h : objAt f l = some (v, r)) : r.length < l.length := by
  unfold objAt at h
  split at h
  · rename_i t
    have hs := skip_len t
    rw [List.length_cons]
    split at h
    · cases h
      rw [List.length_tail]
      omega
    · cases e : lsM f [] (skip t) with
      | none => rw [e] at h; cases h
      | some x =>
        rw [e] at h
        cases h
        have := lsM_len hf _ _ _ x.1 x.2 (Nat.le_refl _) e
        omega
  · cases h
theorem eats_pval_of {d : Nat} (h : ∀ l v r, bare d l = some (v, r) -> r.length < l.length) : Eats (pval d) := fun l v r e => by
  unfold pval at e
  cases e1 : bare d (skip l) with
  | none => rw [e1] at e; cases e
  | some x =>
    rw [e1] at e
    cases e
    have h1 := h _ x.1 x.2 e1
    have h2 := skip_len l
    have h3 := skip_len x.2
    show (skip x.2).length < l.length
    omega
theorem bare_len : ∀ (d : Nat) (l : B) (v : V) (r : B), bare d l = some (v, r) -> r.length < l.length
  | 0, l, v, r, h => by
    rw [bare] at h
    split at h
    · cases h
    · exact plainAt_len h
  | d + 1, l, v, r, h => by
    rw [bare_succ] at h
    have hf := eats_pval_of (bare_len d)
    split at h
    · exact listAt_len hf h
    split at h
    · exact objAt_len hf h
    · exact plainAt_len h
theorem eats (d : Nat) : Eats (pval d) := eats_pval_of (bare_len d)
def Corr (a b : Option (V × B)) : Prop := match a with
  | some (v, r) => b = some (v, skip r)
  | none => b = none ∨ ∃ v c r, b = some (v, c :: r) /\ digit c = true
theorem skip_digit {c : Nat} {t : B} (h : digit c = true) : skip (c :: t) = c :: t := skip_cons (digit_noblank h)
theorem value_skip (n d : Nat) (l : B) : value n d (skip l) = value n d l := by
  cases n with
  | zero => rw [value, value]
  | succ n => rw [value, value, skip_skip]
theorem values_skip (n d : Nat) (l : B) : values n d (skip l) = values n d l := by
  cases n with
  | zero => rw [values, values]
  | succ n => rw [values, values, value_skip]
theorem members_skip (n d : Nat) (l : B) : members n d (skip l) = members n d l := by
  cases n with
  | zero => rw [members, members]
  | succ n => rw [members, members, skip_skip]
theorem values_corr {d : Nat} {f : B -> Option (V × B)} (hf : Eats f) (hc : ∀ n l, 2 * l.length + 1 <= n -> Corr (value n d l) (f l)) : ∀ (n : Nat) (l : B), 2 * l.length + 2 <= n -> values n d l = lsL f l
  | 0, l, h => by omega
  | n + 1, l, h => by
    have c := hc n l (by omega)
    rw [values, lsL_eq hf]
    cases e : value n d l with
    | none =>
      rw [e] at c
      rcases c with c | ⟨v, a, r, c, ha⟩
      · rw [c]
        rfl
      · rw [c]
        simp only [Option.bind_some, Option.bind_none]
        split
        · rename_i y; rw [(List.cons.inj y).1] at ha; exact absurd ha (by decide)
        · rename_i y; rw [(List.cons.inj y).1] at ha; exact absurd ha (by decide)
        · rfl
    | some x =>
      rw [e] at c
      have c : f l = some (x.1, skip x.2) := c
      have hl := hf _ _ _ c
      rw [c]
      simp only [Option.bind_some]
      cases e2 : skip x.2 with
      | nil => rfl
      | cons a r =>
        by_cases h1 : a = 44
        · subst h1
          simp only
          rw [e2, List.length_cons] at hl
          rw [values_corr hf hc n r (by omega)]
        · by_cases h2 : a = 93
          · subst h2
            rfl
          · split
            · rename_i y; exact absurd (List.cons.inj y).1 h1
            · rename_i y; exact absurd (List.cons.inj y).1 h2
            · split
              · rename_i y; exact absurd (List.cons.inj y).1 h2
              · rename_i y; exact absurd (List.cons.inj y).1 h1
              · rfl
def names (m : Ms) : List B := m.toList.map fun y => y.1
theorem names_cons (n : B) (v : V) (r : Ms) : names (.cons n v r) = n :: names r := rfl
def okM (seen : List B) (x : Ms × B) : Option (Ms × B) := if (seen ++ names x.1).Nodup then some x else none
theorem members_corr {d : Nat} {f : B -> Option (V × B)} (hf : Eats f) (hc : ∀ n l, 2 * l.length + 1 <= n -> Corr (value n d l) (f l)) :
    ∀ (n : Nat) (seen : List B) (l : B), 2 * l.length + 2 <= n -> seen.Nodup -> lsM f seen l = (members n d l).bind (okM seen)
  | 0, _, l, h, _ => by omega
  | n + 1, seen, l, h, hs => by
    rw [members, lsM_eq hf]
    cases e0 : nameOf l with
    | none =>
      simp only [Option.bind_none]
      unfold nameOf at e0
      cases e1 : skip l with
      | nil => rfl
      | cons a r =>
        by_cases h1 : a = 34
        · subst h1
          rw [e1] at e0
          have e2 : txt (34 :: r) = ins r := rfl
          rw [e2] at e0
          simp only
          have e3 : inside (r.length + 1) r = ins r := rfl
          rw [e3]
          cases e4 : ins r with
          | none => rfl
          | some k =>
            rw [e4] at e0
            simp only [Option.bind_some] at e0 ⊢
            split
            · rename_i t e5
              rw [e5] at e0
              cases e0
            · rfl
        · split
          · rename_i y; exact absurd (List.cons.inj y).1 h1
          · rfl
    | some k =>
      have hk := nameOf_len (l := l) (s := k.1) (r := k.2) e0
      unfold nameOf at e0
      cases e1 : skip l with
      | nil => rw [e1] at e0; cases e0
      | cons a r =>
        rw [e1] at e0
        by_cases h1 : a = 34
        · subst h1
          have e2 : txt (34 :: r) = ins r := rfl
          rw [e2] at e0
          simp only
          have e3 : inside (r.length + 1) r = ins r := rfl
          rw [e3]
          cases e4 : ins r with
          | none => rw [e4] at e0; cases e0
          | some y =>
            rw [e4] at e0
            simp only [Option.bind_some] at e0 ⊢
            cases e5 : skip y.2 with
            | nil => rw [e5] at e0; cases e0
            | cons b t =>
              rw [e5] at e0
              by_cases h2 : b = 58
              · subst h2
                simp only [Option.some.injEq] at e0
                subst e0
                simp only
                have c := hc n t (by simp only at hk; omega)
                by_cases hin : y.1 ∈ seen
                · rw [if_pos hin]
                  have bad : ∀ (v : V) (m : Ms) (q : B), okM seen (.cons y.1 v m, q) = none := fun v m q => by
                    unfold okM
                    rw [if_neg]
                    rw [names_cons]
                    intro z
                    exact (List.nodup_append.mp z).2.2 _ hin _ (List.mem_cons_self ..) rfl
                  cases e6 : value n d t with
                  | none => rfl
                  | some x =>
                    simp only [Option.bind_some]
                    split
                    · rename_i q e7
                      cases members n d q with
                      | none => rfl
                      | some z => exact (bad _ _ _).symm
                    · exact (bad _ _ _).symm
                    · rfl
                rw [if_neg hin]
                cases e6 : value n d t with
                | none =>
                  rw [e6] at c
                  rcases c with c | ⟨v, a, r, c, ha⟩
                  · rw [c]
                    rfl
                  · rw [c]
                    simp only [Option.bind_some, Option.bind_none]
                    split
                    · rename_i y; rw [(List.cons.inj y).1] at ha; exact absurd ha (by decide)
                    · rename_i y; rw [(List.cons.inj y).1] at ha; exact absurd ha (by decide)
                    · rfl
                | some x =>
                  rw [e6] at c
                  have c : f t = some (x.1, skip x.2) := c
                  have hl := hf _ _ _ c
                  rw [c]
                  simp only [Option.bind_some]
                  cases e7 : skip x.2 with
                  | nil => rfl
                  | cons a r' =>
                    have good : (seen ++ [y.1]).Nodup := by
                      rw [List.nodup_append]
                      refine ⟨hs, by simp, fun a ha b hb => ?_⟩
                      have : b = y.1 := by simpa using hb
                      rw [this]
                      intro z
                      exact hin (z ▸ ha)
                    by_cases h3 : a = 44
                    · subst h3
                      simp only
                      rw [e7, List.length_cons] at hl
                      rw [members_corr hf hc n (seen ++ [y.1]) r' (by simp only at hk; omega) good]
                      cases members n d r' with
                      | none => rfl
                      | some z =>
                        simp only [Option.bind_some, Option.map_some]
                        unfold okM
                        rw [names_cons, List.append_assoc, List.singleton_append]
                        by_cases hz : (seen ++ y.1 :: names z.1).Nodup
                        · rw [if_pos hz, if_pos hz]
                          rfl
                        · rw [if_neg hz, if_neg hz]
                          rfl
                    · by_cases h4 : a = 125
                      · subst h4
                        simp only [Option.bind_some]
                        unfold okM
                        rw [names_cons, if_pos]
                        exact good
                      · split
                        · rename_i y; exact absurd (List.cons.inj y).1 h4
                        · rename_i y; exact absurd (List.cons.inj y).1 h3
                        · split
                          · rename_i y; exact absurd (List.cons.inj y).1 h3
                          · rename_i y; exact absurd (List.cons.inj y).1 h4
                          · rfl
              · split at e0
                · rename_i z; exact absurd (List.cons.inj z).1 h2
                · cases e0
        · unfold txt at e0
          split at e0
          · rename_i z; exact absurd (List.cons.inj z).1 h1
          · cases e0
theorem number_corr (c : Nat) (t : B) (h : c = 45 ∨ digit c = true) : Corr (number (c :: t)) ((num (c :: t)).map fun x => (x.1, skip x.2)) := by
  by_cases hc : c = 45
  · subst hc
    have en : num (45 :: t) = (if t.head? = some 48 then none else (digs (2 ^ 63) t).map fun x => (V.int (-(x.1 : Int)), x.2)) := by
      unfold num
      rw [List.head?_cons, if_pos rfl, List.tail_cons]
    rw [en]
    unfold number
    simp only [List.head?_cons, beq_self_eq_true, if_true, List.drop_one, List.tail_cons]
    by_cases h0 : t.head? = some 48
    · rw [if_pos h0]
      cases t with
      | nil => cases h0
      | cons a r =>
        have : a = 48 := by simpa using h0
        subst this
        rw [if_pos]
        · exact .inl rfl
        · rw [List.takeWhile_cons, if_pos (by decide)]
          cases e : r.takeWhile digit with
          | nil => exact .inr (.inr (.inl ⟨trivial, rfl⟩))
          | cons b q => exact .inr (.inl ⟨by simp, rfl⟩)
    · rw [if_neg h0]
      unfold digs
      by_cases h1 : t.takeWhile digit = [] ∨ 2 ^ 63 < natOf (t.takeWhile digit)
      · rw [if_pos h1, if_pos]
        · exact .inl rfl
        · rcases h1 with h1 | h1
          · exact .inl h1
          · exact .inr (.inr (.inr h1))
      · rw [if_neg h1, if_neg]
        · exact rfl
        · rintro (z | ⟨_, z⟩ | ⟨_, z⟩ | z)
          · exact h1 (.inl z)
          · refine h0 ?_
            cases t with
            | nil => cases z
            | cons a r =>
              rw [List.takeWhile_cons] at z
              split at z
              · exact z
              · cases z
          · refine h0 ?_
            cases t with
            | nil => cases z
            | cons a r =>
              rw [List.takeWhile_cons] at z
              split at z
              · rw [(List.cons.inj z).1]
                rfl
              · cases z
          · exact h1 (.inr z)
  · have hd : digit c = true := by
      rcases h with h | h
      · exact absurd h hc
      · exact h
    unfold number
    have e1 : ((c :: t).head? == some 45) = false := by
      rw [List.head?_cons]
      exact beq_eq_false_iff_ne.mpr (fun z => hc (Option.some.inj z))
    have e2 : ¬ (c :: t).head? = some 45 := fun z => hc (Option.some.inj z)
    rw [e1]
    simp only [Bool.false_eq_true, if_false, false_and, false_or]
    by_cases h0 : c = 48
    · subst h0
      have en : num (48 :: t) = some (V.int 0, t) := by
        unfold num
        rw [if_neg e2, List.head?_cons, if_pos rfl, List.tail_cons]
      rw [en]
      rw [List.takeWhile_cons, if_pos hd]
      cases t with
      | nil =>
        rw [if_neg]
        · rfl
        · rintro (z | ⟨z, _⟩ | z)
          · cases z
          · simp at z
          · exact absurd z (by decide)
      | cons a r =>
        by_cases ha : digit a = true
        · rw [List.takeWhile_cons, if_pos ha, if_pos]
          · refine .inr ⟨V.int 0, a, r, ?_, ha⟩
            show some (V.int 0, skip (a :: r)) = _
            rw [skip_digit ha]
          · exact .inr (.inl ⟨by simp, rfl⟩)
        · rw [List.takeWhile_cons, if_neg ha, if_neg]
          · rfl
          · rintro (z | ⟨z, _⟩ | z)
            · cases z
            · simp at z
            · exact absurd z (by decide)
    · have e3 : ¬ (c :: t).head? = some 48 := fun z => h0 (Option.some.inj z)
      have en : num (c :: t) = (digs (2 ^ 63 - 1) (c :: t)).map fun x => (V.int (x.1 : Int), x.2) := by
        unfold num
        rw [if_neg e2, if_neg e3]
      rw [en]
      unfold digs
      by_cases h1 : (c :: t).takeWhile digit = [] ∨ 2 ^ 63 - 1 < natOf ((c :: t).takeWhile digit)
      · rw [if_pos h1, if_pos]
        · exact .inl rfl
        · rcases h1 with h1 | h1
          · exact .inl h1
          · exact .inr (.inr h1)
      · rw [if_neg h1, if_neg]
        · exact rfl
        · rintro (z | ⟨_, z⟩ | z)
          · exact h1 (.inl z)
          · rw [List.takeWhile_cons, if_pos hd] at z
            exact e3 z
          · exact h1 (.inr z)
theorem number_none (c : Nat) (t : B) (h : c ≠ 45) (hd : digit c = false) : number (c :: t) = none := by
  unfold number
  have e1 : ((c :: t).head? == some 45) = false := by
    rw [List.head?_cons]
    exact beq_eq_false_iff_ne.mpr (fun z => h (Option.some.inj z))
  rw [e1]
  simp only [Bool.false_eq_true, if_false]
  rw [if_pos]
  left
  rw [List.takeWhile_cons, if_neg (by rw [hd]; exact Bool.false_ne_true)]
def mapS (x : Option (V × B)) : Option (V × B) := x.map fun x => (x.1, skip x.2)
theorem corr_self (a : Option (V × B)) : Corr a (mapS a) := by
  cases a with
  | none => exact .inl rfl
  | some x => exact rfl
theorem ascii_null : ascii "null" = [110, 117, 108, 108] := by decide
theorem ascii_true : ascii "true" = [116, 114, 117, 101] := by decide
theorem ascii_false : ascii "false" = [102, 97, 108, 115, 101] := by decide
theorem ascii_ull : ascii "ull" = [117, 108, 108] := by decide
theorem ascii_rue : ascii "rue" = [114, 117, 101] := by decide
theorem ascii_alse : ascii "alse" = [97, 108, 115, 101] := by decide
theorem take_cons_iff {c a : Nat} {r s : B} {k : Nat} : (c :: r).take (k + 1) = a :: s ↔ c = a /\ r.take k = s := by
  rw [List.take_succ_cons, List.cons.injEq]
theorem plain_corr (n d c : Nat) (r l : B) (hl : skip l = c :: r) (h1 : c ≠ 91) (h2 : c ≠ 123) : Corr (value (n + 1) d l) (mapS (plainAt (c :: r))) := by
  rw [value, hl]
  simp only
  have pw : ∀ a : Nat, c = a -> a ≠ 34 -> a ≠ 45 -> digit a = false -> plainAt (c :: r) = word (c :: r) := fun a e x y z => by
    subst e
    unfold plainAt
    rw [List.head?_cons, if_neg (fun q => x (Option.some.inj q)), if_neg]
    rintro (q | q)
    · exact y (Option.some.inj q)
    · rw [Option.map_some, z] at q
      cases q
  by_cases e1 : c = 110
  · rw [pw 110 e1 (by decide) (by decide) (by decide)]
    subst e1
    rw [if_pos rfl]
    unfold word
    rw [ascii_null, ascii_true, ascii_false, ascii_ull]
    by_cases z : r.take 3 = [117, 108, 108]
    · rw [if_pos z, if_pos (take_cons_iff.mpr ⟨rfl, z⟩)]
      exact rfl
    · rw [if_neg z, if_neg (fun y => z (take_cons_iff.mp y).2), if_neg (fun y => absurd (take_cons_iff.mp y).1 (by decide)), if_neg (fun y => absurd (take_cons_iff.mp y).1 (by decide))]
      exact .inl rfl
  rw [if_neg e1]
  by_cases e2 : c = 116
  · rw [pw 116 e2 (by decide) (by decide) (by decide)]
    subst e2
    rw [if_pos rfl]
    unfold word
    rw [ascii_null, ascii_true, ascii_false, ascii_rue]
    by_cases z : r.take 3 = [114, 117, 101]
    · rw [if_pos z, if_neg (fun y => absurd (take_cons_iff.mp y).1 (by decide)), if_pos (take_cons_iff.mpr ⟨rfl, z⟩)]
      exact rfl
    · rw [if_neg z, if_neg (fun y => absurd (take_cons_iff.mp y).1 (by decide)), if_neg (fun y => z (take_cons_iff.mp y).2), if_neg (fun y => absurd (take_cons_iff.mp y).1 (by decide))]
      exact .inl rfl
  rw [if_neg e2]
  by_cases e3 : c = 102
  · rw [pw 102 e3 (by decide) (by decide) (by decide)]
    subst e3
    rw [if_pos rfl]
    unfold word
    rw [ascii_null, ascii_true, ascii_false, ascii_alse]
    by_cases z : r.take 4 = [97, 108, 115, 101]
    · rw [if_pos z, if_neg (fun y => absurd (take_cons_iff.mp y).1 (by decide)), if_neg (fun y => absurd (take_cons_iff.mp y).1 (by decide)), if_pos (take_cons_iff.mpr ⟨rfl, z⟩)]
      exact rfl
    · rw [if_neg z, if_neg (fun y => absurd (take_cons_iff.mp y).1 (by decide)), if_neg (fun y => absurd (take_cons_iff.mp y).1 (by decide)), if_neg (fun y => z (take_cons_iff.mp y).2)]
      exact .inl rfl
  rw [if_neg e3]
  by_cases e4 : c = 34
  · subst e4
    have ep : plainAt (34 :: r) = (txt (34 :: r)).map fun x => (V.str x.1, x.2) := by
      unfold plainAt
      rw [List.head?_cons, if_pos rfl]
    rw [if_pos rfl, ep]
    exact corr_self _
  rw [if_neg e4, if_neg h1, if_neg h2]
  unfold plainAt
  rw [List.head?_cons, if_neg (fun z => e4 (Option.some.inj z))]
  by_cases e5 : c = 45 ∨ digit c = true
  · rw [if_pos]
    · exact number_corr c r e5
    · rcases e5 with e5 | e5
      · exact .inl (by rw [e5])
      · exact .inr (by rw [Option.map_some, e5])
  · have e6 : c ≠ 45 := fun z => e5 (.inl z)
    have e7 : digit c = false := Bool.eq_false_iff.mpr fun z => e5 (.inr z)
    rw [if_neg, number_none c r e6 e7]
    · unfold word
      rw [ascii_null, ascii_true, ascii_false, if_neg (fun y => e1 (take_cons_iff.mp y).1), if_neg (fun y => e2 (take_cons_iff.mp y).1), if_neg (fun y => e3 (take_cons_iff.mp y).1)]
      exact .inl rfl
    · rintro (z | z)
      · exact e6 (Option.some.inj z)
      · rw [Option.map_some, e7] at z
        cases z
theorem corr : ∀ (d n : Nat) (l : B), 2 * l.length + 1 <= n -> Corr (value n d l) (pval d l) := by
  intro d
  induction d with
  | zero =>
    intro n l hn
    cases n with
    | zero => omega
    | succ n =>
      unfold pval
      cases hl : skip l with
      | nil =>
        rw [value, hl]
        exact .inl rfl
      | cons c r =>
        rw [bare]
        by_cases h1 : c = 91
        · subst h1
          rw [if_pos (.inl rfl), value, hl]
          simp only [Nat.reduceEqDiff, if_true, if_false]
          exact .inl rfl
        by_cases h2 : c = 123
        · subst h2
          rw [if_pos (.inr rfl), value, hl]
          simp only [Nat.reduceEqDiff, if_true, if_false]
          exact .inl rfl
        rw [if_neg]
        · exact plain_corr n 0 c r l hl h1 h2
        · rintro (z | z)
          · exact h1 (Option.some.inj z)
          · exact h2 (Option.some.inj z)
  | succ d ih =>
    intro n l hn
    cases n with
    | zero => omega
    | succ n =>
      have hf := eats d
      have hls := skip_len l
      unfold pval
      cases hl : skip l with
      | nil =>
        rw [value, hl]
        exact .inl rfl
      | cons c r =>
        rw [hl, List.length_cons] at hls
        have hr := skip_len r
        rw [bare_succ]
        by_cases h1 : c = 91
        · subst h1
          rw [List.head?_cons, if_pos rfl, value, hl]
          simp only [Nat.reduceEqDiff, if_true, if_false, Nat.succ_ne_zero, Nat.add_one_ne_zero, Nat.add_sub_cancel]
          show Corr _ (mapS (listAt (pval d) (91 :: r)))
          have e0 : listAt (pval d) (91 :: r) = if (skip r).head? = some 93 then some (.list .nil, (skip r).tail) else (lsL (pval d) (skip r)).map fun x => (.list x.1, x.2) := rfl
          rw [e0]
          by_cases h3 : (skip r).head? = some 93
          · rw [if_pos h3, if_pos h3, List.drop_one]
            exact rfl
          · rw [if_neg h3, if_neg h3, ← values_skip, values_corr hf ih n (skip r) (by omega)]
            exact corr_self _
        by_cases h2 : c = 123
        · subst h2
          rw [List.head?_cons, if_neg (by decide), if_pos rfl, value, hl]
          simp only [Nat.reduceEqDiff, if_true, if_false, Nat.succ_ne_zero, Nat.add_one_ne_zero, Nat.add_sub_cancel]
          show Corr _ (mapS (objAt (pval d) (123 :: r)))
          have e0 : objAt (pval d) (123 :: r) = if (skip r).head? = some 125 then some (.obj .nil, (skip r).tail) else (lsM (pval d) [] (skip r)).map fun x => (.obj x.1, x.2) := rfl
          rw [e0]
          by_cases h3 : (skip r).head? = some 125
          · rw [if_pos h3, if_pos h3, List.drop_one]
            exact rfl
          · rw [if_neg h3, if_neg h3, members_corr hf ih n [] (skip r) (by omega) List.nodup_nil, members_skip]
            have e1 : ((members n d r).bind fun x => if (x.1.toList.map fun y => y.1).Nodup then some (V.obj x.1, x.2) else none) = ((members n d r).bind (okM [])).map fun x => (V.obj x.1, x.2) := by
              cases members n d r with
              | none => rfl
              | some x =>
                simp only [Option.bind_some]
                unfold okM
                rw [List.nil_append]
                show (if (names x.1).Nodup then some (V.obj x.1, x.2) else none) = _
                by_cases hz : (names x.1).Nodup
                · rw [if_pos hz, if_pos hz]
                  rfl
                · rw [if_neg hz, if_neg hz]
                  rfl
            rw [e1]
            exact corr_self _
        rw [List.head?_cons, if_neg (fun z => h1 (Option.some.inj z)), if_neg (fun z => h2 (Option.some.inj z))]
        exact plain_corr n (d + 1) c r l hl h1 h2
def pread (d : Nat) (l : B) : Option V := (pval d l).bind fun x => if x.2 = [] then some x.1 else none
theorem readTo_eq (d : Nat) (l : B) : readTo d l = if isText l = false then none else pread d l := by
  unfold readTo
  by_cases h : isText l = false
  · rw [if_pos h, if_pos h]
  rw [if_neg h, if_neg h]
  have c := corr d (2 * l.length + 2) l (by omega)
  unfold pread
  cases e : value (2 * l.length + 2) d l with
  | none =>
    rw [e] at c
    rcases c with c | ⟨v, a, r, c, ha⟩
    · rw [c]
      rfl
    · rw [c]
      rfl
  | some x =>
    rw [e] at c
    have c : pval d l = some (x.1, skip x.2) := c
    rw [c]
    rfl
end Mt
set_option linter.all false
set_option maxRecDepth 100000
set_option maxHeartbeats 4000000
namespace Mt
open Sn77
theorem writes_len : ∀ l : Vs, (writes l).length = (l.toList.map fun v => (write v).length).sum + (l.toList.length - 1)
  | .nil => rfl
  | .cons v .nil => by
    rw [writes]
    simp [Vs.toList]
  | .cons v (.cons w r) => by
    have ih := writes_len (.cons w r)
    rw [writes, List.length_append, List.length_cons, ih]
    · simp only [Vs.toList, List.map_cons, List.sum_cons, List.length_cons]
      omega
    · intro z; cases z
theorem writeAll_len : ∀ m : Ms, (writeAll m).length = (m.toList.map fun x => (shown x.1).length + 1 + (write x.2).length).sum + (m.toList.length - 1)
  | .nil => rfl
  | .cons n v .nil => by
    rw [writeAll]
    simp [Ms.toList]
    omega
  | .cons n v (.cons k w r) => by
    have ih := writeAll_len (.cons k w r)
    rw [writeAll, List.length_append, List.length_cons, List.length_append, List.length_cons, ih]
    · simp only [Ms.toList, List.map_cons, List.sum_cons, List.length_cons]
      omega
    · intro z; cases z
theorem write_list_len (l : Vs) : (write (.list l)).length = 2 + (l.toList.map fun v => (write v).length).sum + (l.toList.length - 1) := by
  rw [write, List.length_cons, List.length_append, writes_len]
  simp only [List.length_cons, List.length_nil]
  omega
theorem write_obj_len (m : Ms) : (write (.obj m)).length = 2 + (m.toList.map fun x => (shown x.1).length + 1 + (write x.2).length).sum + (m.toList.length - 1) := by
  rw [write, List.length_cons, List.length_append, writeAll_len]
  simp only [List.length_cons, List.length_nil]
  omega
theorem deeps_le : ∀ (l : Vs) (v : V), v ∈ l.toList -> deep v <= deeps l
  | .nil, _, h => by cases h
  | .cons w r, v, h => by
    rw [deeps]
    rcases List.mem_cons.mp (show v ∈ w :: r.toList from h) with e | e
    · rw [e]; exact Nat.le_max_left ..
    · exact Nat.le_trans (deeps_le r v e) (Nat.le_max_right ..)
theorem deeps_mem : ∀ (l : Vs), l.toList ≠ [] -> ∃ v ∈ l.toList, deep v = deeps l
  | .nil, h => absurd rfl h
  | .cons w r, _ => by
    rw [deeps]
    by_cases e : deeps r <= deep w
    · exact ⟨w, List.mem_cons_self .., (Nat.max_eq_left e).symm⟩
    · have hr : r.toList ≠ [] := fun z => by
        cases r with
        | nil => rw [deeps] at e; omega
        | cons a b => cases z
      obtain ⟨v, hv, ev⟩ := deeps_mem r hr
      exact ⟨v, List.mem_cons_of_mem _ hv, by rw [ev]; exact (Nat.max_eq_right (by omega)).symm⟩
theorem deepest_le : ∀ (m : Ms) (x : B × V), x ∈ m.toList -> deep x.2 <= deepest m
  | .nil, _, h => by cases h
  | .cons n w r, v, h => by
    rw [deepest]
    rcases List.mem_cons.mp (show v ∈ (n, w) :: r.toList from h) with e | e
    · rw [e]; exact Nat.le_max_left ..
    · exact Nat.le_trans (deepest_le r v e) (Nat.le_max_right ..)
theorem deepest_mem : ∀ (m : Ms), m.toList ≠ [] -> ∃ x ∈ m.toList, deep x.2 = deepest m
  | .nil, h => absurd rfl h
  | .cons n w r, _ => by
    rw [deepest]
    by_cases e : deepest r <= deep w
    · exact ⟨(n, w), List.mem_cons_self .., (Nat.max_eq_left e).symm⟩
    · have hr : r.toList ≠ [] := fun z => by
        cases r with
        | nil => rw [deepest] at e; omega
        | cons a b c => cases z
      obtain ⟨v, hv, ev⟩ := deepest_mem r hr
      exact ⟨v, List.mem_cons_of_mem _ hv, by rw [ev]; exact (Nat.max_eq_right (by omega)).symm⟩
def IsMax (ns : List Int) (d m : Int) : Prop := (ns = [] /\ m = d) ∨ (m ∈ ns /\ ∀ y ∈ ns, y <= m)
theorem isMax_list {l : Vs} {m : Int} (h : IsMax (l.toList.map fun v => (deep v : Int)) 0 m) : m = (deeps l : Nat) := by
  rcases h with ⟨e, rfl⟩ | ⟨h1, h2⟩
  · cases l with
    | nil => rfl
    | cons v r => cases e
  · obtain ⟨v, hv, rfl⟩ := List.mem_map.mp h1
    have hne : l.toList ≠ [] := fun z => by rw [z] at hv; cases hv
    obtain ⟨u, hu, eu⟩ := deeps_mem l hne
    have h3 := h2 _ (List.mem_map.mpr ⟨u, hu, rfl⟩)
    have h4 := deeps_le l v hv
    omega
theorem isMax_obj {l : Ms} {m : Int} (h : IsMax (l.toList.map fun x => (deep x.2 : Int)) 0 m) : m = (deepest l : Nat) := by
  rcases h with ⟨e, rfl⟩ | ⟨h1, h2⟩
  · cases l with
    | nil => rfl
    | cons n v r => cases e
  · obtain ⟨v, hv, rfl⟩ := List.mem_map.mp h1
    have hne : l.toList ≠ [] := fun z => by rw [z] at hv; cases hv
    obtain ⟨u, hu, eu⟩ := deepest_mem l hne
    have h3 := h2 _ (List.mem_map.mpr ⟨u, hu, rfl⟩)
    have h4 := deepest_le l v hv
    omega
theorem sum_cast (l : List Nat) : (l.map fun n : Nat => (n : Int)).sum = ((l.sum : Nat) : Int) := by
  induction l with
  | nil => rfl
  | cons a r ih => rw [List.map_cons, List.sum_cons, List.sum_cons, ih]; omega
end Mt
namespace Mt
open Sn77
theorem ins_blen : ∀ (n : Nat) (l : B) {s r : B}, l.length <= n -> ins l = some (s, r) -> s.length + 4 * r.length <= 4 * l.length
  | _, [], _, _, _, h => by rw [ins_nil] at h; cases h
  | 0, _ :: _, _, _, hn, _ => by simp at hn
  | n + 1, c :: t, s, r, hn, h => by
    rw [List.length_cons] at hn
    rw [ins_cons] at h
    rw [List.length_cons]
    split at h
    · cases h
      simp only [List.length_nil]
      omega
    split at h
    · cases h
    split at h
    · cases e : ins t with
      | none => rw [e] at h; cases h
      | some x =>
        rw [e] at h
        cases h
        have := ins_blen n t (s := x.1) (r := x.2) (by omega) e
        rw [List.length_cons]
        omega
    · cases e : esc t with
      | none => rw [e] at h; cases h
      | some x =>
        rw [e] at h
        simp only [Option.bind_some] at h
        have hx := esc_len (r := t) (b := x.1) (q := x.2) e
        cases e2 : ins x.2 with
        | none => rw [e2] at h; cases h
        | some y =>
          rw [e2] at h
          cases h
          have := ins_blen n x.2 (s := y.1) (r := y.2) (by omega) e2
          rw [List.length_append]
          omega
theorem txt_blen {l s r : B} (h : txt l = some (s, r)) : s.length <= 4 * l.length := by
  unfold txt at h
  split at h
  · rename_i t
    have := ins_blen _ t (Nat.le_refl _) h
    rw [List.length_cons]
    omega
  · cases h
theorem nameOf_blen {l s r : B} (h : nameOf l = some (s, r)) : s.length <= 4 * l.length := by
  unfold nameOf at h
  cases e : txt (skip l) with
  | none => rw [e] at h; cases h
  | some x =>
    rw [e] at h
    simp only [Option.bind_some] at h
    have h1 := txt_blen (l := skip l) (s := x.1) (r := x.2) e
    have h2 := skip_len l
    split at h
    · cases h
      show x.1.length <= _
      omega
    · cases h
def sh1 (c : Nat) : B := if c = 34 ∨ c = 92 then [92, c] else if c < 32 then [92, 117, 48, 48, hexDigit (c / 16), hexDigit (c % 16)] else [c]
theorem shown_eq (s : B) : shown s = 34 :: (s.flatMap sh1 ++ [34]) := rfl
theorem sh1_len (c : Nat) : (sh1 c).length <= 6 := by
  unfold sh1
  split
  · simp
  split
  · simp
  · simp
theorem flat_len (s : B) : (s.flatMap sh1).length <= 6 * s.length := by
  induction s with
  | nil => simp
  | cons c r ih =>
    rw [List.flatMap_cons, List.length_append, List.length_cons]
    have := sh1_len c
    omega
theorem flat_snoc (s : B) (c : Nat) : (s ++ [c]).flatMap sh1 = s.flatMap sh1 ++ sh1 c := by
  rw [List.flatMap_append]
  simp
theorem shown_len (s : B) : (shown s).length <= 6 * s.length + 2 := by
  rw [shown_eq, List.length_cons, List.length_append]
  have := flat_len s
  simp only [List.length_cons, List.length_nil]
  omega
end Mt
set_option Elab.async false
set_option linter.all false
set_option maxRecDepth 100000
set_option maxHeartbeats 4000000
namespace Mt
open Sn77
theorem number_deep {l : B} {x : V × B} (h : number l = some x) : deep x.1 = 0 := by
  unfold number at h
  dsimp only at h
  repeat' split at h
  all_goals first | (cases h; rfl) | cases h
theorem deep_all : ∀ n : Nat, (∀ d l x, value n d l = some x -> deep x.1 <= d) /\ (∀ d l x, values n d l = some x -> deeps x.1 <= d) /\ (∀ d l x, members n d l = some x -> deepest x.1 <= d)
  | 0 => ⟨fun d l x h => by (rw [value] at h; cases h), fun d l x h => by (rw [values] at h; cases h), fun d l x h => by (rw [members] at h; cases h)⟩
  | n + 1 => by
    obtain ⟨i1, i2, i3⟩ := deep_all n
    refine ⟨fun d l x h => ?_, fun d l x h => ?_, fun d l x h => ?_⟩
    · rw [value] at h
      cases hl : skip l with
      | nil => rw [hl] at h; cases h
      | cons c r =>
        rw [hl] at h
        simp only at h
        by_cases c1 : c = 110
        · rw [if_pos c1] at h
          split at h
          · cases h; exact Nat.zero_le _
          · cases h
        rw [if_neg c1] at h
        by_cases c2 : c = 116
        · rw [if_pos c2] at h
          split at h
          · cases h; exact Nat.zero_le _
          · cases h
        rw [if_neg c2] at h
        by_cases c3 : c = 102
        · rw [if_pos c3] at h
          split at h
          · cases h; exact Nat.zero_le _
          · cases h
        rw [if_neg c3] at h
        by_cases c4 : c = 34
        · rw [if_pos c4] at h
          cases hi : inside (r.length + 1) r with
          | none => rw [hi] at h; cases h
          | some y => rw [hi] at h; cases h; exact Nat.zero_le _
        rw [if_neg c4] at h
        by_cases c5 : c = 91
        · rw [if_pos c5] at h
          by_cases d0 : d = 0
          · rw [if_pos d0] at h; cases h
          rw [if_neg d0] at h
          split at h
          · cases h
            show deeps .nil + 1 <= d
            rw [deeps]
            omega
          · cases hv : values n (d - 1) r with
            | none => rw [hv] at h; cases h
            | some y =>
              rw [hv] at h
              cases h
              have := i2 _ _ _ hv
              show deeps y.1 + 1 <= d
              omega
        rw [if_neg c5] at h
        by_cases c6 : c = 123
        · rw [if_pos c6] at h
          by_cases d0 : d = 0
          · rw [if_pos d0] at h; cases h
          rw [if_neg d0] at h
          split at h
          · cases h
            show deepest .nil + 1 <= d
            rw [deepest]
            omega
          · cases hv : members n (d - 1) r with
            | none => rw [hv] at h; cases h
            | some y =>
              rw [hv] at h
              have h : (if (y.1.toList.map fun z => z.1).Nodup then some (V.obj y.1, y.2) else Option.none) = some x := h
              split at h
              · cases h
                have := i3 _ _ _ hv
                show deepest y.1 + 1 <= d
                omega
              · cases h
        rw [if_neg c6] at h
        rw [number_deep h]
        exact Nat.zero_le _
    · rw [values] at h
      cases hv : value n d l with
      | none => rw [hv] at h; cases h
      | some y =>
        rw [hv] at h
        simp only [Option.bind_some] at h
        have hy := i1 _ _ _ hv
        split at h
        · rename_i r _
          cases hr : values n d r with
          | none => rw [hr] at h; cases h
          | some z =>
            rw [hr] at h
            cases h
            have := i2 _ _ _ hr
            show deeps (.cons y.1 z.1) <= d
            rw [deeps]
            exact Nat.max_le.mpr ⟨hy, this⟩
        · cases h
          show deeps (.cons y.1 .nil) <= d
          rw [deeps, deeps]
          exact Nat.max_le.mpr ⟨hy, Nat.zero_le _⟩
        · cases h
    · rw [members] at h
      split at h
      · rename_i r _
        cases hk : inside (r.length + 1) r with
        | none => rw [hk] at h; cases h
        | some k =>
          rw [hk] at h
          simp only [Option.bind_some] at h
          split at h
          · rename_i t _
            cases hv : value n d t with
            | none => rw [hv] at h; cases h
            | some y =>
              rw [hv] at h
              simp only [Option.bind_some] at h
              have hy := i1 _ _ _ hv
              split at h
              · rename_i r' _
                cases hr : members n d r' with
                | none => rw [hr] at h; cases h
                | some z =>
                  rw [hr] at h
                  cases h
                  have := i3 _ _ _ hr
                  show deepest (.cons k.1 y.1 z.1) <= d
                  rw [deepest]
                  exact Nat.max_le.mpr ⟨hy, this⟩
              · cases h
                show deepest (.cons k.1 y.1 .nil) <= d
                rw [deepest, deepest]
                exact Nat.max_le.mpr ⟨hy, Nat.zero_le _⟩
              · cases h
          · cases h
      · cases h
theorem read_deep {b : B} {v : V} (h : Sn77.read b = some v) : deep v <= 32 := by
  unfold Sn77.read readTo at h
  split at h
  · cases h
  · cases hv : value (2 * b.length + 2) DEEP b with
    | none => rw [hv] at h; cases h
    | some x =>
      rw [hv] at h
      have h : (if skip x.2 = [] then some x.1 else Option.none) = some v := h
      split at h
      · cases h
        exact (deep_all _).1 _ _ _ hv
      · cases h
end Mt
set_option Elab.async false
set_option linter.all false
set_option maxRecDepth 100000
set_option maxHeartbeats 4000000
namespace Pw
open PySem PySem.Spec PyProof.Rows L2
def TupIn (K : PySem.W.Frag) (a : Addr) (xs : List V) : Prop := ∃ (o : Obj) (its : Array Value) (n : Nat), K.lookup a = some o /\ o.cls = .type "tuple" /\ o.data = .seq its n /\ its.size <= sizeLine /\ Vals xs its.toList
theorem TupIn.sq {K : PySem.W.Frag} {a : Addr} {xs : List V} (h : TupIn K a xs) {H : Hp} : SqT K H a xs := .inr h
abbrev formV (f : Nat × Nat × Nat × Nat × Nat) : List V := [.int (f.1 : Nat), .int (f.2.1 : Nat), .int (f.2.2.1 : Nat), .int (f.2.2.2.1 : Nat), .int (f.2.2.2.2 : Nat)]
def FormsIn (K : PySem.W.Frag) (mg : Str -> Option Value) : Prop := ∃ (aF : Addr) (as : List Addr), mg "FORMS" = some (.ref aF) /\ TupIn K aF (as.map V.ref) /\ Paired (fun f a => TupIn K a (formV f)) Mt.forms as
theorem boot_all1 : bootBuiltins "all" = some (.builtin "all") := by decide +kernel
theorem bV_get {l : List Nat} {i : Nat} {x : V} (h : (bV l)[i]? = some x) : ∃ c, l[i]? = some c /\ x = V.int (c : Nat) := by
  rw [List.getElem?_map] at h
  cases e : l[i]? with
  | none => rw [e] at h; cases h
  | some c => rw [e] at h; exact ⟨c, rfl, (Option.some.inj h).symm⟩
section
variable {P : Program} {w : World} {K : PySem.W.Frag} {mg : Str -> Option Value} {base : Heap} {f : Addr} {fd : FuncData}
def spTail (K : PySem.W.Frag) : Sp := fun vs H Q _ => ∃ (a : Addr) (l : List Nat) (lo hi : Nat), vs = [.ref a, .int (lo : Nat), .int (hi : Nat)] /\ SqL K H a (bV l) /\ l.length <= 1000 /\ ∀ H', Same H H' -> Q (.bl (Mt.tailOk l lo hi)) H'
theorem sc_is_tail : FnScope ["tail", "next_lowest", "next_highest", "sign"] ["tail", "next_lowest", "next_highest"] (defScope s_is_tail) := ⟨rfl, rfl, rfl, by decide +kernel, rfl, by decide +kernel, by decide +kernel⟩
theorem ok_is_tail (F : Fun K "is_tail" "is_tail" s_is_tail f fd) (ml : mg "len" = Option.none) (ma : mg "all" = Option.none) : FnOk P w K mg base CX0 1 f fd ["tail", "next_lowest", "next_highest"] (spTail K) := by
  refine F.ok sc_is_tail (fun vs H Q E h => ?_) (fun cdv A outer s H vs Q E hr h => ?_)
  · obtain ⟨a, l, lo, hi, rfl, _⟩ := h
    rfl
  obtain ⟨a, l, lo, hi, rfl, hS, hl, q⟩ := h
  refine ⟨_, pss_cons (ps_if (pt_cmpR op_eq (pe_callB call_len_seq rfl ml PySem.boot_len (pa_cons (pv 0) pa_nil)) pe_int (nomark _)) (pss_one (ps_ret pe_bl)) pss_nil)
    (pss_one (ps_ret (pe_and (pe_chain op_le op_le (pv 1) (pe_ix ix_list (pv 0) pe_int (fun _ _ => rfl)) (pv 2))
      (pe_one (pe_callB (cr_all rfl) rfl ma boot_all1 (pa_cons (pe_lc (own := [("sign", 3)]) rfl sc_is_tail.nd (pi_list (pv 0)) (blkOk_by (by show blkC ["tail", "next_lowest", "next_highest", "sign"] (defScope s_is_tail) _ _ = true; decide +kernel))
        (fun _ _ _ _ _ => pg_name (i := 3) sc_is_tail.nd rfl (Or.inl rfl)) (fun _ _ _ _ _ => pts_nil) (fun _ _ _ _ _ => pe_chain op_le op_le pe_int (pv 3) pe_int)) pa_nil)))))), ?_⟩
  refine ⟨_, rfl, a, _, rfl, .inl hS, rfl, _, rfl, ?_⟩
  generalize hb : decide (V.int ((bV l).length : Nat) = V.int 0) = b
  rcases Bool.eq_false_or_eq_true b with c | c
  · subst c
    have c : (((bV l).length : Nat) : Int) = 0 := V.int.inj (of_decide_eq_true hb)
    rw [List.length_map] at c
    have e : l = [] := List.length_eq_zero_iff.mp (by omega)
    subst e
    exact iteT (q H (Same.refl H))
  subst c
  refine iteF ?_
  have c : ¬ V.int (((bV l).length : Nat) : Int) = V.int 0 := of_decide_eq_false hb
  cases l with
  | nil => exact absurd rfl c
  | cons b0 r =>
    have q' : ∀ H', Same H H' -> Q (.bl ((decide (lo <= b0) && decide (b0 <= hi)) && (b0 :: r).all Mt.inTail)) H' := q
    refine ⟨_, rfl, _, rfl, a, _, _, _, rfl, rfl, hS, atI_nat (j := 0) (v := V.int (b0 : Nat)) rfl, _, _, rfl, rfl, _, rfl, ?_⟩
    have hno : ∀ z : Bool, (decide (lo <= b0) && decide (b0 <= hi)) = false -> Q (.bl false) H := fun _ e => by
      have := q' H (Same.refl H)
      rw [e, Bool.false_and] at this
      exact this
    have d1 : decide ((lo : Int) <= (b0 : Int)) = decide (lo <= b0) := by
      by_cases h : lo <= b0
      · rw [decide_eq_true h, decide_eq_true (by omega)]
      · rw [decide_eq_false h, decide_eq_false (by omega)]
    have d2 : decide ((b0 : Int) <= (hi : Int)) = decide (b0 <= hi) := by
      by_cases h : b0 <= hi
      · rw [decide_eq_true h, decide_eq_true (by omega)]
      · rw [decide_eq_false h, decide_eq_false (by omega)]
    refine ite2 (fun k1 => ?_) (fun k1 => ?_)
    · rw [d1] at k1
      refine ⟨_, rfl, _, _, rfl, rfl, _, rfl, ?_⟩
      refine ite2 (fun k2 => ?_) (fun k2 => ?_)
      · rw [d2] at k2
        refine ⟨_, rfl, a, rfl, ⟨_, hS⟩, fun D hD => ?_⟩
        have sD : ∀ o, Same H (upd H D o) := fun o => Same.upd hD o
        refine lc_list (K := K) (a := a) (xs := bV (b0 :: r)) (fun i H' => H' = upd H D (.lst ((((b0 :: r).take i).map Mt.inTail).map V.bl))) rfl (fun i H' _ e => by rw [e]; exact (sD _).seq hS) (fun i x H' hx e => ?_) (fun H' e => ?_)
        · subst e
          obtain ⟨c0, hc0, rfl⟩ := bV_get hx
          have hi' : i < (b0 :: r).length := (List.getElem?_eq_some_iff.mp hc0).1
          have fin : ∀ z : Bool, z = Mt.inTail c0 -> ∃ acc, (upd H D (.lst ((((b0 :: r).take i).map Mt.inTail).map V.bl))) D = some (.lst acc) /\ acc.length < sizeLine /\
              upd (upd H D (.lst ((((b0 :: r).take i).map Mt.inTail).map V.bl))) D (.lst (acc ++ [V.bl z])) = upd H D (.lst ((((b0 :: r).take (i + 1)).map Mt.inTail).map V.bl)) := fun z ez => by
            refine ⟨_, upd_same, ?_, ?_⟩
            · rw [List.length_map, List.length_map, List.length_take]
              have e1 : min i (b0 :: r).length <= 1000 := Nat.le_trans (Nat.min_le_right _ _) hl
              exact Nat.lt_of_le_of_lt e1 (by decide)
            · rw [upd_upd, take_snoc hc0, List.map_append, List.map_append, ez]
              rfl
          refine ⟨rfl, ?_⟩
          refine ⟨_, rfl, _, _, rfl, rfl, _, rfl, ?_⟩
          have e1 : decide ((128 : Int) <= (c0 : Int)) = decide (128 <= c0) := by
            by_cases h : 128 <= c0
            · rw [decide_eq_true h, decide_eq_true (by omega)]
            · rw [decide_eq_false h, decide_eq_false (by omega)]
          have e2 : decide ((c0 : Int) <= (191 : Int)) = decide (c0 <= 191) := by
            by_cases h : c0 <= 191
            · rw [decide_eq_true h, decide_eq_true (by omega)]
            · rw [decide_eq_false h, decide_eq_false (by omega)]
          refine ite2 (fun k3 => ?_) (fun k3 => ?_)
          · refine ⟨_, _, rfl, rfl, ?_⟩
            rw [e1] at k3
            refine fin _ ?_
            unfold Mt.inTail
            rw [k3, Bool.true_and, ← e2]
          · rw [e1] at k3
            refine fin _ ?_
            unfold Mt.inTail
            rw [Bool.eq_false_iff.mpr k3, Bool.false_and]
        · subst e
          rw [List.length_map, List.take_length]
          refine ⟨D, _, rfl, SqL.of upd_same, ?_⟩
          have := q' _ (sD (.lst (((b0 :: r).map Mt.inTail).map V.bl)))
          rw [k1, k2, Bool.true_and, Bool.true_and] at this
          rw [List.all_map]
          exact this
      · rw [d2] at k2
        exact hno false (by rw [Bool.eq_false_iff.mpr k2, Bool.and_false])
    · rw [d1] at k1
      exact ⟨_, rfl, iteF (hno false (by rw [Bool.eq_false_iff.mpr k1, Bool.false_and]))⟩
theorem paired_at {α β : Type} {R : α -> β -> Prop} : ∀ {xs : List α} {ys : List β} {i : Nat} {y : β}, Paired R xs ys -> ys[i]? = some y -> ∃ x, xs[i]? = some x /\ R x y
  | _, _, _, _, .nil, h => by simp at h
  | _, _, 0, _, .cons r _, h => by
    simp at h
    subst h
    exact ⟨_, rfl, r⟩
  | _, _, i + 1, y, .cons _ t, h => by
    obtain ⟨x, h1, h2⟩ := paired_at (i := i) (y := y) t (by simpa using h)
    exact ⟨x, by simpa using h1, h2⟩
theorem sizeBy_at {i c : Nat} {t : List Nat} {f : Nat × Nat × Nat × Nat × Nat} (h : Mt.forms[i]? = some f) :
    Mt.sizeBy (Mt.forms.drop i) c t = if f.1 <= c /\ c <= f.2.1 /\ (t.take f.2.2.1).length = f.2.2.1 /\ Mt.tailOk (t.take f.2.2.1) f.2.2.2.1 f.2.2.2.2 = true then 1 + f.2.2.1 else Mt.sizeBy (Mt.forms.drop (i + 1)) c t := by
  obtain ⟨hi, e⟩ := List.getElem?_eq_some_iff.mp h
  rw [List.drop_eq_getElem_cons hi, e]
  rfl
def spChSize (K : PySem.W.Frag) : Sp := fun vs H Q _ => ∃ (a : Addr) (src : List Nat) (i c : Nat) (t : List Nat), vs = [.ref a, .int (i : Nat)] /\ SqL K H a (bV src) /\ src.length <= 65536 /\ src.drop i = c :: t /\ ∀ H', Same H H' -> Q (.int (Mt.chSize (c :: t) : Nat)) H'
abbrev nChSize : List Str := ["source", "place", "lowest", "highest", "following", "next_lowest", "next_highest", "tail"]
theorem sc_character_size : FnScope nChSize ["source", "place"] (defScope s_character_size) := ⟨rfl, rfl, rfl, by decide +kernel, rfl, by decide +kernel, by decide +kernel⟩
theorem cut_bV {src t : List Nat} {i k c : Nat} (h : src.drop i = c :: t) (hl : src.length <= 65536) (hk : k <= 1000) : cutV (bV src) (some ((i : Int) + 1)) (some ((i : Int) + 1 + (k : Int))) = bV (t.take k) := by
  have hi : i < src.length := by
    have := congrArg List.length h
    rw [List.length_drop, List.length_cons] at this
    omega
  have e1 : (i : Int) + 1 = ((i + 1 : Nat) : Int) := by omega
  have e2 : (i : Int) + 1 + (k : Int) = ((i + 1 + k : Nat) : Int) := by omega
  have ht : t = src.drop (i + 1) := by
    have := congrArg List.tail h
    rw [List.tail_drop] at this
    exact this.symm
  unfold cutV
  rw [e2, e1, HT.sIx_nat, HT.sIx_nat, List.length_map, ht, ← List.map_drop, ← List.map_take]
  have e3 : min (i + 1) src.length = i + 1 := by omega
  rw [e3]
  congr 1
  by_cases z : i + 1 + k <= src.length
  · rw [Nat.min_eq_left z]
    congr 1
    omega
  · rw [Nat.min_eq_right (by omega), List.take_of_length_le (by rw [List.length_drop]; omega), List.take_of_length_le (by rw [List.length_drop]; omega)]
theorem dec_le (a b : Nat) : decide ((a : Int) <= (b : Int)) = decide (a <= b) := by
  by_cases h : a <= b
  · rw [decide_eq_true h, decide_eq_true (by omega)]
  · rw [decide_eq_false h, decide_eq_false (by omega)]
theorem ok_character_size (F : Fun K "character_size" "character_size" s_character_size f fd) (gF : FormsIn K mg) (T : DefOk P w K mg base CX0 1 "is_tail" ["tail", "next_lowest", "next_highest"] (spTail K)) (ml : mg "len" = Option.none) :
    FnOk P w K mg base CX0 2 f fd ["source", "place"] (spChSize K) := by
  refine F.ok sc_character_size (fun vs H Q E h => ?_) (fun cdv A outer s H vs Q E hr h => ?_)
  · obtain ⟨a, src, i, c, t, rfl, _⟩ := h
    rfl
  obtain ⟨a, src, i, c, t, rfl, hS, hl, hd, q⟩ := h
  obtain ⟨aF, as, mF, tF, pF⟩ := gF
  have gv : Gv mg "FORMS" (.ref aF) := ⟨_, mF, rfl⟩
  have nd := sc_character_size.nd
  have hsi : src[i]? = some c := by
    have := congrArg (·[0]?) hd
    simp only [List.getElem?_drop, Nat.add_zero] at this
    rw [this]
    rfl
  have hi0 : i < src.length := (List.getElem?_eq_some_iff.mp hsi).1
  have htl : t.length <= 65536 := by
    have := congrArg List.length hd
    rw [List.length_drop, List.length_cons] at this
    omega
  refine ⟨_, pss_cons (ps_for PassesOwn.never rfl (pi_tup (pe_g gv)) (pg_tup rfl (pgs_cons (pg_name (i := 2) nd rfl (Or.inl rfl)) (pgs_cons (pg_name (i := 3) nd rfl (Or.inl rfl)) (pgs_cons (pg_name (i := 4) nd rfl (Or.inl rfl)) (pgs_cons (pg_name (i := 5) nd rfl (Or.inl rfl)) (pgs_cons (pg_name (i := 6) nd rfl (Or.inl rfl)) pgs_nil))))))
    (pss_one (ps_if (pt_chain op_le op_le (pv 2) (pe_ix ix_list (pv 0) (pv 1) (fun _ _ => rfl)) (pv 3))
      (pss_cons (ps_set (i := 7) nd rfl (Or.inl rfl) (pe_slice sl_list (pv 0) (po_some (pe_op op_add (pv 1) pe_int)) (po_some (pe_op op_add (pe_op op_add (pv 1) pe_int) (pv 4)))))
        (pss_one (ps_if (PW.pt (pw_and (pt_cmpR op_eq (pe_callB call_len_seq rfl ml PySem.boot_len (pa_cons (pv 7) pa_nil)) (pv 4) (nomark _)) (pw_and1 (pt_val (pe_callD T hr pass0 (pa_cons (pv 7) (pa_cons (pv 5) (pa_cons (pv 6) pa_nil))))))))
          (pss_one (ps_ret (pe_op op_add pe_int (pv 4)))) pss_nil))) pss_nil)))
    (pss_one (ps_ret pe_int)), ?_⟩
  refine ⟨aF, rfl, ⟨_, tF.sq⟩, for_tup (K := K) (a := aF) (xs := as.map V.ref) (fun j σ H' => ∃ v2 v3 v4 v5 v6 v7 : Option V, σ = [some (.ref a), some (.int (i : Nat)), v2, v3, v4, v5, v6, v7] /\ Same H H' /\ Mt.sizeBy (Mt.forms.drop j) c t = Mt.chSize (c :: t))
    ⟨none, none, none, none, none, none, rfl, Same.refl H, rfl⟩ (fun _ _ _ _ _ => tF.sq) ?_ ?_⟩
  · rintro j x σ H' hx ⟨v2, v3, v4, v5, v6, v7, rfl, sm, hz⟩
    obtain ⟨aj, haj, rfl⟩ : ∃ aj, as[j]? = some aj /\ x = V.ref aj := by
      rw [List.getElem?_map] at hx
      cases e : as[j]? with
      | none => rw [e] at hx; cases hx
      | some aj => rw [e] at hx; exact ⟨aj, rfl, (Option.some.inj hx).symm⟩
    obtain ⟨fm, hfm, tj⟩ := paired_at pF haj
    rw [sizeBy_at hfm] at hz
    have hk : fm.2.2.1 <= 3 := by
      have : ∀ g ∈ Mt.forms, g.2.2.1 <= 3 := by decide
      exact this _ (List.mem_of_getElem? hfm)
    refine ⟨aj, _, rfl, tj.sq, rfl, _, _, rfl, _, _, rfl, _, _, rfl, _, _, rfl, _, _, rfl, rfl, ?_⟩
    refine ⟨_, rfl, _, rfl, _, rfl, a, _, _, _, rfl, rfl, sm.seq hS, atI_nat (j := i) (v := V.int (c : Nat)) (by rw [List.getElem?_map, hsi]; rfl), _, _, rfl, rfl, _, rfl, ?_⟩
    rw [dec_le]
    have miss : ¬ (fm.1 <= c /\ c <= fm.2.1 /\ (t.take fm.2.2.1).length = fm.2.2.1 /\ Mt.tailOk (t.take fm.2.2.1) fm.2.2.2.1 fm.2.2.2.2 = true) -> Mt.sizeBy (Mt.forms.drop (j + 1)) c t = Mt.chSize (c :: t) := fun z => by
      rw [if_neg z] at hz
      exact hz
    refine ite2 (fun k1 => ?_) (fun k1 => ?_)
    · have k1 := of_decide_eq_true k1
      refine ⟨_, rfl, _, _, rfl, rfl, _, rfl, ?_⟩
      rw [dec_le]
      refine ite2 (fun k2 => ?_) (fun k2 => ?_)
      · have k2 := of_decide_eq_true k2
        refine ⟨_, rfl, _, rfl, _, _, rfl, rfl, _, rfl, _, rfl, _, _, rfl, rfl, _, rfl, _, _, rfl, rfl, _, rfl, a, _, rfl, sm.seq hS, fun p hp => ?_⟩
        have ec : cutV (bV src) (some ((i : Int) + 1)) (some ((i : Int) + 1 + ((fm.2.2.1 : Nat) : Int))) = bV (t.take fm.2.2.1) := cut_bV hd hl (by omega)
        have sm2 : Same H (upd H' p (.lst (cutV (bV src) (some ((i : Int) + 1)) (some ((i : Int) + 1 + ((fm.2.2.1 : Nat) : Int)))))) := sm.trans (Same.upd hp _)
        refine ⟨_, rfl, p, _, rfl, .inl (SqL.of upd_same), _, rfl, rfl, _, rfl, ?_⟩
        rw [ec] at sm2 ⊢
        generalize hb : decide (V.int (((bV (t.take fm.2.2.1)).length : Nat) : Int) = V.int ((fm.2.2.1 : Nat) : Int)) = b
        rcases Bool.eq_false_or_eq_true b with e | e
        · subst e
          refine iteT ?_
          have e : (t.take fm.2.2.1).length = fm.2.2.1 := by
            have := V.int.inj (of_decide_eq_true hb)
            rw [List.length_map] at this
            omega
          refine ⟨_, rfl, _, rfl, _, rfl, p, t.take fm.2.2.1, fm.2.2.2.1, fm.2.2.2.2, rfl, SqL.of upd_same, by omega, fun H3 s3 => ⟨_, rfl, ?_⟩⟩
          refine ite2 (fun k3 => ?_) (fun k3 => ?_)
          · refine ⟨_, rfl, _, _, rfl, rfl, ?_⟩
            rw [if_pos ⟨k1, k2, e, k3⟩] at hz
            have := q H3 (sm2.trans s3)
            rw [← hz] at this
            have ee : ((1 + fm.2.2.1 : Nat) : Int) = 1 + ((fm.2.2.1 : Nat) : Int) := by omega
            rw [ee] at this
            exact this
          · exact ⟨_, _, _, _, _, _, rfl, sm2.trans s3, miss (fun z => k3 z.2.2.2)⟩
        · subst e
          refine iteF ?_
          have e : ¬ (t.take fm.2.2.1).length = fm.2.2.1 := fun z => of_decide_eq_false hb (by rw [List.length_map, z])
          exact iteF ⟨_, _, _, _, _, _, rfl, sm2, miss (fun z => e z.2.2.1)⟩
      · exact ⟨_, _, _, _, _, _, rfl, sm, miss (fun z => k2 (decide_eq_true z.2.1))⟩
    · exact ⟨_, rfl, iteF ⟨_, _, _, _, _, _, rfl, sm, miss (fun z => k1 (decide_eq_true z.1))⟩⟩
  · rintro σ H' ⟨v2, v3, v4, v5, v6, v7, rfl, sm, hz⟩
    have hlen : as.length = Mt.forms.length := (Paired.length pF).symm
    rw [List.length_map, hlen, List.drop_length] at hz
    have := q H' sm
    rw [← hz] at this
    exact this
end
end Pw
set_option Elab.async false
set_option linter.all false
set_option maxRecDepth 100000
set_option maxHeartbeats 4000000
namespace Pw
open PySem PySem.Spec PyProof.Rows L2
section
variable {P : Program} {w : World} {K : PySem.W.Frag} {mg : Str -> Option Value} {base : Heap} {f : Addr} {fd : FuncData}
def spUtf8 (K : PySem.W.Frag) : Sp := fun vs H Q _ => ∃ (a : Addr) (src : List Nat), vs = [.ref a] /\ SqL K H a (bV src) /\ src.length <= 65536 /\ ∀ H', Same H H' -> Q (.bl (Sn77.isText src)) H'
theorem sc_is_utf8 : FnScope ["source", "place", "size"] ["source"] (defScope s_is_utf8) := ⟨rfl, rfl, rfl, by decide +kernel, rfl, by decide +kernel, by decide +kernel⟩
theorem dec_lt (a b : Nat) : decide ((a : Int) < (b : Int)) = decide (a < b) := by
  by_cases h : a < b
  · rw [decide_eq_true h, decide_eq_true (by omega)]
  · rw [decide_eq_false h, decide_eq_false (by omega)]
theorem ok_is_utf8 (F : Fun K "is_utf8" "is_utf8" s_is_utf8 f fd) (T : DefOk P w K mg base CX0 2 "character_size" ["source", "place"] (spChSize K)) (ml : mg "len" = Option.none) : FnOk P w K mg base CX0 3 f fd ["source"] (spUtf8 K) := by
  refine F.ok sc_is_utf8 (fun vs H Q E h => ?_) (fun cdv A outer s H vs Q E hr h => ?_)
  · obtain ⟨a, src, rfl, _⟩ := h
    rfl
  obtain ⟨a, src, rfl, hS, hl, q⟩ := h
  have nd := sc_is_utf8.nd
  refine ⟨_, pss_cons (ps_set (i := 1) nd rfl (Or.inl rfl) pe_int) (pss_cons (ps_while PassesOwn.never (pt_cmpR op_lt (pv 1) (pe_callB call_len_seq rfl ml PySem.boot_len (pa_cons (pv 0) pa_nil)) (nomark _))
    (pss_cons (ps_set (i := 2) nd rfl (Or.inl rfl) (pe_callD T hr pass0 (pa_cons (pv 0) (pa_cons (pv 1) pa_nil))))
    (pss_cons (ps_if (pt_cmpR op_eq (pv 2) pe_int (nomark _)) (pss_one (ps_ret pe_bl)) pss_nil)
    (pss_one (ps_aug (i := 1) nd rfl (Or.inl rfl) (pv 2) ip_add))))) (pss_one (ps_ret pe_bl))), ?_⟩
  refine ⟨fun m σ H' => ∃ (i n : Nat) (v2 : Option V), m = src.length - i /\ σ = [some (.ref a), some (.int (i : Nat)), v2] /\ Same H H' /\ i <= src.length /\ src.length - i <= n /\ Sn77.isText src = Sn77.utf8 n (src.drop i),
    ⟨_, 0, src.length, none, rfl, rfl, Same.refl H, Nat.zero_le _, Nat.le_of_eq (Nat.sub_zero _), rfl⟩, ?_⟩
  rintro m σ H' ⟨i, n, v2, rfl, rfl, sm, hi, hn, ht⟩
  refine ⟨_, rfl, _, rfl, a, _, rfl, .inl (sm.seq hS), _, _, rfl, rfl, _, rfl, ?_⟩
  rw [List.length_map, dec_lt]
  refine ite2 (fun k1 => ?_) (fun k1 => ?_)
  · have k1 := of_decide_eq_true k1
    obtain ⟨c, t, hd⟩ : ∃ c t, src.drop i = c :: t := ⟨_, _, List.drop_eq_getElem_cons k1⟩
    obtain ⟨n', rfl⟩ : ∃ n', n = n' + 1 := ⟨n - 1, by omega⟩
    rw [hd, Mt.utf8_step] at ht
    have hle := Mt.chSize_le (c :: t)
    have hlen : (c :: t).length = src.length - i := by rw [← hd, List.length_drop]
    refine ⟨fun σ' H' => ∃ (i' n : Nat) (v2 : Option V), i < i' /\ σ' = [some (.ref a), some (.int (i' : Nat)), v2] /\ Same H H' /\ i' <= src.length /\ src.length - i' <= n /\ Sn77.isText src = Sn77.utf8 n (src.drop i'), ?_, ?_⟩
    · rintro σ' H2 ⟨i', n2, v3, h1, h2, h3, h4, h5, h6⟩
      exact ⟨src.length - i', by omega, i', n2, v3, rfl, h2, h3, h4, h5, h6⟩
    refine ⟨_, rfl, _, rfl, a, src, i, c, t, rfl, sm.seq hS, hl, hd, fun H3 s3 => ?_⟩
    refine ⟨_, rfl, rfl, _, rfl, ?_⟩
    generalize hb : decide (V.int ((Mt.chSize (c :: t) : Nat) : Int) = V.int 0) = b
    rcases Bool.eq_false_or_eq_true b with e | e
    · subst e
      refine iteT ?_
      have e : Mt.chSize (c :: t) = 0 := by
        have := V.int.inj (of_decide_eq_true hb)
        omega
      rw [if_pos e] at ht
      have := q H3 (sm.trans s3)
      rw [ht] at this
      exact this
    · subst e
      refine iteF ?_
      have e : ¬ Mt.chSize (c :: t) = 0 := fun z => of_decide_eq_false hb (by rw [z]; rfl)
      rw [if_neg e] at ht
      refine ⟨_, rfl, _, rfl, _, _, rfl, rfl, i + Mt.chSize (c :: t), n', _, by omega, rfl, sm.trans s3, by omega, by omega, ?_⟩
      rw [ht, ← hd, List.drop_drop]
  · have k1 : ¬ i < src.length := fun z => k1 (decide_eq_true z)
    have e : src.drop i = [] := List.drop_eq_nil_of_le (by omega)
    rw [e] at ht
    have e2 : Sn77.utf8 n [] = true := by cases n <;> rfl
    rw [e2] at ht
    have := q H' sm
    rw [ht] at this
    exact this
end
end Pw
set_option Elab.async false
set_option linter.all false
set_option maxRecDepth 100000
set_option maxHeartbeats 4000000
namespace Pw
open PySem PySem.Spec PyProof.Rows L2
theorem putF_putF (f : Str) (u v : V) : ∀ fs : List (Str × V), putF f v (putF f u fs) = putF f v fs
  | [] => by
    show (if f = f then [(f, v)] else _) = _
    rw [if_pos rfl]
    rfl
  | (g, x) :: r => by
    by_cases h : g = f
    · subst h
      show putF g v (if g = g then (g, u) :: r else _) = (if g = g then (g, v) :: r else _)
      rw [if_pos rfl, if_pos rfl]
      show (if g = g then (g, v) :: r else _) = _
      rw [if_pos rfl]
    · show putF f v (if g = f then _ else (g, x) :: putF f u r) = (if g = f then _ else (g, x) :: putF f v r)
      rw [if_neg h, if_neg h]
      show (if g = f then _ else (g, x) :: putF f v (putF f u r)) = _
      rw [if_neg h, putF_putF f u v r]
def rf (ta : Addr) (dp : Nat) (i : Int) : List (Str × V) := putF "place" (.int i) (putF "deepest" (.int (dp : Nat)) (putF "source" (.ref ta) []))
theorem rf_place (ta : Addr) {dp : Nat} (i : Int) : (rf ta dp i).lookup ("place" : Str) = some (.int i) := by
  unfold rf
  rw [lookup_putF, if_pos rfl]
theorem rf_source (ta : Addr) {dp : Nat} (i : Int) : (rf ta dp i).lookup ("source" : Str) = some (.ref ta) := by
  unfold rf
  rw [lookup_putF, if_neg (by decide +kernel), lookup_putF, if_neg (by decide +kernel), lookup_putF, if_pos rfl]
theorem rf_deepest (ta : Addr) {dp : Nat} (i : Int) : (rf ta dp i).lookup ("deepest" : Str) = some (.int (dp : Nat)) := by
  unfold rf
  rw [lookup_putF, if_neg (by decide +kernel), lookup_putF, if_pos rfl]
theorem rf_no (ta : Addr) {dp : Nat} (i : Int) {m : Str} (h1 : ¬ m = "place") (h2 : ¬ m = "source") (h3 : ¬ m = "deepest") : (rf ta dp i).lookup m = Option.none := by
  unfold rf
  rw [lookup_putF, if_neg h1, lookup_putF, if_neg h3, lookup_putF, if_neg h2]
  rfl
theorem rf_put (ta : Addr) {dp : Nat} (i j : Int) : putF "place" (.int j) (rf ta dp i) = rf ta dp j := putF_putF _ _ _ _
theorem rf_len (ta : Addr) {dp : Nat} (i : Int) : (rf ta dp i).length < 1000 := by
  have h1 := length_putF "place" (.int i) (putF "deepest" (.int (dp : Nat)) (putF "source" (.ref ta) []))
  have h4 := length_putF "deepest" (.int (dp : Nat)) (putF "source" (.ref ta) [])
  have h2 := length_putF "source" (.ref ta) []
  have h3 : ([] : List (Str × V)).length = 0 := rfl
  unfold rf
  omega
def Keep (r : Addr) (H H' : Hp) : Prop := ∀ b o, H b = some o -> b ≠ r -> H' b = some o
theorem Keep.refl (r : Addr) (H : Hp) : Keep r H H := fun _ _ h _ => h
theorem Keep.trans {r : Addr} {H H1 H2 : Hp} (a : Keep r H H1) (b : Keep r H1 H2) : Keep r H H2 := fun c o h n => b c o (a c o h n) n
theorem Keep.of {r : Addr} {H H' : Hp} (s : Same H H') : Keep r H H' := fun b o h _ => s b o h
theorem Keep.upd {r : Addr} {H : Hp} {o : HO} : Keep r H (upd H r o) := fun b u h n => by rw [upd_ne n]; exact h
def SrcAt (K : PySem.W.Frag) (H : Hp) (ta : Addr) (src : List Nat) : Prop := (∃ o, H ta = some (.frz o (.lst (bV src)))) ∨
  ∃ (o : Obj) (its : Array Value) (n : Nat), K.lookup ta = some o /\ o.cls = .type "list" /\ o.dict = Option.none /\ o.data = .seq its n /\ its.size <= sizeLine /\ Vals (bV src) its.toList
theorem SrcAt.sq {K : PySem.W.Frag} {H : Hp} {ta : Addr} {src : List Nat} (h : SrcAt K H ta src) : SqL K H ta (bV src) := by
  rcases h with ⟨o, h⟩ | h
  · exact .inl (.inr ⟨o, h⟩)
  · exact .inr h
theorem SrcAt.same {K : PySem.W.Frag} {H H' : Hp} {ta : Addr} {src : List Nat} (h : SrcAt K H ta src) (s : Same H H') : SrcAt K H' ta src := by
  rcases h with ⟨o, h⟩ | h
  · exact .inl ⟨o, s _ _ h⟩
  · exact .inr h
theorem SrcAt.keep {K : PySem.W.Frag} {H H' : Hp} {r ta C dx : Addr} {fs : List (Str × V)} {src : List Nat} (k : Keep r H H') (hr : H r = some (.ins C dx fs)) (h : SrcAt K H ta src) : SrcAt K H' ta src := by
  rcases h with ⟨o, h⟩ | h
  · exact .inl ⟨o, k _ _ h (ne_of h hr (by intro z; cases z))⟩
  · exact .inr h
structure Sc where
  b : List Nat
  dp : Nat
structure Rdr (K : PySem.W.Frag) (C : Addr) (src : Sc) (H : Hp) (r : Addr) (l : List Nat) : Prop where
  at_ : ∃ (ta dx : Addr) (i : Nat), H r = some (.ins C dx (rf ta src.dp (i : Nat))) /\ SrcAt K H ta src.b /\ src.b.drop i = l
structure Src (src : Sc) : Prop where
  len : src.b.length <= 65536
  byte : ∀ c ∈ src.b, c < 256
def hdN : List Nat -> Nat
  | [] => 256
  | c :: _ => c
theorem drop_hd {src l  : List Nat} {i : Nat} (h : src.drop i = l) : src.drop (i + 1) = l.tail := by
  rw [← h, List.tail_drop]
theorem Rdr.same {K : PySem.W.Frag} {C r : Addr} {src : Sc} {l : List Nat} {H H' : Hp} (R : Rdr K C src H r l) (s : Same H H') : Rdr K C src H' r l := by
  obtain ⟨ta, dx, i, h1, h2, h3⟩ := R.at_
  exact ⟨ta, dx, i, s _ _ h1, h2.same s, h3⟩
theorem Rdr.upd {K : PySem.W.Frag} {C r p : Addr} {src : Sc} {l : List Nat} {H : Hp} {o : HO} (R : Rdr K C src H r l) (hp : ∀ u, H p = some u -> (∀ C dx fs, u ≠ .ins C dx fs) /\ ∀ o x, u ≠ .frz o x) : Rdr K C src (upd H p o) r l := by
  obtain ⟨ta, dx, i, h1, h2, h3⟩ := R.at_
  have n1 : r ≠ p := fun z => (hp _ (z ▸ h1)).1 _ _ _ rfl
  refine ⟨ta, dx, i, by rw [upd_ne n1]; exact h1, ?_, h3⟩
  rcases h2 with ⟨o2, h2⟩ | h2
  · have n2 : ta ≠ p := fun z => (hp _ (z ▸ h2)).2 _ _ rfl
    exact .inl ⟨o2, by rw [upd_ne n2]; exact h2⟩
  · exact .inr h2
theorem Rdr.new {K : PySem.W.Frag} {C r p : Addr} {src : Sc} {l : List Nat} {H : Hp} {o : HO} (R : Rdr K C src H r l) (hp : H p = Option.none) : Rdr K C src (L2.upd H p o) r l := R.upd fun u e => by rw [hp] at e; cases e
theorem Rdr.lst {K : PySem.W.Frag} {C r p : Addr} {src : Sc} {l : List Nat} {H : Hp} {o : HO} {xs : List V} (R : Rdr K C src H r l) (hp : H p = some (.lst xs)) : Rdr K C src (L2.upd H p o) r l := R.upd fun u e => by
  rw [hp] at e
  cases e
  exact ⟨fun _ _ _ z => (by cases z), fun _ _ z => (by cases z)⟩
theorem Rdr.dict {K : PySem.W.Frag} {C r p : Addr} {src : Sc} {l : List Nat} {H : Hp} {o : HO} {xs : List (List Key × V)} (R : Rdr K C src H r l) (hp : H p = some (.dT xs)) : Rdr K C src (L2.upd H p o) r l := R.upd fun u e => by
  rw [hp] at e
  cases e
  exact ⟨fun _ _ _ z => (by cases z), fun _ _ z => (by cases z)⟩
theorem Keep.new {r p : Addr} {H H' : Hp} {o : HO} (k : Keep r H H') (hp : H p = Option.none) : Keep r H (L2.upd H' p o) := fun b u h n => by
  rw [upd_ne (ne_of_none h hp)]
  exact k b u h n
theorem Keep.fresh {r p : Addr} {H H' : Hp} (k : Keep r H H') {o : HO} (hr : H' r = some o) (hp : H' p = Option.none) : H p = Option.none := by
  cases e : H p with
  | none => rfl
  | some u =>
    have n : p ≠ r := fun z => by rw [z, hr] at hp; cases hp
    rw [k p u e n] at hp
    cases hp
theorem Rdr.fresh {K : PySem.W.Frag} {C r p : Addr} {src : Sc} {l : List Nat} {H H' : Hp} (R : Rdr K C src H' r l) (k : Keep r H H') (hp : H' p = Option.none) : H p = Option.none := by
  obtain ⟨ta, dx, i, h1, h2, h3⟩ := R.at_
  exact k.fresh h1 hp
structure Txt (K : PySem.W.Frag) (mg : Str -> Option Value) (C cN : Addr) : Prop where
  cl : Cls K C
  nS : NoAttr K C "source"
  nP : NoAttr K C "place"
  nD : NoAttr K C "deepest"
  mN : mg "NotDocument" = some (.ref cN)
  xN : xcIn K cN = true
  len : mg "len" = Option.none
  gEnd : Gv mg "END" (.int 256)
section
variable {P : Program} {w : World} {K : PySem.W.Frag} {mg : Str -> Option Value} {base : Heap} {f : Addr} {fd : FuncData} {C cN : Addr}
def spInit (C : Addr) : Sp := fun vs H Q _ => ∃ (p dx ta : Addr) (dp : Nat), vs = [.ref p, .ref ta, .int (dp : Nat)] /\ H p = some (.ins C dx []) /\ ∀ H' : Hp, (∃ dx', H' p = some (.ins C dx' (rf ta dp 0))) -> Keep p H H' -> Q .non H'
theorem sc_init : FnScope ["self", "source", "deepest"] ["self", "source", "deepest"] (defScope m_init_Reader) := ⟨rfl, rfl, rfl, by decide +kernel, rfl, by decide +kernel, by decide +kernel⟩
theorem ok_init (F : Fun K "__init__" "Reader.__init__" m_init_Reader f fd) (T : Txt K mg C cN) : FnOk P w K mg base CX0 1 f fd ["self", "source", "deepest"] (spInit C) := by
  refine F.ok sc_init (fun vs H Q E h => ?_) (fun cdv A outer s H vs Q E hr h => ?_)
  · obtain ⟨p, dx, ta, dp, rfl, _⟩ := h
    rfl
  obtain ⟨p, dx, ta, dp, rfl, hp, q⟩ := h
  refine ⟨_, pss_cons (ps_fld (pv 0) (pv 1) rfl) (pss_cons (ps_fld (pv 0) (pv 2) rfl) (pss_one (ps_fld (pv 0) pe_int rfl))), ?_⟩
  refine ⟨_, rfl, _, rfl, p, C, dx, [], rfl, hp, T.cl, T.nS, (by show 0 < 1000; decide), ?_⟩
  refine ⟨_, rfl, _, rfl, p, C, dx, _, rfl, upd_same, T.cl, T.nD, (by show 1 < 1000; decide), ?_⟩
  refine ⟨_, rfl, p, C, dx, _, rfl, upd_same, T.cl, T.nP, (by show 2 < 1000; decide), ?_⟩
  rw [upd_upd, upd_upd]
  exact q _ ⟨dx, upd_same⟩ Keep.upd
def spPeek (K : PySem.W.Frag) (C : Addr) : Sp := fun vs H Q _ => ∃ (r : Addr) (src : Sc) (l : List Nat), vs = [.ref r] /\ Src src /\ Rdr K C src H r l /\ Q (.int (hdN l : Nat)) H
theorem sc_peek : FnScope ["self"] ["self"] (defScope m_peek) := ⟨rfl, rfl, rfl, by decide +kernel, rfl, by decide +kernel, by decide +kernel⟩
theorem ok_peek (F : Fun K "peek" "Reader.peek" m_peek f fd) (T : Txt K mg C cN) : FnOk P w K mg base CX0 1 f fd ["self"] (spPeek K C) := by
  refine F.ok sc_peek (fun vs H Q E h => ?_) (fun cdv A outer s H vs Q E hr h => ?_)
  · obtain ⟨r, src, l, rfl, _⟩ := h
    rfl
  obtain ⟨r, src, l, rfl, hsrc, R, q⟩ := h
  obtain ⟨ta, dx, i, h1, h2, h3⟩ := R.at_
  refine ⟨_, pss_cons (ps_if (pt_cmpR op_lt (pe_fld (pv 0) rfl) (pe_callB call_len_seq rfl T.len PySem.boot_len (pa_cons (pe_fld (pv 0) rfl) pa_nil)) (nomark _)) (pss_one (ps_ret (pe_ix ix_list (pe_fld (pv 0) rfl) (pe_fld (pv 0) rfl) (fun _ _ => rfl)))) pss_nil) (pss_one (ps_ret (pe_g T.gEnd))), ?_⟩
  refine ⟨_, rfl, r, C, dx, _, _, rfl, h1, T.cl, T.nP, rf_place ta i, _, rfl, r, C, dx, _, _, rfl, h1, T.cl, T.nS, rf_source ta i, ta, _, rfl, .inl h2.sq, _, _, rfl, rfl, _, rfl, ?_⟩
  rw [List.length_map, dec_lt]
  refine ite2 (fun k1 => ?_) (fun k1 => ?_)
  · have k1 := of_decide_eq_true k1
    have e : l = src.b[i] :: src.b.drop (i + 1) := by rw [← h3]; exact List.drop_eq_getElem_cons k1
    rw [e] at q
    refine ⟨_, rfl, r, C, dx, _, _, rfl, h1, T.cl, T.nS, rf_source ta i, _, rfl, r, C, dx, _, _, rfl, h1, T.cl, T.nP, rf_place ta i, ta, _, _, _, rfl, rfl, h2.sq, atI_nat (j := i) (v := V.int (src.b[i] : Nat)) (by rw [List.getElem?_map, List.getElem?_eq_getElem k1]; rfl), q⟩
  · have k1 : ¬ i < src.b.length := fun z => k1 (decide_eq_true z)
    have e : l = [] := by rw [← h3]; exact List.drop_eq_nil_of_le (by omega)
    rw [e] at q
    exact q
def spTake (K : PySem.W.Frag) (C : Addr) : Sp := fun vs H Q _ => ∃ (r : Addr) (src : Sc) (l : List Nat), vs = [.ref r] /\ Src src /\ Rdr K C src H r l /\ ∀ H', Rdr K C src H' r l.tail -> Keep r H H' -> Q (.int (hdN l : Nat)) H'
theorem sc_take : FnScope ["self", "sign"] ["self"] (defScope m_take) := ⟨rfl, rfl, rfl, by decide +kernel, rfl, by decide +kernel, by decide +kernel⟩
theorem Rdr.next {r ta dx : Addr} {src : Sc} {l : List Nat} {i : Nat} {H : Hp} (h1 : H r = some (.ins C dx (rf ta src.dp (i : Nat)))) (h2 : SrcAt K H ta src.b) (h3 : src.b.drop i = l) : Rdr K C src (L2.upd H r (.ins C dx (putF "place" (.int ((i : Int) + 1)) (rf ta src.dp (i : Nat))))) r l.tail := by
  refine ⟨ta, dx, i + 1, ?_, SrcAt.keep (Keep.upd (r := r)) h1 h2, drop_hd h3⟩
  rw [upd_same, rf_put]
  rfl
theorem ok_take (F : Fun K "take" "Reader.take" m_take f fd) (T : Txt K mg C cN) (pk : MethOk P w K mg base CX0 1 C "peek" ["self"] (spPeek K C)) : FnOk P w K mg base CX0 2 f fd ["self"] (spTake K C) := by
  refine F.ok sc_take (fun vs H Q E h => ?_) (fun cdv A outer s H vs Q E hr h => ?_)
  · obtain ⟨r, src, l, rfl, _⟩ := h
    rfl
  obtain ⟨r, src, l, rfl, hsrc, R, q⟩ := h
  obtain ⟨ta, dx, i, h1, h2, h3⟩ := id R.at_
  refine ⟨_, pss_cons (ps_set (i := 1) sc_take.nd rfl (Or.inl rfl) (pe_methD0 (pv 0) T.cl pk hr pass0)) (pss_cons (ps_fldaug (pv 0) pe_int in_add) (pss_one (ps_ret (pv 1)))), ?_⟩
  refine ⟨_, rfl, r, dx, _, rfl, h1, rf_no ta _ (by decide +kernel) (by decide +kernel) (by decide +kernel), r, src, l, rfl, hsrc, R, ?_⟩
  refine ⟨_, rfl, r, C, dx, _, _, rfl, h1, T.cl, T.nP, rf_place ta i, _, _, rfl, rfl, dx, _, h1, rf_len ta i, ?_⟩
  exact ⟨_, rfl, q _ (Rdr.next h1 h2 h3) Keep.upd⟩
def spTakeIf (K : PySem.W.Frag) (C : Addr) : Sp := fun vs H Q _ => ∃ (r : Addr) (src : Sc) (l : List Nat) (c : Nat), vs = [.ref r, .int (c : Nat)] /\ Src src /\ Rdr K C src H r l /\ (hdN l ≠ c -> Q (.bl false) H) /\ (hdN l = c -> ∀ H', Rdr K C src H' r l.tail -> Keep r H H' -> Q (.bl true) H')
theorem sc_take_if : FnScope ["self", "wanted"] ["self", "wanted"] (defScope m_take_if) := ⟨rfl, rfl, rfl, by decide +kernel, rfl, by decide +kernel, by decide +kernel⟩
theorem ok_take_if (F : Fun K "take_if" "Reader.take_if" m_take_if f fd) (T : Txt K mg C cN) (pk : MethOk P w K mg base CX0 1 C "peek" ["self"] (spPeek K C)) : FnOk P w K mg base CX0 2 f fd ["self", "wanted"] (spTakeIf K C) := by
  refine F.ok sc_take_if (fun vs H Q E h => ?_) (fun cdv A outer s H vs Q E hr h => ?_)
  · obtain ⟨r, src, l, c, rfl, _⟩ := h
    rfl
  obtain ⟨r, src, l, c, rfl, hsrc, R, q1, q2⟩ := h
  obtain ⟨ta, dx, i, h1, h2, h3⟩ := id R.at_
  refine ⟨_, pss_cons (ps_if (pt_cmpR op_ne (pe_methD0 (pv 0) T.cl pk hr pass0) (pv 1) (nomark _)) (pss_one (ps_ret pe_bl)) pss_nil) (pss_cons (ps_fldaug (pv 0) pe_int in_add) (pss_one (ps_ret pe_bl))), ?_⟩
  refine ⟨_, rfl, r, dx, _, rfl, h1, rf_no ta _ (by decide +kernel) (by decide +kernel) (by decide +kernel), r, src, l, rfl, hsrc, R, _, rfl, rfl, _, rfl, ?_⟩
  refine ite2 (fun k => ?_) (fun k => ?_)
  · refine q1 fun z => ?_
    rw [z] at k
    simp at k
  · have e : hdN l = c := by
      by_cases z : hdN l = c
      · exact z
      · exfalso
        refine k ?_
        rw [decide_eq_false (fun y => z (by have := V.int.inj y; omega))]
        rfl
    refine ⟨_, rfl, r, C, dx, _, _, rfl, h1, T.cl, T.nP, rf_place ta i, _, _, rfl, rfl, dx, _, h1, rf_len ta i, ?_⟩
    exact q2 e _ (Rdr.next h1 h2 h3) Keep.upd
def spExpect (K : PySem.W.Frag) (C cN : Addr) : Sp := fun vs H Q E => ∃ (r : Addr) (src : Sc) (l : List Nat) (c : Nat), vs = [.ref r, .int (c : Nat)] /\ Src src /\ Rdr K C src H r l /\ (hdN l ≠ c -> ∀ H', E (.ref cN) Option.none H') /\ (hdN l = c -> ∀ H', Rdr K C src H' r l.tail -> Keep r H H' -> Q .non H')
theorem sc_expect : FnScope ["self", "wanted"] ["self", "wanted"] (defScope m_expect) := ⟨rfl, rfl, rfl, by decide +kernel, rfl, by decide +kernel, by decide +kernel⟩
theorem ok_expect (F : Fun K "expect" "Reader.expect" m_expect f fd) (T : Txt K mg C cN) (tk : MethOk P w K mg base CX0 2 C "take" ["self"] (spTake K C)) : FnOk P w K mg base (CXe P w) 3 f fd ["self", "wanted"] (spExpect K C cN) := by
  refine F.okX sc_expect (fun vs H Q E h => ?_) (fun cdv A outer s H vs Q E hr h => ?_)
  · obtain ⟨r, src, l, c, rfl, _⟩ := h
    rfl
  obtain ⟨r, src, l, c, rfl, hsrc, R, q1, q2⟩ := h
  obtain ⟨ta, dx, i, h1, h2, h3⟩ := id R.at_
  refine ⟨_, pss_one (ps_if (pt_cmpR op_ne (pe_methD0 (pv 0) T.cl tk hr pass0) (pv 1) (nomark _)) (pss_one (ps_raise rfl rfl T.mN T.xN raises_cx)) pss_nil), ?_⟩
  refine ⟨_, rfl, r, dx, _, rfl, h1, rf_no ta _ (by decide +kernel) (by decide +kernel) (by decide +kernel), r, src, l, rfl, hsrc, R, fun H1 R1 k1 => ?_⟩
  refine ⟨_, rfl, rfl, _, rfl, ?_⟩
  refine ite2 (fun k => ?_) (fun k => ?_)
  · refine q1 (fun z => ?_) _
    rw [z] at k
    simp at k
  · have e : hdN l = c := by
      by_cases z : hdN l = c
      · exact z
      · exfalso
        refine k ?_
        rw [decide_eq_false (fun y => z (by have := V.int.inj y; omega))]
        rfl
    exact q2 e _ R1 k1
abbrev blanksV : List V := [.int 32, .int 9, .int 10, .int 13]
def spSkip (K : PySem.W.Frag) (C : Addr) : Sp := fun vs H Q _ => ∃ (r : Addr) (src : Sc) (l : List Nat), vs = [.ref r] /\ Src src /\ Rdr K C src H r l /\ ∀ H', Rdr K C src H' r (Sn77.skip l) -> Keep r H H' -> Q .non H'
theorem sc_skip_blanks : FnScope ["self"] ["self"] (defScope m_skip_blanks) := ⟨rfl, rfl, rfl, by decide +kernel, rfl, by decide +kernel, by decide +kernel⟩
theorem in_blanks (c : Nat) : inV (.int (c : Nat)) blanksV = Sn77.blank c := by
  have e : ∀ k : Nat, eqV (.int (k : Nat)) (.int (c : Nat)) = (c == k) := fun k => by
    show decide ((k : Int) = (c : Int)) = _
    by_cases h : c = k
    · subst h
      simp
    · rw [decide_eq_false (by omega), beq_eq_false_iff_ne.mpr h]
  show (eqV (.int ((32 : Nat) : Int)) (.int (c : Nat)) || (eqV (.int ((9 : Nat) : Int)) (.int (c : Nat)) || (eqV (.int ((10 : Nat) : Int)) (.int (c : Nat)) || (eqV (.int ((13 : Nat) : Int)) (.int (c : Nat)) || false)))) = _
  rw [e, e, e, e, Bool.or_false]
  rfl
theorem Rdr.len {r : Addr} {src : Sc} {l : List Nat} {H : Hp} (R : Rdr K C src H r l) : l.length <= src.b.length := by
  obtain ⟨_, _, i, _, _, h⟩ := R.at_
  rw [← h, List.length_drop]
  omega
theorem ok_skip_blanks (F : Fun K "skip_blanks" "Reader.skip_blanks" m_skip_blanks f fd) (T : Txt K mg C cN) (gB : ∃ aB, mg "BLANKS" = some (.ref aB) /\ TupIn K aB blanksV) (pk : MethOk P w K mg base CX0 1 C "peek" ["self"] (spPeek K C)) : FnOk P w K mg base CX0 2 f fd ["self"] (spSkip K C) := by
  refine F.ok sc_skip_blanks (fun vs H Q E h => ?_) (fun cdv A outer s H vs Q E hr h => ?_)
  · obtain ⟨r, src, l, rfl, _⟩ := h
    rfl
  obtain ⟨r, src, l, rfl, hsrc, R, q⟩ := h
  obtain ⟨aB, mB, tB⟩ := gB
  have gv : Gv mg "BLANKS" (.ref aB) := ⟨_, mB, rfl⟩
  refine ⟨_, pss_one (ps_while PassesOwn.never (pt_cmpR op_in_seq (pe_methD0 (pv 0) T.cl pk hr pass0) (pe_g gv) (by with_unfolding_all rfl)) (pss_one (ps_fldaug (pv 0) pe_int in_add))), ?_⟩
  refine ⟨fun m σ H' => ∃ l' : List Nat, m = l'.length /\ σ = [some (.ref r)] /\ Rdr K C src H' r l' /\ Keep r H H' /\ Sn77.skip l' = Sn77.skip l, ⟨_, l, rfl, rfl, R, Keep.refl r H, rfl⟩, ?_⟩
  rintro m σ H' ⟨l', rfl, rfl, R', k', hs⟩
  obtain ⟨ta, dx, i, h1, h2, h3⟩ := id R'.at_
  refine ⟨_, rfl, r, dx, _, rfl, h1, rf_no ta _ (by decide +kernel) (by decide +kernel) (by decide +kernel), r, src, l', rfl, hsrc, R', ?_⟩
  refine ⟨aB, blanksV, rfl, .inr tB.sq, rfl, rfl, _, rfl, ?_⟩
  show if inV (.int (hdN l' : Nat)) blanksV = true then _ else _
  rw [in_blanks]
  cases l' with
  | nil =>
    refine iteF ?_
    exact q H' (by rw [← hs]; exact R') k'
  | cons c t =>
    show if Sn77.blank c = true then _ else _
    refine ite2 (fun k => ?_) (fun k => ?_)
    · refine ⟨fun σ' H2 => ∃ l2 : List Nat, l2.length < (c :: t).length /\ σ' = [some (.ref r)] /\ Rdr K C src H2 r l2 /\ Keep r H H2 /\ Sn77.skip l2 = Sn77.skip l, fun σ' H2 ⟨l2, a1, a2, a3, a4, a5⟩ => ⟨_, a1, l2, rfl, a2, a3, a4, a5⟩, ?_⟩
      refine ⟨_, rfl, r, C, dx, _, _, rfl, h1, T.cl, T.nP, rf_place ta i, _, _, rfl, rfl, dx, _, h1, rf_len ta i, ?_⟩
      refine ⟨t, Nat.lt_succ_self _, rfl, Rdr.next h1 h2 h3, k'.trans Keep.upd, ?_⟩
      rw [← hs]
      unfold Sn77.skip
      rw [List.dropWhile_cons, if_pos k]
    · refine q H' ?_ k'
      have e : Sn77.skip (c :: t) = c :: t := by
        unfold Sn77.skip
        rw [List.dropWhile_cons, if_neg k]
      rw [← hs, e]
      exact R'
end
end Pw
set_option Elab.async false
set_option linter.all false
set_option maxRecDepth 100000
set_option maxHeartbeats 4000000
namespace Pw
open PySem PySem.Spec PyProof.Rows L2
section
variable {P : Program} {w : World} {K : PySem.W.Frag} {mg : Str -> Option Value} {base : Heap} {f : Addr} {fd : FuncData} {C cN r : Addr} {src : Sc} {l : List Nat} {H : Hp}
theorem Rdr.m {m : Str} {sp : Sp} {E : XK} {t : TA} {σ : L2.St} {Q : VK} (R : Rdr K C src H r l) (hs : σ[0]? = some (some (.ref r))) (n1 : ¬ m = "place") (n2 : ¬ m = "source") (n3 : ¬ m = "deepest") (h : t σ H fun vs H2 => sp (.ref r :: (vs ++ [])) H2 Q E) : tMeth C m sp [] E (tVar 0) t σ H Q := by
  obtain ⟨ta, dx, i, h1, h2, h3⟩ := R.at_
  exact ⟨_, hs, r, dx, _, rfl, h1, rf_no ta _ n1 n2 n3, h⟩
def spEnter (K : PySem.W.Frag) (C cN : Addr) : Sp := fun vs H Q E => ∃ (r : Addr) (src : Sc) (l : List Nat) (c dp : Nat), vs = [.ref r, .int (c : Nat), .int (dp : Nat)] /\ Src src /\ Rdr K C src H r l /\
  (hdN l ≠ c ∨ src.dp < dp -> ∀ H', E (.ref cN) Option.none H') /\ (hdN l = c -> dp <= src.dp -> ∀ H', Rdr K C src H' r (Sn77.skip l.tail) -> Keep r H H' -> Q .non H')
theorem sc_enter : FnScope ["self", "opening", "depth"] ["self", "opening", "depth"] (defScope m_enter) := ⟨rfl, rfl, rfl, by decide +kernel, rfl, by decide +kernel, by decide +kernel⟩
theorem ok_enter (F : Fun K "enter" "Reader.enter" m_enter f fd) (T : Txt K mg C cN) (ex : MethOk P w K mg base (CXe P w) 3 C "expect" ["self", "wanted"] (spExpect K C cN)) (sk : MethOk P w K mg base CX0 2 C "skip_blanks" ["self"] (spSkip K C)) :
    FnOk P w K mg base (CXe P w) 4 f fd ["self", "opening", "depth"] (spEnter K C cN) := by
  refine F.okX sc_enter (fun vs H Q E h => ?_) (fun cdv A outer s H vs Q E hr h => ?_)
  · obtain ⟨r, src, l, c, dp, rfl, _⟩ := h
    rfl
  obtain ⟨r, src, l, c, dp, rfl, hsrc, R, q1, q2⟩ := h
  refine ⟨_, pss_cons (ps_if (pt_cmpR op_gt (pv 2) (pe_fld (pv 0) rfl) (nomark _)) (pss_one (ps_raise rfl rfl T.mN T.xN raises_cx)) pss_nil) (pss_cons (ps_expr (pe_methD (pv 0) T.cl ex hr pass_cx (pa_cons (pv 1) pa_nil))) (pss_one (ps_expr (pe_methD0 (pv 0) T.cl sk hr pass0)))), ?_⟩
  obtain ⟨ta, dx, i, h1, h2, h3⟩ := id R.at_
  refine ⟨_, rfl, _, rfl, r, C, dx, _, _, rfl, h1, T.cl, T.nD, rf_deepest ta i, _, _, rfl, rfl, _, rfl, ?_⟩
  refine ite2 (fun k => ?_) (fun k => ?_)
  · have k : (src.dp : Int) < (dp : Int) := of_decide_eq_true k
    exact q1 (.inr (by omega)) _
  have k : ¬ (src.dp : Int) < (dp : Int) := of_decide_eq_false (Bool.eq_false_iff.mpr k)
  refine R.m rfl (by decide +kernel) (by decide +kernel) (by decide +kernel) ?_
  refine ⟨_, rfl, r, src, l, c, rfl, hsrc, R, fun z => q1 (.inl z), fun z H1 R1 k1 => ?_⟩
  refine R1.m rfl (by decide +kernel) (by decide +kernel) (by decide +kernel) ?_
  exact ⟨r, src, l.tail, rfl, hsrc, R1, fun H2 R2 k2 => q2 z (by omega) H2 R2 (k1.trans k2)⟩
def spHex4 (K : PySem.W.Frag) (C cN : Addr) : Sp := fun vs H Q E => ∃ (r : Addr) (src : Sc) (l : List Nat), vs = [.ref r] /\ Src src /\ Rdr K C src H r l /\
  (∀ n, Sn77.hexes (l.take 4) = some n -> ∀ H', Rdr K C src H' r (l.drop 4) -> Keep r H H' -> Q (.int (n : Nat)) H') /\ (Sn77.hexes (l.take 4) = Option.none -> ∀ H', E (.ref cN) Option.none H')
theorem sc_read_four_digits : FnScope ["self", "number", "count"] ["self"] (defScope m_read_four_digits) := ⟨rfl, rfl, rfl, by decide +kernel, rfl, by decide +kernel, by decide +kernel⟩
theorem ok_read_four_digits (F : Fun K "read_four_digits" "Reader.read_four_digits" m_read_four_digits f fd) (T : Txt K mg C cN) (mr : mg "range" = Option.none) (tk : MethOk P w K mg base CX0 2 C "take" ["self"] (spTake K C))
    (hx : DefOk P w K mg base (CXe P w) 2 "digit_of_sixteen" ["sign"] (spHex cN)) : FnOk P w K mg base (CXe P w) 3 f fd ["self"] (spHex4 K C cN) := by
  refine F.okX sc_read_four_digits (fun vs H Q E h => ?_) (fun cdv A outer s H vs Q E hr h => ?_)
  · obtain ⟨r, src, l, rfl, _⟩ := h
    rfl
  obtain ⟨r, src, l, rfl, hsrc, R, q, qe⟩ := h
  have nd := sc_read_four_digits.nd
  refine ⟨_, pss_cons (ps_set (i := 1) nd rfl (Or.inl rfl) pe_int) (pss_cons (ps_for PassesOwn.leaving rfl (pi_range1 rfl mr (pa_cons pe_int pa_nil)) (pg_name (i := 2) nd rfl (Or.inl rfl))
    (pss_one (ps_set (i := 1) nd rfl (Or.inl rfl) (pe_op op_add (pe_op op_mul (pv 1) pe_int) (pe_callD hx hr pass_cx (pa_cons (pe_methD0 (pv 0) T.cl tk hr pass0) pa_nil)))))) (pss_one (ps_ret (pv 1)))), ?_⟩
  refine ⟨4, rfl, by decide, by decide, for_range (n := 4) (fun j σ H' => ∃ (n : Nat) (v2 : Option V), σ = [some (.ref r), some (.int (n : Nat)), v2] /\ j <= l.length /\ Mt.hexF (l.take j) = some n /\ Rdr K C src H' r (l.drop j) /\ Keep r H H')
    ⟨0, none, rfl, Nat.zero_le _, rfl, R, Keep.refl r H⟩ ?_ ?_⟩
  · rintro j σ H' hj ⟨n, v2, rfl, hjl, hn, R', k'⟩
    refine ⟨_, rfl, _, _, rfl, rfl, .inr ⟨by decide, by decide⟩, ?_⟩
    refine R'.m rfl (by decide +kernel) (by decide +kernel) (by decide +kernel) ?_
    refine ⟨r, src, _, rfl, hsrc, R', fun H1 R1 k1 => ?_⟩
    refine ⟨hdN (l.drop j), rfl, fun y hy => ?_, fun hy => ?_⟩
    · cases e : l.drop j with
      | nil =>
        rw [e] at hy
        have z : Sn77.hex (hdN []) = Option.none := rfl
        rw [z] at hy
        cases hy
      | cons c t =>
        rw [e] at hy R1
        have hlt : j < l.length := by
          have := congrArg List.length e
          rw [List.length_drop, List.length_cons] at this
          omega
        have hc : l[j]? = some c := by
          have := congrArg (·[0]?) e
          simp only [List.getElem?_drop, Nat.add_zero] at this
          rw [this]
          rfl
        refine ⟨_, _, rfl, rfl, 16 * n + y, some (.int (0 + (j : Int))), ?_, hlt, ?_, ?_, k'.trans k1⟩
        · have e2 : ((n : Int) * 16 + (y : Int)) = ((16 * n + y : Nat) : Int) := by omega
          rw [← e2]
          rfl
        · rw [take_snoc hc, Mt.hexF_snoc, hn]
          show (Sn77.hex c).map (fun z => 16 * n + z) = _
          rw [show Sn77.hex c = some y from hy]
          rfl
        · rw [show l.drop (j + 1) = t by rw [← List.drop_drop, e]; rfl]
          exact R1
    · refine qe ?_ _
      rw [Mt.hexes_eq]
      split
      · rfl
      · rename_i z
        have hlen : (l.take 4).length = 4 := by omega
        rw [List.length_take] at hlen
        cases e : l.drop j with
        | nil =>
          have := congrArg List.length e
          rw [List.length_drop, List.length_nil] at this
          omega
        | cons c t =>
          rw [e] at hy
          have hc : l[j]? = some c := by
            have := congrArg (·[0]?) e
            simp only [List.getElem?_drop, Nat.add_zero] at this
            rw [this]
            rfl
          have e4 : l.take 4 = l.take (j + 1) ++ (l.take 4).drop (j + 1) := by
            have := List.take_append_drop (j + 1) (l.take 4)
            rw [List.take_take, Nat.min_eq_left (by omega)] at this
            exact this.symm
          rw [e4]
          refine Mt.hexF_none ?_
          rw [take_snoc hc, Mt.hexF_snoc, hn]
          show (Sn77.hex c).map (fun z => 16 * n + z) = _
          rw [show Sn77.hex c = Option.none from hy]
          rfl
  · rintro σ H' ⟨n, v2, rfl, hjl, hn, R', k'⟩
    refine ⟨_, rfl, q n ?_ H' R' k'⟩
    rw [Mt.hexes_eq, if_neg (by rw [List.length_take]; omega)]
    exact hn
def spChar (K : PySem.W.Frag) (C cN : Addr) : Sp := fun vs H Q E => ∃ (r : Addr) (src : Sc) (l : List Nat), vs = [.ref r] /\ Src src /\ Rdr K C src H r l /\
  (∀ n l', Mt.charOf l = some (n, l') -> ∀ H', Rdr K C src H' r l' -> Keep r H H' -> Q (.int (n : Nat)) H') /\ (Mt.charOf l = Option.none -> ∀ H', E (.ref cN) Option.none H')
theorem sc_read_character : FnScope ["self", "first", "second"] ["self"] (defScope m_read_character) := ⟨rfl, rfl, rfl, by decide +kernel, rfl, by decide +kernel, by decide +kernel⟩
theorem hdN_of {l : List Nat} {c : Nat} (h : hdN l = c) (hc : c < 256) : l = c :: l.tail := by
  cases l with
  | nil => exact absurd h (by show ¬ 256 = c; omega)
  | cons a t =>
    have : a = c := h
    rw [this]
    rfl
theorem ok_read_character (F : Fun K "read_character" "Reader.read_character" m_read_character f fd) (T : Txt K mg C cN) (gB : Gv mg "BACKSLASH" (.int 92)) (gU : Gv mg "SMALL_U" (.int 117)) (h4 : MethOk P w K mg base (CXe P w) 3 C "read_four_digits" ["self"] (spHex4 K C cN))
    (ex : MethOk P w K mg base (CXe P w) 3 C "expect" ["self", "wanted"] (spExpect K C cN)) (f1 : DefOk P w K mg base CX0 1 "is_first_half" ["number"] (spBetween 55296 56319)) (f2 : DefOk P w K mg base CX0 1 "is_second_half" ["number"] (spBetween 56320 57343)) :
    FnOk P w K mg base (CXe P w) 4 f fd ["self"] (spChar K C cN) := by
  refine F.okX sc_read_character (fun vs H Q E h => ?_) (fun cdv A outer s H vs Q E hr h => ?_)
  · obtain ⟨r, src, l, rfl, _⟩ := h
    rfl
  obtain ⟨r, src, l, rfl, hsrc, R, q, qe⟩ := h
  have nd := sc_read_character.nd
  refine ⟨_, pss_cons (ps_set (i := 1) nd rfl (Or.inl rfl) (pe_methD0 (pv 0) T.cl h4 hr pass_cx))
    (pss_cons (ps_if (pt_val (pe_callD f2 hr pass0 (pa_cons (pv 1) pa_nil))) (pss_one (ps_raise rfl rfl T.mN T.xN raises_cx)) pss_nil)
    (pss_cons (ps_if (pt_not (pt_val (pe_callD f1 hr pass0 (pa_cons (pv 1) pa_nil)))) (pss_one (ps_ret (pv 1))) pss_nil)
    (pss_cons (ps_expr (pe_methD (pv 0) T.cl ex hr pass_cx (pa_cons (pe_g gB) pa_nil)))
    (pss_cons (ps_expr (pe_methD (pv 0) T.cl ex hr pass_cx (pa_cons (pe_g gU) pa_nil)))
    (pss_cons (ps_set (i := 2) nd rfl (Or.inl rfl) (pe_methD0 (pv 0) T.cl h4 hr pass_cx))
    (pss_cons (ps_if (pt_not (pt_val (pe_callD f2 hr pass0 (pa_cons (pv 2) pa_nil)))) (pss_one (ps_raise rfl rfl T.mN T.xN raises_cx)) pss_nil)
    (pss_one (ps_ret (pe_op op_add (pe_op op_add pe_int (pe_op op_mul (pe_op op_sub (pv 1) pe_int) pe_int)) (pe_op op_sub (pv 2) pe_int)))))))))), ?_⟩
  unfold Mt.charOf at q qe
  refine R.m rfl (by decide +kernel) (by decide +kernel) (by decide +kernel) ?_
  refine ⟨r, src, l, rfl, hsrc, R, fun a ha H1 R1 k1 => ?_, fun hn => qe (by rw [hn]; rfl)⟩
  rw [ha] at q qe
  simp only [Option.bind_some] at q qe
  refine ⟨_, rfl, _, rfl, _, rfl, ?_⟩
  refine ite2 (fun z => ?_) (fun z => ?_)
  · simp only [Bool.and_eq_true, decide_eq_true_eq] at z
    exact qe (if_pos (by omega)) _
  have z1 : ¬ (0xDC00 <= a /\ a < 0xE000) := by
    intro y
    refine z ?_
    simp only [Bool.and_eq_true, decide_eq_true_eq]
    omega
  rw [if_neg z1] at qe
  simp only [if_neg z1] at q
  refine ⟨_, rfl, _, rfl, _, rfl, ?_⟩
  refine ite2 (fun z => ?_) (fun z => ?_)
  · have z2 : ¬ (0xD800 <= a /\ a < 0xDC00) := by
      intro y
      simp only [Bool.not_eq_true', Bool.and_eq_false_iff, decide_eq_false_iff_not] at z
      omega
    exact ⟨_, rfl, q a (l.drop 4) (if_neg z2) H1 R1 k1⟩
  have z2 : 0xD800 <= a /\ a < 0xDC00 := by
    have : (decide ((55296 : Int) <= (a : Int)) && decide ((a : Int) <= 56319)) = true := by
      cases e : (decide ((55296 : Int) <= (a : Int)) && decide ((a : Int) <= 56319)) with
      | true => rfl
      | false => exact absurd (by rw [e]; rfl) z
    simp only [Bool.and_eq_true, decide_eq_true_eq] at this
    omega
  rw [if_pos z2] at qe
  simp only [if_pos z2] at q
  refine R1.m rfl (by decide +kernel) (by decide +kernel) (by decide +kernel) ?_
  refine ⟨r, src, l.drop 4, 92, rfl, hsrc, R1, fun y => qe (if_neg (fun x => y (by cases e : l.drop 4 with | nil => rw [e] at x; cases x | cons c t => rw [e] at x; exact (List.cons.inj x).1))), fun y H2 R2 k2 => ?_⟩
  have e1 := hdN_of y (by decide)
  refine R2.m rfl (by decide +kernel) (by decide +kernel) (by decide +kernel) ?_
  refine ⟨r, src, (l.drop 4).tail, 117, rfl, hsrc, R2, fun y2 => qe (if_neg (fun x => y2 (by
    rw [e1] at x
    cases e : (l.drop 4).tail with
    | nil => rw [e] at x; cases x
    | cons c t =>
      rw [e] at x
      exact (List.cons.inj (List.cons.inj x).2).1))), fun y2 H3 R3 k3 => ?_⟩
  have e2 := hdN_of y2 (by decide)
  have e3 : (l.drop 4).take 2 = [92, 117] := by
    rw [e1, e2]
    rfl
  have e4 : (l.drop 4).tail.tail = (l.drop 4).drop 2 := by
    rw [← List.drop_one, ← List.drop_one, List.drop_drop]
  rw [if_pos e3] at qe
  simp only [if_pos e3] at q
  refine R3.m rfl (by decide +kernel) (by decide +kernel) (by decide +kernel) ?_
  rw [e4] at R3
  refine ⟨r, src, (l.drop 4).drop 2, rfl, hsrc, R3, fun b hb H4 R4 k4 => ?_, fun hn => qe (by rw [hn]; rfl)⟩
  rw [hb] at q qe
  simp only [Option.bind_some] at q qe
  refine ⟨_, rfl, _, rfl, _, rfl, ?_⟩
  refine ite2 (fun z => ?_) (fun z => ?_)
  · have z4 : ¬ (0xDC00 <= b /\ b < 0xE000) := by
      intro y
      simp only [Bool.not_eq_true', Bool.and_eq_false_iff, decide_eq_false_iff_not] at z
      omega
    exact qe (if_neg z4) _
  have z4 : 0xDC00 <= b /\ b < 0xE000 := by
    have : (decide ((56320 : Int) <= (b : Int)) && decide ((b : Int) <= 57343)) = true := by
      cases e : (decide ((56320 : Int) <= (b : Int)) && decide ((b : Int) <= 57343)) with
      | true => rfl
      | false => exact absurd (by rw [e]; rfl) z
    simp only [Bool.and_eq_true, decide_eq_true_eq] at this
    omega
  have e5 : ((l.drop 4).drop 2).drop 4 = (l.drop 4).drop 6 := by rw [List.drop_drop]
  rw [e5] at R4
  have fin := q _ _ (if_pos z4) H4 R4 (((k1.trans k2).trans k3).trans k4)
  refine ⟨_, rfl, _, _, rfl, rfl, _, _, rfl, rfl, .inr ⟨by decide, by decide⟩, _, _, rfl, rfl, _, rfl, _, _, rfl, rfl, _, _, rfl, rfl, ?_⟩
  have e6 : (65536 + ((a : Int) - 55296) * 1024 + ((b : Int) - 56320)) = ((0x10000 + (a - 0xD800) * 1024 + (b - 0xDC00) : Nat) : Int) := by omega
  show Q (.int (65536 + ((a : Int) - 55296) * 1024 + ((b : Int) - 56320))) H4
  rw [e6]
  exact fin
end
end Pw
set_option Elab.async false
set_option linter.all false
set_option maxRecDepth 100000
set_option maxHeartbeats 4000000
namespace Pw
open PySem PySem.Spec PyProof.Rows L2
def escR : List (Key × V) := [(.inl ((34 : Nat) : Int), .int ((34 : Nat) : Int)), (.inl ((92 : Nat) : Int), .int ((92 : Nat) : Int)), (.inl ((47 : Nat) : Int), .int ((47 : Nat) : Int)), (.inl ((98 : Nat) : Int), .int ((8 : Nat) : Int)), (.inl ((102 : Nat) : Int), .int ((12 : Nat) : Int)), (.inl ((110 : Nat) : Int), .int ((10 : Nat) : Int)), (.inl ((114 : Nat) : Int), .int ((13 : Nat) : Int)), (.inl ((116 : Nat) : Int), .int ((9 : Nat) : Int))]
theorem valV_at {a c : Nat} {v : V} {r : List (Key × V)} : valV ((Sum.inl (a : Int), v) :: r) (Sum.inl (c : Int)) = if c = a then some v else valV r (Sum.inl (c : Int)) := by
  by_cases h : c = a
  · subst h
    rw [if_pos rfl]
    exact valV_pos rfl
  · rw [if_neg h]
    exact valV_neg fun z => h (by have := Sum.inl.inj z; omega)
theorem valV_escR (c : Nat) : valV escR (Sum.inl (c : Int)) = (Sn77.simple c).map fun d => V.int (d : Nat) := by
  unfold escR Sn77.simple
  rw [valV_at, valV_at, valV_at, valV_at, valV_at, valV_at, valV_at, valV_at, valV_nil]
  by_cases h1 : c = 34
  · subst h1; rfl
  by_cases h2 : c = 92
  · subst h2; rfl
  by_cases h3 : c = 47
  · subst h3; rfl
  rw [if_neg h1, if_neg h2, if_neg h3, if_neg (show ¬ (c = 34 ∨ c = 92 ∨ c = 47) by omega)]
  by_cases h4 : c = 98
  · subst h4; rfl
  rw [if_neg h4, if_neg h4]
  by_cases h5 : c = 102
  · subst h5; rfl
  rw [if_neg h5, if_neg h5]
  by_cases h6 : c = 110
  · subst h6; rfl
  rw [if_neg h6, if_neg h6]
  by_cases h7 : c = 114
  · subst h7; rfl
  rw [if_neg h7, if_neg h7]
  by_cases h8 : c = 116
  · subst h8; rfl
  rw [if_neg h8, if_neg h8]
  rfl
theorem bV_app (a b : List Nat) : bV (a ++ b) = bV a ++ bV b := List.map_append
theorem decV (a b : Nat) : decide (V.int (a : Nat) = V.int (b : Nat)) = decide (a = b) := by
  by_cases h : a = b
  · rw [decide_eq_true h, decide_eq_true (by rw [h])]
  · rw [decide_eq_false h, decide_eq_false (fun z => h (by have := V.int.inj z; omega))]
section
variable {P : Program} {w : World} {K : PySem.W.Frag} {mg : Str -> Option Value} {base : Heap} {f : Addr} {fd : FuncData} {C cN r : Addr} {src : Sc} {l : List Nat} {H : Hp}
def spEsc (K : PySem.W.Frag) (C cN : Addr) : Sp := fun vs H Q E => ∃ (r : Addr) (src : Sc) (l : List Nat), vs = [.ref r] /\ Src src /\ Rdr K C src H r l /\
  (∀ b l', Mt.esc l = some (b, l') -> ∀ H' p, Rdr K C src H' r l' -> Keep r H H' -> H p = Option.none -> H' p = some (.lst (bV b)) -> Q (.ref p) H') /\ (Mt.esc l = Option.none -> ∀ H', E (.ref cN) Option.none H')
theorem sc_read_escaped : FnScope ["self", "sign"] ["self"] (defScope m_read_escaped) := ⟨rfl, rfl, rfl, by decide +kernel, rfl, by decide +kernel, by decide +kernel⟩
theorem head_iff {l : List Nat} {c : Nat} (hc : c < 256) : l.head? = some c ↔ hdN l = c := by
  cases l with
  | nil => exact ⟨fun z => (by cases z), fun z => absurd z (by show ¬ 256 = c; omega)⟩
  | cons a t => exact ⟨fun z => Option.some.inj z, fun z => by rw [show a = c from z]; rfl⟩
theorem ok_read_escaped {aE : Addr} (F : Fun K "read_escaped" "Reader.read_escaped" m_read_escaped f fd) (T : Txt K mg C cN) (gU : Gv mg "SMALL_U" (.int 117)) (mE : mg nm_ESC = some (.ref aE)) (dE : ModD P w K aE escR)
    (tk : MethOk P w K mg base CX0 2 C "take" ["self"] (spTake K C)) (ch : MethOk P w K mg base (CXe P w) 4 C "read_character" ["self"] (spChar K C cN)) (cb : DefOk P w K mg base CX0 2 "character_bytes" ["number"] spCharBytes) :
    FnOk P w K mg base (CXe P w) 5 f fd ["self"] (spEsc K C cN) := by
  refine F.okX sc_read_escaped (fun vs H Q E h => ?_) (fun cdv A outer s H vs Q E hr h => ?_)
  · obtain ⟨r, src, l, rfl, _⟩ := h
    rfl
  obtain ⟨r, src, l, rfl, hsrc, R, q, qe⟩ := h
  have nd := sc_read_escaped.nd
  have gE : Gv mg nm_ESC (.ref aE) := ⟨_, mE, rfl⟩
  refine ⟨_, pss_cons (ps_set (i := 1) nd rfl (Or.inl rfl) (pe_methD0 (pv 0) T.cl tk hr pass0))
    (pss_cons (ps_if (pt_cmpR op_eq (pv 1) (pe_g gU) (nomark _)) (pss_one (ps_ret (pe_callD cb hr pass0 (pa_cons (pe_methD0 (pv 0) T.cl ch hr pass_cx) pa_nil)))) pss_nil)
    (pss_cons (ps_if (pt_cmp (pc_mnotin dE (pv 1) (pe_g gE)) (by with_unfolding_all rfl)) (pss_one (ps_raise rfl rfl T.mN T.xN raises_cx)) pss_nil)
    (pss_one (ps_ret (pe_lst (pa_cons (pe_mget dE (pe_g gE) (pv 1) (fun _ _ => rfl)) pa_nil)))))), ?_⟩
  unfold Mt.esc at q qe
  refine R.m rfl (by decide +kernel) (by decide +kernel) (by decide +kernel) ?_
  refine ⟨r, src, l, rfl, hsrc, R, fun H1 R1 k1 => ?_⟩
  refine ⟨_, rfl, rfl, _, rfl, ?_⟩
  show if decide (V.int (hdN l : Nat) = V.int ((117 : Nat) : Int)) = true then _ else _
  rw [decV]
  have ed : l.drop 1 = l.tail := List.drop_one
  refine ite2 (fun z => ?_) (fun z => ?_)
  · have z := of_decide_eq_true z
    have z' := (head_iff (by decide)).mpr z
    rw [if_pos z', ed] at qe
    simp only [if_pos z', ed] at q
    refine R1.m rfl (by decide +kernel) (by decide +kernel) (by decide +kernel) ?_
    refine ⟨r, src, l.tail, rfl, hsrc, R1, fun n l' hn H2 R2 k2 => ?_, fun hn => qe (by rw [hn]; rfl)⟩
    refine ⟨n, rfl, fun p hp => ?_⟩
    exact q _ l' (by rw [hn]; rfl) _ p (R2.new hp) ((k1.trans k2).trans (Keep.of (Same.upd hp _))) (R2.fresh (k1.trans k2) hp) upd_same
  · have z : ¬ hdN l = 117 := fun y => z (decide_eq_true y)
    have z' : ¬ l.head? = some 117 := fun y => z ((head_iff (by decide)).mp y)
    rw [if_neg z', ed] at qe
    simp only [if_neg z', ed] at q
    refine ⟨_, rfl, Sum.inl (hdN l : Int), rfl, rfl, _, rfl, ?_⟩
    rw [valV_escR]
    cases l with
    | nil =>
      refine iteT ?_
      exact qe rfl _
    | cons c t =>
      show if (!((Sn77.simple c).map fun d => V.int (d : Nat)).isSome) = true then _ else _
      cases e : Sn77.simple c with
      | none =>
        refine iteT ?_
        refine qe ?_ _
        simp only [List.head?_cons, Option.bind_some, e]
        rfl
      | some d =>
        refine iteF ?_
        refine ⟨_, rfl, Sum.inl (c : Int), _, rfl, rfl, (by rw [valV_escR, e]; rfl), (by show 1 <= sizeLine; decide), fun p hp => ?_⟩
        refine q [d] t ?_ _ p (R1.new hp) (k1.trans (Keep.of (Same.upd hp _))) (R1.fresh k1 hp) upd_same
        simp only [List.head?_cons, Option.bind_some, e]
        rfl
def spText (K : PySem.W.Frag) (C cN : Addr) : Sp := fun vs H Q E => ∃ (r : Addr) (src : Sc) (l : List Nat), vs = [.ref r] /\ Src src /\ Rdr K C src H r l /\
  (∀ b l', Mt.txt l = some (b, l') -> ∀ H' p, Rdr K C src H' r l' -> Keep r H H' -> H p = Option.none -> H' p = some (.tup (bV b)) -> Q (.ref p) H') /\ (Mt.txt l = Option.none -> ∀ H', E (.ref cN) Option.none H')
theorem sc_read_text : FnScope ["self", "content", "sign"] ["self"] (defScope m_read_text) := ⟨rfl, rfl, rfl, by decide +kernel, rfl, by decide +kernel, by decide +kernel⟩
theorem Rdr.tailsrc (R : Rdr K C src H r l) (hsrc : Src src) : ∀ c ∈ l, c < 256 := fun c hc => by
  obtain ⟨_, _, i, _, _, h⟩ := R.at_
  rw [← h] at hc
  exact hsrc.byte c (List.mem_of_mem_drop hc)
theorem txt_ne {l : List Nat} (h : hdN l ≠ 34) : Mt.txt l = Option.none := by
  unfold Mt.txt
  split
  · exact absurd rfl h
  · rfl
theorem ok_read_text (F : Fun K "read_text" "Reader.read_text" m_read_text f fd) (T : Txt K mg C cN) (gQ : Gv mg "QUOTE" (.int 34)) (gBl : Gv mg "BLANK" (.int 32)) (gBs : Gv mg "BACKSLASH" (.int 92)) (mt : mg "tuple" = Option.none)
    (ex : MethOk P w K mg base (CXe P w) 3 C "expect" ["self", "wanted"] (spExpect K C cN)) (tk : MethOk P w K mg base CX0 2 C "take" ["self"] (spTake K C)) (es : MethOk P w K mg base (CXe P w) 5 C "read_escaped" ["self"] (spEsc K C cN)) :
    FnOk P w K mg base (CXe P w) 6 f fd ["self"] (spText K C cN) := by
  refine F.okX sc_read_text (fun vs H Q E h => ?_) (fun cdv A outer s H vs Q E hr h => ?_)
  · obtain ⟨r, src, l, rfl, _⟩ := h
    rfl
  obtain ⟨r, src, l, rfl, hsrc, R, q, qe⟩ := h
  have nd := sc_read_text.nd
  refine ⟨_, pss_cons (ps_expr (pe_methD (pv 0) T.cl ex hr pass_cx (pa_cons (pe_g gQ) pa_nil)))
    (pss_cons (ps_set (i := 1) nd rfl (Or.inl rfl) (pe_lst pa_nil))
    (pss_cons (ps_set (i := 2) nd rfl (Or.inl rfl) (pe_methD0 (pv 0) T.cl tk hr pass0))
    (pss_cons (ps_while PassesOwn.leaving (pt_cmpR op_ne (pv 2) (pe_g gQ) (nomark _))
      (pss_cons (ps_if (PW.pt (pw_or (pt_cmpR op_lt (pv 2) (pe_g gBl) (nomark _)) (pw_or1 (pt_cmpR op_eq (pv 2) (pe_g T.gEnd) (nomark _))))) (pss_one (ps_raise rfl rfl T.mN T.xN raises_cx)) pss_nil)
      (pss_cons (ps_if (pt_cmpR op_eq (pv 2) (pe_g gBs) (nomark _))
        (pss_one (ps_expr (pe_bm PySem.F.plainAttrs_list PySem.F.slot_list_extend PySem.F.type_list_extend mt_extend (pv 1) (pa_cons (pe_methD0 (pv 0) T.cl es hr pass_cx) pa_nil))))
        (pss_one (ps_expr (pe_bm PySem.F.plainAttrs_list PySem.F.slot_list_append PySem.F.type_list_append mt_append (pv 1) (pa_cons (pv 2) pa_nil)))))
      (pss_one (ps_set (i := 2) nd rfl (Or.inl rfl) (pe_methD0 (pv 0) T.cl tk hr pass0))))))
    (pss_one (ps_ret (pe_callTy call_tuple_of rfl mt PyProof.Rows.boot_tuple (pa_cons (pv 1) pa_nil))))))), ?_⟩
  refine R.m rfl (by decide +kernel) (by decide +kernel) (by decide +kernel) ?_
  refine ⟨r, src, l, 34, rfl, hsrc, R, fun z => qe (txt_ne z), fun z H1 R1 k1 => ?_⟩
  have el := hdN_of z (by decide)
  have et : Mt.txt l = Mt.ins l.tail := by
    rw [el]
    rfl
  rw [et] at qe
  simp only [et] at q
  refine ⟨Nat.zero_le _, fun p hp => ?_⟩
  have hpH : H p = Option.none := R1.fresh k1 hp
  refine (R1.new (o := .lst []) hp).m rfl (by decide +kernel) (by decide +kernel) (by decide +kernel) ?_
  refine ⟨r, src, l.tail, rfl, hsrc, R1.new hp, fun H2 R2 k2 => ?_⟩
  have hlen : l.tail.length <= 65536 := Nat.le_trans R1.len hsrc.len
  have hp2 : H2 p = some (.lst (bV [])) := k2 p _ upd_same (fun z => by
    obtain ⟨_, _, _, hh, _⟩ := R1.at_
    rw [z, hh] at hp
    cases hp)
  have kk : Keep r H H2 := (k1.trans (Keep.of (Same.upd hp _))).trans k2
  refine ⟨fun m σ H' => ∃ (l' acc : List Nat), m = l'.length /\ σ = [some (.ref r), some (.ref p), some (.int (hdN l' : Nat))] /\ Rdr K C src H' r l'.tail /\ Keep r H H' /\ H' p = some (.lst (bV acc)) /\ acc.length + 4 * l'.length <= 300000 /\
      (∀ c ∈ l', c < 256) /\ Mt.ins l.tail = (Mt.ins l').map fun x => (acc ++ x.1, x.2),
    ⟨_, l.tail, [], rfl, rfl, R2, kk, hp2, by simp only [List.length_nil]; omega, R1.tailsrc hsrc, by cases Mt.ins l.tail <;> rfl⟩, ?_⟩
  rintro m σ H' ⟨l', acc, rfl, rfl, R', k', hp', hz, hby, hi⟩
  refine ⟨_, rfl, rfl, _, rfl, ?_⟩
  show if (!decide (V.int (hdN l' : Nat) = V.int ((34 : Nat) : Int))) = true then _ else _
  rw [decV]
  have hpr : p ≠ r := fun z => by
    obtain ⟨_, _, _, hh, _⟩ := R'.at_
    rw [z, hh] at hp'
    cases hp'
  refine ite2 (fun z => ?_) (fun z => ?_)
  · have z34 : ¬ hdN l' = 34 := fun y => by rw [y] at z; exact absurd z (by decide)
    refine ⟨fun σ' H2 => ∃ (l2 acc2 : List Nat), l2.length < l'.length /\ σ' = [some (.ref r), some (.ref p), some (.int (hdN l2 : Nat))] /\ Rdr K C src H2 r l2.tail /\ Keep r H H2 /\ H2 p = some (.lst (bV acc2)) /\ acc2.length + 4 * l2.length <= 300000 /\
        (∀ c ∈ l2, c < 256) /\ Mt.ins l.tail = (Mt.ins l2).map fun x => (acc2 ++ x.1, x.2), fun σ' H2 ⟨l2, acc2, a1, a2, a3, a4, a5, a6, a7, a8⟩ => ⟨_, a1, l2, acc2, rfl, a2, a3, a4, a5, a6, a7, a8⟩, ?_⟩
    have bad : (l' = [] ∨ hdN l' < 32) -> ∀ H', E (.ref cN) Option.none H' := fun y => by
      refine qe ?_
      rw [hi]
      rcases y with y | y
      · rw [y, Mt.ins_nil]
        rfl
      · cases l' with
        | nil => exact absurd y (by decide)
        | cons c t =>
          have y : c < 32 := y
          have z34 : ¬ c = 34 := z34
          rw [Mt.ins_cons, if_neg z34, if_pos y]
          rfl
    refine ⟨_, rfl, _, _, rfl, rfl, _, rfl, ?_⟩
    show if decide ((hdN l' : Int) < ((32 : Nat) : Int)) = true then _ else _
    rw [dec_lt]
    refine ite2 (fun y => ?_) (fun y => ?_)
    · exact iteT (bad (.inr (of_decide_eq_true y)) _)
    have y32 : ¬ hdN l' < 32 := fun x => y (decide_eq_true x)
    refine ⟨_, rfl, rfl, _, rfl, ?_⟩
    show if decide (V.int (hdN l' : Nat) = V.int ((256 : Nat) : Int)) = true then _ else _
    rw [decV]
    cases l' with
    | nil =>
      refine iteT ?_
      exact bad (.inl rfl) _
    | cons c t =>
      have hc : c < 256 := hby c (List.mem_cons_self ..)
      have y256 : ¬ hdN (c :: t) = 256 := by show ¬ c = 256; omega
      rw [decide_eq_false y256]
      refine iteF ?_
      have z34 : ¬ c = 34 := z34
      have y32 : ¬ c < 32 := y32
      rw [Mt.ins_cons, if_neg z34, if_neg y32] at hi
      rw [List.length_cons] at hz
      refine ⟨_, rfl, rfl, _, rfl, ?_⟩
      show if decide (V.int (hdN (c :: t) : Nat) = V.int ((92 : Nat) : Int)) = true then _ else _
      rw [decV]
      refine ite2 (fun y => ?_) (fun y => ?_)
      · have y92 : c = 92 := of_decide_eq_true y
        rw [if_neg (fun x => x y92)] at hi
        refine ⟨_, rfl, .inl ⟨rfl, _, SqL.of hp'⟩, ?_⟩
        refine R'.m rfl (by decide +kernel) (by decide +kernel) (by decide +kernel) ?_
        refine ⟨r, src, t, rfl, hsrc, R', fun b l2 hb H3 p2 R3 k3 hn3 hp3 => ?_, fun hn => qe (by rw [hi, hn]; rfl)⟩
        have hlen2 := Mt.esc_len hb
        have hp4 : H3 p = some (.lst (bV acc)) := k3 p _ hp' hpr
        refine ⟨p, p2, _, _, rfl, rfl, hp4, hp3, ?_, ?_⟩
        · rw [List.length_map, List.length_map]
          exact small_line (by omega)
        rw [hb] at hi
        simp only [Option.bind_some] at hi
        have R4 : Rdr K C src (L2.upd H3 p (.lst (bV acc ++ bV b))) r l2 := R3.lst hp4
        refine R4.m rfl (by decide +kernel) (by decide +kernel) (by decide +kernel) ?_
        refine ⟨r, src, l2, rfl, hsrc, R4, fun H5 R5 k5 => ?_⟩
        refine ⟨l2, acc ++ b, by rw [List.length_cons]; omega, rfl, R5, (((k'.trans k3).new hpH).trans k5), ?_, ?_, ?_, ?_⟩
        · rw [k5 p _ upd_same hpr, ← List.map_append]
        · rw [List.length_append]
          omega
        · exact R3.tailsrc hsrc
        · rw [hi]
          cases Mt.ins l2 with
          | none => rfl
          | some x =>
            simp only [Option.map_some, List.append_assoc]
      · have y92 : c ≠ 92 := fun x => y (decide_eq_true x)
        rw [if_pos y92] at hi
        refine ⟨_, rfl, .inl ⟨rfl, _, SqL.of hp'⟩, _, rfl, p, _, _, rfl, rfl, hp', ?_, ?_⟩
        · rw [List.length_map]
          exact Nat.lt_of_le_of_lt (show acc.length <= 300000 by omega) (by decide)
        have R4 : Rdr K C src (L2.upd H' p (.lst (bV acc ++ [.int (hdN (c :: t) : Nat)]))) r t := R'.lst hp'
        refine R4.m rfl (by decide +kernel) (by decide +kernel) (by decide +kernel) ?_
        refine ⟨r, src, t, rfl, hsrc, R4, fun H5 R5 k5 => ?_⟩
        refine ⟨t, acc ++ [c], by rw [List.length_cons]; omega, rfl, R5, ((k'.new hpH).trans k5), ?_, ?_, fun x hx => hby x (List.mem_cons_of_mem _ hx), ?_⟩
        · rw [k5 p _ upd_same hpr, bV_app]
          rfl
        · rw [List.length_append, List.length_singleton]
          omega
        · rw [hi]
          cases Mt.ins t with
          | none => rfl
          | some x =>
            simp only [Option.map_some, List.append_assoc]
            rfl
  · have z34 : hdN l' = 34 := by
      by_cases y : hdN l' = 34
      · exact y
      · rw [decide_eq_false y] at z
        exact absurd rfl z
    have e := hdN_of z34 (by decide)
    rw [e, Mt.ins_cons, if_pos rfl] at hi
    refine ⟨_, rfl, p, _, rfl, .inl ⟨SqL.of hp', fun p2 hp2 => ?_⟩⟩
    refine q acc l'.tail ?_ _ p2 (R'.new hp2) (k'.trans (Keep.of (Same.upd hp2 _))) (R'.fresh k' hp2) upd_same
    rw [hi]
    simp only [Option.map_some, List.append_nil]
end
end Pw
set_option Elab.async false
set_option linter.all false
set_option maxRecDepth 100000
set_option maxHeartbeats 4000000
namespace Pw
open PySem PySem.Spec PyProof.Rows L2
section
variable {P : Program} {w : World} {K : PySem.W.Frag} {mg : Str -> Option Value} {base : Heap} {f : Addr} {fd : FuncData} {C cN r : Addr} {src : Sc} {l : List Nat} {H : Hp}
def spName (K : PySem.W.Frag) (C cN : Addr) : Sp := fun vs H Q E => ∃ (r : Addr) (src : Sc) (l : List Nat), vs = [.ref r] /\ Src src /\ Rdr K C src H r l /\
  (∀ b l', Mt.nameOf l = some (b, l') -> ∀ H' p, Rdr K C src H' r l' -> Keep r H H' -> H p = Option.none -> H' p = some (.tup (bV b)) -> Q (.ref p) H') /\ (Mt.nameOf l = Option.none -> ∀ H', E (.ref cN) Option.none H')
theorem sc_read_name : FnScope ["self", "name"] ["self"] (defScope m_read_name) := ⟨rfl, rfl, rfl, by decide +kernel, rfl, by decide +kernel, by decide +kernel⟩
theorem ok_read_name (F : Fun K "read_name" "Reader.read_name" m_read_name f fd) (T : Txt K mg C cN) (gC : Gv mg "COLON" (.int 58)) (sk : MethOk P w K mg base CX0 2 C "skip_blanks" ["self"] (spSkip K C)) (tx : MethOk P w K mg base (CXe P w) 6 C "read_text" ["self"] (spText K C cN))
    (ex : MethOk P w K mg base (CXe P w) 3 C "expect" ["self", "wanted"] (spExpect K C cN)) : FnOk P w K mg base (CXe P w) 7 f fd ["self"] (spName K C cN) := by
  refine F.okX sc_read_name (fun vs H Q E h => ?_) (fun cdv A outer s H vs Q E hr h => ?_)
  · obtain ⟨r, src, l, rfl, _⟩ := h
    rfl
  obtain ⟨r, src, l, rfl, hsrc, R, q, qe⟩ := h
  have nd := sc_read_name.nd
  refine ⟨_, pss_cons (ps_expr (pe_methD0 (pv 0) T.cl sk hr pass0)) (pss_cons (ps_set (i := 1) nd rfl (Or.inl rfl) (pe_methD0 (pv 0) T.cl tx hr pass_cx)) (pss_cons (ps_expr (pe_methD0 (pv 0) T.cl sk hr pass0))
    (pss_cons (ps_expr (pe_methD (pv 0) T.cl ex hr pass_cx (pa_cons (pe_g gC) pa_nil))) (pss_one (ps_ret (pv 1)))))), ?_⟩
  unfold Mt.nameOf at q qe
  refine R.m rfl (by decide +kernel) (by decide +kernel) (by decide +kernel) ?_
  refine ⟨r, src, l, rfl, hsrc, R, fun H1 R1 k1 => ?_⟩
  refine R1.m rfl (by decide +kernel) (by decide +kernel) (by decide +kernel) ?_
  refine ⟨r, src, _, rfl, hsrc, R1, fun b l2 hb H2 p R2 k2 hn hp => ?_, fun hn => qe (by rw [hn]; rfl)⟩
  rw [hb] at qe
  simp only [hb, Option.bind_some] at q qe
  refine R2.m rfl (by decide +kernel) (by decide +kernel) (by decide +kernel) ?_
  refine ⟨r, src, l2, rfl, hsrc, R2, fun H3 R3 k3 => ?_⟩
  refine R3.m rfl (by decide +kernel) (by decide +kernel) (by decide +kernel) ?_
  refine ⟨r, src, Sn77.skip l2, 58, rfl, hsrc, R3, fun z => qe (by
    split
    · rename_i t e
      rw [e] at z
      exact absurd rfl z
    · rfl), fun z H4 R4 k4 => ?_⟩
  have e := hdN_of z (by decide)
  have hpr : p ≠ r := fun y => by
    obtain ⟨_, _, _, hh, _⟩ := R2.at_
    rw [y, hh] at hp
    cases hp
  refine ⟨_, rfl, q b (Sn77.skip l2).tail ?_ H4 p R4 (((k1.trans k2).trans k3).trans k4) ?_ ?_⟩
  · rw [e]
    rfl
  · cases e2 : H p with
    | none => rfl
    | some o =>
      rw [k1 p o e2 hpr] at hn
      cases hn
  · exact k4 p _ (k3 p _ hp hpr) hpr
def spDigits (K : PySem.W.Frag) (C cN : Addr) : Sp := fun vs H Q E => ∃ (r : Addr) (src : Sc) (l : List Nat) (m : Nat), vs = [.ref r, .int (m : Nat)] /\ Src src /\ Rdr K C src H r l /\
  (l.takeWhile Sn77.digit ≠ [] -> Sn77.natOf (l.takeWhile Sn77.digit) <= m -> ∀ H', Rdr K C src H' r (l.drop (l.takeWhile Sn77.digit).length) -> Keep r H H' -> Q (.int (Sn77.natOf (l.takeWhile Sn77.digit) : Nat)) H') /\
  (l.takeWhile Sn77.digit = [] ∨ m < Sn77.natOf (l.takeWhile Sn77.digit) -> ∀ H', E (.ref cN) Option.none H')
theorem sc_read_digits : FnScope ["self", "most", "number"] ["self", "most"] (defScope m_read_digits) := ⟨rfl, rfl, rfl, by decide +kernel, rfl, by decide +kernel, by decide +kernel⟩
theorem isD_hd (l : List Nat) : isD (hdN l : Nat) = match l with | [] => false | c :: _ => Sn77.digit c := by
  cases l with
  | nil => rfl
  | cons c t =>
    show (decide ((48 : Int) <= (c : Int)) && decide ((c : Int) <= 57)) = (decide (48 <= c) && decide (c <= 57))
    rw [show decide ((48 : Int) <= (c : Int)) = decide (48 <= c) from dec_le 48 c, show decide ((c : Int) <= 57) = decide (c <= 57) from dec_le c 57]
theorem takeWhile_pre {p : Nat -> Bool} : ∀ {pre t : List Nat}, (∀ c ∈ pre, p c = true) -> (pre ++ t).takeWhile p = pre ++ t.takeWhile p
  | [], _, _ => rfl
  | a :: r, t, h => by
    rw [List.cons_append, List.takeWhile_cons, if_pos (h a (List.mem_cons_self ..)), takeWhile_pre fun c hc => h c (List.mem_cons_of_mem _ hc)]
    rfl
theorem ok_read_digits (F : Fun K "read_digits" "Reader.read_digits" m_read_digits f fd) (T : Txt K mg C cN) (g0 : Gv mg "ZERO" (.int 48)) (D : DefOk P w K mg base CX0 1 "is_digit" ["sign"] spDigit) (pk : MethOk P w K mg base CX0 1 C "peek" ["self"] (spPeek K C))
    (tk : MethOk P w K mg base CX0 2 C "take" ["self"] (spTake K C)) : FnOk P w K mg base (CXe P w) 3 f fd ["self", "most"] (spDigits K C cN) := by
  refine F.okX sc_read_digits (fun vs H Q E h => ?_) (fun cdv A outer s H vs Q E hr h => ?_)
  · obtain ⟨r, src, l, m, rfl, _⟩ := h
    rfl
  obtain ⟨r, src, l, m, rfl, hsrc, R, q, qe⟩ := h
  have nd := sc_read_digits.nd
  refine ⟨_, pss_cons (ps_if (pt_not (pt_val (pe_callD D hr pass0 (pa_cons (pe_methD0 (pv 0) T.cl pk hr pass0) pa_nil)))) (pss_one (ps_raise rfl rfl T.mN T.xN raises_cx)) pss_nil)
    (pss_cons (ps_set (i := 2) nd rfl (Or.inl rfl) pe_int)
    (pss_cons (ps_while PassesOwn.leaving (pt_val (pe_callD D hr pass0 (pa_cons (pe_methD0 (pv 0) T.cl pk hr pass0) pa_nil)))
      (pss_cons (ps_set (i := 2) nd rfl (Or.inl rfl) (pe_op op_sub (pe_op op_add (pe_op op_mul (pv 2) pe_int) (pe_methD0 (pv 0) T.cl tk hr pass0)) (pe_g g0)))
      (pss_one (ps_if (pt_cmpR op_gt (pv 2) (pv 1) (nomark _)) (pss_one (ps_raise rfl rfl T.mN T.xN raises_cx)) pss_nil))))
    (pss_one (ps_ret (pv 2))))), ?_⟩
  refine R.m rfl (by decide +kernel) (by decide +kernel) (by decide +kernel) ?_
  refine ⟨r, src, l, rfl, hsrc, R, _, rfl, _, rfl, ?_⟩
  rw [isD_hd]
  cases l with
  | nil =>
    refine iteT ?_
    exact qe (.inl rfl) _
  | cons c0 t0 =>
    show if (!Sn77.digit c0) = true then _ else _
    refine ite2 (fun z => ?_) (fun z => ?_)
    · refine qe (.inl ?_) _
      rw [List.takeWhile_cons, if_neg (by rw [Bool.not_eq_true'] at z; rw [z]; exact Bool.false_ne_true)]
    have z0 : Sn77.digit c0 = true := by
      cases e : Sn77.digit c0 with
      | true => rfl
      | false => exact absurd (by rw [e]; rfl) z
    refine ⟨fun mm σ H' => ∃ (pre l' : List Nat), mm = l'.length /\ σ = [some (.ref r), some (.int (m : Nat)), some (.int (Sn77.natOf pre : Nat))] /\ Rdr K C src H' r l' /\ Keep r H H' /\ c0 :: t0 = pre ++ l' /\ (∀ c ∈ pre, Sn77.digit c = true) /\ Sn77.natOf pre <= m,
      ⟨_, [], c0 :: t0, rfl, rfl, R, Keep.refl r H, rfl, fun c hc => absurd hc (by simp), Nat.zero_le _⟩, ?_⟩
    rintro mm σ H' ⟨pre, l', rfl, rfl, R', k', hl, hpre, hm⟩
    refine R'.m rfl (by decide +kernel) (by decide +kernel) (by decide +kernel) ?_
    refine ⟨r, src, l', rfl, hsrc, R', _, rfl, _, rfl, ?_⟩
    rw [isD_hd]
    have fin : l'.takeWhile Sn77.digit = [] -> tRet (tVar 2) { nx := fun _ H' => Q .non H', rt := Q } [some (.ref r), some (.int (m : Nat)), some (.int (Sn77.natOf pre : Nat))] H' := fun e => by
      have e2 : (c0 :: t0).takeWhile Sn77.digit = pre := by rw [hl, takeWhile_pre hpre, e, List.append_nil]
      rw [e2] at q
      refine ⟨_, rfl, q ?_ hm H' ?_ k'⟩
      · rw [← e2, List.takeWhile_cons, if_pos z0]
        exact List.cons_ne_nil _ _
      · rw [hl, List.drop_left]
        exact R'
    cases l' with
    | nil =>
      refine iteF ?_
      exact fin rfl
    | cons c t =>
      show if Sn77.digit c = true then _ else _
      refine ite2 (fun y => ?_) (fun y => ?_)
      · refine ⟨fun σ' H2 => ∃ (pre2 l2 : List Nat), l2.length < (c :: t).length /\ σ' = [some (.ref r), some (.int (m : Nat)), some (.int (Sn77.natOf pre2 : Nat))] /\ Rdr K C src H2 r l2 /\ Keep r H H2 /\ c0 :: t0 = pre2 ++ l2 /\ (∀ c ∈ pre2, Sn77.digit c = true) /\ Sn77.natOf pre2 <= m,
          fun σ' H2 ⟨pre2, l2, a1, a2, a3, a4, a5, a6, a7⟩ => ⟨_, a1, pre2, l2, rfl, a2, a3, a4, a5, a6, a7⟩, ?_⟩
        refine ⟨_, rfl, _, _, rfl, rfl, .inr ⟨by decide, by decide⟩, ?_⟩
        refine R'.m rfl (by decide +kernel) (by decide +kernel) (by decide +kernel) ?_
        refine ⟨r, src, c :: t, rfl, hsrc, R', fun H2 R2 k2 => ?_⟩
        refine ⟨_, _, rfl, rfl, _, _, rfl, rfl, ?_⟩
        have y' : 48 <= c /\ c <= 57 := by
          have := y
          unfold Sn77.digit at this
          simp only [Bool.and_eq_true, decide_eq_true_eq] at this
          exact this
        have en : ((Sn77.natOf pre : Int) * 10 + ((hdN (c :: t) : Nat) : Int) - 48) = ((Sn77.natOf (pre ++ [c]) : Nat) : Int) := by
          rw [Mt.natOf_snoc]
          show ((Sn77.natOf pre : Int) * 10 + (c : Int) - 48) = _
          omega
        have hpre2 : ∀ x ∈ pre ++ [c], Sn77.digit x = true := fun x hx => by
          rcases List.mem_append.mp hx with h | h
          · exact hpre x h
          · have : x = c := by simpa using h
            rw [this]
            exact y
        have hl2 : c0 :: t0 = (pre ++ [c]) ++ t := by rw [hl, List.append_assoc]; rfl
        dsimp only
        rw [en]
        refine ⟨_, rfl, _, rfl, _, _, rfl, rfl, _, rfl, ?_⟩
        rw [dec_lt]
        refine ite2 (fun x => ?_) (fun x => ?_)
        · have x := of_decide_eq_true x
          refine qe (.inr ?_) _
          have e3 := takeWhile_pre (t := t) hpre2
          rw [← hl2] at e3
          rw [e3]
          exact Nat.lt_of_lt_of_le x (Mt.natOf_le _ _)
        · have x : ¬ m < Sn77.natOf (pre ++ [c]) := fun a => x (decide_eq_true a)
          exact ⟨pre ++ [c], t, Nat.lt_succ_self _, rfl, R2, k'.trans k2, hl2, hpre2, by omega⟩
      · refine fin ?_
        rw [List.takeWhile_cons, if_neg y]
end
end Pw
set_option Elab.async false
set_option linter.all false
set_option maxRecDepth 100000
set_option maxHeartbeats 4000000
namespace L2
open PySem PySem.Spec PyProof.Rows
section
variable {prog : Program} {w : World} {A : Around} {R : Result -> Shared -> Prop} {I : Addr} {fp wr : List Addr} {n : Nat} {P : Nat -> Value -> Prop} {St : Nat -> Heap -> Prop} {kw : List (Str × Value)}
theorem maxD_loop (W : Walks prog w A.in1 I fp wr n P St) (bt : Nat -> Nat -> Bool) (hcmp : CmpOf prog w A.in1 .Gt P bt) (S : Addr) (hSf : S ∉ fp) :
    ∀ (k j : Nat) (s : Shared) (vb : Value) (c : Nat), n - (j + 1) = k -> j + 1 <= n -> St (j + 1) s.heap -> P (argBest bt j) vb ->
    s.heap.get? S = some { cls := .type "list", dict := Option.none, data := .seq #[vb, vb] c, slots := #[] } ->
    (∀ v h' tk, P (argBest bt (n - 1)) v -> (∀ b o, b ∉ wr -> b ≠ S -> s.heap.get? b = some o -> h'.get? b = some o) -> R (.ok (.ret v)) { s with heap := h', toks := tk }) ->
    codeAny (model prog w) A (.builtin "max.loop" ⟨[.ref I, .none, .ref S], kw⟩) R s := by
  have hSw : S ∉ wr := fun h => hSf (W.sub _ h)
  have hname : (toString "max" ++ toString ".loop" : String) = "max.loop" := by decide
  intro k
  induction k with
  | zero =>
    intro j s vb c hk hj hst hPb hS hR
    have hin : j + 1 = n := by omega
    refine codeAny_builtin PySem.F.entry_max_loop ?_
    rw [Around.under_plainId PySem.F.plain_max_loop _]
    show wpAny _ A.in1 (seqItems? (.ref S) >>= _) _ _ s
    refine wpAny_bind (wpAny_seqItems hS rfl ?_)
    show wpAny _ A.in1 (tryCatch (pyNext (.ref I)) _ >>= _) _ _ s
    refine wpAny_bind (wpAny_tryCatch (W.done s _ _ (hin ▸ hst) fun h' tk hk' => ?_))
    have hS' := hk' S _ hSw hS
    show wpAny _ A.in1 (updateSeq S (fun _ => #[]) >>= _) _ _ _
    refine wpAny_bind ?_
    refine wpAny_updateSeq hS' rfl (wpAny_bind (wpAny_letGo (wpAny_pure ?_)))
    exact hR vb _ tk (by rw [← hin]; exact hPb) fun b o hbw hbS e => (Heap.get?_update_other _ _ (Ne.symm hbS)).trans (hk' b o hbw e)
  | succ k ih =>
    intro j s vb c hk hj hst hPb hS hR
    have hlt : j + 1 < n := by omega
    refine codeAny_builtin PySem.F.entry_max_loop ?_
    rw [Around.under_plainId PySem.F.plain_max_loop _]
    show wpAny _ A.in1 (seqItems? (.ref S) >>= _) _ _ s
    refine wpAny_bind (wpAny_seqItems hS rfl ?_)
    show wpAny _ A.in1 (tryCatch (pyNext (.ref I)) _ >>= _) _ _ s
    refine wpAny_bind (wpAny_tryCatch (W.item (j + 1) s _ _ hlt hst fun v h' tk hP hst' hk' => ?_))
    have hS' := hk' S _ hSw hS
    show wpAny _ A.in1 (tryCatch (holding [v, v] (richCompare .Gt v vb >>= _)) _ >>= _) _ _ _
    refine wpAny_bind (wpAny_tryCatch (wpAny_holding (wpAny_bind (hcmp (j + 1) (argBest bt j) v vb _ _ _ hP hPb ?_))))
    refine wpAny_bind (wpAny_holding (wpAny_truthy_bool ?_))
    refine wpAny_bind (wpAny_letGo (wpAny_pure ?_))
    cases hb : bt (j + 1) (argBest bt j) with
    | true =>
      simp only [if_true]
      refine wpAny_bind ?_
      refine wpAny_updateSeq hS' rfl (wpAny_bind (wpAny_letGo ?_))
      rw [hname]
      refine wpAny_pure ⟨plainId_quiet PySem.F.plain_max_loop _, ih (j + 1) _ v _ (by omega) hlt (W.frame _ _ _ hst' fun b hbf o e => ?_) (by simp only [argBest, hb, if_true]; exact hP) (Heap.get?_update_self _ hS' rfl)
        fun v' h'' tk'' hP' hk'' => ?_⟩
      · exact (Heap.get?_update_other _ _ (fun h : S = b => hSf (by rw [h]; exact hbf))).trans e
      · exact hR v' h'' tk'' hP' fun b o hbw hbS e => hk'' b o hbw hbS ((Heap.get?_update_other _ _ (Ne.symm hbS)).trans (hk' b o hbw e))
    | false =>
      simp only [Bool.false_eq_true, if_false]
      refine wpAny_bind (wpAny_letGo ?_)
      rw [hname]
      refine wpAny_pure ⟨plainId_quiet PySem.F.plain_max_loop _, ih (j + 1) _ vb c (by omega) hlt hst' (by simp only [argBest, hb, Bool.false_eq_true, if_false]; exact hPb) hS' fun v' h'' tk'' hP' hk'' => ?_⟩
      exact hR v' h'' tk'' hP' fun b o hbw hbS e => hk'' b o hbw hbS (hk' b o hbw e)
theorem maxD_first (W : Walks prog w A.in1 I fp wr n P St) (bt : Nat -> Nat -> Bool) (hcmp : CmpOf prog w A.in1 .Gt P bt) (S : Addr) (hSf : S ∉ fp) (hn : 0 < n) {s : Shared} {c : Nat} (hst : St 0 s.heap)
    (hS : s.heap.get? S = some { cls := .type "list", dict := Option.none, data := .seq #[] c, slots := #[] })
    (hR : ∀ v h' tk, P (argBest bt (n - 1)) v -> (∀ b o, b ∉ wr -> b ≠ S -> s.heap.get? b = some o -> h'.get? b = some o) -> R (.ok (.ret v)) { s with heap := h', toks := tk }) :
    codeAny (model prog w) A (.builtin "max.loop" ⟨[.ref I, .none, .ref S], kw⟩) R s := by
  have hSw : S ∉ wr := fun h => hSf (W.sub _ h)
  have hname : (toString "max" ++ toString ".loop" : String) = "max.loop" := by decide
  refine codeAny_builtin PySem.F.entry_max_loop ?_
  rw [Around.under_plainId PySem.F.plain_max_loop _]
  show wpAny _ A.in1 (seqItems? (.ref S) >>= _) _ _ s
  refine wpAny_bind (wpAny_seqItems hS rfl ?_)
  show wpAny _ A.in1 (tryCatch (pyNext (.ref I)) _ >>= _) _ _ s
  refine wpAny_bind (wpAny_tryCatch (W.item 0 s _ _ hn hst fun v h' tk hP hst' hk' => ?_))
  have hS' := hk' S _ hSw hS
  show wpAny _ A.in1 (updateSeq S (fun _ => #[v, v]) >>= _) _ _ _
  refine wpAny_bind ?_
  refine wpAny_updateSeq hS' rfl ?_
  rw [hname]
  refine wpAny_pure ⟨plainId_quiet PySem.F.plain_max_loop _, maxD_loop W bt hcmp S hSf _ 0 _ v _ rfl hn (W.frame _ _ _ hst' fun b hbf o e => ?_) hP (Heap.get?_update_self _ hS' rfl) fun v' h'' tk'' hP' hk'' => ?_⟩
  · exact (Heap.get?_update_other _ _ (fun h : S = b => hSf (by rw [h]; exact hbf))).trans e
  · exact hR v' h'' tk'' hP' fun b o hbw hbS e => hk'' b o hbw hbS ((Heap.get?_update_other _ _ (Ne.symm hbS)).trans (hk' b o hbw e))
theorem maxD_none (W : Walks prog w A.in1 I fp wr n P St) (S : Addr) (hSf : S ∉ fp) (hn : n = 0) {s : Shared} {c : Nat} {d : Value} {ks : Str} (hst : St 0 s.heap)
    (hS : s.heap.get? S = some { cls := .type "list", dict := Option.none, data := .seq #[] c, slots := #[] })
    (hR : ∀ h' tk, (∀ b o, b ∉ wr -> s.heap.get? b = some o -> h'.get? b = some o) -> R (.ok (.ret d)) { s with heap := h', toks := tk }) :
    codeAny (model prog w) A (.builtin "max.loop" ⟨[.ref I, .none, .ref S], [(ks, d)]⟩) R s := by
  refine codeAny_builtin PySem.F.entry_max_loop ?_
  rw [Around.under_plainId PySem.F.plain_max_loop _]
  show wpAny _ A.in1 (seqItems? (.ref S) >>= _) _ _ s
  refine wpAny_bind (wpAny_seqItems hS rfl ?_)
  show wpAny _ A.in1 (tryCatch (pyNext (.ref I)) _ >>= _) _ _ s
  refine wpAny_bind (wpAny_tryCatch (W.done s _ _ (hn ▸ hst) fun h' tk hk' => ?_))
  exact wpAny_bind (wpAny_rule (wpAny_pure (hR h' tk hk')))
end
theorem args_maxD (a v : Value) : argsOk "max" ⟨[a], [(Str.ofString "default", v)]⟩ := by unfold argsOk; kernel_rfl
section
variable {prog : Program} {w : World} {A : Around} {E : Value -> Shared -> Prop} {s : Shared}
theorem call_maxD {x d : Value} {Q : Value -> Shared -> Prop}
    (h : wpAny (model prog w) A.in1 (pyIter x) (fun it s₂ => ∃ I fp wr n P St bt, it = .ref I /\ Walks prog w A.in1 I fp wr n P St /\ St 0 s₂.heap /\ (∀ b ∈ fp, b < s₂.heap.objs.size) /\ CmpOf prog w A.in1 .Gt P bt /\
      (0 < n -> ∀ v h' tk, P (argBest bt (n - 1)) v -> (∀ b o, b ∉ wr -> s₂.heap.get? b = some o -> h'.get? b = some o) -> Q v { s₂ with heap := h', toks := tk }) /\
      (n = 0 -> ∀ h' tk, (∀ b o, b ∉ wr -> s₂.heap.get? b = some o -> h'.get? b = some o) -> Q d { s₂ with heap := h', toks := tk })) E s) :
    wpAny (model prog w) A (call (.builtin "max") [x] [(Str.ofString "default", d)]) Q E s := by
  have hname : (toString "max" ++ toString ".loop" : String) = "max.loop" := by decide
  refine PyProof.Rows.kmk_tree PySem.F.kind_max PySem.F.plain_max PySem.F.entry_max (args_maxD _ _) ?_
  show wpAny _ A.in1 (Builtin.Builtins.bindParams "max" ["key", "default"] 0 ⟨[], [(Str.ofString "default", d)]⟩ >>= _) _ _ s
  refine wpAny_bind (wpAny_of_eq (show Builtin.Builtins.bindParams "max" ["key", "default"] 0 ⟨[], [(Str.ofString "default", d)]⟩ = pure [Option.none, some d] from rfl) ?_)
  refine wpAny_bind (wpAny_pure ?_)
  refine wpAny_bind (wpAny_mono h (fun it s₂ h₂ => ?_) fun _ _ e => e)
  obtain ⟨I, fp, wr, n, P, St, bt, rfl, W, hst, hfp, hcmp, hQ, hQ0⟩ := h₂
  refine wpAny_bind (wpAny_newObj_type ?_)
  have hSf : s₂.heap.objs.size ∉ fp := fun hm => Nat.lt_irrefl _ (hfp _ hm)
  rw [hname]
  by_cases hn : 0 < n
  · refine wpAny_pure ⟨plainId_quiet PySem.F.plain_max_loop _, maxD_first W bt hcmp s₂.heap.objs.size hSf hn (W.frame _ _ _ hst fun b _ o e => Heap.get?_push_of_some _ e) (Heap.get?_push_size _ rfl) fun v h' tk hP hk => ?_⟩
    exact hQ hn v h' tk hP fun b o hbw e => hk b o hbw (Nat.ne_of_lt (Heap.lt_size e)) (Heap.get?_push_of_some _ e)
  · refine wpAny_pure ⟨plainId_quiet PySem.F.plain_max_loop _, maxD_none W s₂.heap.objs.size hSf (by omega) (W.frame _ _ _ hst fun b _ o e => Heap.get?_push_of_some _ e) (Heap.get?_push_size _ rfl) fun h' tk hk => ?_⟩
    exact hQ0 (by omega) h' tk fun b o hbw e => hk b o hbw (Heap.get?_push_of_some _ e)
theorem maxD_ints {l : Addr} {its : List Value} {ns : List Int} {d : Value} {Q : Value -> Shared -> Prop} (hh : A.handled = Option.none) (hl : s.heap.IsList l its.toArray) (hi : IntsAre its ns)
    (h : 0 < ns.length -> ∀ h' tk M t', (∀ b o, s.heap.get? b = some o -> h'.get? b = some o) -> M ∈ ns -> (∀ a, a ∈ ns -> a <= M) -> Q (.int M t') { s with heap := h', toks := tk })
    (h0 : ns.length = 0 -> ∀ h' tk, (∀ b o, s.heap.get? b = some o -> h'.get? b = some o) -> Q d { s with heap := h', toks := tk }) :
    wpAny (model prog w) A (call (.builtin "max") [.ref l] [(Str.ofString "default", d)]) Q E s := by
  obtain ⟨xs, e⟩ := hi.allInts.items
  have hn : numsOf (intItems xs).toList = ns := by rw [← e]; exact hi.numsOf
  rw [nums_intItems] at hn
  subst hn
  rw [e] at hl
  have hsz : (intItems xs).size = xs.size := by simp [intItems]
  refine call_maxD (iter_intList hl fun s₂ e st hfp hlI => ?_)
  subst e
  refine ⟨_, _, _, _, _, _, _, rfl, Walks.list (A := A.in1) hh _ l hlI (intItems xs), st, hfp, CmpOf.ints_gt (numAt xs) (fun _ _ => intItems_at), fun hne v h' tk hP hk => ?_, fun hne h' tk hk => ?_⟩
  · have hv : (intItems xs)[argBest (fun i j => decide (numAt xs i > numAt xs j)) (xs.size - 1)]? = some v := by simpa [intItems] using hP
    obtain ⟨t, rfl⟩ := intItems_at hv
    obtain ⟨h1, h2⟩ := argBest_gt (numAt xs) (xs.size - 1)
    have hne : 0 < xs.size := by rw [← hsz]; exact hne
    refine h (by simpa using hne) h' tk _ t (old_kept hk) ?_ fun a ha => ?_
    · rw [numAt_eq]; exact PySem.getD_mem (by rw [List.length_map, Array.length_toList]; omega)
    · obtain ⟨j, hj, rfl⟩ := mem_getD ha
      rw [List.length_map, Array.length_toList] at hj
      rw [← numAt_eq]; exact h2 j (by omega)
  · have hne : xs.size = 0 := by rw [← hsz]; exact hne
    exact h0 (by simpa using hne) h' tk (old_kept hk)
end
section
variable {X : Cx} {a e : Expr} {ta td : TE} {p pos kpos : Pos}
def tMaxD (K : PySem.W.Frag) (t td : TA) : TE := fun σ H Q => t σ H fun vs H1 => td σ H1 fun zs H2 => ∃ (l : Addr) (ns : List Int) (d : Int), vs = [.ref l] /\ zs = [.int d] /\ SqL K H2 l (ns.map V.int) /\ ∀ m, ((ns = [] /\ m = d) ∨ (m ∈ ns /\ ∀ y ∈ ns, y <= m)) -> Q (.int m) H2
theorem pe_maxD {t tk : TA} (hc : X.calm = true) (hg : Gl X "max") (hm : X.mg "max" = Option.none) (ha : PA X [a] t) (hk : PK X [⟨some "default", e, kpos⟩] tk) (hs : starEach [a] X.env = [(false, eval a X.env)] := by rfl) :
    PE X (.Call (.Name "max" p) [a] [⟨some "default", e, kpos⟩] pos) (tMaxD X.K t tk) := by
  intro pins s σ H Q I h
  refine wpAny_Call_Name_kw (ld_blt I hg hm (show bootBuiltins "max" = some (.builtin "max") by decide +kernel) ?_ (by decide) (by decide))
  refine PyProof.Rows.callWith_kw (thn (ha pos pins s σ H _ I h) fun us s1 ⟨vs, H1, I1, r1, q1⟩ => thn (hk pos pins s1 σ H1 _ I1 q1) fun ws s2 ⟨zs, H2, I2, r2, l, ns, d, ev, ez, hS, q⟩ => ?_) (by rw [hs]; rfl) (by rw [hs]; rfl)
  subst ev ez
  obtain ⟨u, rfl, ru⟩ := vals1 r1
  cases (show u = Value.ref l from ru)
  obtain ⟨z, rfl, rz⟩ := vals1 r2
  obtain ⟨t', rfl⟩ := (show ∃ t, z = Value.int d t from rz)
  obtain ⟨its, rv, hl, _⟩ := I2.list hS
  show wpAny _ _ (call (.builtin "max") [.ref l] [(Str.ofString "default", .int d t')]) _ _ s2
  refine maxD_ints (I2.ok.hd hc) hl.isList rv.ints (fun _ h' tk m t' hk h1 h2 => ⟨.int _, H2, I2.kept hk, ⟨_, rfl⟩, q m (.inr ⟨h1, h2⟩)⟩) fun hz h' tk hk => ⟨.int d, H2, I2.kept hk, ⟨_, rfl⟩, q d (.inl ⟨List.length_eq_zero_iff.mp hz, rfl⟩)⟩
end
def tFrz (t : TS) : TS := fun D σ H => ∃ d u, H d = some u /\ Mut (some u) /\ ∀ od, t D σ (upd H d (.frz od u))
theorem ps_frz {X : Cx} {st : Stmt} {t : TS} (h : PS X st t) : PS X st (tFrz t) := by
  intro pins s σ H D I hw
  obtain ⟨d, u, hd, mu, hw⟩ := hw
  obtain ⟨od, I1⟩ := I.lock hd mu
  exact h pins s σ _ _ I1 (hw od)
inductive TyOfF (K : PySem.W.Frag) (H : Hp) : V -> Value -> Prop where
  | of {x : V} {t : Value} (h : TyOf K H x t) : TyOfF K H x t
  | fdT {a : Addr} {o : Obj} {kvs : List (List Key × V)} (e : H a = some (.frz o (.dT kvs))) : TyOfF K H (.ref a) (.type "dict")
theorem call_isinstF {X : Cx} {T : String} : CallR X (.builtin "isinstance") (fun xs H Q => ∃ x t b, xs = [x, .ty T] /\ TyOfF X.K H x t /\ PySem.W.kitOne X.K t (.type T) = some b /\ Q (.bl b) H) := by
  intro pins s σ H xs us Q I r h
  obtain ⟨x, t, b, rfl, ty, e, q⟩ := h
  cases ty with
  | of ty => exact call_isinst pins s σ H _ us Q I r ⟨x, t, b, rfl, ty, e, q⟩
  | @fdT a o kvs ea =>
    obtain ⟨u, u2, rfl, r1, r2⟩ := vals2 r
    obtain rfl : u2 = Value.type T := r2
    cases (show u = Value.ref a from r1)
    obtain ⟨_, _, _, xs, _, o', es, ep, h1, h2, _⟩ := (show ObjOk X.prog X.w H s.heap a (.frz o (.dT kvs)) from I.hok a _ ea)
    exact PySem.W.kia_one PySem.W.kitx_dict I.kIn ⟨_, h1, h2.1⟩ e (fun z => nomatch z) fun tk => ⟨.bl b, H, I.tok _, rfl, q⟩
end L2
set_option Elab.async false
set_option linter.all false
set_option maxRecDepth 100000
set_option maxHeartbeats 4000000
namespace L2
open PySem PySem.Spec PyProof.Rows
section
variable {prog : Program} {w : World} {A : Around} {E : Value -> Shared -> Prop} {s : Shared}
theorem next_val_item {it d : Addr} {i n ep : Nat} {od : Obj} {es : Array DictEntry} {en : DictEntry} {Q : Option Value -> Shared -> Prop} (hit : s.heap.IsValIter it d i n ep) (hod : s.heap.get? d = some od) (hdd : od.data = .dict es ep)
    (hsz : es.size = n) (hx : es[i]? = some en) (hQ : ∀ h', h'.IsValIter it d (i + 1) n ep -> Heap.SameBut it s.heap h' -> Q (some en.val) { s with heap := h' }) : wpAny (model prog w) A (pyNext (.ref it)) Q E s := by
  obtain ⟨o, ho, hc, hd⟩ := id hit
  unfold pyNext
  refine wpAny_bind (wpAny_attempt (wpAny_callSpecial?_slot (name := Str.ofString "__next__") hit.typeIs PySem.F.slot_dict_valueiterator_next
    (wpAny_call_entry PySem.F.slot_dict_valueiterator_next hit.typeIs PySem.F.entry_dict_valueiterator_next ?_ (PySem.F.args_dict_valueiterator_next_1 _))))
  refine wpAny_bind (wpAny_pure ?_)
  refine wpAny_bind ?_
  refine wpAny_bind ?_
  first | refine wpAny_bind (wpAny_typeNameOfWhole_valiter hit.typeIs (wpAny_pure ?_)) | refine wpAny_bind (wpAny_typeNameOf_valiter hit.typeIs (wpAny_pure ?_))
  refine wpAny_bind (wpAny_fieldsOf ho hd ?_)
  have hown : Builtin.Dict_items.ownsTuple "dict_valueiterator" = false := by decide
  simp only [hown, Bool.false_eq_true, if_false]
  show wpAny _ _ (if (Value.ref d == Value.none) = true then _ else _) _ _ s
  rw [if_neg (show ¬ ((Value.ref d == Value.none) = true) from Bool.false_ne_true)]
  refine wpAny_bind (wpAny_pure ?_)
  refine wpAny_bind (wpAny_dictEntries hod hdd ?_)
  rw [if_neg (by rw [hsz]; simp)]
  refine wpAny_bind (wpAny_pure ?_)
  refine wpAny_bind (wpAny_dictEpoch hod hdd ?_)
  rw [if_neg (by simp)]
  refine wpAny_pure ?_
  obtain ⟨hlt', hen⟩ := Array.getElem?_eq_some_iff.mp hx
  simp only [show ¬ ((i : Int) < 0) from by omega, if_false, Int.toNat_natCast, Array.getElem?_eq_getElem hlt']
  refine wpAny_bind ?_
  first | refine wpAny_bind (wpAny_typeNameOfWhole_valiter hit.typeIs (wpAny_pure ?_)) | refine wpAny_bind (wpAny_typeNameOf_valiter hit.typeIs (wpAny_pure ?_))
  refine wpAny_bind (wpAny_isOneOf_valiter hit.typeIs ?_)
  show wpAny _ _ (setField (.ref it) 1 (rawInt ((i : Int) + 1)) >>= _) _ _ s
  refine wpAny_bind (wpAny_setField ho hd (by simp) ?_)
  have hit' : (s.heap.update it (Obj.mapFields (·.setIfInBounds 1 (rawInt ((i : Int) + 1))))).IsValIter it d (i + 1) n ep :=
    ⟨_, Heap.get?_update_self _ ho (Obj.isFreed_of_fields (Obj.data_mapFields hd _)), (Obj.cls_mapFields ..).trans hc, by rw [Obj.data_mapFields hd]; simp [rawInt]⟩
  refine wpAny_bind (wpAny_holding ?_)
  refine wpAny_bind (wpAny_isOneOf_valiter (s := { s with heap := s.heap.update it (Obj.mapFields (·.setIfInBounds 1 (rawInt ((i : Int) + 1)))) }) hit'.typeIs ?_)
  refine wpAny_bind (wpAny_isOneOf_valiter (s := { s with heap := s.heap.update it (Obj.mapFields (·.setIfInBounds 1 (rawInt ((i : Int) + 1)))) }) hit'.typeIs ?_)
  show wpAny _ _ (pure es[i].val) _ _ _
  rw [hen]
  exact wpAny_pure (wpAny_pure ⟨_, rfl, wpAny_pure (hQ _ hit' (Heap.SameBut.update ..))⟩)
theorem next_val_end {it d : Addr} {i n ep : Nat} {od : Obj} {es : Array DictEntry} {Q : Option Value -> Shared -> Prop} (hh : A.handled = Option.none) (hit : s.heap.IsValIter it d i n ep) (hod : s.heap.get? d = some od) (hdd : od.data = .dict es ep)
    (hsz : es.size = n) (hge : n <= i) (hQ : ∀ h', Heap.ExtBut it s.heap h' -> Q Option.none { s with heap := h' }) : wpAny (model prog w) A (pyNext (.ref it)) Q E s := by
  obtain ⟨o, ho, hc, hd⟩ := id hit
  unfold pyNext
  refine wpAny_bind (wpAny_attempt (wpAny_callSpecial?_slot (name := Str.ofString "__next__") hit.typeIs PySem.F.slot_dict_valueiterator_next
    (wpAny_call_entry PySem.F.slot_dict_valueiterator_next hit.typeIs PySem.F.entry_dict_valueiterator_next ?_ (PySem.F.args_dict_valueiterator_next_1 _))))
  refine wpAny_bind (wpAny_pure ?_)
  refine wpAny_bind ?_
  refine wpAny_bind ?_
  first | refine wpAny_bind (wpAny_typeNameOfWhole_valiter hit.typeIs (wpAny_pure ?_)) | refine wpAny_bind (wpAny_typeNameOf_valiter hit.typeIs (wpAny_pure ?_))
  refine wpAny_bind (wpAny_fieldsOf ho hd ?_)
  have hown : Builtin.Dict_items.ownsTuple "dict_valueiterator" = false := by decide
  simp only [hown, Bool.false_eq_true, if_false]
  show wpAny _ _ (if (Value.ref d == Value.none) = true then _ else _) _ _ s
  rw [if_neg (show ¬ ((Value.ref d == Value.none) = true) from Bool.false_ne_true)]
  refine wpAny_bind (wpAny_pure ?_)
  refine wpAny_bind (wpAny_dictEntries hod hdd ?_)
  rw [if_neg (by rw [hsz]; simp)]
  refine wpAny_bind (wpAny_pure ?_)
  refine wpAny_bind (wpAny_dictEpoch hod hdd ?_)
  rw [if_neg (by simp)]
  refine wpAny_pure ?_
  have hge' : es.size <= i := by rw [hsz]; exact hge
  simp only [show ¬ ((i : Int) < 0) from by omega, if_false, Int.toNat_natCast, Array.getElem?_eq_none hge']
  refine wpAny_bind ?_
  first | refine wpAny_bind (wpAny_typeNameOfWhole_valiter hit.typeIs (wpAny_pure ?_)) | refine wpAny_bind (wpAny_typeNameOf_valiter hit.typeIs (wpAny_pure ?_))
  show wpAny _ _ (setField (.ref it) 0 .none >>= _) _ _ s
  refine wpAny_bind (wpAny_setField ho hd (by simp) ?_)
  show wpAny _ _ (newExc (.type "StopIteration") [] >>= _) _ _ _
  refine wpAny_bind ?_
  simp only [newExc, newTuple]
  refine wpAny_bind (wpAny_newObj_type ?_ (by size_fits))
  refine wpAny_bind (m := firstArgMember _ _) (wpAny_of_eq (a := Value.none) (by first | rfl | (simp only [firstArgMember]; rfl)) ?_)
  refine wpAny_newObj_type ?_ (by size_fits)
  simp only [raiseNew]
  refine wpAny_bind (wpAny_handled ?_)
  rw [show A.in1.handled = Option.none from hh]
  refine wpAny_bind (wpAny_pure (wpAny_throw ?_))
  refine wpAny_bind (wpAny_isInstance (T := "StopIteration") (b := true) ⟨_, Heap.get?_push_size _ rfl, rfl⟩ isSubtype_stop ?_)
  exact wpAny_pure (hQ _ (((Heap.SameBut.update ..).extBut.push _).push _))
theorem walks_vals (hh : A.handled = Option.none) (I d : Addr) (hne : d ≠ I) {od : Obj} {es : Array DictEntry} {ep : Nat} (hdd : od.data = .dict es ep) :
    Walks prog w A I [I, d] [I] es.size (fun i v => ∃ en, es[i]? = some en /\ v = en.val) (fun i h => h.IsValIter I d i es.size ep /\ h.get? d = some od) where
  sub := fun b hb => by simp at hb; simp [hb]
  frame := fun _ _ _ st hk => ⟨st.1.at fun o e => hk I (by simp) o e, hk d (by simp) _ st.2⟩
  item := fun i s Q E hi st hQ => by
    refine next_val_item st.1 st.2 hdd rfl (Array.getElem?_eq_getElem hi) fun h' hit' hs' => ?_
    exact hQ _ h' s.toks ⟨_, Array.getElem?_eq_getElem hi, rfl⟩ ⟨hit', (hs'.2 d hne).trans st.2⟩ fun b o hb e => hs'.extBut b o (fun h => hb (by simp [h])) e
  done := fun s Q E st hQ => next_val_end hh st.1 st.2 hdd rfl (Nat.le_refl _) fun h' he' => hQ h' s.toks fun b o hb e => he' b o (fun h => hb (by simp [h])) e
  self := fun _ _ _ _ st hQ => wpAny_pyIter_valiter st.1 hQ
theorem iter_vview {v d : Addr} {od : Obj} {es : Array DictEntry} {ep : Nat} {Q : Value -> Shared -> Prop} (hv : s.heap.IsValuesView v d) (ho : s.heap.get? d = some od) (hdat : od.data = .dict es ep)
    (hQ : Q (.ref s.heap.objs.size) { s with heap := s.heap.push { cls := .type "dict_valueiterator", data := .fields #[.ref d, .int 0 0, .int es.size 0, .int ep 0] } }) :
    wpAny (model prog w) A (pyIter (.ref v)) Q E s := by
  obtain ⟨ov, hov, hcv, hdv⟩ := id hv
  refine wpAny_pyIter_slot hv.typeIs PySem.F.slot_dict_values_iter (wpAny_call_entry PySem.F.slot_dict_values_iter hv.typeIs PySem.F.entry_dict_values_iter ?_ (PySem.F.args_dict_values_iter_1 _))
  unfold Builtin.«dict_values.__iter__»
  refine wpAny_bind (wpAny_pure ?_)
  refine wpAny_bind ?_
  unfold Builtin.Dict_items.dictOf
  refine wpAny_bind (wpAny_field hov hdv (x := .ref d) rfl (wpAny_pure ?_))
  refine wpAny_bind ?_
  unfold Builtin.Dict_items.newIterator
  refine wpAny_bind (wpAny_dictEntries ho hdat ?_)
  refine wpAny_bind (wpAny_dictEpoch ho hdat ?_)
  have hown : Builtin.Dict_items.ownsTuple "dict_valueiterator" = false := by decide
  simp only [hown, Bool.false_eq_true, if_false]
  refine wpAny_newObj_type (wpAny_pure ⟨_, rfl, "dict_valueiterator", _, ⟨_, Heap.get?_push_size _ rfl, rfl⟩, PySem.F.slot_dict_valueiterator_next.lookup, ?_⟩)
  simpa [rawInt] using hQ
theorem hint_vview {v d : Addr} {Q : Bool -> Shared -> Prop} (hv : s.heap.IsValuesView v d) (h : Q false s) : wpAny (model prog w) A (Builtin.List.listLengthHint (.ref v)) Q E s := by
  unfold Builtin.List.listLengthHint
  refine wpAny_bind (wpAny_specialOf hv.typeIs PySem.F.slot_dict_values_len.lookup ?_)
  generalize hid : ("dict_values.__len__" : String) = id0
  wp_delta
  rw [show splitId id0 = some ("dict_values", "__len__") from by subst hid; decide +kernel]
  subst hid
  refine wpAny_bind (wpAny_isInstance (T := "dict_values") (b := true) hv.typeIs (by rw [isSubtype_type]; kernel_rfl) ?_)
  refine wpAny_ite_split (fun hab => absurd hab (by decide)) (fun _ => ?_)
  refine wpAny_ite_split (fun _ => ?_) (fun hab => absurd (by decide +kernel) hab)
  exact wpAny_bind (wpAny_typeOf hv.typeIs (wpAny_pure h))
theorem extend_vview {R : Result -> Shared -> Prop} {v d : Addr} {od : Obj} {es : Array DictEntry} {ep : Nat} (hh : A.handled = Option.none) (hv : s.heap.IsValuesView v d) (ho : s.heap.get? d = some od) (hdat : od.data = .dict es ep)
    (hlen : es.size <= sizeLine) (S : Addr) (res : Value) (c₀ : Nat) (hS : s.heap.get? S = some { cls := .type "list", data := .seq #[] c₀ })
    (hR : ∀ h' tk acc' c', (∀ b o, b ≠ S -> s.heap.get? b = some o -> h'.get? b = some o) -> h'.get? S = some { cls := .type "list", dict := Option.none, data := .seq acc' c', slots := #[] } ->
      ItemsOf (fun i v => ∃ en, es[i]? = some en /\ v = en.val) acc' es.size -> R (.ok (.ret res)) { s with heap := h', toks := tk }) :
    wpAny (model prog w) A.in1 (Builtin.List.listExtendWith (.ref S) (.ref v) res)
      (fun fin s' => match fin with | .done f => R (.ok f) s' | .again c' => c'.quiet = true /\ codeAny (model prog w) A c' R s') (fun e s' => R (.error e) s') s := by
  obtain ⟨ov, hov, hcv, hdv⟩ := id hv
  have hSv : S ≠ v := fun e => by rw [e, hov] at hS; cases hS; exact absurd hcv (by simp)
  have hSlt : S < s.heap.objs.size := Heap.lt_size hS
  have hSI : S ≠ s.heap.objs.size := Nat.ne_of_lt hSlt
  have hSd : S ≠ d := fun e => by rw [e, ho] at hS; cases hS; cases hdat
  have hdI : d ≠ s.heap.objs.size := Nat.ne_of_lt (Heap.lt_size ho)
  have hSf : S ∉ [s.heap.objs.size, d] := fun hm => by
    rcases List.mem_cons.mp hm with e | e
    · exact hSI e
    · exact hSd (List.mem_singleton.mp e)
  have W := (walks_vals (prog := prog) (w := w) (A := A.in1) hh s.heap.objs.size d hdI hdat).toS
  have key : ∀ (h : Heap) (c₁ tk : Nat), h.IsValIter s.heap.objs.size d 0 es.size ep -> (∀ b o, b ≠ S -> s.heap.get? b = some o -> h.get? b = some o) ->
      h.get? S = some { cls := .type "list", data := .seq #[] c₁ } -> codeAny (model prog w) A (.builtin "list.extend.loop" ⟨[.ref S, .ref s.heap.objs.size, res], []⟩) R { s with heap := h, toks := tk } := by
    intro h c₁ tk hit hk hS₁
    refine codeAny_extend_loopS W hlen S hSf res es.size 0 _ #[] c₁ rfl (Nat.zero_le _) ⟨hit, hk d _ (Ne.symm hSd) ho⟩ hS₁ (ItemsOf.nil _) fun s' acc' c' hm hS' hacc => ?_
    rw [Moved.eq_with hm]
    refine hR s'.heap s'.toks acc' c' (fun b o hb e => hm.heap b o (fun hmem => ?_) (hk b o hb e)) hS' hacc
    rcases List.mem_cons.mp hmem with e' | hmem
    · exact hb e'
    · exact absurd (Heap.lt_size e) (by rw [List.mem_singleton.mp hmem]; exact Nat.lt_irrefl _)
  unfold Builtin.List.listExtendWith
  refine wpAny_bind (wpAny_typeOf (T := "dict_values") hv.typeIs ?_)
  have h1 : Builtin.List.listSameRef (.ref S) (.ref v) = false := by simp [Builtin.List.listSameRef, hSv]
  have h2 : (Value.type "dict_values" == Value.type "list") = false := by decide
  have h3 : (Value.type "dict_values" == Value.type "tuple") = false := by decide
  simp only [h1, h2, h3, Bool.or_false, Bool.false_eq_true, if_false]
  refine wpAny_bind (iter_vview hv ho hdat ?_)
  refine wpAny_bind (wpAny_holding (hint_vview (v := v) (d := d) ⟨_, Heap.get?_push_of_some _ hov, hcv, hdv⟩ ?_))
  have hit₁ : (s.heap.push { cls := .type "dict_valueiterator", data := .fields #[.ref d, .int 0 0, .int es.size 0, .int ep 0] }).IsValIter s.heap.objs.size d 0 es.size ep := ⟨_, Heap.get?_push_size _ rfl, rfl, rfl⟩
  have hS₁ := Heap.get?_push_of_some { cls := .type "dict_valueiterator", data := .fields #[.ref d, .int 0 0, .int es.size 0, .int ep 0] } hS
  refine wpAny_ite_split (fun _ => ?_) (fun _ => wpAny_pure ⟨plainId_quiet PySem.F.plain_extend_loop _, key _ c₀ _ hit₁ (fun b o _ e => Heap.get?_push_of_some _ e) hS₁⟩)
  refine wpAny_bind (wpAny_rule ?_)
  refine wpAny_bind ?_
  show wpAny _ _ (updateSeq S (·.push .none) >>= fun _ => updateSeq S (·.pop)) _ _ _
  refine wpAny_bind (wpAny_updateSeq hS₁ rfl ?_)
  have hS₂ := Heap.get?_update_self (Obj.mapSeq (·.push Value.none)) hS₁ rfl
  refine wpAny_updateSeq (hz := by seq_fits) hS₂ rfl ?_
  have hS₃ := Heap.get?_update_self (Obj.mapSeq (·.pop)) hS₂ rfl
  refine wpAny_pure ⟨plainId_quiet PySem.F.plain_extend_loop _, key _ _ _ (hit₁.at fun o e => ?_) (fun b o hb e => ?_) hS₃⟩
  · exact (Heap.get?_update_other _ _ hSI).trans ((Heap.get?_update_other _ _ hSI).trans e)
  · exact (Heap.get?_update_other _ _ (Ne.symm hb)).trans ((Heap.get?_update_other _ _ (Ne.symm hb)).trans (Heap.get?_push_of_some _ e))
theorem init_vview {R : Result -> Shared -> Prop} {v d : Addr} {od : Obj} {es : Array DictEntry} {ep : Nat} (hh : A.handled = Option.none) (hv : s.heap.IsValuesView v d) (ho : s.heap.get? d = some od) (hdat : od.data = .dict es ep)
    (hlen : es.size <= sizeLine) (S : Addr) (hS : s.heap.get? S = some { cls := .type "list", data := .seq #[] })
    (hR : ∀ h' tk acc' c', (∀ b o, b ≠ S -> s.heap.get? b = some o -> h'.get? b = some o) -> h'.get? S = some { cls := .type "list", dict := Option.none, data := .seq acc' c', slots := #[] } ->
      ItemsOf (fun i v => ∃ en, es[i]? = some en /\ v = en.val) acc' es.size -> R (.ok (.ret .none)) { s with heap := h', toks := tk }) :
    wpAny (model prog w) A.in1 (Builtin.«list.__init__» ⟨[.ref S, .ref v], []⟩)
      (fun fin s' => match fin with | .done f => R (.ok f) s' | .again c' => c'.quiet = true /\ codeAny (model prog w) A c' R s') (fun e s' => R (.error e) s') s := by
  obtain ⟨ov, hov, hcv, hdv⟩ := id hv
  have hSv : S ≠ v := fun e => by rw [e, hov] at hS; cases hS; exact absurd hcv (by simp)
  have hSd : S ≠ d := fun e => by rw [e, ho] at hS; cases hS; cases hdat
  show wpAny _ _ (do let old ← Builtin.List.listItems (.ref S); Builtin.List.listUpdate (.ref S) (fun _ => #[]); letGo old.toList.reverse; Builtin.List.listExtendWith (.ref S) (.ref v) .none) _ _ s
  refine wpAny_bind ?_
  unfold Builtin.List.listItems
  refine wpAny_bind (wpAny_seqItems hS rfl (wpAny_pure ?_))
  show wpAny _ _ (updateSeq S (fun _ => #[]) >>= fun _ => letGo (#[] : Array Value).toList.reverse >>= fun _ => Builtin.List.listExtendWith (.ref S) (.ref v) .none) _ _ s
  refine wpAny_bind (wpAny_updateSeq hS rfl ?_)
  have hS₂ := Heap.get?_update_self (Obj.mapSeq (fun _ => (#[] : Array Value))) hS rfl
  have oth : ∀ b o, b ≠ S -> s.heap.get? b = some o -> (s.heap.update S (Obj.mapSeq (fun _ => (#[] : Array Value)))).get? b = some o :=
    fun b o hb e => (Heap.get?_update_other _ _ (Ne.symm hb)).trans e
  refine wpAny_bind (wpAny_letGo ?_)
  refine extend_vview hh ⟨_, oth v _ (Ne.symm hSv) hov, hcv, hdv⟩ (oth d _ (Ne.symm hSd) ho) hdat hlen S .none _ hS₂ fun h' tk acc' c' hk hS' hacc => ?_
  exact hR h' tk acc' c' (fun b o hb e => hk b o hb (oth b o hb e)) hS' hacc
theorem call_list_vview {Q : Value -> Shared -> Prop} {v d : Addr} {od : Obj} {es : Array DictEntry} {ep : Nat} (hh : A.handled = Option.none) (hv : s.heap.IsValuesView v d) (ho : s.heap.get? d = some od) (hdat : od.data = .dict es ep)
    (hlen : es.size <= sizeLine)
    (hQ : ∀ h' tk acc' c', (∀ b o, s.heap.get? b = some o -> h'.get? b = some o) ->
      h'.get? s.heap.objs.size = some { cls := .type "list", dict := Option.none, data := .seq acc' c', slots := #[] } -> ItemsOf (fun i v => ∃ en, es[i]? = some en /\ v = en.val) acc' es.size -> Q (.ref s.heap.objs.size) { s with heap := h', toks := tk }) :
    wpAny (model prog w) A (call (.type "list") [.ref v]) Q E s := by
  obtain ⟨ov, hov, hcv, hdv⟩ := id hv
  refine callType_codes (Q₁ := fun obj s₁ => obj = .ref s.heap.objs.size /\ s₁ = { s with heap := s.heap.push { cls := .type "list", data := .seq #[] } }) PySem.F.called_list (PySem.F.typeCall_list_1 _) PySem.F.entry_list_init
    (code_list_new _ ⟨rfl, rfl⟩) fun obj s₁ h₁ => ?_
  obtain ⟨rfl, rfl⟩ := h₁
  have hS : (s.heap.push { cls := .type "list", data := .seq #[] }).get? s.heap.objs.size = some { cls := .type "list", data := .seq #[] } := Heap.get?_push_size _ rfl
  refine ⟨⟨_, hS, rfl⟩, PySem.F.args_list_init_2 _ _, init_vview (A := A.in1) hh ⟨_, Heap.get?_push_of_some _ hov, hcv, hdv⟩ (Heap.get?_push_of_some _ ho) hdat hlen _ hS fun h' tk acc' c' hk hS' hacc => ?_⟩
  exact ⟨rfl, hQ h' tk acc' c' (fun b o e => hk b o (Nat.ne_of_lt (Heap.lt_size e)) (Heap.get?_push_of_some _ e)) hS' hacc⟩
theorem meets_valsT (d : Addr) (hd : (d == sysModules) = false) :
    MeetsIn prog w (Builtin.«dict.values» ⟨[.ref d], []⟩) (fun _ R s => s.TypeIs (.ref d) "dict" /\
      R (.ok (.ret (.ref s.heap.objs.size))) { s with heap := s.heap.push { cls := .type "dict_values", data := .fields #[.ref d] } }) :=
  .of_wp fun A R s ⟨hm, h⟩ => by
    refine wpAny_bind ?_
    unfold Builtin.Dict.noArgs
    refine wpAny_bind (wpAny_notOrdered_dict hm ?_)
    show wpAny _ _ (pure d) _ _ s
    refine wpAny_pure ?_
    show wpAny _ _ (Builtin.Dict.showsAll d >>= _) _ _ s
    unfold Builtin.Dict.showsAll
    rw [if_neg (by rw [hd]; exact Bool.false_ne_true)]
    refine wpAny_bind (wpAny_pure ?_)
    exact wpAny_bind (wpAny_newObj_type (wpAny_pure ⟨_, rfl, h⟩))
end
theorem Inv.frzTv {X : Cx} {pins : List (Addr × Obj)} {σ : L2.St} {H : Hp} {s : Shared} {d : Addr} {o : Obj} {kvs : List (List Key × V)} (I : Inv X pins σ H s) (h : H d = some (.frz o (.dT kvs))) :
    (d == sysModules) = false /\ s.heap.get? d = some o /\ o.ExactDict /\ kvs.length <= sizeLine /\ ∃ (es : Array DictEntry) (ep : Nat), o.data = .dict es ep /\ es.size = kvs.length /\
      (∀ (i : Nat) (k : List Key) (v : V), kvs[i]? = some (k, v) -> ∃ (en : DictEntry) (q : Addr), es[i]? = some en /\ en.key = .ref q /\ H q = some (.tup (k.map kV)) /\ RelV v en.val) := by
  obtain ⟨hd, z, hs, xs, pr, o', es, ep, ho, hx, hdt, he, _⟩ := I.hok d _ h
  rw [hd] at ho
  cases ho
  refine ⟨hs, hd, hx, z, es, ep, hdt, ?_, fun i k v e => ?_⟩
  · have l1 : es.size = xs.length := size_of_entries he
    have l2 : kvs.length = xs.length := Paired.length pr
    omega
  · obtain ⟨b, hb, e1, e2, e3⟩ := paired_get pr e
    have q := entry_at he i
    rw [hb] at q
    exact ⟨_, b.2.1, q, rfl, e2, e3⟩
theorem vals_of {vs : List V} {us : List Value} (hl : vs.length = us.length) (h : ∀ (i : Nat) (v : V) (u : Value), vs[i]? = some v -> us[i]? = some u -> RelV v u) : Vals vs us := by
  induction vs generalizing us with
  | nil =>
    cases us with
    | nil => exact .nil
    | cons u us => cases hl
  | cons v vs ih =>
    cases us with
    | nil => cases hl
    | cons u us => exact .cons (h 0 v u rfl rfl) (ih (by simpa using hl) fun i v' u' e1 e2 => h (i + 1) v' u' e1 e2)
section
variable {X : Cx} {e : Expr} {td : TE} {p pos apos cpos : Pos}
def vvO (v d : Addr) : HO := .ext fun h => h.IsValuesView v d
def tDVals (td : TE) : TE := fun σ H Q => td σ H fun x H1 => ∃ d o kvs, x = .ref d /\ H1 d = some (.frz o (.dT kvs)) /\ ∀ v, H1 v = Option.none -> Q (.ref v) (upd H1 v (vvO v d))
theorem pe_dvals (he : PE X e td) (hbase : attributeBase e "values" X.env (eval e X.env) = eval e X.env := by rfl) (hline : (apos.endLine == cpos.line) = true := by rfl) : PE X (.Call (.Attribute e "values" apos) [] [] cpos) (tDVals td) := by
  intro pins s σ H Q I h
  refine wpAny_Call_method (T := "dict") (id := "dict.values") hbase rfl hline F.plainAttrs_dict F.slot_dict_values F.type_dict_values (thn (he pins s σ H _ I h) fun u s1 ⟨x, H1, I1, rx, d, o, kvs, ex, hd, q⟩ => ?_)
  subst ex
  obtain rfl : u = Value.ref d := rx
  obtain ⟨hs, hgd, hx, _, es, ep, hdt, hsz, _⟩ := I1.frzTv hd
  have hT : s1.TypeIs (.ref d) "dict" := ⟨o, hgd, hx.1⟩
  refine ⟨hT, fun b q => ?_, ?_⟩
  · cases q
    exact ⟨o, hgd, hx.2.1⟩
  have fin : EP X pins σ Q (.ref s1.heap.objs.size) { s1 with heap := s1.heap.push { cls := .type "dict_values", data := .fields #[.ref d] } } :=
    ⟨.ref s1.heap.objs.size, _, I1.laid (t' := s1.toks) (o := vvO s1.heap.objs.size d) (fun b o e => Heap.get?_push_of_some _ e) (Nat.le_refl _)
      ⟨⟨_, Heap.get?_push_size _ rfl, rfl, rfl⟩, ⟨_, Heap.get?_push_size _ rfl⟩, fun h1 h2 ⟨o, e, r⟩ k => ⟨o, k o e, r⟩⟩, rfl, q _ (I1.hok.fresh (Nat.le_refl _))⟩
  show wpAny _ _ (callWith cpos (.builtin "dict.values") [.ref d] [] []) _ X.xe s1
  exact method_meetsIn F.slot_dict_values F.entry_dict_values rfl (PySem.evalArgs_none ⟨rfl, hT, F.args_dict_values_1 _, _, meets_valsT d hs, hT, fin⟩)
theorem call_listV (hc : X.calm = true) : CallR X (.type "list") (fun xs H Q => ∃ v d o kvs, xs = [V.ref v] /\ H v = some (vvO v d) /\ H d = some (.frz o (.dT kvs)) /\ ∀ l, H l = Option.none -> Q (.ref l) (upd H l (.lst (kvs.map (·.2))))) := by
  intro pins s σ H xs us Q I r h
  obtain ⟨v, d, o, kvs, rfl, hv, hd, q⟩ := h
  obtain ⟨u, rfl, rx⟩ := vals1 r
  cases rx
  obtain ⟨hs, hgd, hx, hz, es, ep, hdt, hsz, ent⟩ := I.frzTv hd
  obtain ⟨view, _, _⟩ := (show ObjOk X.prog X.w H s.heap v (vvO v d) from I.hok v _ hv)
  refine call_list_vview (I.ok.hd hc) view hgd hdt (by rw [hsz]; exact hz) fun h' tk acc' c' kp e items => ?_
  refine ⟨.ref s.heap.objs.size, _, I.laid (t' := tk) (o := .lst (kvs.map (·.2))) kp (Nat.le_refl _) ⟨by rw [List.length_map]; exact hz, acc'.toList, c', ?_, by simpa using e⟩, rfl, q _ (I.hok.fresh (Nat.le_refl _))⟩
  refine vals_of ?_ fun i v u e1 e2 => ?_
  · have h9 := items.1
    rw [hsz] at h9
    rw [List.length_map]
    simpa using h9.symm
  · rw [List.getElem?_map] at e1
    cases e3 : kvs[i]? with
    | none => rw [e3] at e1; cases e1
    | some kv =>
      rw [e3] at e1
      cases e1
      obtain ⟨en, q', h1, h2, h3, h4⟩ := ent i kv.1 kv.2 e3
      obtain ⟨en', h5, h6⟩ := items.2 i u (by simpa using e2)
      rw [h1] at h5
      cases h5
      rw [h6]
      exact h4
end
end L2
set_option Elab.async false
set_option linter.all false
set_option maxRecDepth 100000
set_option maxHeartbeats 4000000
set_option Elab.async false
set_option linter.all false
set_option maxRecDepth 100000
set_option maxHeartbeats 4000000
namespace Pw
open PySem PySem.Spec PyProof.Rows L2
theorem num_bound {l r : List Nat} {v : Sn77.V} (h : Mt.num l = some (v, r)) : ∃ z : Int, v = .int z /\ -(2 ^ 63) <= z /\ z <= 2 ^ 63 := by
  have hd : ∀ {m : Nat} {l : List Nat} {x : Nat × List Nat}, Mt.digs m l = some x -> x.1 <= m := fun {m l x} e => by
    unfold Mt.digs at e
    split at e
    · cases e
    · rename_i z
      cases e
      show Sn77.natOf _ <= m
      omega
  unfold Mt.num at h
  split at h
  · split at h
    · cases h
    · cases e : Mt.digs (2 ^ 63) l.tail with
      | none => rw [e] at h; cases h
      | some x =>
        rw [e] at h
        cases h
        have := hd e
        exact ⟨_, rfl, by omega, by omega⟩
  · split at h
    · cases h
      exact ⟨0, rfl, by decide, by decide⟩
    · cases e : Mt.digs (2 ^ 63 - 1) l with
      | none => rw [e] at h; cases h
      | some x =>
        rw [e] at h
        cases h
        have := hd e
        exact ⟨_, rfl, by omega, by omega⟩
section
variable {P : Program} {w : World} {K : PySem.W.Frag} {mg : Str -> Option Value} {base : Heap} {f : Addr} {fd : FuncData} {C cN r : Addr} {src : Sc} {l : List Nat} {H : Hp}
def spNumber (K : PySem.W.Frag) (C cN : Addr) : Sp := fun vs H Q E => ∃ (r : Addr) (src : Sc) (l : List Nat), vs = [.ref r] /\ Src src /\ Rdr K C src H r l /\
  (∀ z l', Mt.num l = some (.int z, l') -> ∀ H', Rdr K C src H' r l' -> Keep r H H' -> Q (.int z) H') /\ (Mt.num l = Option.none -> ∀ H', E (.ref cN) Option.none H')
theorem sc_read_number : FnScope ["self", "below_zero"] ["self"] (defScope m_read_number) := ⟨rfl, rfl, rfl, by decide +kernel, rfl, by decide +kernel, by decide +kernel⟩
theorem hd_iff {l : List Nat} {c : Nat} (hc : c < 256) : l.head? = some c ↔ hdN l = c := head_iff hc
theorem ok_read_number (F : Fun K "read_number" "Reader.read_number" m_read_number f fd) (T : Txt K mg C cN) (gM : Gv mg "MINUS" (.int 45)) (gZ : Gv mg "ZERO" (.int 48)) (gL : Gv mg "LARGEST" (.int 9223372036854775807))
    (ti : MethOk P w K mg base CX0 2 C "take_if" ["self", "wanted"] (spTakeIf K C)) (dg : MethOk P w K mg base (CXe P w) 3 C "read_digits" ["self", "most"] (spDigits K C cN)) : FnOk P w K mg base (CXe P w) 4 f fd ["self"] (spNumber K C cN) := by
  refine F.okX sc_read_number (fun vs H Q E h => ?_) (fun cdv A outer s H vs Q E hr h => ?_)
  · obtain ⟨r, src, l, rfl, _⟩ := h
    rfl
  obtain ⟨r, src, l, rfl, hsrc, R, q, qe⟩ := h
  have nd := sc_read_number.nd
  refine ⟨_, pss_cons (ps_set (i := 1) nd rfl (Or.inl rfl) (pe_methD (pv 0) T.cl ti hr pass0 (pa_cons (pe_g gM) pa_nil)))
    (pss_cons (ps_if (pt_val (pe_methD (pv 0) T.cl ti hr pass0 (pa_cons (pe_g gZ) pa_nil))) (pss_cons (ps_if (pt_val (pv 1)) (pss_one (ps_raise rfl rfl T.mN T.xN raises_cx)) pss_nil) (pss_one (ps_ret pe_int))) pss_nil)
    (pss_cons (ps_if (pt_val (pv 1)) (pss_one (ps_ret (pe_un un_neg (pe_methD (pv 0) T.cl dg hr pass_cx (pa_cons (pe_op op_add (pe_g gL) pe_int) pa_nil))))) pss_nil)
    (pss_one (ps_ret (pe_methD (pv 0) T.cl dg hr pass_cx (pa_cons (pe_g gL) pa_nil)))))), ?_⟩
  unfold Mt.num at q qe
  refine R.m rfl (by decide +kernel) (by decide +kernel) (by decide +kernel) ?_
  refine ⟨r, src, l, 45, rfl, hsrc, R, fun z1 => ?_, fun z1 H1 R1 k1 => ?_⟩
  · have n1 : ¬ l.head? = some 45 := fun y => z1 ((hd_iff (by decide)).mp y)
    rw [if_neg n1] at qe
    simp only [if_neg n1] at q
    refine R.m rfl (by decide +kernel) (by decide +kernel) (by decide +kernel) ?_
    refine ⟨r, src, l, 48, rfl, hsrc, R, fun z2 => ⟨_, rfl, iteF ?_⟩, fun z2 H2 R2 k2 => ⟨_, rfl, iteT ?_⟩⟩
    · have n2 : ¬ l.head? = some 48 := fun y => z2 ((hd_iff (by decide)).mp y)
      rw [if_neg n2] at qe
      simp only [if_neg n2] at q
      refine ⟨_, rfl, _, rfl, iteF ?_⟩
      refine R.m rfl (by decide +kernel) (by decide +kernel) (by decide +kernel) ?_
      unfold Mt.digs at q qe
      refine ⟨r, src, l, 9223372036854775807, rfl, hsrc, R, fun a b H3 R3 k3 => ?_, fun a => qe ?_⟩
      · have n3 : ¬ (l.takeWhile Sn77.digit = [] ∨ 2 ^ 63 - 1 < Sn77.natOf (l.takeWhile Sn77.digit)) := by
          rintro (y | y)
          · exact a y
          · omega
        simp only [if_neg n3] at q
        exact q _ _ rfl H3 R3 k3
      · rw [if_pos]
        · rfl
        · rcases a with a | a
          · exact .inl a
          · exact .inr (by omega)
    · have n2 : l.head? = some 48 := (hd_iff (by decide)).mpr z2
      simp only [if_pos n2] at q
      exact ⟨_, rfl, _, rfl, iteF (q _ _ rfl H2 R2 k2)⟩
  · have n1 : l.head? = some 45 := (hd_iff (by decide)).mpr z1
    rw [if_pos n1] at qe
    simp only [if_pos n1] at q
    refine R1.m rfl (by decide +kernel) (by decide +kernel) (by decide +kernel) ?_
    refine ⟨r, src, l.tail, 48, rfl, hsrc, R1, fun z2 => ⟨_, rfl, iteF ?_⟩, fun z2 H2 R2 k2 => ⟨_, rfl, iteT ?_⟩⟩
    · have n2 : ¬ l.tail.head? = some 48 := fun y => z2 ((hd_iff (by decide)).mp y)
      rw [if_neg n2] at qe
      simp only [if_neg n2] at q
      refine ⟨_, rfl, _, rfl, iteT ?_⟩
      refine R1.m rfl (by decide +kernel) (by decide +kernel) (by decide +kernel) ?_
      unfold Mt.digs at q qe
      refine ⟨_, _, rfl, rfl, r, src, l.tail, 9223372036854775808, rfl, hsrc, R1, fun a b H3 R3 k3 => ?_, fun a => qe ?_⟩
      · have n3 : ¬ (l.tail.takeWhile Sn77.digit = [] ∨ 2 ^ 63 < Sn77.natOf (l.tail.takeWhile Sn77.digit)) := by
          rintro (y | y)
          · exact a y
          · omega
        simp only [if_neg n3] at q
        exact ⟨_, rfl, q _ _ rfl H3 R3 (k1.trans k3)⟩
      · rw [if_pos]
        · rfl
        · rcases a with a | a
          · exact .inl a
          · exact .inr (by omega)
    · have n2 : l.tail.head? = some 48 := (hd_iff (by decide)).mpr z2
      rw [if_pos n2] at qe
      exact ⟨_, rfl, _, rfl, iteT (qe rfl _)⟩
def vOf : Sn77.V -> V
  | .null => .non
  | .bool b => .bl b
  | .int z => .int z
  | _ => .non
def spWord (K : PySem.W.Frag) (C cN : Addr) : Sp := fun vs H Q E => ∃ (r : Addr) (src : Sc) (l : List Nat), vs = [.ref r] /\ Src src /\ Rdr K C src H r l /\
  (∀ v l', Mt.word l = some (v, l') -> ∀ H', Rdr K C src H' r l' -> Keep r H H' -> Q (vOf v) H') /\ (Mt.word l = Option.none -> ∀ H', E (.ref cN) Option.none H')
theorem sc_read_word : FnScope ["self", "word", "value"] ["self"] (defScope m_read_word) := ⟨rfl, rfl, rfl, by decide +kernel, rfl, by decide +kernel, by decide +kernel⟩
theorem dp_ints {K : PySem.W.Frag} {H : Hp} {a : Addr} {l : List Nat} (h : SqL K H a (bV l)) : Dp K H (.ref a) (.list (l.map fun c => .int (c : Nat))) := by
  refine .lst h ?_
  clear h
  induction l with
  | nil => exact .nil
  | cons c r ih => exact .cons (.int _) ih
theorem eqv_ints (a b : List Nat) : PyData.eqvAll (a.map fun c => .int (c : Nat)) (b.map fun c => .int (c : Nat)) = decide (a = b) := by
  induction a generalizing b with
  | nil =>
    cases b with
    | nil => rfl
    | cons c r => rfl
  | cons c r ih =>
    cases b with
    | nil => rfl
    | cons d t =>
      show (PyData.eqv (.int (c : Nat)) (.int (d : Nat)) && PyData.eqvAll _ _) = _
      rw [ih]
      show (((c : Int) == (d : Int)) && decide (r = t)) = _
      by_cases h : c = d
      · subst h
        by_cases h2 : r = t
        · subst h2; simp
        · rw [decide_eq_false h2, decide_eq_false (fun z => h2 (List.cons.inj z).2), Bool.and_false]
      · rw [decide_eq_false (fun z => h (List.cons.inj z).1), beq_eq_false_iff_ne.mpr (by omega), Bool.false_and]
end
end Pw
set_option Elab.async false
set_option linter.all false
set_option maxRecDepth 100000
set_option maxHeartbeats 4000000
namespace L2
open PySem PySem.Spec PyProof.Rows
def MakeOk (P : Program) (w : World) (K : PySem.W.Frag) (mg : Str -> Option Value) (base : Heap) (CX : CXT) (k : Nat) (C : Addr) (x : Str) (ps : List Str) (sp : Sp) : Prop :=
  ∃ f fd, mg x = some (.ref C) /\ Mk K C f /\ FnOk P w K mg base CX k f fd ps sp /\ Binds K fd ps []
theorem pe_makeD {X : Cx} {CX : CXT} {k k' : Nat} {C : Addr} {x : Str} {ps : List Str} {sp : Sp} {E : XK} {e : Expr} {es : List Expr} {t : TA} {p pos : Pos} (F : MakeOk X.prog X.w X.K X.mg X.base CX k C x ps sp) (hr : Room k' X.A) (hx : Passes CX X E) (ha : PA X (e :: es) t)
    (hk : k + 1 <= k' := by omega) (hg : Gl X x := by rfl) (hdb : (x == ("__debug__" : Str)) = false := by decide) (he : starEach (e :: es) X.env = (false, eval e X.env) :: starEach es X.env := by rfl) (hpl : (backTo pos (starEach es X.env)).any (·.1) = false := by rfl) :
    PE X (.Call (.Name x p) (e :: es) [] pos) (tMake C sp [] E t) := by
  obtain ⟨f, fd, hm, M, G, b⟩ := F
  exact pe_make M G (hr.mono hk) hg hm b .nil hx ha hdb he hpl
end L2
namespace Pw
open PySem PySem.Spec PyProof.Rows L2
def vf (c : V) (n d : Nat) : List (Str × V) := putF "depth" (.int (d : Nat)) (putF "size" (.int (n : Nat)) (putF "content" c []))
theorem vf_content (c : V) (n d : Nat) : (vf c n d).lookup ("content" : Str) = some c := by
  unfold vf
  rw [lookup_putF, if_neg (by decide +kernel), lookup_putF, if_neg (by decide +kernel), lookup_putF, if_pos rfl]
theorem vf_size (c : V) (n d : Nat) : (vf c n d).lookup ("size" : Str) = some (.int (n : Nat)) := by
  unfold vf
  rw [lookup_putF, if_neg (by decide +kernel), lookup_putF, if_pos rfl]
theorem vf_depth (c : V) (n d : Nat) : (vf c n d).lookup ("depth" : Str) = some (.int (d : Nat)) := by
  unfold vf
  rw [lookup_putF, if_pos rfl]
structure VTxt (K : PySem.W.Frag) (CV : Addr) : Prop where
  cl : Cls K CV
  nC : NoAttr K CV "content"
  nS : NoAttr K CV "size"
  nD : NoAttr K CV "depth"
section
variable {P : Program} {w : World} {K : PySem.W.Frag} {mg : Str -> Option Value} {base : Heap} {f : Addr} {fd : FuncData} {CV : Addr}
def spVInit (CV : Addr) : Sp := fun vs H Q _ => ∃ (p dx : Addr) (c : V) (n d : Nat), vs = [.ref p, c, .int (n : Nat), .int (d : Nat)] /\ H p = some (.ins CV dx []) /\ ∀ H' : Hp, (∃ dx', H' p = some (.ins CV dx' (vf c n d))) -> Keep p H H' -> Q .non H'
theorem sc_vinit : FnScope ["self", "content", "size", "depth"] ["self", "content", "size", "depth"] (defScope m_init_Value) := ⟨rfl, rfl, rfl, by decide +kernel, rfl, by decide +kernel, by decide +kernel⟩
theorem ok_vinit (F : Fun K "__init__" "Value.__init__" m_init_Value f fd) (T : VTxt K CV) : FnOk P w K mg base CX0 1 f fd ["self", "content", "size", "depth"] (spVInit CV) := by
  refine F.ok sc_vinit (fun vs H Q E h => ?_) (fun cdv A outer s H vs Q E hr h => ?_)
  · obtain ⟨p, dx, c, n, d, rfl, _⟩ := h
    rfl
  obtain ⟨p, dx, c, n, d, rfl, hp, q⟩ := h
  refine ⟨_, pss_cons (ps_fld (pv 0) (pv 1) rfl) (pss_cons (ps_fld (pv 0) (pv 2) rfl) (pss_one (ps_fld (pv 0) (pv 3) rfl))), ?_⟩
  refine ⟨_, rfl, _, rfl, p, CV, dx, [], rfl, hp, T.cl, T.nC, (by show 0 < 1000; decide), ?_⟩
  refine ⟨_, rfl, _, rfl, p, CV, dx, _, rfl, upd_same, T.cl, T.nS, (by show 1 < 1000; decide), ?_⟩
  refine ⟨_, rfl, _, rfl, p, CV, dx, _, rfl, upd_same, T.cl, T.nD, (by show 2 < 1000; decide), ?_⟩
  rw [upd_upd, upd_upd]
  exact q _ ⟨dx, upd_same⟩ Keep.upd
theorem mkV {c : V} {n d : Nat} {H : Hp} {Q : VK} {E : XK} (h : ∀ a H', H a = Option.none -> Same H H' -> (∃ dx, H' a = some (.ins CV dx (vf c n d))) -> Q (.ref a) H') :
    ∀ x dx, H x = Option.none -> H dx = Option.none -> dx ≠ x -> spVInit CV (.ref x :: ([c, .int (n : Nat), .int (d : Nat)] ++ [])) (upd (upd H dx (.own x)) x (.ins CV dx [])) (fun v H2 => v = .non /\ Q (.ref x) H2) E := by
  intro x dx hx hdx ne
  refine ⟨x, dx, c, n, d, rfl, upd_same, fun H' h1 k => ⟨rfl, h x H' hx (fun b o hb => k b o ?_ (ne_of_none hb hx)) h1⟩⟩
  rw [upd_ne (ne_of_none hb hx), upd_ne (ne_of_none hb hdx)]
  exact hb
end
def keyN (n : List Nat) : List Key := n.map fun c : Nat => (Sum.inl (c : Int) : Key)
theorem keyN_kV (n : List Nat) : (keyN n).map kV = bV n := by
  unfold keyN
  rw [List.map_map]
  rfl
theorem keyN_inj {a b : List Nat} (h : keyN a = keyN b) : a = b := by
  induction a generalizing b with
  | nil =>
    cases b with
    | nil => rfl
    | cons c r => cases h
  | cons c r ih =>
    cases b with
    | nil => cases h
    | cons c' r' =>
      have h1 : (Sum.inl (c : Int) : Key) = Sum.inl (c' : Int) := (List.cons.inj h).1
      have h2 := Sum.inl.inj h1
      rw [ih (List.cons.inj h).2, show c = c' by omega]
def Nd (m : Sn77.Ms) : Prop := (m.toList.map fun x => x.1).Nodup
mutual
def RepC (CV : Addr) (H : Hp) : Sn77.V -> V -> Prop
  | .null, c => c = .non
  | .bool b, c => c = .bl b
  | .int z, c => c = .int z /\ -(2 ^ 63) <= z /\ z <= 2 ^ 63
  | .str s, c => ∃ t, c = .ref t /\ H t = some (.tup (bV s))
  | .list l, c => ∃ p o xs, c = .ref p /\ H p = some (.frz o (.lst xs)) /\ RepL CV H l xs
  | .obj m, c => ∃ p o kvs, c = .ref p /\ H p = some (.frz o (.dT kvs)) /\ RepM CV H m kvs /\ Nd m
def RepL (CV : Addr) (H : Hp) : Sn77.Vs -> List V -> Prop
  | .nil, xs => xs = []
  | .cons v r, xs => ∃ a ys dx c, xs = .ref a :: ys /\ H a = some (.ins CV dx (vf c (Sn77.write v).length (Sn77.deep v))) /\ RepC CV H v c /\ RepL CV H r ys
def RepM (CV : Addr) (H : Hp) : Sn77.Ms -> List (List Key × V) -> Prop
  | .nil, xs => xs = []
  | .cons n v r, xs => ∃ a ys dx c, xs = (keyN n, .ref a) :: ys /\ H a = some (.ins CV dx (vf c (Sn77.write v).length (Sn77.deep v))) /\ RepC CV H v c /\ RepM CV H r ys
end
def RepV (CV : Addr) (H : Hp) (v : Sn77.V) (a : Addr) : Prop := ∃ dx c, H a = some (.ins CV dx (vf c (Sn77.write v).length (Sn77.deep v))) /\ RepC CV H v c
theorem repL_iff {CV : Addr} {H : Hp} : ∀ {l : Sn77.Vs} {xs : List V}, RepL CV H l xs ↔ Paired (fun v x => ∃ a, x = V.ref a /\ RepV CV H v a) l.toList xs
  | .nil, xs => by
    rw [RepL]
    constructor
    · rintro rfl; exact .nil
    · intro h; cases h; rfl
  | .cons v r, xs => by
    rw [RepL]
    constructor
    · rintro ⟨a, ys, dx, c, rfl, h1, h2, h3⟩
      exact .cons ⟨a, rfl, dx, c, h1, h2⟩ (repL_iff.mp h3)
    · intro h
      cases h with
      | cons h t =>
        obtain ⟨a, rfl, dx, c, h1, h2⟩ := h
        exact ⟨a, _, dx, c, rfl, h1, h2, repL_iff.mpr t⟩
theorem repM_iff {CV : Addr} {H : Hp} : ∀ {l : Sn77.Ms} {xs : List (List Key × V)}, RepM CV H l xs ↔ Paired (fun (v : List Nat × Sn77.V) (x : List Key × V) => x.1 = keyN v.1 /\ ∃ a, x.2 = V.ref a /\ RepV CV H v.2 a) l.toList xs
  | .nil, xs => by
    rw [RepM]
    constructor
    · rintro rfl; exact .nil
    · intro h; cases h; rfl
  | .cons n v r, xs => by
    rw [RepM]
    constructor
    · rintro ⟨a, ys, dx, c, rfl, h1, h2, h3⟩
      exact .cons ⟨rfl, a, rfl, dx, c, h1, h2⟩ (repM_iff.mp h3)
    · intro h
      cases h with
      | @cons a b l1 l2 h t =>
        obtain ⟨h0, a, h3, dx, c, h1, h2⟩ := h
        exact ⟨a, _, dx, c, by rw [← h3, ← (show b.1 = keyN n from h0)], h1, h2, repM_iff.mpr t⟩
def Solid (CV : Addr) : HO -> Prop
  | .ins C _ _ => C = CV
  | .tup _ => True
  | .frz _ _ => True
  | _ => False
def Sol (CV : Addr) (H H' : Hp) : Prop := ∀ b o, H b = some o -> Solid CV o -> H' b = some o
theorem Sol.of {CV : Addr} {H H' : Hp} (h : Same H H') : Sol CV H H' := fun b o e _ => h b o e
theorem Keep.sol {CV r : Addr} {H H' : Hp} {o : HO} (k : Keep r H H') (hr : H r = some o) (n : ¬ Solid CV o) : Sol CV H H' := fun b u e s => k b u e fun z => by
  rw [z, hr] at e
  cases e
  exact n s
mutual
theorem RepC.sol {CV : Addr} {H H' : Hp} (s : Sol CV H H') : ∀ {v : Sn77.V} {c : V}, RepC CV H v c -> RepC CV H' v c
  | .null, c, h => by rw [RepC] at h ⊢; exact h
  | .bool b, c, h => by rw [RepC] at h ⊢; exact h
  | .int z, c, h => by rw [RepC] at h ⊢; exact h
  | .str x, c, h => by
    rw [RepC] at h ⊢
    obtain ⟨t, e, h⟩ := h
    exact ⟨t, e, s _ _ h True.intro⟩
  | .list l, c, h => by
    rw [RepC] at h ⊢
    obtain ⟨p, o, xs, e, h, r⟩ := h
    exact ⟨p, o, xs, e, s _ _ h True.intro, RepL.sol s r⟩
  | .obj m, c, h => by
    rw [RepC] at h ⊢
    obtain ⟨p, o, xs, e, h, r, n⟩ := h
    exact ⟨p, o, xs, e, s _ _ h True.intro, RepM.sol s r, n⟩
theorem RepL.sol {CV : Addr} {H H' : Hp} (s : Sol CV H H') : ∀ {l : Sn77.Vs} {xs : List V}, RepL CV H l xs -> RepL CV H' l xs
  | .nil, xs, h => by rw [RepL] at h ⊢; exact h
  | .cons v r, xs, h => by
    rw [RepL] at h ⊢
    obtain ⟨a, ys, dx, c, e, h1, h2, h3⟩ := h
    exact ⟨a, ys, dx, c, e, s _ _ h1 rfl, RepC.sol s h2, RepL.sol s h3⟩
theorem RepM.sol {CV : Addr} {H H' : Hp} (s : Sol CV H H') : ∀ {l : Sn77.Ms} {xs : List (List Key × V)}, RepM CV H l xs -> RepM CV H' l xs
  | .nil, xs, h => by rw [RepM] at h ⊢; exact h
  | .cons n v r, xs, h => by
    rw [RepM] at h ⊢
    obtain ⟨a, ys, dx, c, e, h1, h2, h3⟩ := h
    exact ⟨a, ys, dx, c, e, s _ _ h1 rfl, RepC.sol s h2, RepM.sol s h3⟩
end
theorem RepV.sol {CV : Addr} {H H' : Hp} {v : Sn77.V} {a : Addr} (h : RepV CV H v a) (s : Sol CV H H') : RepV CV H' v a := by
  obtain ⟨dx, c, h1, h2⟩ := h
  exact ⟨dx, c, s _ _ h1 rfl, h2.sol s⟩
end Pw
set_option Elab.async false
set_option linter.all false
set_option maxRecDepth 100000
set_option maxHeartbeats 4000000
namespace Pw
open PySem PySem.Spec PyProof.Rows L2
def plainV : Sn77.V -> Option V
  | .null => some .non
  | .bool b => some (.bl b)
  | .int z => some (.int z)
  | _ => Option.none
def Small (v : Sn77.V) : Prop := ∀ z, v = .int z -> -(2 ^ 63) <= z /\ z <= 2 ^ 63
def spPlainValue (CV : Addr) : Sp := fun vs H Q _ => ∃ (v : Sn77.V) (c : V), vs = [c] /\ plainV v = some c /\ Small v /\ ∀ H' a, Same H H' -> H a = Option.none -> RepV CV H' v a -> Q (.ref a) H'
def spTextValue (CV : Addr) : Sp := fun vs H Q _ => ∃ (t : Addr) (s : List Nat), vs = [.ref t] /\ H t = some (.tup (bV s)) /\ s.length <= 300000 /\ ∀ H' a, Same H H' -> H a = Option.none -> RepV CV H' (.str s) a -> Q (.ref a) H'
def spListValue (CV : Addr) : Sp := fun vs H Q _ => ∃ (p : Addr) (xs : List V) (l : Sn77.Vs), vs = [.ref p] /\ H p = some (.lst xs) /\ RepL CV H l xs /\ xs.length <= 300000 /\ ∀ H' a, Keep p H H' -> RepV CV H' (.list l) a -> Q (.ref a) H'
def spMembersValue (CV : Addr) : Sp := fun vs H Q _ => ∃ (p : Addr) (kvs : List (List Key × V)) (m : Sn77.Ms), vs = [.ref p] /\ H p = some (.dT kvs) /\ RepM CV H m kvs /\ Nd m /\ kvs.length <= 300000 /\ (∀ x ∈ m.toList, x.1.length <= 300000) /\ ∀ H' a, Keep p H H' -> RepV CV H' (.obj m) a -> Q (.ref a) H'
theorem of_toList : ∀ l : List Sn77.V, (Sn77.Vs.of l).toList = l
  | [] => rfl
  | v :: r => by
    show v :: (Sn77.Vs.of r).toList = _
    rw [of_toList r]
theorem toList_of : ∀ l : Sn77.Vs, Sn77.Vs.of l.toList = l
  | .nil => rfl
  | .cons v r => by
    show Sn77.Vs.cons v (Sn77.Vs.of r.toList) = _
    rw [toList_of r]
theorem ofM_toList : ∀ l : List (List Nat × Sn77.V), (Sn77.Ms.of l).toList = l
  | [] => rfl
  | v :: r => by
    show (v.1, v.2) :: (Sn77.Ms.of r).toList = _
    rw [ofM_toList r]
theorem toListM_of : ∀ l : Sn77.Ms, Sn77.Ms.of l.toList = l
  | .nil => rfl
  | .cons n v r => by
    show Sn77.Ms.cons n v (Sn77.Ms.of r.toList) = _
    rw [toListM_of r]
theorem paired_snoc {α β : Type} {R : α -> β -> Prop} {l : List α} {m : List β} {a : α} {b : β} (h : Paired R l m) (x : R a b) : Paired R (l ++ [a]) (m ++ [b]) := Paired.snoc h x
theorem repL_snoc {CV : Addr} {H : Hp} {pre : List Sn77.V} {xs : List V} {v : Sn77.V} {a : Addr} (h : RepL CV H (Sn77.Vs.of pre) xs) (x : RepV CV H v a) : RepL CV H (Sn77.Vs.of (pre ++ [v])) (xs ++ [.ref a]) := by
  rw [repL_iff, of_toList] at h ⊢
  exact paired_snoc h ⟨a, rfl, x⟩
theorem repM_snoc {CV : Addr} {H : Hp} {pre : List (List Nat × Sn77.V)} {xs : List (List Key × V)} {n : List Nat} {v : Sn77.V} {a : Addr} (h : RepM CV H (Sn77.Ms.of pre) xs) (x : RepV CV H v a) : RepM CV H (Sn77.Ms.of (pre ++ [(n, v)])) (xs ++ [(keyN n, .ref a)]) := by
  rw [repM_iff, ofM_toList] at h ⊢
  exact paired_snoc h ⟨rfl, a, rfl, x⟩
theorem repM_val {CV : Addr} {H : Hp} {l : List (List Nat × Sn77.V)} {kvs : List (List Key × V)} (h : Paired (fun (v : List Nat × Sn77.V) (x : List Key × V) => x.1 = keyN v.1 /\ ∃ a, x.2 = V.ref a /\ RepV CV H v.2 a) l kvs) (n : List Nat) :
    match l.find? (fun x => x.1 == n) with
    | some x => ∃ a, valV kvs (keyN n) = some (.ref a) /\ RepV CV H x.2 a
    | Option.none => valV kvs (keyN n) = Option.none := by
  induction h with
  | nil => exact rfl
  | @cons x kv l kvs h t ih =>
    obtain ⟨h1, a, h2, h3⟩ := h
    rw [List.find?_cons]
    by_cases e : x.1 = n
    · subst e
      rw [beq_self_eq_true]
      exact ⟨a, by rw [valV_pos h1, h2], h3⟩
    · rw [beq_eq_false_iff_ne.mpr e]
      have : valV (kv :: kvs) (keyN n) = valV kvs (keyN n) := valV_neg fun z => e (keyN_inj (h1.symm.trans z))
      rw [this]
      exact ih
theorem repM_nd {CV : Addr} {H : Hp} {l : List (List Nat × Sn77.V)} {kvs : List (List Key × V)} (h : Paired (fun (v : List Nat × Sn77.V) (x : List Key × V) => x.1 = keyN v.1 /\ ∃ a, x.2 = V.ref a /\ RepV CV H v.2 a) l kvs) (nd : (l.map fun x => x.1).Nodup) :
    ∀ (i : Nat) (kv : List Key × V), kvs[i]? = some kv -> valV kvs kv.1 = some kv.2 := by
  induction h with
  | nil => intro i kv e; simp at e
  | @cons x kv0 l kvs h t ih =>
    intro i kv e
    rw [List.map_cons, List.nodup_cons] at nd
    cases i with
    | zero =>
      simp only [List.getElem?_cons_zero, Option.some.injEq] at e
      subst e
      exact valV_pos rfl
    | succ j =>
      simp only [List.getElem?_cons_succ] at e
      obtain ⟨y, h1, h2, _⟩ := paired_at t e
      have hy : y.1 ∈ l.map fun x => x.1 := List.mem_map.mpr ⟨y, List.mem_of_getElem? h1, rfl⟩
      rw [valV_neg (fun z => nd.1 (by
        have : keyN x.1 = keyN y.1 := h.1.symm.trans (z.trans h2)
        rw [keyN_inj this]
        exact hy))]
      exact ih nd.2 j kv e
end Pw
set_option Elab.async false
set_option linter.all false
set_option maxRecDepth 100000
set_option maxHeartbeats 4000000
namespace Pw
open PySem PySem.Spec PyProof.Rows L2
theorem iteP {c A B : Prop} [Decidable c] (hc : c) (h : A) : if decide c = true then A else B := by rw [if_pos (decide_eq_true hc)]; exact h
theorem iteN {c A B : Prop} [Decidable c] (hc : ¬ c) (h : B) : if decide c = true then A else B := by rw [if_neg (fun z => hc (of_decide_eq_true z))]; exact h
theorem Same.updN {H H' : Hp} {p : Addr} (s : Same H H') (h : H p = Option.none) (o : HO) : Same H (L2.upd H' p o) := fun b u q => by rw [upd_ne (ne_of_none q h)]; exact s b u q
section
variable {P : Program} {w : World} {K : PySem.W.Frag} {mg : Str -> Option Value} {base : Heap} {f : Addr} {fd : FuncData} {CV : Addr}
def spPlain : Sp := fun vs H Q _ => ∃ (v : Sn77.V) (c : V), vs = [c] /\ plainV v = some c /\ Small v /\ ∀ p, H p = Option.none -> Q (.ref p) (upd H p (.lst (bV (Sn77.write v))))
theorem sc_plain_bytes : FnScope ["content"] ["content"] (defScope s_plain_bytes) := ⟨rfl, rfl, rfl, by decide +kernel, rfl, by decide +kernel, by decide +kernel⟩
theorem cps_int (z : Int) : cpsV (toString z) = bV (Sn77.write (.int z)) := by
  rw [Sn77.write]
  show (Str.ofString (toString z)).cps.toList.map (fun c => V.int (c : Nat)) = _
  rw [Str.ofString_eq_toList]
  rfl
theorem log_small {z : Int} (h1 : -(2 ^ 63) <= z) (h2 : z <= 2 ^ 63) : z.natAbs.log2 < 1920 := by
  by_cases h : z.natAbs = 0
  · rw [h]; decide
  · rw [Nat.log2_lt h]
    have : z.natAbs <= 2 ^ 63 := by omega
    exact Nat.lt_of_le_of_lt this (Nat.pow_lt_pow_right (by decide) (by decide))
theorem int_len (z : Int) (h1 : -(2 ^ 63) <= z) (h2 : z <= 2 ^ 63) : (Str.ofString (toString z)).length <= sizeLine := int_text_fits (log_small h1 h2)
theorem ok_plain_bytes (F : Fun K "plain_bytes" "plain_bytes" s_plain_bytes f fd) (sp : DefOk P w K mg base CX0 1 "spelled" ["word"] spSpelled) (ms : mg "str" = Option.none) : FnOk P w K mg base CX0 2 f fd ["content"] spPlain := by
  refine F.ok sc_plain_bytes (fun vs H Q E h => ?_) (fun cdv A outer s H vs Q E hr h => ?_)
  · obtain ⟨v, c, rfl, _⟩ := h
    rfl
  obtain ⟨v, c, rfl, hv, hz, q⟩ := h
  refine ⟨_, pss_cons (ps_if (pt_cmpR op_isN (pv 0) pe_non (nomark _)) (pss_one (ps_ret (pe_callD sp hr pass0 (pa_cons pe_str pa_nil)))) pss_nil)
    (pss_cons (ps_if (pt_cmpR op_is_bl (pv 0) pe_bl (nomark _)) (pss_one (ps_ret (pe_callD sp hr pass0 (pa_cons pe_str pa_nil)))) pss_nil)
    (pss_cons (ps_if (pt_cmpR op_is_bl (pv 0) pe_bl (nomark _)) (pss_one (ps_ret (pe_callD sp hr pass0 (pa_cons pe_str pa_nil)))) pss_nil)
    (pss_one (ps_ret (pe_callD sp hr pass0 (pa_cons (pe_callTy call_str_int rfl ms boot_str (pa_cons (pv 0) pa_nil)) pa_nil)))))), ?_⟩
  cases v with
  | null =>
    cases hv
    exact ⟨_, rfl, rfl, _, rfl, iteP rfl ⟨_, rfl, by decide +kernel, fun p hp => q p hp⟩⟩
  | bool b =>
    cases hv
    refine ⟨_, rfl, rfl, _, rfl, iteN (fun z => nomatch z) ?_⟩
    cases b with
    | true => exact ⟨_, rfl, true, rfl, _, rfl, iteP rfl ⟨_, rfl, by decide +kernel, fun p hp => q p hp⟩⟩
    | false => exact ⟨_, rfl, true, rfl, _, rfl, iteN (fun z => nomatch z) ⟨_, rfl, false, rfl, _, rfl, iteP rfl ⟨_, rfl, by decide +kernel, fun p hp => q p hp⟩⟩⟩
  | int z =>
    cases hv
    obtain ⟨h1, h2⟩ := hz z rfl
    refine ⟨_, rfl, rfl, _, rfl, iteN (fun z => nomatch z) ⟨_, rfl, true, rfl, _, rfl, iteN (fun z => nomatch z) ⟨_, rfl, false, rfl, _, rfl, iteN (fun z => nomatch z) ?_⟩⟩⟩
    refine ⟨_, rfl, z, rfl, log_small h1 h2, _, rfl, int_len z h1 h2, fun p hp => ?_⟩
    have e := q p hp
    rw [← cps_int] at e
    exact e
  | str s => cases hv
  | list s => cases hv
  | obj s => cases hv
def spTextBytes : Sp := fun vs H Q _ => ∃ (t : Addr) (s : List Nat), vs = [.ref t] /\ H t = some (.tup (bV s)) /\ s.length <= 300000 /\ ∀ H' p, Same H H' -> H p = Option.none -> H' p = some (.lst (bV (Sn77.shown s))) -> Q (.ref p) H'
theorem sc_text_bytes : FnScope ["text", "out", "sign"] ["text"] (defScope s_text_bytes) := ⟨rfl, rfl, rfl, by decide +kernel, rfl, by decide +kernel, by decide +kernel⟩
abbrev dgt (j : Nat) : Nat := (Str.ofString "0123456789abcdef").cps.toList.getD j 0
theorem dgt_at : ∀ c : Fin 32, (Str.ofString "0123456789abcdef").cps.toList[c.val / 16]? = some (dgt (c.val / 16)) /\ (Str.ofString "0123456789abcdef").cps.toList[c.val % 16]? = some (dgt (c.val % 16)) := by decide +kernel
theorem u00_len : ∀ c : Fin 32, (Str.ofString "\\u00").length + (⟨#[dgt (c.val / 16)]⟩ : Str).length <= 100 /\ (Str.ofString "\\u00" ++ ⟨#[dgt (c.val / 16)]⟩).length + (⟨#[dgt (c.val % 16)]⟩ : Str).length <= 100 /\ ((Str.ofString "\\u00" ++ ⟨#[dgt (c.val / 16)]⟩) ++ ⟨#[dgt (c.val % 16)]⟩).length <= 100 := by decide +kernel
theorem u00 : ∀ c : Fin 32, cpsV ((Str.ofString "\\u00" ++ ⟨#[dgt (c.val / 16)]⟩) ++ ⟨#[dgt (c.val % 16)]⟩) = bV [92, 117, 48, 48, Sn77.hexDigit (c.val / 16), Sn77.hexDigit (c.val % 16)] := by decide +kernel
theorem ok_text_bytes (F : Fun K "text_bytes" "text_bytes" s_text_bytes f fd) (sp : DefOk P w K mg base CX0 1 "spelled" ["word"] spSpelled) (gQ : Gv mg "QUOTE" (.int 34)) (gBl : Gv mg "BLANK" (.int 32)) (gBs : Gv mg "BACKSLASH" (.int 92))
    (gD : Gv mg "DIGITS" (.str (Str.ofString "0123456789abcdef"))) : FnOk P w K mg base CX0 2 f fd ["text"] spTextBytes := by
  refine F.ok sc_text_bytes (fun vs H Q E h => ?_) (fun cdv A outer s H vs Q E hr h => ?_)
  · obtain ⟨t, s, rfl, _⟩ := h
    rfl
  obtain ⟨t, s, rfl, ht, hs, q⟩ := h
  have nd := sc_text_bytes.nd
  refine ⟨_, pss_cons (ps_set (i := 1) nd rfl (Or.inl rfl) (pe_lst (pa_cons (pe_g gQ) pa_nil)))
    (pss_cons (ps_for PassesOwn.never rfl (pi_tup (pv 0)) (pg_name (i := 2) nd rfl (Or.inl rfl))
      (pss_one (ps_if (pt_cmpR op_lt (pv 2) (pe_g gBl) (nomark _))
        (pss_one (ps_expr (pe_bm PySem.F.plainAttrs_list PySem.F.slot_list_extend PySem.F.type_list_extend mt_extend (pv 1) (pa_cons (pe_callD sp hr pass0 (pa_cons (pe_op op_add_str (pe_op op_add_str pe_str (pe_ix ix_str (pe_g gD) (pe_op op_fdiv (pv 2) pe_int) (fun _ _ => rfl))) (pe_ix ix_str (pe_g gD) (pe_op op_mod (pv 2) pe_int) (fun _ _ => rfl))) pa_nil)) pa_nil))))
        (pss_cons (ps_if (PW.pt (pw_or (pt_cmpR op_eq (pv 2) (pe_g gQ) (nomark _)) (pw_or1 (pt_cmpR op_eq (pv 2) (pe_g gBs) (nomark _)))))
          (pss_one (ps_expr (pe_bm PySem.F.plainAttrs_list PySem.F.slot_list_append PySem.F.type_list_append mt_append (pv 1) (pa_cons (pe_g gBs) pa_nil)))) pss_nil)
        (pss_one (ps_expr (pe_bm PySem.F.plainAttrs_list PySem.F.slot_list_append PySem.F.type_list_append mt_append (pv 1) (pa_cons (pv 2) pa_nil))))))))
    (pss_cons (ps_expr (pe_bm PySem.F.plainAttrs_list PySem.F.slot_list_append PySem.F.type_list_append mt_append (pv 1) (pa_cons (pe_g gQ) pa_nil)))
    (pss_one (ps_ret (pv 1))))), ?_⟩
  refine ⟨(by show 1 <= sizeLine; decide), fun p hp => ?_⟩
  refine ⟨_, rfl, t, rfl, ⟨_, SqT.of (by rw [upd_ne (ne_of_none ht hp)]; exact ht)⟩, for_tup (xs := bV s) (fun i σ H' => ∃ v2 : Option V, σ = [some (.ref t), some (.ref p), v2] /\ Same H H' /\ H' p = some (.lst (bV (34 :: (s.take i).flatMap Mt.sh1))))
    ⟨Option.none, rfl, Same.upd hp _, upd_same⟩ (fun i σ H' hi ⟨v2, _, hS, _⟩ => SqT.of (hS _ _ ht)) ?_ ?_⟩
  · rintro i x σ H' hx ⟨v2, rfl, hS, hp'⟩
    obtain ⟨c, hc, rfl⟩ := bV_get hx
    have hl : (34 :: (s.take i).flatMap Mt.sh1).length <= 1900000 := by
      have := Mt.flat_len (s.take i)
      have h2 : (s.take i).length <= s.length := List.length_take_le' ..
      rw [List.length_cons]
      omega
    have snoc : 34 :: (s.take (i + 1)).flatMap Mt.sh1 = (34 :: (s.take i).flatMap Mt.sh1) ++ Mt.sh1 c := by
      rw [take_snoc hc, Mt.flat_snoc]
      rfl
    refine ⟨_, rfl, _, _, rfl, rfl, _, rfl, ?_⟩
    show if decide ((c : Int) < ((32 : Nat) : Int)) = true then _ else _
    rw [dec_lt]
    refine ite2 (fun y => ?_) (fun y => ?_)
    · have y : c < 32 := of_decide_eq_true y
      have d1 : ((c : Int) / 16) = ((c / 16 : Nat) : Int) := by omega
      have d2 : ((c : Int) % 16) = ((c % 16 : Nat) : Int) := by omega
      obtain ⟨g1, g2⟩ := dgt_at ⟨c, y⟩
      obtain ⟨l1, l2, l3⟩ := u00_len ⟨c, y⟩
      have small : ∀ {n : Nat}, n <= 100 -> n <= sizeLine := fun h => Nat.le_trans h (by decide)
      refine ⟨_, rfl, .inl ⟨rfl, _, SqL.of hp'⟩, _, rfl, _, _, rfl, rfl, ⟨by decide, by decide⟩, _, _, dgt (c / 16), rfl, rfl, by decide +kernel, by rw [d1]; exact atI_nat g1, _, _, rfl, rfl, small l1,
        _, rfl, _, _, rfl, rfl, (by show (0 : Int) < 16; decide), _, _, dgt (c % 16), rfl, rfl, by decide +kernel, by rw [d2]; exact atI_nat g2, _, _, rfl, rfl, small l2, _, rfl, small l3, fun p2 hp2 => ?_⟩
      have e := u00 ⟨c, y⟩
      have hp2' : (L2.upd H' p2 (.lst (cpsV ((Str.ofString "\\u00" ++ ⟨#[dgt (c / 16)]⟩) ++ ⟨#[dgt (c % 16)]⟩)))) p = some (.lst (bV (34 :: (s.take i).flatMap Mt.sh1))) := by rw [upd_ne (ne_of_none hp' hp2)]; exact hp'
      refine ⟨p, p2, _, _, rfl, rfl, hp2', upd_same, ?_, some (.int (c : Nat)), rfl, Same.updN (hS.trans (Same.upd hp2 _)) hp _, ?_⟩
      · rw [show cpsV ((Str.ofString "\\u00" ++ ⟨#[dgt (c / 16)]⟩) ++ ⟨#[dgt (c % 16)]⟩) = _ from e, List.length_map, List.length_map]
        have : ([92, 117, 48, 48, Sn77.hexDigit (c / 16), Sn77.hexDigit (c % 16)] : List Nat).length = 6 := rfl
        refine Nat.le_trans (show _ <= 1900006 from ?_) (by decide)
        exact Nat.add_le_add hl (Nat.le_of_eq this)
      · rw [upd_same, show cpsV ((Str.ofString "\\u00" ++ ⟨#[dgt (c / 16)]⟩) ++ ⟨#[dgt (c % 16)]⟩) = _ from e, snoc, bV_app]
        have e2 : Mt.sh1 c = [92, 117, 48, 48, Sn77.hexDigit (c / 16), Sn77.hexDigit (c % 16)] := by
          unfold Mt.sh1
          rw [if_neg (by omega), if_pos y]
        rw [e2]
    · have y : ¬ c < 32 := fun x => y (decide_eq_true x)
      have hlt : ∀ {n : Nat}, n <= 1900010 -> n < sizeLine := fun h => Nat.lt_of_le_of_lt h (by decide)
      have twice : c = 34 ∨ c = 92 -> bV (34 :: (s.take i).flatMap Mt.sh1) ++ [V.int 92] ++ [V.int (c : Nat)] = bV (34 :: (s.take (i + 1)).flatMap Mt.sh1) := fun h => by
        rw [snoc, bV_app]
        have e2 : Mt.sh1 c = [92, c] := by
          unfold Mt.sh1
          rw [if_pos h]
        rw [e2, List.append_assoc]
        rfl
      have ups : ∀ o1 o2, Same H (L2.upd (L2.upd H' p o1) p o2) := fun o1 o2 => Same.updN (Same.updN hS hp o1) hp o2
      refine ⟨_, rfl, rfl, _, rfl, ?_⟩
      show if decide (V.int (c : Nat) = V.int ((34 : Nat) : Int)) = true then _ else _
      rw [decV]
      refine ite2 (fun z => ?_) (fun z => ?_)
      · refine iteT ?_
        refine ⟨_, rfl, .inl ⟨rfl, _, SqL.of hp'⟩, p, _, _, rfl, rfl, hp', hlt (by rw [List.length_map]; omega), ?_⟩
        refine ⟨_, rfl, .inl ⟨rfl, _, SqL.of upd_same⟩, _, rfl, p, _, _, rfl, rfl, upd_same, hlt (by rw [List.length_append, List.length_map, List.length_singleton]; omega), some (.int (c : Nat)), rfl, ups _ _, ?_⟩
        rw [upd_same, twice (.inl (of_decide_eq_true z))]
      have z34 : ¬ c = 34 := fun x => z (decide_eq_true x)
      refine ⟨_, rfl, rfl, _, rfl, ?_⟩
      show if decide (V.int (c : Nat) = V.int ((92 : Nat) : Int)) = true then _ else _
      rw [decV]
      refine ite2 (fun z => ?_) (fun z => ?_)
      · refine ⟨_, rfl, .inl ⟨rfl, _, SqL.of hp'⟩, p, _, _, rfl, rfl, hp', hlt (by rw [List.length_map]; omega), ?_⟩
        refine ⟨_, rfl, .inl ⟨rfl, _, SqL.of upd_same⟩, _, rfl, p, _, _, rfl, rfl, upd_same, hlt (by rw [List.length_append, List.length_map, List.length_singleton]; omega), some (.int (c : Nat)), rfl, ups _ _, ?_⟩
        rw [upd_same, twice (.inr (of_decide_eq_true z))]
      have z92 : ¬ c = 92 := fun x => z (decide_eq_true x)
      refine ⟨_, rfl, .inl ⟨rfl, _, SqL.of hp'⟩, _, rfl, p, _, _, rfl, rfl, hp', hlt (by rw [List.length_map]; omega), some (.int (c : Nat)), rfl, Same.updN hS hp _, ?_⟩
      rw [upd_same, snoc, bV_app]
      have e2 : Mt.sh1 c = [c] := by
        unfold Mt.sh1
        rw [if_neg (by omega), if_neg y]
      rw [e2]
      rfl
  · rintro σ H' ⟨v2, rfl, hS, hp'⟩
    have hl : (34 :: (s.take (bV s).length).flatMap Mt.sh1).length <= 1900000 := by
      have := Mt.flat_len (s.take (bV s).length)
      have h2 : (s.take (bV s).length).length <= s.length := List.length_take_le' ..
      rw [List.length_cons]
      omega
    refine ⟨_, rfl, .inl ⟨rfl, _, SqL.of hp'⟩, p, _, _, rfl, rfl, hp', Nat.lt_of_le_of_lt (show _ <= 1900000 by rw [List.length_map]; exact hl) (by decide), ?_⟩
    refine ⟨_, rfl, q _ p (Same.updN hS hp _) hp ?_⟩
    rw [upd_same, List.length_map, List.take_length, Mt.shown_eq]
    show some (HO.lst (bV (34 :: s.flatMap Mt.sh1) ++ bV [34])) = _
    rw [← bV_app]
    rfl
end
end Pw
set_option Elab.async false
set_option linter.all false
set_option maxRecDepth 100000
set_option maxHeartbeats 4000000
namespace L2
open PySem PySem.Spec PyProof.Rows
theorem lc_keysT {d : Addr} {o : Obj} {kvs : List (List Key × V)} {g : TG} {tt : TT} {te : TE} {vs : List Nat} {σ : L2.St} {H1 : Hp} {D : Addr} {Qd : Hp -> Prop} (Pv : Nat -> Hp -> Prop) (h0 : Pv 0 (upd H1 D (.lst []))) (hl : ∀ i H, i <= kvs.length -> Pv i H -> H d = some (.frz o (.dT kvs)))
    (hs : ∀ i k x q H, kvs[i]? = some (k, x) -> H q = some (.tup (k.map kV)) -> Pv i H -> g (.ref q) (wipe σ vs) H fun σ2 H2 => wipe σ2 vs = wipe σ vs /\ tt σ2 H2 fun b H3 =>
      if b = true then te σ2 H3 fun y H4 => ∃ acc, H4 D = some (.lst acc) /\ acc.length < sizeLine /\ Pv (i + 1) (upd H4 D (.lst (acc ++ [y]))) else Pv (i + 1) H3) (hd : ∀ H, Pv kvs.length H -> Qd H) :
    ∃ W : Nat -> Nat -> Hp -> Prop, (∃ m, W 0 m (upd H1 D (.lst []))) /\ ∀ i m H, W i m H ->
      ((Itkt d o kvs).stop i H /\ Qd H) ∨ ((Itkt d o kvs).go i H /\ ∃ Nx : Hp -> Prop, (∀ H', Nx H' -> ∃ m', m' < m /\ W (i + 1) m' H') /\ ∀ x H', (Itkt d o kvs).yld i H x H' -> g x (wipe σ vs) H' fun σ2 H2 => wipe σ2 vs = wipe σ vs /\ tt σ2 H2 fun b H3 =>
        if b = true then te σ2 H3 fun y H4 => ∃ acc, H4 D = some (.lst acc) /\ acc.length < sizeLine /\ Nx (upd H4 D (.lst (acc ++ [y]))) else Nx H3) := by
  refine ⟨fun i m H => m = kvs.length - i /\ i <= kvs.length /\ Pv i H, ⟨kvs.length, by simp, Nat.zero_le _, h0⟩, ?_⟩
  rintro i m H ⟨rfl, hi, p⟩
  by_cases hlt : i < kvs.length
  · refine .inr ⟨⟨hl i H hi p, hlt⟩, Pv (i + 1), fun H' h => ⟨kvs.length - (i + 1), by omega, rfl, hlt, h⟩, ?_⟩
    rintro x H' ⟨rfl, k, v, q, hk, rfl, hq⟩
    exact hs i k v q _ hk hq p
  · have e : i = kvs.length := by omega
    subst e
    exact .inl ⟨⟨hl _ H hi p, Nat.le_refl _⟩, hd H p⟩
end L2
namespace Pw
open PySem PySem.Spec PyProof.Rows L2
section
variable {P : Program} {w : World} {K : PySem.W.Frag} {mg : Str -> Option Value} {base : Heap} {f : Addr} {fd : FuncData} {CV : Addr}
theorem sc_plain_value : FnScope ["content"] ["content"] (defScope s_plain_value) := ⟨rfl, rfl, rfl, by decide +kernel, rfl, by decide +kernel, by decide +kernel⟩
theorem deep_plain {v : Sn77.V} {c : V} (h : plainV v = some c) : Sn77.deep v = 0 := by
  cases v <;> first | rfl | cases h
theorem repC_plain {CV : Addr} {H : Hp} {v : Sn77.V} {c : V} (h : plainV v = some c) (hs : Small v) : RepC CV H v c := by
  cases v with
  | null => cases h; rw [RepC]
  | bool b => cases h; rw [RepC]
  | int z => cases h; rw [RepC]; exact ⟨rfl, hs z rfl⟩
  | str s => cases h
  | list s => cases h
  | obj s => cases h
theorem ok_plain_value (F : Fun K "plain_value" "plain_value" s_plain_value f fd) (pb : DefOk P w K mg base CX0 2 "plain_bytes" ["content"] spPlain) (mk : MakeOk P w K mg base CX0 1 CV "Value" ["self", "content", "size", "depth"] (spVInit CV)) (ml : mg "len" = Option.none) :
    FnOk P w K mg base CX0 3 f fd ["content"] (spPlainValue CV) := by
  refine F.ok sc_plain_value (fun vs H Q E h => ?_) (fun cdv A outer s H vs Q E hr h => ?_)
  · obtain ⟨v, c, rfl, _⟩ := h
    rfl
  obtain ⟨v, c, rfl, hv, hz, q⟩ := h
  refine ⟨_, pss_one (ps_ret (pe_makeD mk hr pass0 (pa_cons (pv 0) (pa_cons (pe_callB call_len_seq rfl ml PySem.boot_len (pa_cons (pe_callD pb hr pass0 (pa_cons (pv 0) pa_nil)) pa_nil)) (pa_cons pe_int pa_nil))))), ?_⟩
  refine ⟨_, rfl, _, rfl, v, c, rfl, hv, hz, fun p hp => ?_⟩
  refine ⟨p, _, rfl, .inl (SqL.of upd_same), ?_⟩
  rw [List.length_map]
  refine mkV (d := 0) fun a H' ha s' ⟨dx, ha'⟩ => ?_
  have sH : Same H H' := (Same.upd hp _).trans s'
  refine q H' a sH ((Same.upd hp _).free ha) ⟨dx, c, ?_, repC_plain hv hz⟩
  rw [deep_plain hv]
  exact ha'
theorem sc_text_value : FnScope ["text"] ["text"] (defScope s_text_value) := ⟨rfl, rfl, rfl, by decide +kernel, rfl, by decide +kernel, by decide +kernel⟩
theorem ok_text_value (F : Fun K "text_value" "text_value" s_text_value f fd) (pb : DefOk P w K mg base CX0 2 "text_bytes" ["text"] spTextBytes) (mk : MakeOk P w K mg base CX0 1 CV "Value" ["self", "content", "size", "depth"] (spVInit CV)) (ml : mg "len" = Option.none) :
    FnOk P w K mg base CX0 3 f fd ["text"] (spTextValue CV) := by
  refine F.ok sc_text_value (fun vs H Q E h => ?_) (fun cdv A outer s H vs Q E hr h => ?_)
  · obtain ⟨t, s, rfl, _⟩ := h
    rfl
  obtain ⟨t, s, rfl, ht, hs, q⟩ := h
  refine ⟨_, pss_one (ps_ret (pe_makeD mk hr pass0 (pa_cons (pv 0) (pa_cons (pe_callB call_len_seq rfl ml PySem.boot_len (pa_cons (pe_callD pb hr pass0 (pa_cons (pv 0) pa_nil)) pa_nil)) (pa_cons pe_int pa_nil))))), ?_⟩
  refine ⟨_, rfl, _, rfl, t, s, rfl, ht, hs, fun H1 p s1 hp hp1 => ?_⟩
  refine ⟨p, _, rfl, .inl (SqL.of hp1), ?_⟩
  rw [List.length_map]
  refine mkV (d := 0) fun a H' ha s' ⟨dx, ha'⟩ => ?_
  have sH : Same H H' := s1.trans s'
  exact q H' a sH (s1.free ha) ⟨dx, .ref t, ha', by rw [RepC]; exact ⟨t, rfl, sH _ _ ht⟩⟩
def spNameBytes : Sp := fun vs H Q _ => ∃ (t : Addr) (s : List Nat), vs = [.ref t] /\ H t = some (.tup (bV s)) /\ s.length <= 300000 /\ ∀ H' p, Same H H' -> H p = Option.none -> H' p = some (.lst (bV (Sn77.shown s ++ [58]))) -> Q (.ref p) H'
theorem sc_name_bytes : FnScope ["name"] ["name"] (defScope s_name_bytes) := ⟨rfl, rfl, rfl, by decide +kernel, rfl, by decide +kernel, by decide +kernel⟩
theorem ok_name_bytes (F : Fun K "name_bytes" "name_bytes" s_name_bytes f fd) (pb : DefOk P w K mg base CX0 2 "text_bytes" ["text"] spTextBytes) (gC : Gv mg "COLON" (.int 58)) : FnOk P w K mg base CX0 3 f fd ["name"] spNameBytes := by
  refine F.ok sc_name_bytes (fun vs H Q E h => ?_) (fun cdv A outer s H vs Q E hr h => ?_)
  · obtain ⟨t, s, rfl, _⟩ := h
    rfl
  obtain ⟨t, s, rfl, ht, hs, q⟩ := h
  refine ⟨_, pss_one (ps_ret (pe_op op_cat (pe_callD pb hr pass0 (pa_cons (pv 0) pa_nil)) (pe_lst (pa_cons (pe_g gC) pa_nil)))), ?_⟩
  refine ⟨_, rfl, t, s, rfl, ht, hs, fun H1 p s1 hp hp1 => ?_⟩
  refine ⟨(by show 1 <= sizeLine; decide), fun p2 hp2 => ?_⟩
  refine ⟨p, p2, _, _, rfl, rfl, by rw [upd_ne (ne_of_none hp1 hp2)]; exact hp1, upd_same, ?_, fun p3 hp3 => ?_⟩
  · rw [List.length_map]
    have := Mt.shown_len s
    exact Nat.le_trans (show (Sn77.shown s).length + 1 <= 1900010 by omega) (by decide)
  · have s3 : Same H (upd (upd H1 p2 (.lst [.int 58])) p3 (.lst (bV (Sn77.shown s) ++ [.int 58]))) := (s1.trans (Same.upd hp2 _)).trans (Same.upd hp3 _)
    refine q _ p3 s3 ((s1.trans (Same.upd hp2 _)).free hp3) ?_
    rw [upd_same, bV_app]
    rfl
def natI (ns : List Nat) : List Int := ns.map fun n : Nat => (n : Int)
def spEncSize (K : PySem.W.Frag) : Sp := fun vs H Q _ => ∃ (q : Addr) (ns : List Nat), vs = [.ref q] /\ SqL K H q ((natI ns).map V.int) /\ Q (.int ((2 + ns.sum + (ns.length - 1) : Nat) : Int)) H
theorem sc_enclosed_size : FnScope ["sizes", "commas"] ["sizes"] (defScope s_enclosed_size) := ⟨rfl, rfl, rfl, by decide +kernel, rfl, by decide +kernel, by decide +kernel⟩
theorem boot_max1 : bootBuiltins "max" = some (.builtin "max") := by decide +kernel
theorem boot_sum1 : bootBuiltins "sum" = some (.builtin "sum") := by decide +kernel
theorem ok_enclosed_size (F : Fun K "enclosed_size" "enclosed_size" s_enclosed_size f fd) (ml : mg "len" = Option.none) (mm : mg "max" = Option.none) (ms : mg "sum" = Option.none) : FnOk P w K mg base CX0 1 f fd ["sizes"] (spEncSize K) := by
  refine F.ok sc_enclosed_size (fun vs H Q E h => ?_) (fun cdv A outer s H vs Q E hr h => ?_)
  · obtain ⟨q, ns, rfl, _⟩ := h
    rfl
  obtain ⟨p, ns, rfl, hS, q⟩ := h
  have nd := sc_enclosed_size.nd
  refine ⟨_, pss_cons (ps_set (i := 1) nd rfl (Or.inl rfl) (pe_callB (call_max2 rfl) rfl mm boot_max1 (pa_cons pe_int (pa_cons (pe_op op_sub (pe_callB call_len_seq rfl ml PySem.boot_len (pa_cons (pv 0) pa_nil)) pe_int) pa_nil))))
    (pss_one (ps_ret (pe_op op_add (pe_op op_add pe_int (pe_callB (cr_sum rfl) rfl ms boot_sum1 (pa_cons (pv 0) pa_nil))) (pv 1)))), ?_⟩
  refine ⟨_, rfl, p, _, rfl, .inl hS, _, _, rfl, rfl, _, _, rfl, ?_⟩
  refine ⟨_, rfl, p, _, rfl, hS, _, _, rfl, rfl, _, rfl, _, _, rfl, rfl, ?_⟩
  have e : (2 + (natI ns).sum + (if (((natI ns).map V.int).length : Int) - 1 > 0 then (((natI ns).map V.int).length : Int) - 1 else 0)) = ((2 + ns.sum + (ns.length - 1) : Nat) : Int) := by
    unfold natI
    rw [Mt.sum_cast, List.length_map, List.length_map]
    split <;> omega
  rw [← e] at q
  exact q
theorem repL_at {H : Hp} {l : Sn77.Vs} {xs : List V} (h : RepL CV H l xs) {i : Nat} {x : V} (e : xs[i]? = some x) : ∃ v a, l.toList[i]? = some v /\ x = .ref a /\ RepV CV H v a := by
  obtain ⟨v, h1, a, h2, h3⟩ := paired_at (repL_iff.mp h) e
  exact ⟨v, a, h1, h2, h3⟩
theorem repM_at {H : Hp} {l : Sn77.Ms} {xs : List (List Key × V)} (h : RepM CV H l xs) {i : Nat} {x : List Key × V} (e : xs[i]? = some x) : ∃ v a, l.toList[i]? = some v /\ x.1 = keyN v.1 /\ x.2 = .ref a /\ RepV CV H v.2 a := by
  obtain ⟨v, h1, h0, a, h2, h3⟩ := paired_at (repM_iff.mp h) e
  exact ⟨v, a, h1, h0, h2, h3⟩
theorem repL_len {H : Hp} {l : Sn77.Vs} {xs : List V} (h : RepL CV H l xs) : l.toList.length = xs.length := Paired.length (repL_iff.mp h)
theorem repM_len {H : Hp} {l : Sn77.Ms} {xs : List (List Key × V)} (h : RepM CV H l xs) : l.toList.length = xs.length := Paired.length (repM_iff.mp h)
end
end Pw
set_option Elab.async false
set_option linter.all false
set_option maxRecDepth 100000
set_option maxHeartbeats 4000000
namespace Pw
open PySem PySem.Spec PyProof.Rows L2
structure Kit (K : PySem.W.Frag) : Prop where
  ll : PySem.W.kitOne K (.type "list") (.type "list") = some true
  ld : PySem.W.kitOne K (.type "list") (.type "dict") = some false
  dd : PySem.W.kitOne K (.type "dict") (.type "dict") = some true
  dl : PySem.W.kitOne K (.type "dict") (.type "list") = some false
section
variable {P : Program} {w : World} {K : PySem.W.Frag} {mg : Str -> Option Value} {base : Heap} {f : Addr} {fd : FuncData} {CV : Addr}
theorem boot_dict1 : bootBuiltins "dict" = some (.type "dict") := by decide +kernel
theorem boot_list1 : bootBuiltins "list" = some (.type "list") := by decide +kernel
def depthsL (l : Sn77.Vs) : List Nat := l.toList.map fun v => Sn77.deep v
def depthsM (m : Sn77.Ms) : List Nat := m.toList.map fun x => Sn77.deep x.2
def spEncDepth (CV : Addr) : Sp := fun vs H Q _ => ∃ (p : Addr), vs = [.ref p] /\
  ((∃ o xs l, H p = some (.frz o (.lst xs)) /\ RepL CV H l xs /\ xs.length <= 300000 /\ ∀ H', Same H H' -> Q (.int ((Sn77.deeps l + 1 : Nat) : Int)) H') ∨
   (∃ o kvs m, H p = some (.frz o (.dT kvs)) /\ RepM CV H m kvs /\ kvs.length <= 300000 /\ ∀ H', Same H H' -> Q (.int ((Sn77.deepest m + 1 : Nat) : Int)) H'))
theorem sc_enclosed_depth : FnScope ["content", "inner", "value"] ["content"] (defScope s_enclosed_depth) := ⟨rfl, rfl, rfl, by decide +kernel, rfl, by decide +kernel, by decide +kernel⟩
theorem ok_enclosed_depth (F : Fun K "enclosed_depth" "enclosed_depth" s_enclosed_depth f fd) (T : VTxt K CV) (kt : Kit K) (mi : mg "isinstance" = Option.none) (md : mg "dict" = Option.none) (ml : mg "list" = Option.none) (mm : mg "max" = Option.none) :
    FnOk P w K mg base CX0 1 f fd ["content"] (spEncDepth CV) := by
  refine F.ok sc_enclosed_depth (fun vs H Q E h => ?_) (fun cdv A outer s H vs Q E hr h => ?_)
  · obtain ⟨p, rfl, _⟩ := h
    rfl
  obtain ⟨p, rfl, h⟩ := h
  have nd := sc_enclosed_depth.nd
  refine ⟨_, pss_cons (ps_set (i := 1) nd rfl (Or.inl rfl) (pe_ifExp (pt_val (pe_callB (call_isinstF (T := "dict")) rfl mi PyProof.Rows.boot_isinstance (pa_cons (pv 0) (pa_cons (pe_bltn (v := .ty "dict") rfl md boot_dict1 rfl) pa_nil)))) (pe_callTy (call_listV rfl) rfl ml boot_list1 (pa_cons (pe_dvals (pv 0)) pa_nil)) (pv 0)))
    (pss_one (ps_ret (pe_op op_add pe_int (pe_maxD rfl rfl mm (pa_cons (pe_lc (own := [("value", 2)]) (te := tFld K (tVar 2) "depth") rfl nd (pi_list (pv 1)) (blkOk_by (by show blkC ["content", "inner", "value"] (defScope s_enclosed_depth) _ _ = true; decide +kernel))
        (fun _ _ _ _ _ => pg_name (i := 2) nd rfl (Or.inl rfl)) (fun _ _ _ _ _ => pts_nil) (fun _ _ _ _ _ => pe_fld (pv 2) rfl)) pa_nil) (pk_cons pe_int pk_nil))))), ?_⟩
  -- the list that is walked, the depths that it has
  have walk : ∀ (H1 : Hp) (a : Addr) (xs : List V) (ds : List Nat), Same H H1 -> SqL K H1 a xs -> xs.length <= 300000 -> ds.length = xs.length ->
      (∀ (i : Nat) (x : V), xs[i]? = some x -> ∃ (b dx : Addr) (c : V) (n d : Nat), x = .ref b /\ H1 b = some (.ins CV dx (vf c n d)) /\ ds[i]? = some d) ->
      (∀ m : Int, Mt.IsMax (natI ds) 0 m -> ∀ H', Same H H' -> Q (.int (1 + m)) H') ->
      tRet (tOp (rI0 fun i j => .int (i + j)) (tC (.int 1)) (tMaxD K (tCons (tLc (iList K (tVar 1)) (gName 2) tYes (tFld K (tVar 2) "depth") [2]) tNil) (tCons (tC (.int 0)) tNil))) { nx := fun _ H' => Q .non H', rt := Q } [some (.ref p), some (.ref a), Option.none] H1 := by
    intro H1 a xs ds s1 hS hz hl hx q
    refine ⟨_, rfl, a, rfl, ⟨_, hS⟩, fun D hD => ?_⟩
    have sD : ∀ o, Same H1 (L2.upd H1 D o) := fun o => Same.upd hD o
    refine lc_list (K := K) (a := a) (xs := xs) (fun i H' => H' = L2.upd H1 D (.lst ((natI (ds.take i)).map V.int))) rfl (fun i H' _ e => by rw [e]; exact (sD _).seq hS) (fun i x H' hxi e => ?_) (fun H' e => ?_)
    · subst e
      obtain ⟨b, dx, c, n, d, rfl, hb, hd⟩ := hx i x hxi
      refine ⟨rfl, ?_⟩
      refine ⟨_, rfl, b, CV, dx, _, _, rfl, sD _ _ _ hb, T.cl, T.nD, vf_depth c n d, ?_⟩
      refine ⟨_, upd_same, ?_, ?_⟩
      · unfold natI
        rw [List.length_map, List.length_map, List.length_take]
        exact Nat.lt_of_le_of_lt (show min i ds.length <= 300000 from Nat.le_trans (Nat.min_le_right _ _) (by omega)) (by decide)
      · rw [upd_upd, take_snoc hd]
        unfold natI
        rw [List.map_append, List.map_append]
        rfl
    · subst e
      rw [← hl, List.take_length]
      exact ⟨D, natI ds, 0, rfl, rfl, SqL.of upd_same, fun m hm => ⟨_, _, rfl, rfl, q m hm _ (s1.trans (sD _))⟩⟩
  rcases h with ⟨o, xs, l, hp, rep, hz, q⟩ | ⟨o, kvs, m, hp, rep, hz, q⟩
  · refine ⟨_, rfl, .ref p, .type "list", false, rfl, .of (.frz hp), kt.ld, _, rfl, iteF ?_⟩
    refine ⟨_, rfl, ?_⟩
    refine walk H p xs (depthsL l) (Same.refl H) (.inl (.inr ⟨o, hp⟩)) hz (by unfold depthsL; rw [List.length_map]; exact repL_len rep) (fun i x e => ?_) (fun m hm H' s' => ?_)
    · obtain ⟨v, a, h1, h2, dx, c, h3, h4⟩ := repL_at rep e
      refine ⟨a, dx, c, _, _, h2, h3, ?_⟩
      unfold depthsL
      rw [List.getElem?_map, h1]
      rfl
    · have e : m = (Sn77.deeps l : Nat) := by
        refine Mt.isMax_list ?_
        unfold natI depthsL at hm
        rw [List.map_map] at hm
        exact hm
      have := q H' s'
      rw [e]
      rw [show (1 + ((Sn77.deeps l : Nat) : Int)) = ((Sn77.deeps l + 1 : Nat) : Int) by omega]
      exact this
  · refine ⟨_, rfl, .ref p, .type "dict", true, rfl, .fdT hp, kt.dd, _, rfl, iteT ?_⟩
    refine ⟨_, rfl, p, o, kvs, rfl, hp, fun v hv => ?_⟩
    refine ⟨v, p, o, kvs, rfl, upd_same, by rw [upd_ne (ne_of_none hp hv)]; exact hp, fun a ha => ?_⟩
    have s2 : Same H (L2.upd (L2.upd H v (vvO v p)) a (.lst (kvs.map (·.2)))) := (Same.upd hv _).trans (Same.upd ha _)
    refine walk _ a (kvs.map (·.2)) (depthsM m) s2 (SqL.of upd_same) (by rw [List.length_map]; exact hz) (by unfold depthsM; rw [List.length_map, List.length_map]; exact repM_len rep) (fun i x e => ?_) (fun m' hm H' s' => ?_)
    · rw [List.getElem?_map] at e
      cases e1 : kvs[i]? with
      | none => rw [e1] at e; cases e
      | some kv =>
        rw [e1] at e
        cases e
        obtain ⟨v, b, h1, h0, h2, dx, c, h3, h4⟩ := repM_at rep e1
        refine ⟨b, dx, c, _, _, h2, s2 _ _ h3, ?_⟩
        unfold depthsM
        rw [List.getElem?_map, h1]
        rfl
    · have e : m' = (Sn77.deepest m : Nat) := by
        refine Mt.isMax_obj ?_
        unfold natI depthsM at hm
        rw [List.map_map] at hm
        exact hm
      have := q H' s'
      rw [e]
      rw [show (1 + ((Sn77.deepest m : Nat) : Int)) = ((Sn77.deepest m + 1 : Nat) : Int) by omega]
      exact this
theorem sc_list_value : FnScope ["listed", "sizes", "value"] ["listed"] (defScope s_list_value) := ⟨rfl, rfl, rfl, by decide +kernel, rfl, by decide +kernel, by decide +kernel⟩
def sizesL (l : Sn77.Vs) : List Nat := l.toList.map fun v => (Sn77.write v).length
theorem ok_list_value (F : Fun K "list_value" "list_value" s_list_value f fd) (T : VTxt K CV) (es : DefOk P w K mg base CX0 1 "enclosed_size" ["sizes"] (spEncSize K)) (ed : DefOk P w K mg base CX0 1 "enclosed_depth" ["content"] (spEncDepth CV))
    (mk : MakeOk P w K mg base CX0 1 CV "Value" ["self", "content", "size", "depth"] (spVInit CV)) : FnOk P w K mg base CX0 3 f fd ["listed"] (spListValue CV) := by
  refine F.ok sc_list_value (fun vs H Q E h => ?_) (fun cdv A outer s H vs Q E hr h => ?_)
  · obtain ⟨p, xs, l, rfl, _⟩ := h
    rfl
  obtain ⟨p, xs, l, rfl, hp, rep, hz, q⟩ := h
  have nd := sc_list_value.nd
  refine ⟨_, pss_cons (ps_frz (ps_setLc (i := 1) (own := [("value", 2)]) (te := tFld K (tVar 2) "size") rfl nd rfl rfl rfl (pi_list (pv 0)) (blkOk_by (by show blkC ["listed", "sizes", "value"] (defScope s_list_value) _ _ = true; decide +kernel))
        (fun _ _ _ _ _ => pg_name (i := 2) nd rfl (Or.inl rfl)) (fun _ _ _ _ _ => pts_nil) (fun _ _ _ _ _ => pe_fld (pv 2) rfl)))
    (pss_one (ps_ret (pe_makeD mk hr pass0 (pa_cons (pv 0) (pa_cons (pe_callD es hr pass0 (pa_cons (pv 1) pa_nil)) (pa_cons (pe_callD ed hr pass0 (pa_cons (pv 0) pa_nil)) pa_nil)))))), ?_⟩
  refine ⟨p, _, hp, True.intro, fun od => ?_⟩
  have kp : Keep p H (L2.upd H p (.frz od (.lst xs))) := Keep.upd
  have repF : RepL CV (L2.upd H p (.frz od (.lst xs))) l xs := rep.sol (kp.sol hp (fun z => z))
  generalize hH1 : L2.upd H p (.frz od (.lst xs)) = H1 at kp repF
  have hpF : H1 p = some (.frz od (.lst xs)) := by rw [← hH1, upd_same]
  have hS : SqL K H1 p xs := .inl (.inr ⟨od, hpF⟩)
  refine ⟨_, rfl, p, rfl, ⟨_, hS⟩, fun D hD => ?_⟩
  have sD : ∀ o, Same H1 (L2.upd H1 D o) := fun o => Same.upd hD o
  have hl : (sizesL l).length = xs.length := by unfold sizesL; rw [List.length_map]; exact repL_len repF
  refine lc_list (K := K) (a := p) (xs := xs) (fun i H' => H' = L2.upd H1 D (.lst ((natI ((sizesL l).take i)).map V.int))) rfl (fun i H' _ e => by rw [e]; exact (sD _).seq hS) (fun i x H' hxi e => ?_) (fun H' e => ?_)
  · subst e
    obtain ⟨v, a, h1, rfl, dx, c, h3, h4⟩ := repL_at repF hxi
    refine ⟨rfl, ?_⟩
    refine ⟨_, rfl, a, CV, dx, _, _, rfl, sD _ _ _ h3, T.cl, T.nS, vf_size c _ _, ?_⟩
    refine ⟨_, upd_same, ?_, ?_⟩
    · unfold natI
      rw [List.length_map, List.length_map, List.length_take]
      exact Nat.lt_of_le_of_lt (show min i (sizesL l).length <= 300000 from Nat.le_trans (Nat.min_le_right _ _) (by omega)) (by decide)
    · have hd : (sizesL l)[i]? = some (Sn77.write v).length := by
        unfold sizesL
        rw [List.getElem?_map, h1]
        rfl
      rw [upd_upd, take_snoc hd]
      unfold natI
      rw [List.map_append, List.map_append]
      rfl
  · subst e
    rw [← hl, List.take_length]
    refine ⟨_, rfl, _, rfl, D, sizesL l, rfl, SqL.of upd_same, _, rfl, p, rfl, .inl ⟨od, xs, l, sD _ _ _ hpF, repF.sol (Sol.of (sD _)), hz, fun H2 s2 => ?_⟩⟩
    have s12 : Same H1 H2 := (sD _).trans s2
    refine mkV fun a H' ha s' ⟨dx, ha'⟩ => ?_
    have s13 : Same H1 H' := s12.trans s'
    refine q H' a (fun b o hb n => s13 _ _ (kp b o hb n)) ⟨dx, .ref p, ?_, by rw [RepC]; exact ⟨p, od, xs, rfl, s13 _ _ hpF, repF.sol (Sol.of s13)⟩⟩
    rw [ha', Mt.write_list_len, Sn77.deep]
    unfold sizesL
    rw [List.length_map]
end
end Pw
set_option Elab.async false
set_option linter.all false
set_option maxRecDepth 100000
set_option maxHeartbeats 4000000
namespace Pw
open PySem PySem.Spec PyProof.Rows L2
section
variable {P : Program} {w : World} {K : PySem.W.Frag} {mg : Str -> Option Value} {base : Heap} {f : Addr} {fd : FuncData} {CV : Addr}
theorem sc_members_value : FnScope ["members", "sizes", "name"] ["members"] (defScope s_members_value) := ⟨rfl, rfl, rfl, by decide +kernel, rfl, by decide +kernel, by decide +kernel⟩
def sizesM (m : Sn77.Ms) : List Nat := m.toList.map fun x => (Sn77.shown x.1).length + 1 + (Sn77.write x.2).length
abbrev rLen (K : PySem.W.Frag) : List V -> Hp -> VK -> Prop := fun xs H Q => ∃ (p : Addr) (ys : List V), xs = [.ref p] /\ (SqL K H p ys ∨ SqT K H p ys) /\ Q (.int ys.length) H
theorem ok_members_value (F : Fun K "members_value" "members_value" s_members_value f fd) (T : VTxt K CV) (es : DefOk P w K mg base CX0 1 "enclosed_size" ["sizes"] (spEncSize K)) (ed : DefOk P w K mg base CX0 1 "enclosed_depth" ["content"] (spEncDepth CV))
    (nb : DefOk P w K mg base CX0 3 "name_bytes" ["name"] spNameBytes) (ml : mg "len" = Option.none)
    (mk : MakeOk P w K mg base CX0 1 CV "Value" ["self", "content", "size", "depth"] (spVInit CV)) : FnOk P w K mg base CX0 4 f fd ["members"] (spMembersValue CV) := by
  refine F.ok sc_members_value (fun vs H Q E h => ?_) (fun cdv A outer s H vs Q E hr h => ?_)
  · obtain ⟨p, xs, l, rfl, _⟩ := h
    rfl
  obtain ⟨p, kvs, m, rfl, hp, rep, hnd, hz, hnm, q⟩ := h
  have nd := sc_members_value.nd
  have hu := hu_of hr
  refine ⟨_, pss_cons (ps_frz (ps_setLc (i := 1) (own := [("name", 2)]) (te := tOp (rI0 fun i j => .int (i + j)) (tCB (rLen K) (tCons (tCall spNameBytes [] E0 (tCons (tVar 2) tNil)) tNil)) (tFld K (tDGet (tVar 0) (tVar 2)) "size")) rfl nd rfl rfl rfl (pi_keys (pv 0)) (blkOk_by (by show blkC ["members", "sizes", "name"] (defScope s_members_value) _ _ = true; decide +kernel))
        (fun _ _ _ _ _ => pg_name (i := 2) nd rfl (Or.inl rfl)) (fun _ _ _ _ _ => pts_nil)
        (fun _ _ _ _ _ => pe_op op_add (pe_callB call_len_seq rfl ml PySem.boot_len (pa_cons (pe_callD nb hr pass0 (pa_cons (pv 2) pa_nil)) pa_nil)) (pe_fld (pe_dget hu (pv 0) (pv 2) (fun _ _ => rfl)) rfl))))
    (pss_one (ps_ret (pe_makeD mk hr pass0 (pa_cons (pv 0) (pa_cons (pe_callD es hr pass0 (pa_cons (pv 1) pa_nil)) (pa_cons (pe_callD ed hr pass0 (pa_cons (pv 0) pa_nil)) pa_nil)))))), ?_⟩
  refine ⟨p, _, hp, True.intro, fun od => ?_⟩
  have kp : Keep p H (L2.upd H p (.frz od (.dT kvs))) := Keep.upd
  have repF : RepM CV (L2.upd H p (.frz od (.dT kvs))) m kvs := rep.sol (kp.sol hp (fun z => z))
  generalize hH1 : L2.upd H p (.frz od (.dT kvs)) = H1 at kp repF
  have hpF : H1 p = some (.frz od (.dT kvs)) := by rw [← hH1, upd_same]
  refine ⟨_, rfl, p, od, rfl, .inr ⟨kvs, hpF, fun D hD => ?_⟩⟩
  have hl : (sizesM m).length = kvs.length := by unfold sizesM; rw [List.length_map]; exact repM_len repF
  refine lc_keysT (d := p) (o := od) (kvs := kvs) (fun i H' => Same H1 H' /\ H' D = some (.lst ((natI ((sizesM m).take i)).map V.int))) ⟨Same.upd hD _, upd_same⟩ (fun i H' _ e => e.1 _ _ hpF) (fun i k x t H' hxi ht e => ?_) (fun H' e => ?_)
  · obtain ⟨s1, hD'⟩ := e
    obtain ⟨v, a, h1, h0, h2, dx, c, h3, h4⟩ := repM_at repF hxi
    have h0 : k = keyN v.1 := h0
    have h2 : x = .ref a := h2
    subst h0
    have ht' : H' t = some (.tup (bV v.1)) := by rw [ht, keyN_kV]
    have hvl : v.1.length <= 300000 := hnm v (List.mem_of_getElem? h1)
    refine ⟨rfl, ?_⟩
    refine ⟨_, rfl, t, v.1, rfl, ht', hvl, fun H2 p2 s2 hp2 hp2' => ?_⟩
    have s12 : Same H1 H2 := s1.trans s2
    refine ⟨p2, _, rfl, .inl (SqL.of hp2'), ?_⟩
    have hval : valV kvs (keyN v.1) = some (.ref a) := by
      have := repM_nd (repM_iff.mp repF) hnd i _ hxi
      rw [← h2]
      exact this
    refine ⟨_, rfl, _, rfl, p, .ref a, rfl, .inr ⟨kvs, keyN v.1, t, .inr ⟨od, s12 _ _ hpF⟩, rfl, s2 _ _ ht, hval.symm⟩, ?_⟩
    refine ⟨a, CV, dx, _, _, rfl, s12 _ _ h3, T.cl, T.nS, vf_size c _ _, _, _, rfl, rfl, ?_⟩
    refine ⟨_, s2 _ _ hD', ?_, Same.updN s12 hD _, ?_⟩
    · unfold natI
      rw [List.length_map, List.length_map, List.length_take]
      exact Nat.lt_of_le_of_lt (show min i (sizesM m).length <= 300000 from Nat.le_trans (Nat.min_le_right _ _) (by omega)) (by decide)
    · have hd : (sizesM m)[i]? = some ((Sn77.shown v.1).length + 1 + (Sn77.write v.2).length) := by
        unfold sizesM
        rw [List.getElem?_map, h1]
        rfl
      rw [upd_same, take_snoc hd]
      unfold natI
      rw [List.map_append, List.map_append, List.length_map, List.length_append]
      rfl
  · obtain ⟨s1, hD'⟩ := e
    rw [← hl, List.take_length] at hD'
    refine ⟨_, rfl, _, rfl, D, sizesM m, rfl, SqL.of hD', _, rfl, p, rfl, .inr ⟨od, kvs, m, s1 _ _ hpF, repF.sol (Sol.of s1), hz, fun H2 s2 => ?_⟩⟩
    have s12 : Same H1 H2 := s1.trans s2
    refine mkV fun a H' ha s' ⟨dx, ha'⟩ => ?_
    have s13 : Same H1 H' := s12.trans s'
    refine q H' a (fun b o hb n => s13 _ _ (kp b o hb n)) ⟨dx, .ref p, ?_, by rw [RepC]; exact ⟨p, od, kvs, rfl, s13 _ _ hpF, repF.sol (Sol.of s13), hnd⟩⟩
    rw [ha', Mt.write_obj_len, Sn77.deep]
    unfold sizesM
    rw [List.length_map]
end
end Pw
set_option Elab.async false
set_option linter.all false
set_option maxRecDepth 100000
set_option maxHeartbeats 4000000
namespace Pw
open PySem PySem.Spec PyProof.Rows L2
section
variable {P : Program} {w : World} {K : PySem.W.Frag} {mg : Str -> Option Value} {base : Heap} {f : Addr} {fd : FuncData} {C CV cN r : Addr} {src : Sc} {l : List Nat} {H : Hp}
theorem Rdr.sol {H' : Hp} (R : Rdr K C src H r l) (k : Keep r H H') (ne : C ≠ CV) : Sol CV H H' := by
  obtain ⟨ta, dx, i, h1, h2, h3⟩ := R.at_
  exact k.sol h1 ne
theorem Rdr.keepP {H' : Hp} {p : Addr} {o : HO} (R : Rdr K C src H r l) (k : Keep p H H') (hp : H p = some o) (h1 : ∀ C dx fs, o ≠ .ins C dx fs) (h2 : ∀ o' u, o ≠ .frz o' u) : Rdr K C src H' r l := by
  obtain ⟨ta, dx, i, g1, g2, g3⟩ := R.at_
  have n1 : r ≠ p := fun z => by rw [z, hp] at g1; cases g1; exact h1 _ _ _ rfl
  refine ⟨ta, dx, i, k _ _ g1 n1, ?_, g3⟩
  rcases g2 with ⟨o2, g2⟩ | g2
  · have n2 : ta ≠ p := fun z => by rw [z, hp] at g2; cases g2; exact h2 _ _ rfl
    exact .inl ⟨o2, k _ _ g2 n2⟩
  · exact .inr g2
theorem Keep.then {p : Addr} {H1 H2 : Hp} (a : Keep r H H1) (b : Keep p H1 H2) (hp : H p = Option.none) : Keep r H H2 := fun c o h n => b c o (a c o h n) (ne_of_none h hp)
theorem Keep.same {H1 H2 : Hp} (a : Keep r H H1) (b : Same H1 H2) : Keep r H H2 := fun c o h n => b c o (a c o h n)
theorem Rdr.ne {p : Addr} {o : HO} (R : Rdr K C src H r l) (hp : H p = some o) (h1 : ∀ C dx fs, o ≠ .ins C dx fs) : p ≠ r := fun z => by
  obtain ⟨ta, dx, i, g1, g2, g3⟩ := R.at_
  rw [z, g1] at hp
  cases hp
  exact h1 _ _ _ rfl
def spOut (K : PySem.W.Frag) (C CV cN : Addr) (src : Sc) (r : Addr) (H : Hp) (Q : VK) (E : XK) (x : Option (Sn77.V × List Nat)) : Prop :=
  (∀ v l', x = some (v, l') -> ∀ H' a, Rdr K C src H' r l' -> Keep r H H' -> RepV CV H' v a -> Q (.ref a) H') /\ (x = Option.none -> ∀ H', E (.ref cN) Option.none H')
def spValue (K : PySem.W.Frag) (C CV cN : Addr) (d : Nat) : Sp := fun vs H Q E => ∃ (r : Addr) (src : Sc) (l : List Nat) (dp : Nat), vs = [.ref r, .int (dp : Nat)] /\ Src src /\ Rdr K C src H r l /\ dp + d = src.dp /\ spOut K C CV cN src r H Q E (Mt.pval d l)
def spBare (K : PySem.W.Frag) (C CV cN : Addr) (d : Nat) : Sp := fun vs H Q E => ∃ (r : Addr) (src : Sc) (l : List Nat) (dp : Nat), vs = [.ref r, .int (dp : Nat)] /\ Src src /\ Rdr K C src H r l /\ dp + d = src.dp /\ spOut K C CV cN src r H Q E (Mt.bare d l)
def spIn (K : PySem.W.Frag) (C CV cN : Addr) (c d : Nat) : Sp := fun vs H Q E => ∃ (r : Addr) (src : Sc) (l : List Nat) (dp : Nat), vs = [.ref r, .int ((dp + 1 : Nat) : Int)] /\ Src src /\ Rdr K C src H r l /\ dp + d = src.dp /\ hdN l = c /\ spOut K C CV cN src r H Q E (Mt.bare d l)
theorem sc_read_value : FnScope ["self", "depth", "value"] ["self", "depth"] (defScope m_read_value) := ⟨rfl, rfl, rfl, by decide +kernel, rfl, by decide +kernel, by decide +kernel⟩
theorem ok_read_value {d k : Nat} (hk : 2 <= k) (F : Fun K "read_value" "Reader.read_value" m_read_value f fd) (T : Txt K mg C cN) (ne : C ≠ CV) (sk : MethOk P w K mg base CX0 2 C "skip_blanks" ["self"] (spSkip K C))
    (br : MethOk P w K mg base (CXe P w) k C "read_bare_value" ["self", "depth"] (spBare K C CV cN d)) : FnOk P w K mg base (CXe P w) (k + 1) f fd ["self", "depth"] (spValue K C CV cN d) := by
  refine F.okX sc_read_value (fun vs H Q E h => ?_) (fun cdv A outer s H vs Q E hr h => ?_)
  · obtain ⟨r, src, l, dp, rfl, _⟩ := h
    rfl
  obtain ⟨r, src, l, dp, rfl, hsrc, R, hd, q, qe⟩ := h
  have nd := sc_read_value.nd
  refine ⟨_, pss_cons (ps_expr (pe_methD0 (pv 0) T.cl sk hr pass0)) (pss_cons (ps_set (i := 2) nd rfl (Or.inl rfl) (pe_methD (pv 0) T.cl br hr pass_cx (pa_cons (pv 1) pa_nil)))
    (pss_cons (ps_expr (pe_methD0 (pv 0) T.cl sk hr pass0)) (pss_one (ps_ret (pv 2))))), ?_⟩
  unfold Mt.pval at q qe
  refine R.m rfl (by decide +kernel) (by decide +kernel) (by decide +kernel) ?_
  refine ⟨r, src, l, rfl, hsrc, R, fun H1 R1 k1 => ?_⟩
  refine R1.m rfl (by decide +kernel) (by decide +kernel) (by decide +kernel) ?_
  refine ⟨_, rfl, r, src, _, dp, rfl, hsrc, R1, hd, fun v l2 hv H2 a R2 k2 rep => ?_, fun hn => qe (by rw [hn]; rfl)⟩
  refine R2.m rfl (by decide +kernel) (by decide +kernel) (by decide +kernel) ?_
  exact ⟨r, src, l2, rfl, hsrc, R2, fun H3 R3 k3 => ⟨_, rfl, q v _ (by rw [hv]; rfl) H3 a R3 ((k1.trans k2).trans k3) (rep.sol (R2.sol k3 ne))⟩⟩
theorem sc_read_bare_value : FnScope ["self", "depth", "sign"] ["self", "depth"] (defScope m_read_bare_value) := ⟨rfl, rfl, rfl, by decide +kernel, rfl, by decide +kernel, by decide +kernel⟩
theorem bare_plain {d : Nat} {l : List Nat} (h1 : ¬ hdN l = 91) (h2 : ¬ hdN l = 123) : Mt.bare d l = Mt.plainAt l := by
  have n1 : ¬ l.head? = some 91 := fun y => h1 ((hd_iff (by decide)).mp y)
  have n2 : ¬ l.head? = some 123 := fun y => h2 ((hd_iff (by decide)).mp y)
  cases d with
  | zero =>
    rw [Mt.bare, if_neg]
    rintro (z | z)
    · exact n1 z
    · exact n2 z
  | succ d => rw [Mt.bare_succ, if_neg n1, if_neg n2]
theorem vOf_plain {v : Sn77.V} {l r : List Nat} (h : Mt.word l = some (v, r)) : plainV v = some (vOf v) /\ Small v := by
  unfold Mt.word at h
  split at h
  · cases h; exact ⟨rfl, fun z e => nomatch e⟩
  split at h
  · cases h; exact ⟨rfl, fun z e => nomatch e⟩
  split at h
  · cases h; exact ⟨rfl, fun z e => nomatch e⟩
  · cases h
theorem ok_read_bare_value {d k : Nat} (hk : 20 <= k) (F : Fun K "read_bare_value" "Reader.read_bare_value" m_read_bare_value f fd) (T : Txt K mg C cN) (ne : C ≠ CV) (gL : Gv mg "OPEN_LIST" (.int 91)) (gO : Gv mg "OPEN_MEMBERS" (.int 123)) (gQ : Gv mg "QUOTE" (.int 34)) (gM : Gv mg "MINUS" (.int 45))
    (pk : MethOk P w K mg base CX0 1 C "peek" ["self"] (spPeek K C)) (rl : MethOk P w K mg base (CXe P w) k C "read_list" ["self", "depth"] (spIn K C CV cN 91 d)) (rm : MethOk P w K mg base (CXe P w) k C "read_members" ["self", "depth"] (spIn K C CV cN 123 d))
    (tx : MethOk P w K mg base (CXe P w) 6 C "read_text" ["self"] (spText K C cN)) (nu : MethOk P w K mg base (CXe P w) 4 C "read_number" ["self"] (spNumber K C cN)) (wd : MethOk P w K mg base (CXe P w) 4 C "read_word" ["self"] (spWord K C cN))
    (D : DefOk P w K mg base CX0 1 "is_digit" ["sign"] spDigit) (tv : DefOk P w K mg base CX0 5 "text_value" ["text"] (spTextValue CV)) (pv' : DefOk P w K mg base CX0 5 "plain_value" ["content"] (spPlainValue CV)) :
    FnOk P w K mg base (CXe P w) (k + 1) f fd ["self", "depth"] (spBare K C CV cN d) := by
  refine F.okX sc_read_bare_value (fun vs H Q E h => ?_) (fun cdv A outer s H vs Q E hr h => ?_)
  · obtain ⟨r, src, l, dp, rfl, _⟩ := h
    rfl
  obtain ⟨r, src, l, dp, rfl, hsrc, R, hd, q, qe⟩ := h
  have nd := sc_read_bare_value.nd
  refine ⟨_, pss_cons (ps_set (i := 2) nd rfl (Or.inl rfl) (pe_methD0 (pv 0) T.cl pk hr pass0))
    (pss_cons (ps_if (pt_cmpR op_eq (pv 2) (pe_g gL) (nomark _)) (pss_one (ps_ret (pe_methD (pv 0) T.cl rl hr pass_cx (pa_cons (pe_op op_add (pv 1) pe_int) pa_nil)))) pss_nil)
    (pss_cons (ps_if (pt_cmpR op_eq (pv 2) (pe_g gO) (nomark _)) (pss_one (ps_ret (pe_methD (pv 0) T.cl rm hr pass_cx (pa_cons (pe_op op_add (pv 1) pe_int) pa_nil)))) pss_nil)
    (pss_cons (ps_if (pt_cmpR op_eq (pv 2) (pe_g gQ) (nomark _)) (pss_one (ps_ret (pe_callD tv hr pass0 (pa_cons (pe_methD0 (pv 0) T.cl tx hr pass_cx) pa_nil)))) pss_nil)
    (pss_cons (ps_if (PW.pt (pw_or (pt_cmpR op_eq (pv 2) (pe_g gM) (nomark _)) (pw_or1 (pt_val (pe_callD D hr pass0 (pa_cons (pv 2) pa_nil)))))) (pss_one (ps_ret (pe_callD pv' hr pass0 (pa_cons (pe_methD0 (pv 0) T.cl nu hr pass_cx) pa_nil)))) pss_nil)
    (pss_one (ps_ret (pe_callD pv' hr pass0 (pa_cons (pe_methD0 (pv 0) T.cl wd hr pass_cx) pa_nil)))))))), ?_⟩
  refine R.m rfl (by decide +kernel) (by decide +kernel) (by decide +kernel) ?_
  refine ⟨r, src, l, rfl, hsrc, R, ?_⟩
  refine ⟨_, rfl, rfl, _, rfl, ?_⟩
  show if decide (V.int (hdN l : Nat) = V.int ((91 : Nat) : Int)) = true then _ else _
  rw [decV]
  refine ite2 (fun z => ?_) (fun z => ?_)
  · have z : hdN l = 91 := of_decide_eq_true z
    refine R.m rfl (by decide +kernel) (by decide +kernel) (by decide +kernel) ?_
    exact ⟨_, rfl, _, _, rfl, rfl, r, src, l, dp, rfl, hsrc, R, hd, z, q, qe⟩
  have z1 : ¬ hdN l = 91 := fun y => z (decide_eq_true y)
  refine ⟨_, rfl, rfl, _, rfl, ?_⟩
  show if decide (V.int (hdN l : Nat) = V.int ((123 : Nat) : Int)) = true then _ else _
  rw [decV]
  refine ite2 (fun z => ?_) (fun z => ?_)
  · have z : hdN l = 123 := of_decide_eq_true z
    refine R.m rfl (by decide +kernel) (by decide +kernel) (by decide +kernel) ?_
    exact ⟨_, rfl, _, _, rfl, rfl, r, src, l, dp, rfl, hsrc, R, hd, z, q, qe⟩
  have z2 : ¬ hdN l = 123 := fun y => z (decide_eq_true y)
  rw [bare_plain z1 z2] at q qe
  unfold Mt.plainAt at q qe
  refine ⟨_, rfl, rfl, _, rfl, ?_⟩
  show if decide (V.int (hdN l : Nat) = V.int ((34 : Nat) : Int)) = true then _ else _
  rw [decV]
  refine ite2 (fun z => ?_) (fun z => ?_)
  · have z3 : l.head? = some 34 := (hd_iff (by decide)).mpr (of_decide_eq_true z)
    rw [if_pos z3] at q qe
    refine R.m rfl (by decide +kernel) (by decide +kernel) (by decide +kernel) ?_
    refine ⟨r, src, l, rfl, hsrc, R, fun b l2 hb H2 t R2 k2 hn ht => ?_, fun hn => qe (by rw [hn]; rfl)⟩
    have hb' : b.length <= 300000 := by
      have h1 := Mt.txt_blen hb
      have h2 := Nat.le_trans R.len hsrc.len
      omega
    exact ⟨t, b, rfl, ht, hb', fun H3 a s3 ha rep => q _ l2 (by rw [hb]; rfl) H3 a (R2.same s3) (k2.same s3) rep⟩
  have z3 : ¬ l.head? = some 34 := fun y => z (decide_eq_true ((hd_iff (by decide)).mp y))
  rw [if_neg z3] at q qe
  have num : (l.head? = some 45 ∨ l.head?.map Sn77.digit = some true) -> tRet (tCall (spPlainValue CV) [] E0 (tCons (tMeth C "read_number" (spNumber K C cN) [] E (tVar 0) tNil) tNil)) { nx := fun _ H' => Q .non H', rt := Q } [some (.ref r), some (.int (dp : Nat)), some (.int (hdN l : Nat))] H := fun y => by
    rw [if_pos y] at q qe
    refine R.m rfl (by decide +kernel) (by decide +kernel) (by decide +kernel) ?_
    refine ⟨r, src, l, rfl, hsrc, R, fun z l2 hz H2 R2 k2 => ?_, fun hn => qe hn⟩
    obtain ⟨z', e, b1, b2⟩ := num_bound hz
    cases e
    exact ⟨.int z, _, rfl, rfl, fun z' e => by cases e; exact ⟨b1, b2⟩, fun H3 a s3 ha rep => q _ l2 hz H3 a (R2.same s3) (k2.same s3) rep⟩
  refine ⟨_, rfl, rfl, _, rfl, ?_⟩
  show if decide (V.int (hdN l : Nat) = V.int ((45 : Nat) : Int)) = true then _ else _
  rw [decV]
  refine ite2 (fun z => ?_) (fun z => ?_)
  · exact iteT (num (.inl ((hd_iff (by decide)).mpr (of_decide_eq_true z))))
  have z4 : ¬ l.head? = some 45 := fun y => z (decide_eq_true ((hd_iff (by decide)).mp y))
  refine ⟨_, rfl, _, rfl, _, rfl, ?_⟩
  rw [isD_hd]
  cases l with
  | nil =>
    refine iteF ?_
    rw [if_neg (by rintro (y | y) <;> cases y)] at q qe
    refine R.m rfl (by decide +kernel) (by decide +kernel) (by decide +kernel) ?_
    refine ⟨r, src, [], rfl, hsrc, R, fun v l2 hv H2 R2 k2 => ?_, fun hn => qe hn⟩
    obtain ⟨p1, p2⟩ := vOf_plain hv
    exact ⟨v, _, rfl, p1, p2, fun H3 a s3 ha rep => q _ l2 hv H3 a (R2.same s3) (k2.same s3) rep⟩
  | cons c t =>
    show if Sn77.digit c = true then _ else _
    refine ite2 (fun y => ?_) (fun y => ?_)
    · exact num (.inr (by rw [List.head?_cons, Option.map_some, y]))
    · rw [if_neg (by
        rintro (x | x)
        · exact z4 x
        · rw [List.head?_cons, Option.map_some] at x
          exact y (Option.some.inj x))] at q qe
      refine R.m rfl (by decide +kernel) (by decide +kernel) (by decide +kernel) ?_
      refine ⟨r, src, c :: t, rfl, hsrc, R, fun v l2 hv H2 R2 k2 => ?_, fun hn => qe hn⟩
      obtain ⟨p1, p2⟩ := vOf_plain hv
      exact ⟨v, _, rfl, p1, p2, fun H3 a s3 ha rep => q _ l2 hv H3 a (R2.same s3) (k2.same s3) rep⟩
end
end Pw
set_option Elab.async false
set_option linter.all false
set_option maxRecDepth 100000
set_option maxHeartbeats 4000000
namespace Pw
open PySem PySem.Spec PyProof.Rows L2
section
variable {P : Program} {w : World} {K : PySem.W.Frag} {mg : Str -> Option Value} {base : Heap} {f : Addr} {fd : FuncData} {C CV cN r : Addr} {src : Sc} {l : List Nat} {H : Hp}
theorem hd_cons {l : List Nat} {c : Nat} (h : hdN l = c) (hc : c < 256) : l = c :: l.tail := hdN_of h hc
theorem sc_read_list : FnScope ["self", "depth", "listed"] ["self", "depth"] (defScope m_read_list) := ⟨rfl, rfl, rfl, by decide +kernel, rfl, by decide +kernel, by decide +kernel⟩
def goL (d : Nat) (t : List Nat) (pre : List Sn77.V) (l' : List Nat) : Prop := Mt.lsL (Mt.pval d) (Sn77.skip t) = (Mt.lsL (Mt.pval d) l').map fun y => (Sn77.Vs.of (pre ++ y.1.toList), y.2)
theorem bare_in {d : Nat} {l : List Nat} (h : hdN l = 91) : Mt.bare (d + 1) l = if hdN (Sn77.skip l.tail) = 93 then some (.list .nil, (Sn77.skip l.tail).tail) else (Mt.lsL (Mt.pval d) (Sn77.skip l.tail)).map fun x => (.list x.1, x.2) := by
  rw [Mt.bare_succ, if_pos ((hd_iff (by decide)).mpr h)]
  have e := hd_cons h (by decide)
  rw [e]
  show (if (Sn77.skip l.tail).head? = some 93 then _ else _) = _
  by_cases z : hdN (Sn77.skip l.tail) = 93
  · rw [if_pos ((hd_iff (by decide)).mpr z)]
    exact (if_pos z).symm
  · rw [if_neg (fun y => z ((hd_iff (by decide)).mp y))]
    exact (if_neg z).symm
theorem bare_in0 {l : List Nat} (h : hdN l = 91 ∨ hdN l = 123) : Mt.bare 0 l = Option.none := by
  rw [Mt.bare, if_pos]
  rcases h with h | h
  · exact .inl ((hd_iff (by decide)).mpr h)
  · exact .inr ((hd_iff (by decide)).mpr h)
theorem lsL_at {d : Nat} {l' l2 : List Nat} {v : Sn77.V} (h : Mt.pval d l' = some (v, l2)) : Mt.lsL (Mt.pval d) l' = if hdN l2 = 93 then some (.cons v .nil, l2.tail) else if hdN l2 = 44 then (Mt.lsL (Mt.pval d) l2.tail).map fun y => (.cons v y.1, y.2) else Option.none := by
  rw [Mt.lsL_eq (Mt.eats d), h]
  simp only [Option.bind_some]
  by_cases z : hdN l2 = 93
  · rw [if_pos z, hd_cons z (by decide)]
    rfl
  rw [if_neg z]
  by_cases z2 : hdN l2 = 44
  · rw [if_pos z2, hd_cons z2 (by decide)]
    rfl
  rw [if_neg z2]
  split
  · exact absurd rfl z
  · exact absurd rfl z2
  · rfl
theorem ok_read_list {d k : Nat} (hk : 10 <= k) (F : Fun K "read_list" "Reader.read_list" m_read_list f fd) (T : Txt K mg C cN) (ne : C ≠ CV) (gL : Gv mg "OPEN_LIST" (.int 91)) (gC : Gv mg "CLOSE_LIST" (.int 93)) (gK : Gv mg "COMMA" (.int 44))
    (en : MethOk P w K mg base (CXe P w) 4 C "enter" ["self", "opening", "depth"] (spEnter K C cN)) (ti : MethOk P w K mg base CX0 2 C "take_if" ["self", "wanted"] (spTakeIf K C)) (ex : MethOk P w K mg base (CXe P w) 3 C "expect" ["self", "wanted"] (spExpect K C cN))
    (lv : DefOk P w K mg base CX0 8 "list_value" ["listed"] (spListValue CV)) (rv : MethOk P w K mg base (CXe P w) k C "read_value" ["self", "depth"] (spValue K C CV cN d)) : FnOk P w K mg base (CXe P w) (k + 1) f fd ["self", "depth"] (spIn K C CV cN 91 (d + 1)) := by
  refine F.okX sc_read_list (fun vs H Q E h => ?_) (fun cdv A outer s H vs Q E hr h => ?_)
  · obtain ⟨r, src, l, dp, rfl, _⟩ := h
    rfl
  obtain ⟨r, src, l, dp, rfl, hsrc, R, hd, hl, q, qe⟩ := h
  have nd := sc_read_list.nd
  refine ⟨_, pss_cons (ps_expr (pe_methD (pv 0) T.cl en hr pass_cx (pa_cons (pe_g gL) (pa_cons (pv 1) pa_nil))))
    (pss_cons (ps_set (i := 2) nd rfl (Or.inl rfl) (pe_lst pa_nil))
    (pss_cons (ps_if (pt_val (pe_methD (pv 0) T.cl ti hr pass0 (pa_cons (pe_g gC) pa_nil))) (pss_one (ps_ret (pe_callD lv hr pass0 (pa_cons (pv 2) pa_nil)))) pss_nil)
    (pss_one (ps_while PassesOwn.leaving (pt_val pe_bl)
      (pss_cons (ps_expr (pe_bm PySem.F.plainAttrs_list PySem.F.slot_list_append PySem.F.type_list_append mt_append (pv 2) (pa_cons (pe_methD (pv 0) T.cl rv hr pass_cx (pa_cons (pv 1) pa_nil)) pa_nil)))
      (pss_cons (ps_if (pt_val (pe_methD (pv 0) T.cl ti hr pass0 (pa_cons (pe_g gC) pa_nil))) (pss_one (ps_ret (pe_callD lv hr pass0 (pa_cons (pv 2) pa_nil)))) pss_nil)
      (pss_one (ps_expr (pe_methD (pv 0) T.cl ex hr pass_cx (pa_cons (pe_g gK) pa_nil)))))))))), ?_⟩
  rw [bare_in hl] at q qe
  refine R.m rfl (by decide +kernel) (by decide +kernel) (by decide +kernel) ?_
  refine ⟨_, rfl, r, src, l, 91, dp + 1, rfl, hsrc, R, fun z => ?_, fun _ _ H1 R1 k1 => ?_⟩
  · exfalso
    rcases z with z | z
    · exact z hl
    · omega
  refine ⟨Nat.zero_le _, fun p hp => ?_⟩
  have hpH : H p = Option.none := R1.fresh k1 hp
  have R2 := R1.new (o := .lst []) hp
  have k2 : Keep r H (upd H1 p (.lst [])) := k1.same (Same.upd hp _)
  have hlen := Nat.le_trans R1.len hsrc.len
  refine R2.m rfl (by decide +kernel) (by decide +kernel) (by decide +kernel) ?_
  refine ⟨r, src, Sn77.skip l.tail, 93, rfl, hsrc, R2, fun z => ⟨_, rfl, iteF ?_⟩, fun z H3 R3 k3 => ⟨_, rfl, iteT ?_⟩⟩
  · -- the loop
    rw [if_neg z] at q qe
    refine ⟨fun m σ H' => ∃ (l' : List Nat) (pre : List Sn77.V) (xs : List V), m = l'.length /\ σ = [some (.ref r), some (.int ((dp + 1 : Nat) : Int)), some (.ref p)] /\ Rdr K C src H' r l' /\ Keep r H H' /\ H' p = some (.lst xs) /\ RepL CV H' (Sn77.Vs.of pre) xs /\ xs.length + l'.length <= 65536 /\ goL d l.tail pre l',
      ⟨_, Sn77.skip l.tail, [], [], rfl, rfl, R2, k2, upd_same, by rw [repL_iff]; exact .nil, by simpa using hlen, by
        unfold goL
        cases Mt.lsL (Mt.pval d) (Sn77.skip l.tail) with
        | none => rfl
        | some y => simp only [Option.map_some, List.nil_append, toList_of]⟩, ?_⟩
    rintro m σ H' ⟨l', pre, xs, rfl, rfl, R', k', hp', rep, hz, go⟩
    refine ⟨_, rfl, iteT ?_⟩
    refine ⟨fun σ' H2 => ∃ (l2 : List Nat) (pre2 : List Sn77.V) (xs2 : List V), l2.length < l'.length /\ σ' = [some (.ref r), some (.int ((dp + 1 : Nat) : Int)), some (.ref p)] /\ Rdr K C src H2 r l2 /\ Keep r H H2 /\ H2 p = some (.lst xs2) /\ RepL CV H2 (Sn77.Vs.of pre2) xs2 /\ xs2.length + l2.length <= 65536 /\ goL d l.tail pre2 l2,
      fun σ' H2 ⟨l2, pre2, xs2, a1, a2, a3, a4, a5, a6, a7, a8⟩ => ⟨_, a1, l2, pre2, xs2, rfl, a2, a3, a4, a5, a6, a7, a8⟩, ?_⟩
    unfold goL at go
    refine ⟨_, rfl, .inl ⟨rfl, _, SqL.of hp'⟩, ?_⟩
    refine R'.m rfl (by decide +kernel) (by decide +kernel) (by decide +kernel) ?_
    refine ⟨_, rfl, r, src, l', dp + 1, rfl, hsrc, R', by omega, fun v l2 hv H3 a R3 k3 rep3 => ?_, fun hn => qe ?_⟩
    · have hpr : p ≠ r := R'.ne hp' (fun _ _ _ z => nomatch z)
      have hp3 : H3 p = some (.lst xs) := k3 p _ hp' hpr
      have hlt := Mt.eats d _ _ _ hv
      refine ⟨p, xs, _, rfl, rfl, hp3, Nat.lt_of_le_of_lt (show xs.length <= 65536 by omega) (by decide), ?_⟩
      have R4 : Rdr K C src (upd H3 p (.lst (xs ++ [.ref a]))) r l2 := R3.lst hp3
      have s34 : Sol CV H3 (upd H3 p (.lst (xs ++ [.ref a]))) := (Keep.upd (r := p)).sol hp3 (fun z => z)
      have k4 : Keep r H (upd H3 p (.lst (xs ++ [.ref a]))) := (k'.trans k3).new hpH
      have rep4 : RepL CV (upd H3 p (.lst (xs ++ [.ref a]))) (Sn77.Vs.of (pre ++ [v])) (xs ++ [.ref a]) := repL_snoc ((rep.sol (R'.sol k3 ne)).sol s34) (rep3.sol s34)
      rw [lsL_at hv] at go
      refine R4.m rfl (by decide +kernel) (by decide +kernel) (by decide +kernel) ?_
      refine ⟨r, src, l2, 93, rfl, hsrc, R4, fun z2 => ⟨_, rfl, iteF ?_⟩, fun z2 H5 R5 k5 => ⟨_, rfl, iteT ?_⟩⟩
      · rw [if_neg z2] at go
        refine R4.m rfl (by decide +kernel) (by decide +kernel) (by decide +kernel) ?_
        refine ⟨r, src, l2, 44, rfl, hsrc, R4, fun z3 => qe ?_, fun z3 H5 R5 k5 => ?_⟩
        · rw [if_neg z3] at go
          rw [go]
          rfl
        · rw [if_pos z3] at go
          refine ⟨l2.tail, pre ++ [v], xs ++ [.ref a], ?_, rfl, R5, k4.trans k5, k5 p _ upd_same hpr, rep4.sol (R4.sol k5 ne), ?_, ?_⟩
          · rw [List.length_tail]; omega
          · rw [List.length_append, List.length_singleton, List.length_tail]
            have : 0 < l2.length := by rw [hd_cons z3 (by decide)]; exact Nat.succ_pos _
            omega
          · unfold goL
            rw [go]
            cases Mt.lsL (Mt.pval d) l2.tail with
            | none => rfl
            | some y =>
              simp only [Option.map_some, List.append_assoc]
              rfl
      · rw [if_pos z2] at go
        have hp5 : H5 p = some (.lst (xs ++ [.ref a])) := k5 p _ upd_same hpr
        refine ⟨_, rfl, p, _, Sn77.Vs.of (pre ++ [v]), rfl, hp5, rep4.sol (R4.sol k5 ne), ?_, fun H6 a6 k6 rep6 => ?_⟩
        · rw [List.length_append, List.length_singleton]
          omega
        · refine q _ l2.tail ?_ H6 a6 (R5.keepP k6 hp5 (fun _ _ _ z => nomatch z) (fun _ _ z => nomatch z)) (Keep.then (k4.trans k5) k6 hpH) rep6
          rw [go]
          rfl
    · rw [go, Mt.lsL_eq (Mt.eats d), hn]
      rfl
  · rw [if_pos z] at q qe
    have hpr : p ≠ r := R2.ne upd_same (fun _ _ _ z => nomatch z)
    have hp3 : H3 p = some (.lst []) := k3 p _ upd_same hpr
    refine ⟨_, rfl, p, _, .nil, rfl, hp3, by rw [RepL], Nat.zero_le _, fun H6 a6 k6 rep6 => ?_⟩
    exact q _ _ rfl H6 a6 (R3.keepP k6 hp3 (fun _ _ _ z => nomatch z) (fun _ _ z => nomatch z)) (Keep.then (k2.trans k3) k6 hpH) rep6
theorem ok_read_list0 {k : Nat} (hk : 10 <= k) (F : Fun K "read_list" "Reader.read_list" m_read_list f fd) (T : Txt K mg C cN) (gL : Gv mg "OPEN_LIST" (.int 91))
    (en : MethOk P w K mg base (CXe P w) 4 C "enter" ["self", "opening", "depth"] (spEnter K C cN)) : FnOk P w K mg base (CXe P w) (k + 1) f fd ["self", "depth"] (spIn K C CV cN 91 0) := by
  refine F.okX sc_read_list (fun vs H Q E h => ?_) (fun cdv A outer s H vs Q E hr h => ?_)
  · obtain ⟨r, src, l, dp, rfl, _⟩ := h
    rfl
  obtain ⟨r, src, l, dp, rfl, hsrc, R, hd, hl, q, qe⟩ := h
  refine ⟨_, pss_cons (ps_expr (pe_methD (pv 0) T.cl en hr pass_cx (pa_cons (pe_g gL) (pa_cons (pv 1) pa_nil)))) (pss_cons ps_never (pss_cons ps_never (pss_one ps_never))), ?_⟩
  refine R.m rfl (by decide +kernel) (by decide +kernel) (by decide +kernel) ?_
  refine ⟨_, rfl, r, src, l, 91, dp + 1, rfl, hsrc, R, fun z => qe (bare_in0 (.inl hl)), fun _ z H1 R1 k1 => ?_⟩
  omega
theorem sc_read_members : FnScope ["self", "depth", "members", "name"] ["self", "depth"] (defScope m_read_members) := ⟨rfl, rfl, rfl, by decide +kernel, rfl, by decide +kernel, by decide +kernel⟩
def namesOf (pre : List (List Nat × Sn77.V)) : List (List Nat) := pre.map fun x => x.1
def goM (d : Nat) (t : List Nat) (pre : List (List Nat × Sn77.V)) (l' : List Nat) : Prop := Mt.lsM (Mt.pval d) [] (Sn77.skip t) = (Mt.lsM (Mt.pval d) (namesOf pre) l').map fun y => (Sn77.Ms.of (pre ++ y.1.toList), y.2)
theorem bare_inM {d : Nat} {l : List Nat} (h : hdN l = 123) : Mt.bare (d + 1) l = if hdN (Sn77.skip l.tail) = 125 then some (.obj .nil, (Sn77.skip l.tail).tail) else (Mt.lsM (Mt.pval d) [] (Sn77.skip l.tail)).map fun x => (.obj x.1, x.2) := by
  have n1 : ¬ l.head? = some 91 := fun y => by rw [(hd_iff (by decide)).mp y] at h; cases h
  rw [Mt.bare_succ, if_neg n1, if_pos ((hd_iff (by decide)).mpr h)]
  have e := hd_cons h (by decide)
  rw [e]
  show (if (Sn77.skip l.tail).head? = some 125 then _ else _) = _
  by_cases z : hdN (Sn77.skip l.tail) = 125
  · rw [if_pos ((hd_iff (by decide)).mpr z)]
    exact (if_pos z).symm
  · rw [if_neg (fun y => z ((hd_iff (by decide)).mp y))]
    exact (if_neg z).symm
theorem lsM_at {d : Nat} {seen : List (List Nat)} {l' l1 l2 n : List Nat} {v : Sn77.V} (h0 : Mt.nameOf l' = some (n, l1)) (hn : n ∉ seen) (h : Mt.pval d l1 = some (v, l2)) :
    Mt.lsM (Mt.pval d) seen l' = if hdN l2 = 125 then some (.cons n v .nil, l2.tail) else if hdN l2 = 44 then (Mt.lsM (Mt.pval d) (seen ++ [n]) l2.tail).map fun y => (.cons n v y.1, y.2) else Option.none := by
  rw [Mt.lsM_eq (Mt.eats d), h0]
  simp only [Option.bind_some]
  rw [if_neg hn, h]
  simp only [Option.bind_some]
  by_cases z : hdN l2 = 125
  · rw [if_pos z, hd_cons z (by decide)]
    rfl
  rw [if_neg z]
  by_cases z2 : hdN l2 = 44
  · rw [if_pos z2, hd_cons z2 (by decide)]
    rfl
  rw [if_neg z2]
  split
  · exact absurd rfl z
  · exact absurd rfl z2
  · rfl
theorem val_names {CV : Addr} {H : Hp} {pre : List (List Nat × Sn77.V)} {kvs : List (List Key × V)} (h : RepM CV H (Sn77.Ms.of pre) kvs) (n : List Nat) : (valV kvs (keyN n)).isSome = true ↔ n ∈ namesOf pre := by
  rw [repM_iff, ofM_toList] at h
  have := repM_val h n
  cases e : pre.find? (fun x => x.1 == n) with
  | none =>
    rw [e] at this
    rw [show valV kvs (keyN n) = Option.none from this]
    constructor
    · intro z; cases z
    · intro z
      obtain ⟨x, hx, ex⟩ := List.mem_map.mp z
      have := List.find?_eq_none.mp e x hx
      rw [ex] at this
      exact absurd (beq_self_eq_true n) this
  | some x =>
    rw [e] at this
    obtain ⟨a, h1, _⟩ := (show ∃ a, valV kvs (keyN n) = some (.ref a) /\ RepV CV H x.2 a from this)
    rw [h1]
    have hx := List.mem_of_find?_eq_some e
    have h2 := List.find?_some e
    exact ⟨fun _ => List.mem_map.mpr ⟨x, hx, eq_of_beq h2⟩, fun _ => rfl⟩
theorem ok_read_members {d k : Nat} (hk : 20 <= k) (F : Fun K "read_members" "Reader.read_members" m_read_members f fd) (T : Txt K mg C cN) (ne : C ≠ CV) (gL : Gv mg "OPEN_MEMBERS" (.int 123)) (gC : Gv mg "CLOSE_MEMBERS" (.int 125)) (gK : Gv mg "COMMA" (.int 44))
    (en : MethOk P w K mg base (CXe P w) 4 C "enter" ["self", "opening", "depth"] (spEnter K C cN)) (ti : MethOk P w K mg base CX0 2 C "take_if" ["self", "wanted"] (spTakeIf K C)) (ex : MethOk P w K mg base (CXe P w) 3 C "expect" ["self", "wanted"] (spExpect K C cN))
    (nm : MethOk P w K mg base (CXe P w) 7 C "read_name" ["self"] (spName K C cN)) (mv : DefOk P w K mg base CX0 8 "members_value" ["members"] (spMembersValue CV)) (rv : MethOk P w K mg base (CXe P w) k C "read_value" ["self", "depth"] (spValue K C CV cN d)) :
    FnOk P w K mg base (CXe P w) (k + 1) f fd ["self", "depth"] (spIn K C CV cN 123 (d + 1)) := by
  refine F.okX sc_read_members (fun vs H Q E h => ?_) (fun cdv A outer s H vs Q E hr h => ?_)
  · obtain ⟨r, src, l, dp, rfl, _⟩ := h
    rfl
  obtain ⟨r, src, l, dp, rfl, hsrc, R, hd, hl, q, qe⟩ := h
  have nd := sc_read_members.nd
  have hu := hu_of hr
  refine ⟨_, pss_cons (ps_expr (pe_methD (pv 0) T.cl en hr pass_cx (pa_cons (pe_g gL) (pa_cons (pv 1) pa_nil))))
    (pss_cons (ps_set (i := 2) nd rfl (Or.inl rfl) pe_dnewT)
    (pss_cons (ps_if (pt_val (pe_methD (pv 0) T.cl ti hr pass0 (pa_cons (pe_g gC) pa_nil))) (pss_one (ps_ret (pe_callD mv hr pass0 (pa_cons (pv 2) pa_nil)))) pss_nil)
    (pss_one (ps_while PassesOwn.leaving (pt_val pe_bl)
      (pss_cons (ps_set (i := 3) nd rfl (Or.inl rfl) (pe_methD0 (pv 0) T.cl nm hr pass_cx))
      (pss_cons (ps_if (pt_cmp (pc_din hu (pv 3) (pv 2))) (pss_one (ps_raise rfl rfl T.mN T.xN raises_cx)) pss_nil)
      (pss_cons (ps_dput hu (pv 2) (pv 3) (pe_methD (pv 0) T.cl rv hr pass_cx (pa_cons (pv 1) pa_nil)) rfl)
      (pss_cons (ps_if (pt_val (pe_methD (pv 0) T.cl ti hr pass0 (pa_cons (pe_g gC) pa_nil))) (pss_one (ps_ret (pe_callD mv hr pass0 (pa_cons (pv 2) pa_nil)))) pss_nil)
      (pss_one (ps_expr (pe_methD (pv 0) T.cl ex hr pass_cx (pa_cons (pe_g gK) pa_nil)))))))))))), ?_⟩
  rw [bare_inM hl] at q qe
  refine R.m rfl (by decide +kernel) (by decide +kernel) (by decide +kernel) ?_
  refine ⟨_, rfl, r, src, l, 123, dp + 1, rfl, hsrc, R, fun z => ?_, fun _ _ H1 R1 k1 => ?_⟩
  · exfalso
    rcases z with z | z
    · exact z hl
    · omega
  refine fun p hp => ?_
  have hpH : H p = Option.none := R1.fresh k1 hp
  have R2 := R1.new (o := .dT []) hp
  have k2 : Keep r H (upd H1 p (.dT [])) := k1.same (Same.upd hp _)
  have hlen := Nat.le_trans R1.len hsrc.len
  refine R2.m rfl (by decide +kernel) (by decide +kernel) (by decide +kernel) ?_
  refine ⟨r, src, Sn77.skip l.tail, 125, rfl, hsrc, R2, fun z => ⟨_, rfl, iteF ?_⟩, fun z H3 R3 k3 => ⟨_, rfl, iteT ?_⟩⟩
  · -- the loop
    rw [if_neg z] at q qe
    refine ⟨fun m σ H' => ∃ (l' : List Nat) (pre : List (List Nat × Sn77.V)) (kvs : List (List Key × V)) (v3 : Option V), m = l'.length /\ σ = [some (.ref r), some (.int ((dp + 1 : Nat) : Int)), some (.ref p), v3] /\ Rdr K C src H' r l' /\ Keep r H H' /\ H' p = some (.dT kvs) /\ RepM CV H' (Sn77.Ms.of pre) kvs /\ kvs.length + l'.length <= 65536 /\ (∀ x ∈ pre, x.1.length <= 300000) /\ (namesOf pre).Nodup /\ goM d l.tail pre l',
      ⟨_, Sn77.skip l.tail, [], [], Option.none, rfl, rfl, R2, k2, upd_same, by rw [repM_iff]; exact .nil, by simpa using hlen, (fun x hx => by cases hx), List.nodup_nil, by
        unfold goM
        show _ = (Mt.lsM (Mt.pval d) [] (Sn77.skip l.tail)).map _
        cases Mt.lsM (Mt.pval d) [] (Sn77.skip l.tail) with
        | none => rfl
        | some y => simp only [Option.map_some, List.nil_append, toListM_of]⟩, ?_⟩
    rintro m σ H' ⟨l', pre, kvs, v3, rfl, rfl, R', k', hp', rep, hz, hnm, hnd, go⟩
    refine ⟨_, rfl, iteT ?_⟩
    refine ⟨fun σ' H2 => ∃ (l2 : List Nat) (pre2 : List (List Nat × Sn77.V)) (kvs2 : List (List Key × V)) (v3 : Option V), l2.length < l'.length /\ σ' = [some (.ref r), some (.int ((dp + 1 : Nat) : Int)), some (.ref p), v3] /\ Rdr K C src H2 r l2 /\ Keep r H H2 /\ H2 p = some (.dT kvs2) /\ RepM CV H2 (Sn77.Ms.of pre2) kvs2 /\ kvs2.length + l2.length <= 65536 /\ (∀ x ∈ pre2, x.1.length <= 300000) /\ (namesOf pre2).Nodup /\ goM d l.tail pre2 l2,
      fun σ' H2 ⟨l2, pre2, kvs2, v3, a1, a2, a3, a4, a5, a6, a7, a8, a9, a10⟩ => ⟨_, a1, l2, pre2, kvs2, v3, rfl, a2, a3, a4, a5, a6, a7, a8, a9, a10⟩, ?_⟩
    unfold goM at go
    have hpr : p ≠ r := R'.ne hp' (fun _ _ _ z => nomatch z)
    refine R'.m rfl (by decide +kernel) (by decide +kernel) (by decide +kernel) ?_
    refine ⟨r, src, l', rfl, hsrc, R', fun n l1 hn H3 t R3 k3 ht0 ht => ?_, fun hn => qe ?_⟩
    · have hp3 : H3 p = some (.dT kvs) := k3 p _ hp' hpr
      have hlt1 := Mt.nameOf_len hn
      have hnl : n.length <= 300000 := by
        have h1 := Mt.nameOf_blen hn
        have h2 := Nat.le_trans R'.len hsrc.len
        omega
      have ht' : H3 t = some (.tup ((keyN n).map kV)) := by rw [keyN_kV]; exact ht
      have rep3 := rep.sol (R'.sol k3 ne)
      refine ⟨_, rfl, _, rfl, p, _, rfl, DGet.t hp3 ht', _, rfl, ?_⟩
      refine ite2 (fun y => ?_) (fun y => ?_)
      · refine qe ?_ _
        have hin := (val_names rep3 n).mp y
        rw [go, Mt.lsM_eq (Mt.eats d), hn]
        simp only [Option.bind_some]
        rw [if_pos hin]
        rfl
      have hni : n ∉ namesOf pre := fun x => y ((val_names rep3 n).mpr x)
      have hnv : valV kvs (keyN n) = Option.none := by
        cases e : valV kvs (keyN n) with
        | none => rfl
        | some x => exact absurd (by rw [e]; rfl) y
      refine R3.m rfl (by decide +kernel) (by decide +kernel) (by decide +kernel) ?_
      refine ⟨_, rfl, r, src, l1, dp + 1, rfl, hsrc, R3, by omega, fun v l2 hv H4 a R4 k4 rep4 => ?_, fun hn2 => qe ?_⟩
      · have hlt := Mt.eats d _ _ _ hv
        have hp4 : H4 p = some (.dT kvs) := k4 p _ hp3 hpr
        have htr : t ≠ r := R3.ne ht (fun _ _ _ z => nomatch z)
        have ht4 : H4 t = some (.tup ((keyN n).map kV)) := k4 t _ ht' htr
        refine ⟨_, rfl, _, rfl, p, _, rfl, DPut.t hp4 ht4 (Nat.lt_of_le_of_lt (show kvs.length <= 65536 by omega) (by decide)), ?_⟩
        rw [putK_new _ hnv]
        have R5 : Rdr K C src (upd H4 p (.dT (kvs ++ [(keyN n, .ref a)]))) r l2 := R4.dict hp4
        have s45 : Sol CV H4 (upd H4 p (.dT (kvs ++ [(keyN n, .ref a)]))) := (Keep.upd (r := p)).sol hp4 (fun z => z)
        have k5 : Keep r H (upd H4 p (.dT (kvs ++ [(keyN n, .ref a)]))) := ((k'.trans k3).trans k4).new hpH
        have rep5 : RepM CV (upd H4 p (.dT (kvs ++ [(keyN n, .ref a)]))) (Sn77.Ms.of (pre ++ [(n, v)])) (kvs ++ [(keyN n, .ref a)]) := repM_snoc ((rep3.sol (R3.sol k4 ne)).sol s45) (rep4.sol s45)
        have hnm5 : ∀ x ∈ pre ++ [(n, v)], x.1.length <= 300000 := fun x hx => by
          rcases List.mem_append.mp hx with hx | hx
          · exact hnm x hx
          · have : x = (n, v) := by simpa using hx
            rw [this]
            exact hnl
        have hnd5 : (namesOf (pre ++ [(n, v)])).Nodup := by
          rw [show namesOf (pre ++ [(n, v)]) = namesOf pre ++ [n] from List.map_append, List.nodup_append]
          refine ⟨hnd, by simp, fun a ha b hb => ?_⟩
          have : b = n := by simpa using hb
          rw [this]
          intro z
          exact hni (z ▸ ha)
        rw [lsM_at hn hni hv] at go
        refine R5.m rfl (by decide +kernel) (by decide +kernel) (by decide +kernel) ?_
        refine ⟨r, src, l2, 125, rfl, hsrc, R5, fun z2 => ⟨_, rfl, iteF ?_⟩, fun z2 H6 R6 k6 => ⟨_, rfl, iteT ?_⟩⟩
        · rw [if_neg z2] at go
          refine R5.m rfl (by decide +kernel) (by decide +kernel) (by decide +kernel) ?_
          refine ⟨r, src, l2, 44, rfl, hsrc, R5, fun z3 => qe ?_, fun z3 H6 R6 k6 => ?_⟩
          · rw [if_neg z3] at go
            rw [go]
            rfl
          · rw [if_pos z3] at go
            refine ⟨l2.tail, pre ++ [(n, v)], kvs ++ [(keyN n, .ref a)], some (.ref t), ?_, rfl, R6, k5.trans k6, k6 p _ upd_same hpr, rep5.sol (R5.sol k6 ne), ?_, hnm5, hnd5, ?_⟩
            · rw [List.length_tail]; omega
            · rw [List.length_append, List.length_singleton, List.length_tail]
              have : 0 < l2.length := by rw [hd_cons z3 (by decide)]; exact Nat.succ_pos _
              omega
            · unfold goM
              rw [go, show namesOf (pre ++ [(n, v)]) = namesOf pre ++ [n] from List.map_append]
              cases Mt.lsM (Mt.pval d) (namesOf pre ++ [n]) l2.tail with
              | none => rfl
              | some y =>
                simp only [Option.map_some, List.append_assoc]
                rfl
        · rw [if_pos z2] at go
          have hp6 : H6 p = some (.dT (kvs ++ [(keyN n, .ref a)])) := k6 p _ upd_same hpr
          refine ⟨_, rfl, p, _, Sn77.Ms.of (pre ++ [(n, v)]), rfl, hp6, rep5.sol (R5.sol k6 ne), (by unfold Nd; rw [ofM_toList]; exact hnd5), ?_, ?_, fun H7 a7 k7 rep7 => ?_⟩
          · rw [List.length_append, List.length_singleton]
            omega
          · rw [ofM_toList]
            exact hnm5
          · refine q _ l2.tail ?_ H7 a7 (R6.keepP k7 hp6 (fun _ _ _ z => nomatch z) (fun _ _ z => nomatch z)) (Keep.then (k5.trans k6) k7 hpH) rep7
            rw [go]
            rfl
      · rw [go, Mt.lsM_eq (Mt.eats d), hn]
        simp only [Option.bind_some]
        rw [if_neg hni, hn2]
        rfl
    · rw [go, Mt.lsM_eq (Mt.eats d), hn]
      rfl
  · rw [if_pos z] at q qe
    have hpr : p ≠ r := R2.ne upd_same (fun _ _ _ z => nomatch z)
    have hp3 : H3 p = some (.dT []) := k3 p _ upd_same hpr
    refine ⟨_, rfl, p, _, .nil, rfl, hp3, by rw [RepM], List.nodup_nil, Nat.zero_le _, (fun x hx => by cases hx), fun H6 a6 k6 rep6 => ?_⟩
    exact q _ _ rfl H6 a6 (R3.keepP k6 hp3 (fun _ _ _ z => nomatch z) (fun _ _ z => nomatch z)) (Keep.then (k2.trans k3) k6 hpH) rep6
theorem ok_read_members0 {k : Nat} (hk : 10 <= k) (F : Fun K "read_members" "Reader.read_members" m_read_members f fd) (T : Txt K mg C cN) (gL : Gv mg "OPEN_MEMBERS" (.int 123))
    (en : MethOk P w K mg base (CXe P w) 4 C "enter" ["self", "opening", "depth"] (spEnter K C cN)) : FnOk P w K mg base (CXe P w) (k + 1) f fd ["self", "depth"] (spIn K C CV cN 123 0) := by
  refine F.okX sc_read_members (fun vs H Q E h => ?_) (fun cdv A outer s H vs Q E hr h => ?_)
  · obtain ⟨r, src, l, dp, rfl, _⟩ := h
    rfl
  obtain ⟨r, src, l, dp, rfl, hsrc, R, hd, hl, q, qe⟩ := h
  refine ⟨_, pss_cons (ps_expr (pe_methD (pv 0) T.cl en hr pass_cx (pa_cons (pe_g gL) (pa_cons (pv 1) pa_nil)))) (pss_cons ps_never (pss_cons ps_never (pss_one ps_never))), ?_⟩
  refine R.m rfl (by decide +kernel) (by decide +kernel) (by decide +kernel) ?_
  refine ⟨_, rfl, r, src, l, 123, dp + 1, rfl, hsrc, R, fun z => qe (bare_in0 (.inr hl)), fun _ z H1 R1 k1 => ?_⟩
  omega
end
end Pw
set_option Elab.async false
set_option linter.all false
set_option maxRecDepth 100000
set_option maxHeartbeats 4000000
namespace L2
open PySem PySem.Spec PyProof.Rows
theorem for_mitems {kvs : List (Key × V)} {g : TG} {tb : TS} {D : Ends} {σ : L2.St} {H : Hp} (Pv : Nat -> L2.St -> Hp -> Prop) (h0 : Pv 0 σ H)
    (hs : ∀ i k v T σ H, kvs[i]? = some (k, v) -> H T = Option.none -> Pv i σ H -> g (.ref T) σ (upd H T (.tup [kV k, v])) fun σ2 H2 => tb { D with nx := Pv (i + 1), ct := Pv (i + 1), bk := D.nx } σ2 H2) (hd : ∀ σ H, Pv kvs.length σ H -> D.nx σ H) :
    ∃ W : Nat -> Nat -> L2.St -> Hp -> Prop, (∃ m, W 0 m σ H) /\ ∀ i m σ H, W i m σ H ->
      ((ItM kvs).stop i H /\ D.nx σ H) ∨ ((ItM kvs).go i H /\ ∃ N : L2.St -> Hp -> Prop, (∀ σ' H', N σ' H' -> ∃ m', m' < m /\ W (i + 1) m' σ' H') /\ ∀ x H', (ItM kvs).yld i H x H' -> g x σ H' fun σ2 H2 => tb { D with nx := N, ct := N, bk := D.nx } σ2 H2) := by
  refine ⟨fun i m σ H => m = kvs.length - i /\ i <= kvs.length /\ Pv i σ H, ⟨kvs.length, by simp, Nat.zero_le _, h0⟩, ?_⟩
  rintro i m σ H ⟨rfl, hi, p⟩
  by_cases hlt : i < kvs.length
  · refine .inr ⟨hlt, Pv (i + 1), fun σ' H' h => ⟨kvs.length - (i + 1), by omega, rfl, hlt, h⟩, ?_⟩
    rintro x H' ⟨T, k, v, hk, rfl, hT, rfl⟩
    exact hs i k v T σ H hk hT p
  · have e : i = kvs.length := by omega
    subst e
    exact .inl ⟨Nat.le_refl _, hd σ H p⟩
end L2
namespace Pw
open PySem PySem.Spec PyProof.Rows L2
def wordsN : List (List Nat × Sn77.V) := [(Sn77.ascii "null", .null), (Sn77.ascii "true", .bool true), (Sn77.ascii "false", .bool false)]
def wordBy : List (List Nat × Sn77.V) -> List Nat -> Option (Sn77.V × List Nat)
  | [], _ => Option.none
  | (w, v) :: r, l => if l.take w.length = w then some (v, l.drop w.length) else wordBy r l
def wordsT : List (Key × V) := wordsN.map fun p => (.inr ⟨p.1.toArray⟩, vOf p.2)
theorem cutN {src : List Nat} {i k : Nat} (hi : i <= src.length ∨ src.drop i = []) (hl : src.length <= 65536) : cutV (bV src) (some (i : Int)) (some ((i : Int) + (k : Int))) = bV ((src.drop i).take k) := by
  have e2 : (i : Int) + (k : Int) = ((i + k : Nat) : Int) := by omega
  unfold cutV
  rw [e2, HT.sIx_nat, HT.sIx_nat, List.length_map, ← List.map_drop, ← List.map_take]
  congr 1
  by_cases h : i <= src.length
  · rw [Nat.min_eq_left h]
    by_cases z : i + k <= src.length
    · rw [Nat.min_eq_left z]
      congr 1
      omega
    · rw [Nat.min_eq_right (by omega), List.take_of_length_le (by rw [List.length_drop]; omega), List.take_of_length_le (by rw [List.length_drop]; omega)]
  · have e : src.drop i = [] := List.drop_eq_nil_of_le (by omega)
    rw [e, List.take_nil, show min (i + k) src.length = src.length by omega, show min i src.length = src.length by omega, List.drop_length, List.take_nil]
theorem shaped_ints (l : List Nat) : SeqAt.shaped (.list (l.map fun c => .int (c : Nat))) = true := by
  have h1 : ∀ l : List Nat, PyData.canLayAll0 (l.map fun c => .int (c : Nat)) = true := fun l => by
    induction l with
    | nil => rfl
    | cons c r ih =>
      show (true && PyData.canLayAll0 _) = true
      rw [ih]
      rfl
  have h2 : ∀ l : List Nat, PyData.depthAll (l.map fun c => .int (c : Nat)) = 0 := fun l => by
    induction l with
    | nil => rfl
    | cons c r ih =>
      show max 0 (PyData.depthAll _) = 0
      rw [ih]
      rfl
  show (PyData.canLayAll0 _ && decide (PyData.depthAll _ + 1 <= 64)) = true
  rw [h1, h2]
  rfl
section
variable {P : Program} {w : World} {K : PySem.W.Frag} {mg : Str -> Option Value} {base : Heap} {f : Addr} {fd : FuncData} {C CV cN r : Addr} {src : Sc} {l : List Nat} {H : Hp}
theorem wordsT_at {i : Nat} {k : Key} {v : V} (h : wordsT[i]? = some (k, v)) : ∃ p : List Nat × Sn77.V, wordsN[i]? = some p /\ k = .inr ⟨p.1.toArray⟩ /\ v = vOf p.2 := by
  unfold wordsT at h
  rw [List.getElem?_map] at h
  cases e : wordsN[i]? with
  | none => rw [e] at h; cases h
  | some p =>
    rw [e] at h
    have h := Option.some.inj h
    exact ⟨p, rfl, (Prod.mk.inj h).1.symm, (Prod.mk.inj h).2.symm⟩
theorem Rdr.adv {ta dx : Addr} {i k : Nat} {H : Hp} (h1 : H r = some (.ins C dx (rf ta src.dp (i : Nat)))) (h2 : SrcAt K H ta src.b) (h3 : src.b.drop i = l) : Rdr K C src (L2.upd H r (.ins C dx (putF "place" (.int ((i : Int) + (k : Int))) (rf ta src.dp (i : Nat))))) r (l.drop k) := by
  refine ⟨ta, dx, i + k, ?_, SrcAt.keep (Keep.upd (r := r)) h1 h2, ?_⟩
  · rw [upd_same, rf_put]
    rfl
  · rw [← h3, List.drop_drop]
theorem ok_read_word {aW : Addr} (F : Fun K "read_word" "Reader.read_word" m_read_word f fd) (T : Txt K mg C cN) (mW : mg nm_WORDS = some (.ref aW)) (dW : ModD P w K aW wordsT) (sp : DefOk P w K mg base CX0 1 "spelled" ["word"] spSpelled) :
    FnOk P w K mg base (CXe P w) 4 f fd ["self"] (spWord K C cN) := by
  refine F.okX sc_read_word (fun vs H Q E h => ?_) (fun cdv A outer s H vs Q E hr h => ?_)
  · obtain ⟨r, src, l, rfl, _⟩ := h
    rfl
  obtain ⟨r, src, l, rfl, hsrc, R, q, qe⟩ := h
  have nd := sc_read_word.nd
  have gv : Gv mg nm_WORDS (.ref aW) := ⟨_, mW, rfl⟩
  refine ⟨_, pss_cons (ps_for PassesOwn.leaving rfl (pi_mitems dW (pe_g gv)) (pg_tup rfl (pgs_cons (pg_name (i := 1) nd rfl (Or.inl rfl)) (pgs_cons (pg_name (i := 2) nd rfl (Or.inl rfl)) pgs_nil)))
    (pss_one (ps_if (pt_cmpR (op_eqD hr.units) (pe_slice sl_list (pe_fld (pv 0) rfl) (po_some (pe_fld (pv 0) rfl)) (po_some (pe_op op_add (pe_fld (pv 0) rfl) (pe_callB call_len_str rfl T.len PySem.boot_len (pa_cons (pv 1) pa_nil))))) (pe_callD sp hr pass0 (pa_cons (pv 1) pa_nil)) (nomark _))
      (pss_cons (ps_fldaug (pv 0) (pe_callB call_len_str rfl T.len PySem.boot_len (pa_cons (pv 1) pa_nil)) in_add) (pss_one (ps_ret (pv 2)))) pss_nil)))
    (pss_one (ps_raise rfl rfl T.mN T.xN raises_cx)), ?_⟩
  refine ⟨rfl, for_mitems (fun i σ H' => ∃ v1 v2 : Option V, σ = [some (.ref r), v1, v2] /\ Same H H' /\ wordBy (wordsN.drop i) l = Mt.word l) ⟨_, _, rfl, Same.refl H, rfl⟩ ?_ ?_⟩
  · rintro i k v T' σ H' hk hT ⟨v1, v2, rfl, s1, hw⟩
    obtain ⟨p, hp, rfl, rfl⟩ := wordsT_at hk
    have s2 : Same H (L2.upd H' T' (.tup [kV (.inr ⟨p.1.toArray⟩), vOf p.2])) := s1.trans (Same.upd hT _)
    have hpl : p.1.length <= 5 := by
      have : ∀ g ∈ wordsN, g.1.length <= 5 := by decide
      exact this _ (List.mem_of_getElem? hp)
    have hps : (⟨p.1.toArray⟩ : Str).length <= sizeLine := by
      have : (⟨p.1.toArray⟩ : Str).length = p.1.length := rfl
      rw [this]
      exact Nat.le_trans hpl (by decide)
    have hw2 : (if l.take p.1.length = p.1 then some (p.2, l.drop p.1.length) else wordBy (wordsN.drop (i + 1)) l) = Mt.word l := by
      rw [← hw]
      obtain ⟨hi, e⟩ := List.getElem?_eq_some_iff.mp hp
      rw [List.drop_eq_getElem_cons hi, e]
      rfl
    generalize hH2 : L2.upd H' T' (.tup [kV (.inr ⟨p.1.toArray⟩), vOf p.2]) = H2 at s2
    have hT2 : H2 T' = some (.tup [kV (.inr ⟨p.1.toArray⟩), vOf p.2]) := by rw [← hH2, upd_same]
    have R2 := R.same s2
    obtain ⟨ta, dx, j, h1, h2, h3⟩ := id R2.at_
    refine ⟨T', _, rfl, SqT.of hT2, rfl, _, _, rfl, _, _, rfl, rfl, ?_⟩
    refine ⟨_, rfl, r, C, dx, _, _, rfl, h1, T.cl, T.nS, rf_source ta j, _, rfl, r, C, dx, _, _, rfl, h1, T.cl, T.nP, rf_place ta j, _, rfl, _, rfl, r, C, dx, _, _, rfl, h1, T.cl, T.nP, rf_place ta j, _, rfl, _, rfl, hps, _, _, rfl, rfl, _, rfl, ta, _, rfl, h2.sq, fun p1 hp1 => ?_⟩
    have ec : cutV (bV src.b) (some (j : Int)) (some ((j : Int) + ((p.1.length : Nat) : Int))) = bV (l.take p.1.length) := by
      rw [cutN (by
        by_cases z : j <= src.b.length
        · exact .inl z
        · exact .inr (List.drop_eq_nil_of_le (by omega))) hsrc.len, h3]
    show tCall _ _ _ _ _ (L2.upd H2 p1 (.lst (cutV (bV src.b) (some (j : Int)) (some ((j : Int) + ((p.1.length : Nat) : Int)))))) _
    rw [ec]
    refine ⟨_, rfl, _, rfl, hps, fun p2 hp2 => ?_⟩
    have s3 : Same H2 (L2.upd (L2.upd H2 p1 (.lst (bV (l.take p.1.length)))) p2 (.lst (bV p.1))) := (Same.upd hp1 _).trans (Same.upd hp2 _)
    have hq1 : (L2.upd (L2.upd H2 p1 (.lst (bV (l.take p.1.length)))) p2 (.lst (bV p.1))) p1 = some (.lst (bV (l.take p.1.length))) := by rw [upd_ne (ne_of_none upd_same hp2), upd_same]
    refine ⟨_, _, dp_ints (SqL.of hq1), dp_ints (l := p.1) (SqL.of upd_same), shaped_ints _, shaped_ints _, _, rfl, ?_⟩
    show if PyData.eqvAll _ _ = true then _ else _
    rw [eqv_ints]
    have R3 := R2.same s3
    refine ite2 (fun z => ?_) (fun z => ?_)
    · have z := of_decide_eq_true z
      rw [if_pos z] at hw2
      have g1 := s3 _ _ h1
      refine ⟨_, rfl, r, C, dx, _, _, rfl, g1, T.cl, T.nP, rf_place ta j, _, rfl, _, rfl, hps, _, _, rfl, rfl, dx, _, g1, rf_len ta j, ?_⟩
      refine ⟨_, rfl, q p.2 (l.drop p.1.length) hw2.symm _ ?_ ((Keep.of (s2.trans s3)).trans Keep.upd)⟩
      exact Rdr.adv (k := p.1.length) g1 (h2.same s3) h3
    · have z : ¬ l.take p.1.length = p.1 := fun y => z (decide_eq_true y)
      rw [if_neg z] at hw2
      exact ⟨_, _, rfl, s2.trans s3, hw2⟩
  · rintro σ H' ⟨v1, v2, rfl, s1, hw⟩
    refine qe ?_ _
    rw [← hw]
    rfl
end
end Pw
set_option Elab.async false
set_option linter.all false
set_option maxRecDepth 100000
set_option maxHeartbeats 4000000
namespace Pw
open PySem PySem.Spec PyProof.Rows L2
def MethAt (K : PySem.W.Frag) (C : Addr) (x qual : Str) (st : Stmt) (ps : List Str) : Prop := ∃ f fd, Fun K x qual st f fd /\ Meth K C x f /\ Binds K fd ps []
def DefAt (K : PySem.W.Frag) (mg : Str -> Option Value) (x qual : Str) (st : Stmt) (ps : List Str) : Prop := ∃ f fd, Fun K x qual st f fd /\ mg x = some (.ref f) /\ Binds K fd ps [] /\ PySem.W.keepIn K (.ref f) = true
theorem MethAt.ok {P : Program} {w : World} {K : PySem.W.Frag} {mg : Str -> Option Value} {base : Heap} {CX : CXT} {k : Nat} {C : Addr} {x qual : Str} {st : Stmt} {ps : List Str} {sp : Sp} (M : MethAt K C x qual st ps) (h : ∀ f fd, Fun K x qual st f fd -> FnOk P w K mg base CX k f fd ps sp) : MethOk P w K mg base CX k C x ps sp := by
  obtain ⟨f, fd, F, m, b⟩ := M
  exact ⟨f, fd, m, h f fd F, b⟩
theorem DefAt.ok {P : Program} {w : World} {K : PySem.W.Frag} {mg : Str -> Option Value} {base : Heap} {CX : CXT} {k : Nat} {x qual : Str} {st : Stmt} {ps : List Str} {sp : Sp} (M : DefAt K mg x qual st ps) (h : ∀ f fd, Fun K x qual st f fd -> FnOk P w K mg base CX k f fd ps sp) : DefOk P w K mg base CX k x ps sp := by
  obtain ⟨f, fd, F, m, b, kp⟩ := M
  exact ⟨f, fd, m, h f fd F, b, kp⟩
theorem MethOk.up {P : Program} {w : World} {K : PySem.W.Frag} {mg : Str -> Option Value} {base : Heap} {CX : CXT} {k k' : Nat} {C : Addr} {x : Str} {ps : List Str} {sp : Sp} (M : MethOk P w K mg base CX k C x ps sp) (h : k <= k') : MethOk P w K mg base CX k' C x ps sp := by
  obtain ⟨f, fd, m, F, b⟩ := M
  exact ⟨f, fd, m, F.mono h, b⟩
theorem DefOk.up {P : Program} {w : World} {K : PySem.W.Frag} {mg : Str -> Option Value} {base : Heap} {CX : CXT} {k k' : Nat} {x : Str} {ps : List Str} {sp : Sp} (M : DefOk P w K mg base CX k x ps sp) (h : k <= k') : DefOk P w K mg base CX k' x ps sp := by
  obtain ⟨f, fd, m, F, b⟩ := M
  exact ⟨f, fd, m, F.mono h, b⟩
structure RdFns (P : Program) (w : World) (K : PySem.W.Frag) (mg : Str -> Option Value) (base : Heap) (C CV cN : Addr) : Prop where
  T : Txt K mg C cN
  ne : C ≠ CV
  gL : Gv mg "OPEN_LIST" (.int 91)
  gC : Gv mg "CLOSE_LIST" (.int 93)
  gO : Gv mg "OPEN_MEMBERS" (.int 123)
  gD : Gv mg "CLOSE_MEMBERS" (.int 125)
  gK : Gv mg "COMMA" (.int 44)
  gQ : Gv mg "QUOTE" (.int 34)
  gM : Gv mg "MINUS" (.int 45)
  pk : MethOk P w K mg base CX0 1 C "peek" ["self"] (spPeek K C)
  ti : MethOk P w K mg base CX0 2 C "take_if" ["self", "wanted"] (spTakeIf K C)
  ex : MethOk P w K mg base (CXe P w) 3 C "expect" ["self", "wanted"] (spExpect K C cN)
  sk : MethOk P w K mg base CX0 2 C "skip_blanks" ["self"] (spSkip K C)
  en : MethOk P w K mg base (CXe P w) 4 C "enter" ["self", "opening", "depth"] (spEnter K C cN)
  tx : MethOk P w K mg base (CXe P w) 6 C "read_text" ["self"] (spText K C cN)
  nm : MethOk P w K mg base (CXe P w) 7 C "read_name" ["self"] (spName K C cN)
  nu : MethOk P w K mg base (CXe P w) 4 C "read_number" ["self"] (spNumber K C cN)
  wd : MethOk P w K mg base (CXe P w) 4 C "read_word" ["self"] (spWord K C cN)
  D : DefOk P w K mg base CX0 1 "is_digit" ["sign"] spDigit
  tv : DefOk P w K mg base CX0 5 "text_value" ["text"] (spTextValue CV)
  pv : DefOk P w K mg base CX0 5 "plain_value" ["content"] (spPlainValue CV)
  lv : DefOk P w K mg base CX0 8 "list_value" ["listed"] (spListValue CV)
  mv : DefOk P w K mg base CX0 8 "members_value" ["members"] (spMembersValue CV)
  aV : MethAt K C "read_value" "Reader.read_value" m_read_value ["self", "depth"]
  aB : MethAt K C "read_bare_value" "Reader.read_bare_value" m_read_bare_value ["self", "depth"]
  aL : MethAt K C "read_list" "Reader.read_list" m_read_list ["self", "depth"]
  aM : MethAt K C "read_members" "Reader.read_members" m_read_members ["self", "depth"]
section
variable {P : Program} {w : World} {K : PySem.W.Frag} {mg : Str -> Option Value} {base : Heap} {f : Addr} {fd : FuncData} {C CV cN r : Addr} {src : Sc} {l : List Nat} {H : Hp}
theorem RdFns.value (R : RdFns P w K mg base C CV cN) : ∀ d, MethOk P w K mg base (CXe P w) (3 * d + 23) C "read_value" ["self", "depth"] (spValue K C CV cN d) := by
  have up : ∀ {d k : Nat}, 20 <= k -> MethOk P w K mg base (CXe P w) k C "read_list" ["self", "depth"] (spIn K C CV cN 91 d) -> MethOk P w K mg base (CXe P w) k C "read_members" ["self", "depth"] (spIn K C CV cN 123 d) ->
      MethOk P w K mg base (CXe P w) (k + 2) C "read_value" ["self", "depth"] (spValue K C CV cN d) := fun {d k} hk rl rm => by
    have br : MethOk P w K mg base (CXe P w) (k + 1) C "read_bare_value" ["self", "depth"] (spBare K C CV cN d) := R.aB.ok fun f fd F => ok_read_bare_value hk F R.T R.ne R.gL R.gO R.gQ R.gM R.pk rl rm R.tx R.nu R.wd R.D R.tv R.pv
    exact R.aV.ok fun f fd F => ok_read_value (by omega) F R.T R.ne R.sk br
  intro d
  induction d with
  | zero =>
    have rl : MethOk P w K mg base (CXe P w) 21 C "read_list" ["self", "depth"] (spIn K C CV cN 91 0) := R.aL.ok fun f fd F => ok_read_list0 (by omega) F R.T R.gL R.en
    have rm : MethOk P w K mg base (CXe P w) 21 C "read_members" ["self", "depth"] (spIn K C CV cN 123 0) := R.aM.ok fun f fd F => ok_read_members0 (by omega) F R.T R.gO R.en
    exact up (by omega) rl rm
  | succ d rv =>
    have rl : MethOk P w K mg base (CXe P w) (3 * d + 24) C "read_list" ["self", "depth"] (spIn K C CV cN 91 (d + 1)) := R.aL.ok fun f fd F => ok_read_list (by omega) F R.T R.ne R.gL R.gC R.gK R.en R.ti R.ex R.lv rv
    have rm : MethOk P w K mg base (CXe P w) (3 * d + 24) C "read_members" ["self", "depth"] (spIn K C CV cN 123 (d + 1)) := R.aM.ok fun f fd F => ok_read_members (by omega) F R.T R.ne R.gO R.gD R.gK R.en R.ti R.ex R.nm R.mv rv
    exact MethOk.up (up (by omega) rl rm) (by omega)
def spNested (K : PySem.W.Frag) (CV cN : Addr) (dp : Nat) : Sp := fun vs H Q E => ∃ (ta : Addr) (b : List Nat), vs = [.ref ta, .int (dp : Nat)] /\ SrcAt K H ta b /\ b.length <= 65536 /\ (∀ c ∈ b, c < 256) /\
  (∀ v, Sn77.readTo dp b = some v -> ∀ H' a, Same H H' -> RepV CV H' v a -> Q (.ref a) H') /\ (Sn77.readTo dp b = Option.none -> ∀ H', E (.ref cN) Option.none H')
theorem sc_read_nested : FnScope ["source", "deepest", "reader", "value"] ["source", "deepest"] (defScope s_read_nested) := ⟨rfl, rfl, rfl, by decide +kernel, rfl, by decide +kernel, by decide +kernel⟩
theorem ok_read_nested {dp : Nat} (F : Fun K "read_nested" "read_nested" s_read_nested f fd) (R : RdFns P w K mg base C CV cN) (ut : DefOk P w K mg base CX0 3 "is_utf8" ["source"] (spUtf8 K))
    (mk : MakeOk P w K mg base CX0 1 C "Reader" ["self", "source", "deepest"] (spInit C)) : FnOk P w K mg base (CXe P w) (3 * dp + 24) f fd ["source", "deepest"] (spNested K CV cN dp) := by
  refine F.okX sc_read_nested (fun vs H Q E h => ?_) (fun cdv A outer s H vs Q E hr h => ?_)
  · obtain ⟨ta, b, rfl, _⟩ := h
    rfl
  obtain ⟨ta, b, rfl, hS, hl, hb, q, qe⟩ := h
  have nd := sc_read_nested.nd
  have T := R.T
  refine ⟨_, pss_cons (ps_if (pt_not (pt_val (pe_callD ut hr pass0 (pa_cons (pv 0) pa_nil)))) (pss_one (ps_raise rfl rfl T.mN T.xN raises_cx)) pss_nil)
    (pss_cons (ps_set (i := 2) nd rfl (Or.inl rfl) (pe_makeD mk hr pass0 (pa_cons (pv 0) (pa_cons (pv 1) pa_nil))))
    (pss_cons (ps_set (i := 3) nd rfl (Or.inl rfl) (pe_methD (pv 2) T.cl (R.value dp) hr pass_cx (pa_cons pe_int pa_nil)))
    (pss_cons (ps_expr (pe_methD (pv 2) T.cl R.ex hr pass_cx (pa_cons (pe_g T.gEnd) pa_nil)))
    (pss_one (ps_ret (pv 3)))))), ?_⟩
  rw [Mt.readTo_eq] at q qe
  refine ⟨_, rfl, ta, b, rfl, hS.sq, hl, fun H1 s1 => ⟨_, rfl, ?_⟩⟩
  refine ite2 (fun z => ?_) (fun z => ?_)
  · have z : Sn77.isText b = false := by
      cases e : Sn77.isText b with
      | true => rw [e] at z; cases z
      | false => rfl
    exact qe (if_pos z) _
  have z : ¬ Sn77.isText b = false := fun y => z (by rw [y]; rfl)
  rw [if_neg z] at q qe
  refine ⟨_, rfl, _, rfl, ?_⟩
  intro r dx hr0 hdx ne
  refine ⟨r, dx, ta, dp, rfl, upd_same, fun H2 ⟨dx', hr2⟩ k2 => ⟨rfl, ?_⟩⟩
  have s2 : Same H1 H2 := fun c o hc => k2 c o (by rw [upd_ne (ne_of_none hc hr0), upd_ne (ne_of_none hc hdx)]; exact hc) (ne_of_none hc hr0)
  have s12 : Same H H2 := s1.trans s2
  have hsrc : Src ⟨b, dp⟩ := ⟨hl, hb⟩
  have R2 : Rdr K C ⟨b, dp⟩ H2 r b := ⟨ta, dx', 0, hr2, hS.same s12, rfl⟩
  have call : ∀ {m : Str} {sp : Sp} {E : XK} {t : TA} {σ : L2.St} {H : Hp} {Q : VK} {l : List Nat} (_ : Rdr K C ⟨b, dp⟩ H r l) (_ : σ[2]? = some (some (.ref r))) (_ : ¬ m = "place") (_ : ¬ m = "source") (_ : ¬ m = "deepest") (_ : t σ H fun vs H2 => sp (.ref r :: (vs ++ [])) H2 Q E), tMeth C m sp [] E (tVar 2) t σ H Q :=
    fun {m sp E t σ H Q l} R hs n1 n2 n3 h => by
      obtain ⟨ta, dx, i, h1, h2, h3⟩ := R.at_
      exact ⟨_, hs, r, dx, _, rfl, h1, rf_no ta _ n1 n2 n3, h⟩
  refine call R2 rfl (by decide +kernel) (by decide +kernel) (by decide +kernel) ?_
  unfold Mt.pread at q qe
  refine ⟨r, ⟨b, dp⟩, b, 0, rfl, hsrc, R2, Nat.zero_add _, fun v l3 hv H3 a R3 k3 rep => ?_, fun hn => qe (by rw [hn]; rfl)⟩
  rw [hv] at q qe
  simp only [Option.bind_some] at q qe
  refine call R3 rfl (by decide +kernel) (by decide +kernel) (by decide +kernel) ?_
  refine ⟨r, ⟨b, dp⟩, l3, 256, rfl, hsrc, R3, fun y => qe ?_, fun y H4 R4 k4 => ?_⟩
  · refine if_neg fun x => y ?_
    rw [x]
    rfl
  · have hl3 : l3 = [] := by
      cases l3 with
      | nil => rfl
      | cons c t =>
        have h1 : c = 256 := y
        obtain ⟨ta3, dx3, i3, _, _, h3⟩ := R3.at_
        have h2 : c ∈ b := List.mem_of_mem_drop (i := i3) (show c ∈ b.drop i3 by rw [show b.drop i3 = c :: t from h3]; exact List.mem_cons_self ..)
        have := hb c h2
        omega
    have k34 : Keep r H2 H4 := k3.trans k4
    have hrH : H r = Option.none := s1.free hr0
    refine ⟨_, rfl, q v (if_pos hl3) H4 a (fun c o hc => k34 c o (s12 c o hc) (ne_of_none hc hrH)) (rep.sol (R3.sol k4 R.ne))⟩
end
end Pw
set_option Elab.async false
set_option linter.all false
set_option maxRecDepth 100000
set_option maxHeartbeats 4000000
set_option Elab.async false
set_option linter.all false
set_option maxRecDepth 100000
set_option maxHeartbeats 4000000
namespace Pw
open PySem PySem.Spec PyProof.Rows L2
section
variable {P : Program} {w : World} {K : PySem.W.Frag} {mg : Str -> Option Value} {base : Heap} {f : Addr} {fd : FuncData} {CV : Addr}
structure Kit2 (K : PySem.W.Frag) : Prop where
  k : Kit K
  lt : PySem.W.kitOne K (.type "tuple") (.type "list") = some false
  dt : PySem.W.kitOne K (.type "tuple") (.type "dict") = some false
  tt : PySem.W.kitOne K (.type "tuple") (.type "tuple") = some true
  ln : PySem.W.kitOne K (.type "NoneType") (.type "list") = some false
  dn : PySem.W.kitOne K (.type "NoneType") (.type "dict") = some false
  tn : PySem.W.kitOne K (.type "NoneType") (.type "tuple") = some false
  lb : PySem.W.kitOne K (.type "bool") (.type "list") = some false
  db : PySem.W.kitOne K (.type "bool") (.type "dict") = some false
  tb : PySem.W.kitOne K (.type "bool") (.type "tuple") = some false
  li : PySem.W.kitOne K (.type "int") (.type "list") = some false
  di : PySem.W.kitOne K (.type "int") (.type "dict") = some false
  ti : PySem.W.kitOne K (.type "int") (.type "tuple") = some false
theorem repC_ty {H : Hp} {v : Sn77.V} {c : V} (kt : Kit2 K) (h : RepC CV H v c) :
    ∃ t, TyOfF K H c t /\ PySem.W.kitOne K t (.type "list") = some (match v with | .list _ => true | _ => false) /\ PySem.W.kitOne K t (.type "dict") = some (match v with | .obj _ => true | _ => false) /\ ((∀ l, v ≠ .list l) -> (∀ m, v ≠ .obj m) -> PySem.W.kitOne K t (.type "tuple") = some (match v with | .str _ => true | _ => false)) := by
  cases v with
  | null => rw [RepC] at h; subst h; exact ⟨_, .of .non, kt.ln, kt.dn, fun _ _ => kt.tn⟩
  | bool b => rw [RepC] at h; subst h; exact ⟨_, .of (.bl b), kt.lb, kt.db, fun _ _ => kt.tb⟩
  | int z => rw [RepC] at h; obtain ⟨rfl, _⟩ := h; exact ⟨_, .of (.int z), kt.li, kt.di, fun _ _ => kt.ti⟩
  | str s => rw [RepC] at h; obtain ⟨t, rfl, h1⟩ := h; exact ⟨_, .of (.tup h1), kt.lt, kt.dt, fun _ _ => kt.tt⟩
  | list l => rw [RepC] at h; obtain ⟨p, o, xs, rfl, h1, _⟩ := h; exact ⟨_, .of (.frz h1), kt.k.ll, kt.k.ld, fun z => absurd rfl (z l)⟩
  | obj m => rw [RepC] at h; obtain ⟨p, o, xs, rfl, h1, _⟩ := h; exact ⟨_, .fdT h1, kt.k.dl, kt.k.dd, fun _ z => absurd rfl (z m)⟩
end
end Pw
set_option Elab.async false
set_option linter.all false
set_option maxRecDepth 100000
set_option maxHeartbeats 4000000
set_option Elab.async false
set_option linter.all false
set_option maxRecDepth 100000
set_option maxHeartbeats 4000000
set_option Elab.async false
set_option linter.all false
set_option maxRecDepth 100000
set_option maxHeartbeats 4000000
namespace Pw
open PySem PySem.Spec PyProof.Rows L2
section
variable {K : PySem.W.Frag} {h : Heap} {mg : Str -> Option Value}
theorem defAt_mk {x qual : Str} {st : Stmt} {ps : List Str} {f : Addr} {oc : Value} {od an : Option Addr} {osl : Array (Option Value)} {kV doc pm cdv ct : Value} (X : K.In h) (G : h.Ns mainGlobals mg) (a : PySem.W.nsIn K mainGlobals x = some (some (.ref f)))
    (l : K.lookup f = some ⟨oc, od, .func (PySem.W.fnOf x qual (defArgs st) (defBody st) (defScope st) .none kV doc pm an cdv ct), osl⟩) (c : PySem.W.codeIn K cdv qual = true) (k : PySem.W.keepIn K (.ref f) = true)
    (b : ∀ (kV doc pm : Value) (an : Option Addr) (cdv ct : Value) (us : List Value), us.length = ps.length -> bindArgs (PySem.W.fnOf x qual (defArgs st) (defBody st) (defScope st) .none kV doc pm an cdv ct) ⟨us, []⟩ = pure (ps.zip us)) : DefAt K mg x qual st ps :=
  ⟨f, _, fun_mk l c k, PySem.W.mg_of X G a, (fun_mk l c k).binds b, k⟩
theorem methAt_mk {C : Addr} {x qual : Str} {st : Stmt} {ps : List Str} {f : Addr} {oc : Value} {od an : Option Addr} {osl : Array (Option Value)} {kV doc pm cdv ct : Value} (a : PySem.W.findIn K (.ref C) x = some (some (.ref f))) (i : PySem.W.isFn K (.ref f) = true)
    (l : K.lookup f = some ⟨oc, od, .func (PySem.W.fnOf x qual (defArgs st) (defBody st) (defScope st) .none kV doc pm an cdv ct), osl⟩) (c : PySem.W.codeIn K cdv qual = true) (k : PySem.W.keepIn K (.ref f) = true)
    (b : ∀ (kV doc pm : Value) (an : Option Addr) (cdv ct : Value) (us : List Value), us.length = ps.length -> bindArgs (PySem.W.fnOf x qual (defArgs st) (defBody st) (defScope st) .none kV doc pm an cdv ct) ⟨us, []⟩ = pure (ps.zip us)) : MethAt K C x qual st ps :=
  ⟨f, _, fun_mk l c k, ⟨a, i, k⟩, (fun_mk l c k).binds b⟩
def MakeAt (K : PySem.W.Frag) (mg : Str -> Option Value) (C : Addr) (x qual : Str) (st : Stmt) (ps : List Str) : Prop := mg x = some (.ref C) /\ ∃ f fd, Fun K "__init__" qual st f fd /\ Mk K C f /\ Binds K fd ps []
theorem MakeAt.ok {P : Program} {w : World} {base : Heap} {CX : CXT} {k : Nat} {C : Addr} {x qual : Str} {st : Stmt} {ps : List Str} {sp : Sp} (M : MakeAt K mg C x qual st ps) (h : ∀ f fd, Fun K "__init__" qual st f fd -> FnOk P w K mg base CX k f fd ps sp) : MakeOk P w K mg base CX k C x ps sp := by
  obtain ⟨m, f, fd, F, mk, b⟩ := M
  exact ⟨f, fd, m, mk, h f fd F, b⟩
theorem makeAt_mk {C : Addr} {x qual : Str} {st : Stmt} {ps : List Str} {f : Addr} {oc : Value} {od an : Option Addr} {osl : Array (Option Value)} {kV doc pm cdv ct : Value} (X : K.In h) (G : h.Ns mainGlobals mg) (aC : PySem.W.nsIn K mainGlobals x = some (some (.ref C)))
    (a : PySem.W.findIn K (.ref C) "__init__" = some (some (.ref f))) (i : PySem.W.isFn K (.ref f) = true)
    (l : K.lookup f = some ⟨oc, od, .func (PySem.W.fnOf "__init__" qual (defArgs st) (defBody st) (defScope st) .none kV doc pm an cdv ct), osl⟩) (c : PySem.W.codeIn K cdv qual = true) (k : PySem.W.keepIn K (.ref f) = true) (mk : PySem.W.makesIn K C = true) (kc : PySem.W.keepIn K (.ref C) = true)
    (b : ∀ (kV doc pm : Value) (an : Option Addr) (cdv ct : Value) (us : List Value), us.length = ps.length -> bindArgs (PySem.W.fnOf "__init__" qual (defArgs st) (defBody st) (defScope st) .none kV doc pm an cdv ct) ⟨us, []⟩ = pure (ps.zip us)) : MakeAt K mg C x qual st ps :=
  ⟨PySem.W.mg_of X G aC, f, _, fun_mk l c k, ⟨mk, a, i, kc⟩, (fun_mk l c k).binds b⟩
theorem gvI_mk {x : Str} {i : Int} {t : Tok} (X : K.In h) (G : h.Ns mainGlobals mg) (a : PySem.W.nsIn K mainGlobals x = some (some (.int i t))) : Gv mg x (.int i) := ⟨_, PySem.W.mg_of X G a, _, rfl⟩
theorem gvS_mk {x : Str} {i : Str} {t : Tok} (X : K.In h) (G : h.Ns mainGlobals mg) (a : PySem.W.nsIn K mainGlobals x = some (some (.str i t))) : Gv mg x (.str i) := ⟨_, PySem.W.mg_of X G a, _, rfl⟩
end
end Pw
set_option Elab.async false
set_option linter.all false
set_option maxRecDepth 100000
set_option maxHeartbeats 4000000
namespace Pw
open PySem PySem.Spec PyProof.Rows L2
section
variable {P : Program} {w : World} {K : PySem.W.Frag} {h : Heap} {mg : Str -> Option Value}
inductive Ent (w : World) : List DictEntry -> List (Key × V) -> List (Key × Value) -> Prop
  | nil : Ent w [] [] []
  | int {i j hs : Int} {t : Tok} {u : Value} {v : V} {es : List DictEntry} {kvs : List (Key × V)} {vs : List (Key × Value)} : hs = hashInt i -> i = j -> RelV v u -> Ent w es kvs vs -> Ent w (⟨hs, .int i t, u⟩ :: es) ((.inl j, v) :: kvs) ((.inl j, u) :: vs)
  | str {x y : Str} {hs : Int} {t : Tok} {u : Value} {v : V} {es : List DictEntry} {kvs : List (Key × V)} {vs : List (Key × Value)} : hs = PyData.keyHash w.params x -> x = y -> RelV v u -> Ent w es kvs vs -> Ent w (⟨hs, .str x t, u⟩ :: es) ((.inr y, v) :: kvs) ((.inr y, u) :: vs)
theorem Ent.kv {es : List DictEntry} {kvs : List (Key × V)} {vs : List (Key × Value)} (e : Ent w es kvs vs) : KV kvs vs := by
  induction e with
  | nil => exact .nil
  | int _ _ r _ ih => exact .cons ⟨rfl, r⟩ ih
  | str _ _ r _ ih => exact .cons ⟨rfl, r⟩ ih
theorem Ent.pairs {es : List DictEntry} {kvs : List (Key × V)} {vs : List (Key × Value)} (e : Ent w es kvs vs) : Pairs (mixKind P w) es vs := by
  induction e with
  | nil => exact .nil
  | int _ z r _ ih => subst z; exact .cons (mixKind_int ..) rfl ih
  | str _ z r _ ih => subst z; exact .cons (mixKind_str ..) rfl ih
theorem Ent.keys {es : List DictEntry} {kvs : List (Key × V)} {vs : List (Key × Value)} (e : Ent w es kvs vs) : ∀ x ∈ es, ∃ k, (mixKind P w).is k x.key = true /\ x.hash = (mixKind P w).hash k := by
  induction e with
  | nil => intro x hx; cases hx
  | int q z r _ ih =>
    subst q
    intro x hx
    rcases List.mem_cons.mp hx with rfl | hx
    · exact ⟨.inl _, mixKind_int .., rfl⟩
    · exact ih x hx
  | str q z r _ ih =>
    subst q
    intro x hx
    rcases List.mem_cons.mp hx with rfl | hx
    · exact ⟨.inr _, mixKind_str .., rfl⟩
    · exact ih x hx
theorem modD_mk {d : Addr} {es : Array DictEntry} {ep : Nat} {l : List DictEntry} {kvs : List (Key × V)} {vs : List (Key × Value)} (a : K.lookup d = some ⟨.type "dict", Option.none, .dict es ep, #[]⟩) (ns : (d == sysModules) = false) (e : Ent w l kvs vs) (el : es.toList = l) (nd : (kvs.map (·.1)).Nodup) : ModD P w K d kvs := by
  subst el
  refine ⟨ns, _, es, ep, vs, a, ⟨rfl, rfl, rfl⟩, rfl, e.kv, fun x hx => e.keys x (Array.mem_def.mp hx), e.pairs, ?_⟩
  have : vs.map (·.1) = kvs.map (·.1) := by
    clear nd
    generalize es.toList = l at e
    induction e with
    | nil => rfl
    | int _ _ _ _ ih => simp only [List.map_cons, ih]
    | str _ _ _ _ ih => simp only [List.map_cons, ih]
  rw [this]
  exact nd
theorem words_mk {a : Addr} {ep : Nat} {t1 t2 t3 : Tok} (m : PySem.W.nsIn K mainGlobals nm_WORDS = some (some (.ref a))) (ns : (a == sysModules) = false) (X : K.In h) (G : h.Ns mainGlobals mg)
    (l : K.lookup a = some ⟨.type "dict", Option.none, .dict #[⟨PyData.keyHash w.params "null", .str "null" t1, .none⟩, ⟨PyData.keyHash w.params "true", .str "true" t2, .bool true⟩, ⟨PyData.keyHash w.params "false", .str "false" t3, .bool false⟩] ep, #[]⟩) : ∃ a, mg nm_WORDS = some (.ref a) /\ ModD P w K a wordsT :=
  ⟨a, PySem.W.mg_of X G m, modD_mk l ns (.str rfl (by decide +kernel) rfl (.str rfl (by decide +kernel) rfl (.str rfl (by decide +kernel) rfl .nil))) rfl (by decide +kernel)⟩
theorem escR_mk {a : Addr} {ep : Nat} {t1 t2 t3 t4 t5 t6 t7 t8 s1 s2 s3 s4 s5 s6 s7 s8 : Tok} (m : PySem.W.nsIn K mainGlobals nm_ESC = some (some (.ref a))) (ns : (a == sysModules) = false) (X : K.In h) (G : h.Ns mainGlobals mg)
    (l : K.lookup a = some ⟨.type "dict", Option.none, .dict #[⟨34, .int 34 t1, .int 34 s1⟩, ⟨92, .int 92 t2, .int 92 s2⟩, ⟨47, .int 47 t3, .int 47 s3⟩, ⟨98, .int 98 t4, .int 8 s4⟩, ⟨102, .int 102 t5, .int 12 s5⟩, ⟨110, .int 110 t6, .int 10 s6⟩, ⟨114, .int 114 t7, .int 13 s7⟩, ⟨116, .int 116 t8, .int 9 s8⟩] ep, #[]⟩) : ∃ a, mg nm_ESC = some (.ref a) /\ ModD P w K a escR :=
  ⟨a, PySem.W.mg_of X G m, modD_mk l ns (.int (by decide +kernel) rfl ⟨_, rfl⟩ (.int (by decide +kernel) rfl ⟨_, rfl⟩ (.int (by decide +kernel) rfl ⟨_, rfl⟩ (.int (by decide +kernel) rfl ⟨_, rfl⟩ (.int (by decide +kernel) rfl ⟨_, rfl⟩ (.int (by decide +kernel) rfl ⟨_, rfl⟩ (.int (by decide +kernel) rfl ⟨_, rfl⟩ (.int (by decide +kernel) rfl ⟨_, rfl⟩ .nil)))))))) rfl (by decide +kernel)⟩
theorem blanks_mk {a : Addr} {od : Option Addr} {n : Nat} {sl : Array (Option Value)} {t1 t2 t3 t4 : Tok} (m : PySem.W.nsIn K mainGlobals "BLANKS" = some (some (.ref a))) (X : K.In h) (G : h.Ns mainGlobals mg)
    (l : K.lookup a = some ⟨.type "tuple", od, .seq #[.int 32 t1, .int 9 t2, .int 10 t3, .int 13 t4] n, sl⟩) : ∃ a, mg "BLANKS" = some (.ref a) /\ TupIn K a blanksV :=
  ⟨a, PySem.W.mg_of X G m, _, _, _, l, rfl, rfl, Nat.le_trans (Nat.le_refl 4) (by decide), .cons ⟨_, rfl⟩ (.cons ⟨_, rfl⟩ (.cons ⟨_, rfl⟩ (.cons ⟨_, rfl⟩ .nil)))⟩
theorem tup5_mk {a : Addr} {od : Option Addr} {n : Nat} {sl : Array (Option Value)} {t1 t2 t3 t4 t5 : Tok} {x1 x2 x3 x4 x5 : Int}
    (l : K.lookup a = some ⟨.type "tuple", od, .seq #[.int x1 t1, .int x2 t2, .int x3 t3, .int x4 t4, .int x5 t5] n, sl⟩) : TupIn K a [.int x1, .int x2, .int x3, .int x4, .int x5] :=
  ⟨_, _, _, l, rfl, rfl, Nat.le_trans (Nat.le_refl 5) (by decide), .cons ⟨_, rfl⟩ (.cons ⟨_, rfl⟩ (.cons ⟨_, rfl⟩ (.cons ⟨_, rfl⟩ (.cons ⟨_, rfl⟩ .nil))))⟩
theorem forms_mk {a a0 a1 a2 a3 a4 a5 a6 a7 a8 : Addr} {od : Option Addr} {n : Nat} {sl : Array (Option Value)} (m : PySem.W.nsIn K mainGlobals "FORMS" = some (some (.ref a))) (X : K.In h) (G : h.Ns mainGlobals mg)
    (l : K.lookup a = some ⟨.type "tuple", od, .seq #[.ref a0, .ref a1, .ref a2, .ref a3, .ref a4, .ref a5, .ref a6, .ref a7, .ref a8] n, sl⟩)
    (t0 : TupIn K a0 [.int 0, .int 127, .int 0, .int 0, .int 0]) (t1 : TupIn K a1 [.int 194, .int 223, .int 1, .int 128, .int 191]) (t2 : TupIn K a2 [.int 224, .int 224, .int 2, .int 160, .int 191]) (t3 : TupIn K a3 [.int 225, .int 236, .int 2, .int 128, .int 191]) (t4 : TupIn K a4 [.int 237, .int 237, .int 2, .int 128, .int 159])
    (t5 : TupIn K a5 [.int 238, .int 239, .int 2, .int 128, .int 191]) (t6 : TupIn K a6 [.int 240, .int 240, .int 3, .int 144, .int 191]) (t7 : TupIn K a7 [.int 241, .int 243, .int 3, .int 128, .int 191]) (t8 : TupIn K a8 [.int 244, .int 244, .int 3, .int 128, .int 143]) : FormsIn K mg :=
  ⟨a, [a0, a1, a2, a3, a4, a5, a6, a7, a8], PySem.W.mg_of X G m, ⟨_, _, _, l, rfl, rfl, Nat.le_trans (Nat.le_refl 9) (by decide), .cons rfl (.cons rfl (.cons rfl (.cons rfl (.cons rfl (.cons rfl (.cons rfl (.cons rfl (.cons rfl .nil))))))))⟩,
    .cons t0 (.cons t1 (.cons t2 (.cons t3 (.cons t4 (.cons t5 (.cons t6 (.cons t7 (.cons t8 .nil))))))))⟩
end
end Pw
set_option Elab.async false
set_option linter.all false
set_option maxRecDepth 100000
set_option maxHeartbeats 4000000
set_option Elab.async false
set_option linter.all false
set_option maxRecDepth 100000
set_option maxHeartbeats 4000000
namespace Pw
open PySem PySem.Spec PyProof.Rows L2
section
variable {P : Program} {w : World} {K : PySem.W.Frag} {mg : Str -> Option Value} {base : Heap} {f : Addr} {fd : FuncData} {CV cW : Addr}
theorem find_val {H : Hp} {m : Sn77.Ms} {kvs : List (List Key × V)} (h : RepM CV H m kvs) (n : List Nat) : (∀ w, m.find n = some w -> ∃ a, valV kvs (keyN n) = some (.ref a) /\ RepV CV H w a) /\ (m.find n = Option.none -> valV kvs (keyN n) = Option.none) := by
  have := repM_val (repM_iff.mp h) n
  unfold Sn77.Ms.find
  cases e : m.toList.find? (fun x => x.1 == n) with
  | none =>
    rw [e] at this
    exact ⟨(fun w z => nomatch z), fun _ => this⟩
  | some x =>
    rw [e] at this
    exact ⟨(fun w z => by cases z; exact this), (fun z => nomatch z)⟩
end
end Pw
set_option Elab.async false
set_option linter.all false
set_option maxRecDepth 100000
set_option maxHeartbeats 4000000
namespace L2
open PySem PySem.Spec PyProof.Rows
structure HdT where
  ex : Expr
  cls : List Addr
  b0 : Stmt
  suite : List Stmt
  pos : Pos
  ts : TS
def HdT.ast (h : HdT) : ExceptHandler := .ExceptHandler (some h.ex) Option.none (h.b0 :: h.suite) h.pos
def hdTOk : List HdT -> Addr -> Ends -> Hp -> Prop
  | [], _, _, _ => False
  | h :: r, C, D, H => if C ∈ h.cls then ∀ σ, h.ts D σ H else hdTOk r C D H
structure HdTOk (X : Cx) (Th : Addr -> Prop) (h : HdT) : Prop where
  test : ∀ (A : Around) (E : Value -> Shared -> Prop) (pn pins : List (Addr × Obj)) (σ : L2.St) (H : Hp) (s : Shared) (e : Addr) (oe : Obj) (C : Addr) (Q : Bool -> Shared -> Prop), Th C -> Inv (X.at A false E pn) pins σ H s -> s.heap.get? e = some oe -> oe.cls = .ref C ->
    (∀ h', (∀ b o, s.heap.get? b = some o -> h'.get? b = some o) -> Q (decide (C ∈ h.cls)) { s with heap := h' }) -> wpAny (model X.prog X.w) A (eval h.ex X.env) (fun c s1 => wpAny (model X.prog X.w) A (excMatches (.ref e) c) Q E s1) E s
  s : ∀ (A : Around) (E : Value -> Shared -> Prop) (pn : List (Addr × Obj)), PSs (X.at A false E pn) (h.b0 :: h.suite) h.ts
section
variable {X : Cx} {Th : Addr -> Prop} {x x1 x2 : Str} {C1 C2 : Addr} {np np1 np2 tpos pos : Pos} {kk : Nat} {b0 : Stmt} {suite : List Stmt} {ts : TS}
theorem looks_cls {M : Model} {h : Heap} {e : Addr} {oe : Obj} {c : Value} (he : h.get? e = some oe) (hc : oe.cls = c) : PySem.W.Looks M h (typeOf (.ref e)) c := by
  subst hc
  exact (PySem.W.Looks.ld he).andThen .now
theorem hd_one (hg : Gl X x) (hm : X.mg x = some (.ref C1)) (hx : ∀ C, Th C -> PySem.W.exmOne X.K (.ref C) (.ref C1) = some (decide (C ∈ [C1]))) (hs : ∀ (A : Around) (E : Value -> Shared -> Prop) (pn : List (Addr × Obj)), PSs (X.at A false E pn) (b0 :: suite) ts) (hd : (x == ("__debug__" : Str)) = false := by decide) :
    HdTOk X Th ⟨.Name x np, [C1], b0, suite, pos, ts⟩ where
  test := fun A E pn pins σ H s e oe C Q hC I he hc q => by
    refine ld_glob (X := X.at A false E pn) I hg hm ?_ hd
    exact (PySem.W.exm_one I.kIn (looks_cls he hc) (hx C hC)).here (q s.heap fun _ _ z => z)
  s := hs
theorem hd_two (g1 : Gl X x1) (m1 : X.mg x1 = some (.ref C1)) (g2 : Gl X x2) (m2 : X.mg x2 = some (.ref C2)) (hx : ∀ C, Th C -> PySem.W.exmAny X.K (.ref C) [.ref C1, .ref C2] = some (decide (C ∈ [C1, C2]))) (hs : ∀ (A : Around) (E : Value -> Shared -> Prop) (pn : List (Addr × Obj)), PSs (X.at A false E pn) (b0 :: suite) ts) (hd1 : (x1 == ("__debug__" : Str)) = false := by decide) (hd2 : (x2 == ("__debug__" : Str)) = false := by decide) :
    HdTOk X Th ⟨.Tuple [.Name x1 np1, .Name x2 np2] kk tpos, [C1, C2], b0, suite, pos, ts⟩ where
  test := fun A E pn pins σ H s e oe C Q hC I he hc q => by
    refine wpAny_Tuple ?_
    refine wpAny_items_cons (ld_glob (X := X.at A false E pn) I g1 m1 ?_ hd1)
    refine wpAny_items_cons (ld_glob (X := X.at A false E pn) I g2 m2 ?_ hd2)
    refine wpAny_items_nil ⟨by size_fits, ?_⟩
    have kp : ∀ q o, s.heap.get? q = some o -> (s.heap.push { cls := .type "tuple", data := .seq [Value.ref C1, Value.ref C2].toArray }).get? q = some o := fun _ _ z => Heap.get?_push_of_some _ z
    exact (PySem.W.exm_tup2 (I.kIn.keeps kp) ((looks_cls he hc).keeps kp) (Heap.get?_push_size s.heap rfl) (hx C hC)).here (q _ kp)
  s := hs
theorem hd_three {x3 : Str} {C3 : Addr} {np3 : Pos} (g1 : Gl X x1) (m1 : X.mg x1 = some (.ref C1)) (g2 : Gl X x2) (m2 : X.mg x2 = some (.ref C2)) (g3 : Gl X x3) (m3 : X.mg x3 = some (.ref C3)) (hx : ∀ C, Th C -> PySem.W.exmAny X.K (.ref C) [.ref C1, .ref C2, .ref C3] = some (decide (C ∈ [C1, C2, C3]))) (hs : ∀ (A : Around) (E : Value -> Shared -> Prop) (pn : List (Addr × Obj)), PSs (X.at A false E pn) (b0 :: suite) ts)
    (hd1 : (x1 == ("__debug__" : Str)) = false := by decide) (hd2 : (x2 == ("__debug__" : Str)) = false := by decide) (hd3 : (x3 == ("__debug__" : Str)) = false := by decide) :
    HdTOk X Th ⟨.Tuple [.Name x1 np1, .Name x2 np2, .Name x3 np3] kk tpos, [C1, C2, C3], b0, suite, pos, ts⟩ where
  test := fun A E pn pins σ H s e oe C Q hC I he hc q => by
    refine wpAny_Tuple ?_
    refine wpAny_items_cons (ld_glob (X := X.at A false E pn) I g1 m1 ?_ hd1)
    refine wpAny_items_cons (ld_glob (X := X.at A false E pn) I g2 m2 ?_ hd2)
    refine wpAny_items_cons (ld_glob (X := X.at A false E pn) I g3 m3 ?_ hd3)
    refine wpAny_items_nil ⟨by size_fits, ?_⟩
    have kp : ∀ q o, s.heap.get? q = some o -> (s.heap.push { cls := .type "tuple", data := .seq [Value.ref C1, Value.ref C2, Value.ref C3].toArray }).get? q = some o := fun _ _ z => Heap.get?_push_of_some _ z
    exact (PySem.W.exm_tup3 (I.kIn.keeps kp) ((looks_cls he hc).keeps kp) (Heap.get?_push_size s.heap rfl) (hx C hC)).here (q _ kp)
  s := hs
end
theorem Un.keptX {fs ex : List Addr} {H0 H' : Hp} {h0 h h' : Heap} (u : Un fs ex H0 H' h0 h) (k : ∀ b o, h.get? b = some o -> h'.get? b = some o) : Un fs ex H0 H' h0 h' :=
  ⟨fun b o e n hb hx => k _ _ (u.keep b o e n hb hx), fun b o e n hb hx => let ⟨sl, e1⟩ := u.slot b o e n hb hx; ⟨sl, k _ _ e1⟩, u.free, fun b o e hx => let ⟨o', e1⟩ := u.there b o e hx; ⟨o', k _ _ e1⟩, u.tups, u.frzs, u.tbls⟩
theorem handle_listT {X : Cx} {Th : Addr -> Prop} {pins : List (Addr × Obj)} {σ : L2.St} {H H2 : Hp} {s : Shared} {D : Ends} {a C : Addr} {B : Heap} {t : Value} (hfr : X.A.frames = some X.stack) (hcl : X.calm = true -> X.A.handled = Option.none) (hC : Th C)
    (I : Inv X pins σ H s) (hf : ∀ h5 : Heap, B.StaysIn h5 -> h5.FunFrames B X.stack -> ∀ b ∈ frs X.stack, ∃ o, h5.get? b = some o /\ ∀ vs, o.data ≠ .fields vs)
    (hO : ∀ b o, s.heap.get? b = some o -> b ∉ frs X.stack -> ∃ o', B.get? b = some o') (hB : ∀ b u, H2 b = some u -> ∃ o, B.get? b = some o) :
    ∀ (hs : List HdT) (s5 : Shared), (∀ h ∈ hs, HdTOk X Th h) -> hdTOk hs C D H2 -> s5.os = s.os -> AllBare s5.gens -> Un (frs X.stack) [] H H2 s.heap s5.heap -> HOk X.prog X.w H2 s5.heap -> Heap.FlyingW B X.stack a (.ref C) t s5.heap ->
      wpAny (model X.prog X.w) X.A (handleBy (.ref a) X.env (hs.map HdT.ast)) (SP X pins D) X.xe s5
  | [], _, _, h, _, _, _, _, _ => h.elim
  | h :: r, s5, hh, hd, os, bare, un, hok, fly => by
    have I5 : Inv X pins σ H2 s5 := I.call' os un hok bare (fun b z => absurd z (by simp))
    have H1 := hh h (List.mem_cons_self ..)
    obtain ⟨oe, hoe, hoc⟩ := fly.there
    refine wpAny_handleBy_cons (codeAny_handlers_test (H1.test _ _ X.pn pins σ H2 s5 a oe C _ hC (I5.at hfr (fun z => Bool.noConfusion z) (fun p q => q)) hoe hoc fun h' kp => ?_)) (by intro q; cases q)
    have fly' := PySem.W.flying_keeps fly kp
    have un' := un.keptX kp
    have hok' := hok.kept kp
    unfold hdTOk at hd
    by_cases hin : C ∈ h.cls
    · rw [if_pos hin] at hd
      rw [decide_eq_true hin]
      refine codeAny_handlers_suite ?_
      refine lands_againW fly' fun h6 fly6 up6 => ?_
      have un6 : Un (frs X.stack) [] H H2 s.heap h6 := fly_un un' fly'.1 fly6.1 up6 hO (hf _ fly'.1 fly'.2.2.1)
      have hok6 : HOk X.prog X.w H2 h6 := fly_hok fly'.1 fly6.1 hB hok'
      have I6 : Inv X pins σ H2 { s5 with heap := h6 } := I.call' os un6 hok6 bare (fun b z => absurd z (by simp))
      refine thn (H1.s (X.A.mark (some (.ref a))) _ X.pn pins _ σ H2 D (I6.at hfr (fun z => Bool.noConfusion z) (fun p q => q)) (hd σ)) fun f s7 q => ?_
      exact q.unat hfr hcl (fun p q => q)
    · rw [if_neg hin] at hd
      rw [decide_eq_false hin]
      exact handle_listT hfr hcl hC I hf hO hB r { s5 with heap := h' } (fun g hg => hh g (List.mem_cons_of_mem _ hg)) hd os bare un' hok' fly'
theorem ps_tryT {X : Cx} {Th : Addr -> Prop} {tbf : XK -> TS} {hs : List HdT} {h0 : HdT} {body : List Stmt} {pos : Pos} (hstk : X.stack = X.env :: X.outer) (hfrm : X.env.frame = some X.env.locals) (hh : ∀ h ∈ h0 :: hs, HdTOk X Th h)
    (hb : ∀ (E' : Value -> Shared -> Prop) (pn : List (Addr × Obj)) (Ex : XK), Passes (CXw X.prog X.w) (X.at X.A X.calm E' pn) Ex -> PSs (X.at X.A X.calm E' pn) body (tbf Ex)) :
    PS X (.Try body (h0.ast :: hs.map HdT.ast) [] [] pos) (fun D σ H => tbf (fun c _ H' => ∃ C, c = .ref C /\ Th C /\ hdTOk (h0 :: hs) C D H') D σ H) := by
  intro pins s σ H D I h
  refine wpAny_Try_except ?_
  have hcl := I.ok.hd
  have hfr := I.ok.frames
  refine wpAny_mono (hb _ (X.pn ++ pins) _ ?_ [] s σ H D (I.at hfr hcl (fun p q => by rw [List.append_nil] at q; exact q)) h) (fun f s1 q => ?_) fun e s1 q => q
  · intro pins' σ' H' s' e s'' I2 hcx
    obtain ⟨a, C, H2, B, t, rfl, os, bare, un, hok, fly, hB, hO, C', eC, xc, hd⟩ := hcx
    cases eC
    have I3 : Inv X pins σ' H' s' := I2.unat hfr hcl (fun p q => List.mem_append_left _ q)
    have un : Un (frs X.stack) [] H' H2 s'.heap s''.heap := un
    have fly : Heap.FlyingW B X.stack a (.ref C) t s''.heap := fly
    have hO : ∀ b o, s'.heap.get? b = some o -> b ∉ frs X.stack -> ∃ o', B.get? b = some o' := hO
    have hfm : ∀ h5 : Heap, B.StaysIn h5 -> h5.FunFrames B X.stack -> ∀ b ∈ frs X.stack, ∃ o, h5.get? b = some o /\ ∀ vs, o.data ≠ .fields vs := fun h5 _ ff b hb => (ff.mem hb).2
    rw [hstk] at fly
    refine wpAny_looks_onW (by rw [hfr, hstk]) hfrm fly fun h4 held up4 => ?_
    refine wpAny_landsW held fun h5 fly5 up5 => ?_
    rw [← hstk] at fly fly5
    have up : s''.heap.UpToSlots h5 := up4.trans up5
    exact handle_listT hfr hcl xc I3 hfm hO hB (h0 :: hs) { s'' with heap := h5 } hh hd os bare (fly_un un fly.1 fly5.1 up hO (hfm _ fly.1 fly.2.2.1)) (fly_hok fly.1 fly5.1 hB hok) fly5
  · have q' : SP X pins D f s1 := SP.unat q hfr hcl (fun p z => List.mem_append_left _ z)
    cases f with
    | next => exact wpAny_execs_nil q'
    | brk => exact q'
    | cont => exact q'
    | ret u => exact q'
theorem pe_callV {X : Cx} {CX : CXT} {k k' : Nat} {f : Addr} {fd : FuncData} {x : Str} {ps : List Str} {sp : Sp} {E : XK} {e : Expr} {es : List Expr} {tx : TE} {t : TA} {p pos : Pos} (F : FnOk X.prog X.w X.K X.mg X.base CX k f fd ps sp) (kp : PySem.W.keepIn X.K (.ref f) = true) (hb : Binds X.K fd ps []) (hv : PE X (.Name x p) tx) (hr : Room k' X.A) (hx : Passes CX X E) (ha : PA X (e :: es) t)
    (hk : k <= k' := by omega) (he : starEach (e :: es) X.env = (false, eval e X.env) :: starEach es X.env := by rfl) (hpl : (backTo pos (starEach es X.env)).any (·.1) = false := by rfl) :
    PE X (.Call (.Name x p) (e :: es) [] pos) (fun σ H Q => tx σ H fun v H1 => v = .ref f /\ t σ H1 fun vs H2 => sp (vs ++ []) H2 Q E) := by
  intro pins s σ H Q I h
  refine wpAny_Call_Name_kw (thn (hv pins s σ H _ I h) fun u s1 ⟨v, H1, I1, rv, ev, q1⟩ => ?_)
  subst ev
  cases (show u = Value.ref f from rv)
  refine PySem.W.callWith_K (h₀ := X.base) I1.ok.mod.kin kp (thn (ha pos pins s1 σ H1 _ I1 q1) fun us s2 ⟨vs, H2, I2, r, q⟩ => ⟨I2.kIn, ?_⟩) he hpl
  exact run_fn (F.mono hk) hr hb .nil hx I2 r q
end L2
set_option Elab.async false
set_option linter.all false
set_option maxRecDepth 100000
set_option maxHeartbeats 4000000
namespace L2
open PySem PySem.Spec PyProof.Rows
section
variable {P : Program} {w : World} {A : Around} {E : Value -> Shared -> Prop} {s : Shared} {env : Env}
theorem entry_unchain : entryFor table "proto.unchain" = some Builtin.«proto.unchain» := entryFor_of_fast (by kernel_rfl)
theorem raise_new2 {α : Type} {a e : Addr} {oe : Obj} {vs : Array Value} {Q : α -> Shared -> Prop} (hh : A.handled = some (.ref a)) (ne : a ≠ e) (f2 : F2 s.heap a) (he : s.heap.get? e = some oe) (hd : oe.data = .fields vs) (sz : 2 < vs.size)
    (h : E (.ref e) { s with heap := s.heap.update e (Obj.mapFields (·.setIfInBounds 2 (.ref a))) }) : wpAny (model P w) A (raiseNew (.ref e) : Sem α) Q E s := by
  unfold raiseNew
  refine wpAny_bind (wpAny_handled ?_)
  rw [hh]
  simp only
  have hb : ((Value.ref a != Value.ref e) = true) := by simp [ne]
  rw [if_pos hb]
  obtain ⟨oa, va, ha, da, v2⟩ := f2
  refine wpAny_bind (wpAny_holding (wpAny_runValue (codeAny_builtin entry_unchain ?_)))
  show wpAny _ _ (field (.ref a) 2 >>= _) _ _ s
  refine wpAny_bind (wpAny_field ha da v2 ?_)
  refine wpAny_pure ?_
  show wpAny _ _ (setField (.ref e) 2 (.ref a) >>= _) _ _ s
  refine wpAny_bind (wpAny_setField he hd sz (wpAny_throw h))
variable {nm q : Str} {C N : Addr} {bs : List Value} {hdct : Bool} {sn : List Str} {sub : List Value} {ab : Bool} {col : Option Bool} {dd : Option Addr} {k0 k1 k2 k3 k5 : Option Value}
theorem raise_from {mN : Str -> Option Value} {x : Str} {np cpos cp pos : Pos} {kk : Nat} {a : Addr} {Q : Flow -> Shared -> Prop} (hh : A.handled = some (.ref a)) (f2 : F2 s.heap a) (hni : mN "__init__" = Option.none)
    (hC : s.heap.get? C = some (excClassObj nm q C N bs bmE hdct sn sub ab col dd k0 k1 k2 k3 k5 "Exception.__new__")) (hN : s.heap.Ns N mN)
    (h : ∀ Q' : Value -> Shared -> Prop, Q' (.ref C) s -> wpAny (model P w) A (eval (.Name x np) env) Q' E s)
    (fin : ∀ h' e t, (∀ b o, s.heap.get? b = some o -> h'.get? b = some o) -> s.heap.get? e = Option.none -> h'.get? e = some { cls := .ref C, data := .fields #[.ref t, .none, .ref a, .none, .bool true, .none] } -> E (.ref e) { s with heap := h' }) :
    wpAny (model P w) A (exec (.Raise (some (.Call (.Name x np) [] [] cpos)) (some (.Constant .none kk cp)) pos) env) Q E s := by
  have hcB : (Value.ref C :: bmE).contains (.type "BaseException") = true := by rw [List.contains_cons]; rfl
  obtain ⟨hp, g, d, tk, os⟩ := s
  rw [arm_exec_Raise]
  refine wpAny_bind (wpAny_standAt ?_)
  simp only [evalOpt, Option.map]
  unfold raiseStmt
  simp only
  refine wpAny_bind (wpAny_bind (wpAny_Call_ofName (h _ ?_)))
  unfold callWith
  refine wpAny_bind (wpAny_holding (evalArgs_empty (wpAny_bind (wpAny_standAt ?_))))
  refine wpAny_bind (wpAny_keeperOf_exc hC ?_)
  refine wpAny_bind (wpAny_call_exc_sub (hrest := Nat.zero_le _) PySem.F.excBase_Exception hC hN hni fun h' e hm => wpAny_bind (wpAny_holding (wpAny_point (wpAny_pure ?_))))
  refine wpAny_bind (wpAny_standAt (wpAny_pure ?_))
  obtain ⟨t, he, tn, ht⟩ := hm.there
  have hC' := hm.keeps _ _ hC
  refine wpAny_bind (wpAny_holding (wpAny_bind (wpAny_of_eq (rfl : eval (.Constant .none kk cp) env = pure Value.none) (wpAny_bind (wpAny_standAt (wpAny_pure ?_))))))
  refine wpAny_bind (wpAny_pure ?_)
  repeat (first | with_reducible refine wpAny_loadPart_at he ?_ | with_reducible refine wpAny_loadPart_at hC' ?_ | (with_reducible refine wpAny_isSubtype_exc hC' ?_; rw [hcB]) | wp_step)
  have ne : e ≠ C := fun z => by
    have y : hp.get? e = Option.none := hm.new
    rw [z] at y
    exact absurd (y.symm.trans hC) (by simp)
  have oth : ∀ b o, hp.get? b = some o -> ((h'.update e (Obj.mapFields fun x => x.setIfInBounds 3 Value.none)).update e (Obj.mapFields fun x => x.setIfInBounds 4 (Value.bool true))).get? b = some o := fun b o z => by
    have y : e ≠ b := fun z' => by
      have y : hp.get? e = Option.none := hm.new
      rw [z', z] at y
      cases y
    rw [Heap.get?_update_other _ _ y, Heap.get?_update_other _ _ y]
    exact hm.keeps b o z
  have hC3 := oth _ _ hC
  have he3 : ((h'.update e (Obj.mapFields fun x => x.setIfInBounds 3 Value.none)).update e (Obj.mapFields fun x => x.setIfInBounds 4 (Value.bool true))).get? e = some { cls := .ref C, data := .fields #[.ref t, .none, .none, .none, .bool true, .none] } := by
    rw [Heap.get?_update_self _ (Heap.get?_update_self _ he rfl) rfl]
    rfl
  repeat (first | with_reducible refine wpAny_loadPart_at he3 ?_ | with_reducible refine wpAny_loadPart_at hC3 ?_ | wp_step)
  have nae : a ≠ e := fun z => by
    obtain ⟨oa, va, ha, _⟩ := f2
    have y : hp.get? e = Option.none := hm.new
    rw [← z] at y
    exact absurd (y.symm.trans ha) (by simp)
  refine raise_new2 hh nae ?_ he3 rfl (show 2 < 6 by decide) ?_
  · obtain ⟨oa, va, ha, r⟩ := f2
    exact ⟨oa, va, oth _ _ ha, r⟩
  · refine fin _ e t (fun b o z => ?_) hm.new ?_
    · have y : e ≠ b := fun z' => by
        have y : hp.get? e = Option.none := hm.new
        rw [z'] at y
        exact absurd (y.symm.trans z) (by simp)
      rw [Heap.get?_update_other _ _ y]
      exact oth b o z
    · rw [Heap.get?_update_self _ he3 rfl]
      rfl
end
section
variable {P : Program} {w : World} {K : PySem.W.Frag} {mg : Str -> Option Value} {base : Heap} {N : List Str} {qual : Str} {scope : Scope} {f : Addr} {cd : Value} {A : Around} {outer : List Env} {s_0 : Shared} {H_0 : Hp} {E : XK}
theorem ps_tryR {C1 C2 : Addr} {x y : Str} {np ny cpos cp rp hp pos : Pos} {kk : Nat} {body : List Stmt} {tbf : XK -> TS} (g1 : Gl (cxOf (CXw P w) P w K mg base N qual scope f cd A outer s_0 H_0 E) x) (m1 : mg x = some (.ref C1)) (c1 : xcIn K C1 = true) (gy : Gl (cxOf (CXw P w) P w K mg base N qual scope f cd A outer s_0 H_0 E) y) (m2 : mg y = some (.ref C2)) (c2 : xcIn K C2 = true)
    (hb : ∀ (E' : Value -> Shared -> Prop) (pn : List (Addr × Obj)) (Ex : XK), Passes (CXe P w) (Cx.at (cxOf (CXw P w) P w K mg base N qual scope f cd A outer s_0 H_0 E) (Cx.A (cxOf (CXw P w) P w K mg base N qual scope f cd A outer s_0 H_0 E)) (Cx.calm (cxOf (CXw P w) P w K mg base N qual scope f cd A outer s_0 H_0 E)) E' pn) Ex -> PSs (Cx.at (cxOf (CXw P w) P w K mg base N qual scope f cd A outer s_0 H_0 E) (Cx.A (cxOf (CXw P w) P w K mg base N qual scope f cd A outer s_0 H_0 E)) (Cx.calm (cxOf (CXw P w) P w K mg base N qual scope f cd A outer s_0 H_0 E)) E' pn) body (tbf Ex)) (hd1 : (x == ("__debug__" : Str)) = false := by decide) (hd2 : (y == ("__debug__" : Str)) = false := by decide) :
    PS (cxOf (CXw P w) P w K mg base N qual scope f cd A outer s_0 H_0 E) (.Try body [.ExceptHandler (some (.Name x np)) Option.none [.Raise (some (.Call (.Name y ny) [] [] cpos)) (some (.Constant .none kk cp)) rp] hp] [] [] pos) (fun D σ H => tbf (fun c _ H' => c = .ref C1 /\ E (.ref C2) Option.none H') D σ H) := by
  intro pins s σ H D I h
  refine wpAny_Try_except ?_
  have hcl := I.ok.hd
  have hfr := I.ok.frames
  refine wpAny_mono (hb _ (Cx.pn (cxOf (CXw P w) P w K mg base N qual scope f cd A outer s_0 H_0 E) ++ pins) _ ?_ [] s σ H D (I.at hfr hcl (fun p q => by rw [List.append_nil] at q; exact q)) h) (fun fl0 s1 q => ?_) fun e s1 q => q
  · intro pins' σ' H' s' e s'' I2 hcx
    obtain ⟨⟨a, C, H2, B, t, rfl, os, bare, un, hok, fly, hB, hO, eC, hE⟩, a', ea, g2⟩ := hcx
    obtain rfl := Value.ref.inj ea
    obtain rfl := Value.ref.inj eC
    have I3 : Inv (cxOf (CXw P w) P w K mg base N qual scope f cd A outer s_0 H_0 E) pins σ' H' s' := I2.unat hfr hcl (fun p q => List.mem_append_left _ q)
    have un : Un (frs (Cx.stack (cxOf (CXw P w) P w K mg base N qual scope f cd A outer s_0 H_0 E))) [] H' H2 s'.heap s''.heap := un
    have fly : Heap.FlyingW B (Cx.stack (cxOf (CXw P w) P w K mg base N qual scope f cd A outer s_0 H_0 E)) a (.ref C) t s''.heap := fly
    have hO : ∀ b o, s'.heap.get? b = some o -> b ∉ frs (Cx.stack (cxOf (CXw P w) P w K mg base N qual scope f cd A outer s_0 H_0 E)) -> ∃ o', B.get? b = some o' := hO
    have hfm : ∀ b ∈ frs (Cx.stack (cxOf (CXw P w) P w K mg base N qual scope f cd A outer s_0 H_0 E)), ∃ o, s''.heap.get? b = some o /\ ∀ vs, o.data ≠ .fields vs := fun b hb => (fly.2.2.1.mem hb).2
    refine note2 hfr rfl fly g2 fun h4 held g4 up4 => ?_
    refine land2 (s := { s'' with heap := h4 }) held.1 held.2.1 held.2.2.1 held.2.2.2 Option.none fun h5 k1 k2 k3 g5 up5 => ?_
    have fly5 : Heap.FlyingW B (Cx.stack (cxOf (CXw P w) P w K mg base N qual scope f cd A outer s_0 H_0 E)) a (.ref C) t h5 := ⟨k1, held.2.1, k2, k3⟩
    have I5 : Inv (cxOf (CXw P w) P w K mg base N qual scope f cd A outer s_0 H_0 E) pins σ' H2 { s'' with heap := h5 } := I3.call' os (fly_un un fly.1 fly5.1 (up4.trans up5) hO hfm) (fly_hok fly.1 fly5.1 hB hok) bare (fun b z => absurd z (by simp))
    obtain ⟨oe, hoe, hoc⟩ := fly5.there
    refine wpAny_handleBy_cons (codeAny_handlers_test (ld_glob (X := Cx.at (cxOf (CXw P w) P w K mg base N qual scope f cd A outer s_0 H_0 E) (Around.mark (Cx.A (cxOf (CXw P w) P w K mg base N qual scope f cd A outer s_0 H_0 E)) (some (.ref a))) false (notedBy (model P w) (Around.mark (Cx.A (cxOf (CXw P w) P w K mg base N qual scope f cd A outer s_0 H_0 E)) (some (.ref a))) (Cx.env (cxOf (CXw P w) P w K mg base N qual scope f cd A outer s_0 H_0 E)) (cameBackBy (model P w) (Cx.A (cxOf (CXw P w) P w K mg base N qual scope f cd A outer s_0 H_0 E)) (Cx.env (cxOf (CXw P w) P w K mg base N qual scope f cd A outer s_0 H_0 E)) (Cx.xe (cxOf (CXw P w) P w K mg base N qual scope f cd A outer s_0 H_0 E)))) (Cx.pn (cxOf (CXw P w) P w K mg base N qual scope f cd A outer s_0 H_0 E))) (I5.at hfr (fun z => Bool.noConfusion z) (fun p q => q)) g1 m1 ?_ hd1)) (by intro q; cases q)
    refine matches_self (xc_of I5.kIn c1) hoe hoc (codeAny_handlers_suite ?_)
    refine land2 (s := { s'' with heap := h5 }) k1 held.2.1 k2 k3 Option.none fun h6 j1 j2 j3 g6 up6 => ?_
    have fly6 : Heap.FlyingW B (Cx.stack (cxOf (CXw P w) P w K mg base N qual scope f cd A outer s_0 H_0 E)) a (.ref C) t h6 := ⟨j1, held.2.1, j2, j3⟩
    have I6 : Inv (cxOf (CXw P w) P w K mg base N qual scope f cd A outer s_0 H_0 E) pins σ' H2 { s'' with heap := h6 } := I3.call' os (fly_un un fly.1 fly6.1 ((up4.trans up5).trans up6) hO hfm) (fly_hok fly.1 fly6.1 hB hok) bare (fun b z => absurd z (by simp))
    obtain ⟨nm, q, N', bs, hdct, sn, sub, ab, col, dd, k0, k1', k2', k3', k5, mN, hC, hN, hni⟩ := xc_of I6.kIn c2
    refine wpAny_execs_cons (raise_from (C := C2) (a := a) rfl (g6 (g5 g4)) hni hC hN (fun Q' hq => ld_glob (X := Cx.at (cxOf (CXw P w) P w K mg base N qual scope f cd A outer s_0 H_0 E) (Around.mark (Cx.A (cxOf (CXw P w) P w K mg base N qual scope f cd A outer s_0 H_0 E)) (some (.ref a))) false (notedBy (model P w) (Around.mark (Cx.A (cxOf (CXw P w) P w K mg base N qual scope f cd A outer s_0 H_0 E)) (some (.ref a))) (Cx.env (cxOf (CXw P w) P w K mg base N qual scope f cd A outer s_0 H_0 E)) (cameBackBy (model P w) (Cx.A (cxOf (CXw P w) P w K mg base N qual scope f cd A outer s_0 H_0 E)) (Cx.env (cxOf (CXw P w) P w K mg base N qual scope f cd A outer s_0 H_0 E)) (Cx.xe (cxOf (CXw P w) P w K mg base N qual scope f cd A outer s_0 H_0 E)))) (Cx.pn (cxOf (CXw P w) P w K mg base N qual scope f cd A outer s_0 H_0 E))) (I6.at hfr (fun z => Bool.noConfusion z) (fun p q => q)) gy m2 hq hd2) fun h7 e t' kp nw he => ?_)
    have u7 : h6.UpToSlots h7 := Heap.UpToSlots.of_keeps kp
    have sB : (hid { s'' with heap := h6 } (Cx.stack (cxOf (CXw P w) P w K mg base N qual scope f cd A outer s_0 H_0 E))).StaysIn h7 := fun b o z => kp b o (hid_stays b o z)
    have fB : h7.FunFrames (hid { s'' with heap := h6 } (Cx.stack (cxOf (CXw P w) P w K mg base N qual scope f cd A outer s_0 H_0 E))) (Cx.stack (cxOf (CXw P w) P w K mg base N qual scope f cd A outer s_0 H_0 E)) := (PySem.W.funFrames_hide I6.stack fun env he a ha => List.mem_filterMap.mpr ⟨env, he, ha⟩).of_keeps fun b o z _ => ⟨o, kp b o z, rfl⟩
    have nB : (hid { s'' with heap := h6 } (Cx.stack (cxOf (CXw P w) P w K mg base N qual scope f cd A outer s_0 H_0 E))).get? e = Option.none := by
      cases z : (hid { s'' with heap := h6 } (Cx.stack (cxOf (CXw P w) P w K mg base N qual scope f cd A outer s_0 H_0 E))).get? e with
      | none => rfl
      | some o => exact absurd (nw.symm.trans (hid_stays _ _ z)) (by simp)
    show wpAny _ _ (noteFrame (.ref e) _) _ _ { s'' with heap := h7 }
    unfold noteFrame
    simp only [show (Cx.env (cxOf (CXw P w) P w K mg base N qual scope f cd A outer s_0 H_0 E)).frame = some (Cx.env (cxOf (CXw P w) P w K mg base N qual scope f cd A outer s_0 H_0 E)).locals from rfl]
    refine wpAny_bind (wpAny_field he rfl (x := .none) rfl ?_)
    rw [if_neg (by decide)]
    refine ent2 (s := { s'' with heap := h7 }) (a0 := .ref t') hfr fB rfl he sB nB rfl (show 1 < 6 by decide) rfl fun h8 r8 _ u8 => ?_
    obtain ⟨_, _, _, oe8, vs8, T8, oT8, ts8, he8, hc8, d8, v8, _⟩ := id r8
    show wpAny _ _ (field (.ref e) 1 >>= _) _ _ { s'' with heap := h8 }
    refine wpAny_bind (wpAny_field he8 d8 v8 ?_)
    rw [if_neg (show ¬ ((Value.ref T8 == Value.none) = true) from by simp)]
    refine land2 (s := { s'' with heap := h8 }) r8.1 r8.2.1 r8.2.2.1 r8.2.2.2 (some (Cx.env (cxOf (CXw P w) P w K mg base N qual scope f cd A outer s_0 H_0 E)).locals) fun h9 l1 l2 l3 _ u9 => ?_
    show wpAny _ _ (leaving _ (.ref e)) _ _ { s'' with heap := h9 }
    unfold leaving
    refine wpAny_bind (wpAny_noteFrame_againW rfl l3 ?_)
    exact land2 (s := { s'' with heap := h9 }) l1 r8.2.1 l2 l3 Option.none fun h10 m1 ⟨_, _, m2⟩ m3 _ u10 => raise_core (s := { s'' with heap := h6 }) (h' := h10) I6 ⟨m1, r8.2.1, m2, m3⟩ (((u7.trans u8).trans u9).trans u10) hE
  · have q' : SP (cxOf (CXw P w) P w K mg base N qual scope f cd A outer s_0 H_0 E) pins D fl0 s1 := SP.unat q hfr hcl (fun p z => List.mem_append_left _ z)
    cases fl0 with
    | next => exact wpAny_execs_nil q'
    | brk => exact q'
    | cont => exact q'
    | ret u => exact q'
end
end L2
set_option Elab.async false
set_option linter.all false
set_option maxRecDepth 100000
set_option maxHeartbeats 4000000
namespace Pw
open PySem PySem.Spec PyProof.Rows L2
section
variable {P : Program} {w : World} {K : PySem.W.Frag} {mg : Str -> Option Value} {base : Heap} {f : Addr} {fd : FuncData} {CV cN cP cW cL cO cD cS : Addr}
def spDoc (K : PySem.W.Frag) (CV cN : Addr) : Sp := fun vs H Q E => ∃ (ta : Addr) (b : List Nat), vs = [.ref ta] /\ SrcAt K H ta b /\ b.length <= 65536 /\ (∀ c ∈ b, c < 256) /\
  (∀ v, Sn77.read b = some v -> ∀ H' a, Same H H' -> RepV CV H' v a -> Q (.ref a) H') /\ (Sn77.read b = Option.none -> ∀ H', E (.ref cN) Option.none H')
theorem sc_read_document : FnScope ["source"] ["source"] (defScope s_read_document) := ⟨rfl, rfl, rfl, by decide +kernel, rfl, by decide +kernel, by decide +kernel⟩
theorem ok_read_document (F : Fun K "read_document" "read_document" s_read_document f fd) (gD : Gv mg "DEEPEST_DOCUMENT" (.int 32)) (rn : DefOk P w K mg base (CXe P w) 120 "read_nested" ["source", "deepest"] (spNested K CV cN 32)) : FnOk P w K mg base (CXe P w) 121 f fd ["source"] (spDoc K CV cN) := by
  refine F.okX sc_read_document (fun vs H Q E h => ?_) (fun cdv A outer s H vs Q E hr h => ?_)
  · obtain ⟨ta, b, rfl, _⟩ := h
    rfl
  obtain ⟨ta, b, rfl, hS, hl, hb, q, qe⟩ := h
  refine ⟨_, pss_one (ps_ret (pe_callD rn hr pass_cx (pa_cons (pv 0) (pa_cons (pe_g gD) pa_nil)))), ?_⟩
  exact ⟨_, rfl, ta, b, rfl, hS, hl, hb, q, qe⟩
def spWork (K : PySem.W.Frag) (CV : Addr) (res : Sn77.V -> List Nat -> Except Addr (List Int)) : Sp := fun vs H Q E => ∃ (a p : Addr) (v : Sn77.V) (b l : List Nat), vs = [.ref a, .ref p] /\ Sn77.read b = some v /\ RepV CV H v a /\ SrcAt K H p l /\ l.length <= 65536 /\ (∀ c ∈ l, c < 256) /\
  (∀ o, res v l = .ok o -> ∀ H' q, H' q = some (.lst (o.map V.int)) -> Q (.ref q) H') /\ (∀ C, res v l = .error C -> ∀ H', E (.ref C) Option.none H')
def codeOf : List (List Addr × Nat) -> Addr -> Nat
  | [], _ => 0
  | (g, n) :: r, C => if C ∈ g then n else codeOf r C
def dueOf (res : Sn77.V -> List Nat -> Except Addr (List Int)) (hs : List (List Addr × Nat)) (cN : Addr) (b l : List Nat) : List Int := match Sn77.read b with
  | Option.none => [-(codeOf hs cN : Nat)]
  | some v => match res v l with
    | .error C => [-(codeOf hs C : Nat)]
    | .ok o => o
def spAnswered (K : PySem.W.Frag) (fw : Addr) (due : List Nat -> List Nat -> List Int) : Sp := fun vs H Q _ => ∃ (ta pa : Addr) (b l : List Nat), vs = [.ref fw, .ref ta, .ref pa] /\ SrcAt K H ta b /\ SrcAt K H pa l /\ b.length <= 65536 /\ l.length <= 65536 /\ (∀ c ∈ b, c < 256) /\ (∀ c ∈ l, c < 256) /\
  ∀ H' p, H' p = some (.lst ((due b l).map V.int)) -> Q (.ref p) H'
theorem sc_answered : FnScope ["work", "t", "p"] ["work", "t", "p"] (defScope s_answered) := ⟨rfl, rfl, rfl, by decide +kernel, rfl, by decide +kernel, by decide +kernel⟩
abbrev tNum (n : Nat) : TS := tRet (tLst (tCons (tUn (rU fun i => .int (-i)) (tC (.int (n : Nat)))) tNil))
theorem num_ok {C : Addr} {D : Ends} {H : Hp} : ∀ {hs : List (HdT × Nat)}, (∀ h ∈ hs, h.1.ts = tNum h.2) -> (∃ h ∈ hs, C ∈ h.1.cls) -> (∀ p, H p = Option.none -> D.rt (.ref p) (upd H p (.lst [.int (-((codeOf (hs.map fun h => (h.1.cls, h.2)) C : Nat) : Int))]))) -> hdTOk (hs.map Prod.fst) C D H
  | [], _, h, _ => by obtain ⟨_, q, _⟩ := h; cases q
  | (h0, n) :: r, a, b, d => by
    show (if C ∈ h0.cls then ∀ σ, h0.ts D σ H else hdTOk (r.map Prod.fst) C D H)
    by_cases hC : C ∈ h0.cls
    · rw [if_pos hC]
      intro σ
      rw [show h0.ts = tNum n from a _ (List.mem_cons_self ..)]
      refine ⟨_, rfl, Nat.le_trans (Nat.le_refl 1) (by decide), fun p hp => ?_⟩
      have := d p hp
      simp only [List.map_cons, codeOf, if_pos hC] at this
      exact this
    · rw [if_neg hC]
      refine num_ok (fun h hh => a h (List.mem_cons_of_mem _ hh)) ?_ fun p hp => ?_
      · obtain ⟨h, q, z⟩ := b
        rcases List.mem_cons.mp q with rfl | q
        · exact absurd z hC
        · exact ⟨h, q, z⟩
      · have := d p hp
        simp only [List.map_cons, codeOf, if_neg hC] at this
        exact this
structure ClsAt (K : PySem.W.Frag) (mg : Str -> Option Value) (Th : Addr -> Prop) (cN cP cO cS cW cD cL : Addr) : Prop where
  nd : [cN, cP, cO, cS, cW, cD, cL].Nodup
  mN : mg "NotDocument" = some (.ref cN)
  mP : mg "NotPointer" = some (.ref cP)
  mO : mg "NotOperations" = some (.ref cO)
  mS : mg "NotSecondDocument" = some (.ref cS)
  mW : mg "Nowhere" = some (.ref cW)
  mD : mg "NotDone" = some (.ref cD)
  mL : mg "TooLarge" = some (.ref cL)
  e1 : ∀ C, Th C -> PySem.W.exmOne K (.ref C) (.ref cN) = some (decide (C ∈ [cN]))
  e2 : ∀ C, Th C -> PySem.W.exmAny K (.ref C) [.ref cP, .ref cO, .ref cS] = some (decide (C ∈ [cP, cO, cS]))
  e3 : ∀ C, Th C -> PySem.W.exmAny K (.ref C) [.ref cW, .ref cD] = some (decide (C ∈ [cW, cD]))
  e4 : ∀ C, Th C -> PySem.W.exmOne K (.ref C) (.ref cL) = some (decide (C ∈ [cL]))
  tN : Th cN
  tin : ∀ C, Th C -> C ∈ [cN] ∨ C ∈ [cP, cO, cS] ∨ C ∈ [cW, cD] ∨ C ∈ [cL]
abbrev clauses (cN cP cO cS cW cD cL : Addr) : List (List Addr × Nat) := [([cN], 3), ([cP, cO, cS], 4), ([cW, cD], 5), ([cL], 7)]
theorem ok_answered {fw : Addr} {fdw : FuncData} {res : Sn77.V -> List Nat -> Except Addr (List Int)} {Th : Addr -> Prop} {k : Nat} (hk : 121 <= k) (F : Fun K "answered" "answered" s_answered f fd) (T : ClsAt K mg Th cN cP cO cS cW cD cL) (tr : ∀ v l C, res v l = .error C -> Th C)
    (rd : DefOk P w K mg base (CXe P w) 121 "read_document" ["source"] (spDoc K CV cN)) (FW : FnOk P w K mg base (CXw P w) k fw fdw ["document", "p"] (spWork K CV res)) (kw : PySem.W.keepIn K (.ref fw) = true) (bw : Binds K fdw ["document", "p"] []) :
    FnOk P w K mg base CX0 (k + 1) f fd ["work", "t", "p"] (spAnswered K fw (dueOf res (clauses cN cP cO cS cW cD cL) cN)) := by
  refine F.ok sc_answered (fun vs H Q E h => ?_) (fun cdv A outer s H vs Q E hr h => ?_)
  · obtain ⟨ta, pa, b, l, rfl, _⟩ := h
    rfl
  obtain ⟨ta, pa, b, l, rfl, hT, hP, hbl, hll, hb, hl, q⟩ := h
  refine ⟨_, pss_one (ps_tryT (Th := Th) (tbf := fun Ex => tRet (fun σ H Q => tVar 0 σ H fun v H1 => v = .ref fw /\ tCons (tCall (spDoc K CV cN) [] Ex (tCons (tVar 1) tNil)) (tCons (tVar 2) tNil) σ H1 fun vs H2 => spWork K CV res (vs ++ []) H2 Q Ex))
      (h0 := ⟨_, [cN], _, _, _, tNum 3⟩) (hs := [⟨_, [cP, cO, cS], _, _, _, tNum 4⟩, ⟨_, [cW, cD], _, _, _, tNum 5⟩, ⟨_, [cL], _, _, _, tNum 7⟩]) rfl rfl (fun h hh => ?hh)
      (fun E' pn Ex hx => pss_one (ps_ret (pe_callV FW kw bw (pv 0) hr hx (pa_cons (pe_callD rd hr (pass_of_w hx) (pa_cons (pv 1) pa_nil)) (pa_cons (pv 2) pa_nil)))))), ?_⟩
  case hh =>
    rcases List.mem_cons.mp hh with rfl | hh
    · exact hd_one rfl T.mN T.e1 (fun A E pn => pss_one (ps_ret (pe_lst (pa_cons (pe_un un_neg pe_int) pa_nil))))
    rcases List.mem_cons.mp hh with rfl | hh
    · exact hd_three rfl T.mP rfl T.mO rfl T.mS T.e2 (fun A E pn => pss_one (ps_ret (pe_lst (pa_cons (pe_un un_neg pe_int) pa_nil))))
    rcases List.mem_cons.mp hh with rfl | hh
    · exact hd_two rfl T.mW rfl T.mD T.e3 (fun A E pn => pss_one (ps_ret (pe_lst (pa_cons (pe_un un_neg pe_int) pa_nil))))
    rcases List.mem_cons.mp hh with rfl | hh
    · exact hd_one rfl T.mL T.e4 (fun A E pn => pss_one (ps_ret (pe_lst (pa_cons (pe_un un_neg pe_int) pa_nil))))
    · cases hh
  have nin : ∀ C, Th C -> ∀ {x1 x2 x3 x4 : HdT}, x1.cls = [cN] -> x2.cls = [cP, cO, cS] -> x3.cls = [cW, cD] -> x4.cls = [cL] -> ∃ h ∈ [(x1, 3), (x2, 4), (x3, 5), (x4, 7)], C ∈ h.1.cls := fun C hC x1 x2 x3 x4 c1 c2 c3 c4 => by
    rcases T.tin C hC with z | z | z | z
    · exact ⟨_, List.mem_cons_self .., by rw [c1]; exact z⟩
    · exact ⟨_, List.mem_cons_of_mem _ (List.mem_cons_self ..), by rw [c2]; exact z⟩
    · exact ⟨_, List.mem_cons_of_mem _ (List.mem_cons_of_mem _ (List.mem_cons_self ..)), by rw [c3]; exact z⟩
    · exact ⟨_, List.mem_cons_of_mem _ (List.mem_cons_of_mem _ (List.mem_cons_of_mem _ (List.mem_cons_self ..))), by rw [c4]; exact z⟩
  refine ⟨_, rfl, rfl, _, rfl, ta, b, rfl, hT, hbl, hb, fun v hv H1 a s1 rep => ?_, fun hv H1 => ?_⟩
  · refine ⟨_, rfl, a, pa, v, b, l, rfl, hv, rep, hP.same s1, hll, hl, fun o ho H2 c h2 => q _ c ?_, fun C hC H2 => ?_⟩
    · rw [h2]
      unfold dueOf
      rw [hv]
      simp only
      rw [ho]
    · refine ⟨C, rfl, tr _ _ _ hC, num_ok (hs := [(_, 3), (_, 4), (_, 5), (_, 7)]) (by intro h hh; simp only [List.mem_cons, List.not_mem_nil, or_false] at hh; rcases hh with rfl | rfl | rfl | rfl <;> rfl) (nin C (tr _ _ _ hC) rfl rfl rfl rfl) fun p hp => q _ p ?_⟩
      rw [upd_same]
      unfold dueOf
      rw [hv]
      simp only
      rw [hC]
      rfl
  · refine ⟨cN, rfl, T.tN, num_ok (hs := [(_, 3), (_, 4), (_, 5), (_, 7)]) (by intro h hh; simp only [List.mem_cons, List.not_mem_nil, or_false] at hh; rcases hh with rfl | rfl | rfl | rfl <;> rfl) (nin cN T.tN rfl rfl rfl rfl) fun p hp => q _ p ?_⟩
    rw [upd_same]
    unfold dueOf
    rw [hv]
    rfl
end
end Pw
set_option Elab.async false
set_option linter.all false
set_option maxRecDepth 100000
set_option maxHeartbeats 4000000
namespace L2
open PySem PySem.Spec PyProof.Rows
open AutoSeq1 (wpAny_loadPart')
theorem dict_decl_none (l : Addr) (es : Array DictEntry) (ep : Nat) (dd : Option Addr) (sl : Array (Option Value)) :
    Meets (Builtin.«dict.__eq__» ⟨[.ref l, .none], []⟩) (fun _ R s => s.heap.get? l = some { cls := .type "dict", dict := dd, data := .dict es ep, slots := sl } /\ R (.ok (.ret .notImplemented)) s) :=
  .of_wp fun prog w A R s h => by obtain ⟨hp, g, d, tk, os⟩ := s; obtain ⟨hl, h⟩ := h; have f1 := F.sub_NoneType_dict; wp_walk using wpAny_loadPart' hl; exact ⟨_, rfl, h⟩
theorem dict_decl_int (l : Addr) (es : Array DictEntry) (ep : Nat) (dd : Option Addr) (sl : Array (Option Value)) (b : Int) (u : Tok) :
    Meets (Builtin.«dict.__eq__» ⟨[.ref l, .int b u], []⟩) (fun _ R s => s.heap.get? l = some { cls := .type "dict", dict := dd, data := .dict es ep, slots := sl } /\ R (.ok (.ret .notImplemented)) s) :=
  .of_wp fun prog w A R s h => by obtain ⟨hp, g, d, tk, os⟩ := s; obtain ⟨hl, h⟩ := h; have f1 := F.sub_int_dict; wp_walk using wpAny_loadPart' hl; exact ⟨_, rfl, h⟩
theorem dict_decl_tup (l b : Addr) (es : Array DictEntry) (ep n2 : Nat) (items2 : Array Value) (dd dd2 : Option Addr) (sl sl2 : Array (Option Value)) :
    Meets (Builtin.«dict.__eq__» ⟨[.ref l, .ref b], []⟩) (fun _ R s => s.heap.get? l = some { cls := .type "dict", dict := dd, data := .dict es ep, slots := sl } /\ s.heap.get? b = some { cls := .type "tuple", dict := dd2, data := .seq items2 n2, slots := sl2 } /\ R (.ok (.ret .notImplemented)) s) :=
  .of_wp fun prog w A R s h => by obtain ⟨hp, g, d, tk, os⟩ := s; obtain ⟨hl, hb, h⟩ := h; have f1 := F.sub_tuple_dict; wp_walk using wpAny_loadPart' hl, wpAny_loadPart' hb; exact ⟨_, rfl, h⟩
theorem tup_decl_dict (l b : Addr) (es : Array DictEntry) (ep n : Nat) (items : Array Value) (dd dd2 : Option Addr) (sl sl2 : Array (Option Value)) :
    Meets (Builtin.«tuple.__eq__» ⟨[.ref l, .ref b], []⟩) (fun _ R s => s.heap.get? l = some { cls := .type "tuple", dict := dd, data := .seq items n, slots := sl } /\ s.heap.get? b = some { cls := .type "dict", dict := dd2, data := .dict es ep, slots := sl2 } /\ R (.ok (.ret .notImplemented)) s) :=
  .of_wp fun prog w A R s h => by obtain ⟨hp, g, d, tk, os⟩ := s; obtain ⟨hl, hb, h⟩ := h; have f1 := F.sub_dict_tuple; wp_walk using wpAny_loadPart' hl, wpAny_loadPart' hb; exact ⟨_, rfl, h⟩
theorem int_decl_dict (b : Int) (u : Tok) (l : Addr) (c : Value) (es : Array DictEntry) (ep : Nat) (dd : Option Addr) (sl : Array (Option Value)) :
    Meets (Builtin.«int.__eq__» ⟨[.int b u, .ref l], []⟩) (fun _ R s => s.heap.get? l = some { cls := c, dict := dd, data := .dict es ep, slots := sl } /\ R (.ok (.ret .notImplemented)) s) :=
  .of_wp fun prog w A R s h => by obtain ⟨hp, g, d, tk, os⟩ := s; obtain ⟨hl, h⟩ := h; wp_walk using wpAny_loadPart' hl, wpAny_load hl; exact ⟨_, rfl, h⟩
section
variable {A : Around} {s : Shared} {l : Addr} {o : Obj} {es : Array DictEntry} {ep : Nat}
theorem rc_none_dict (ho : s.heap.get? l = some o) (hx : o.ExactDict) (hd : o.data = .dict es ep) (hu : A.units < cLine) : SeqAt.RcAt A s .none (.ref l) false := fun prog w E Q h => by
  obtain ⟨cls, dd, data, sl⟩ := o
  obtain ⟨hc, _, _⟩ := hx
  simp only at hc hd
  subst hc hd
  exact SeqAt.rc_eq_decline_or (k := false) rfl ⟨_, ho, rfl⟩ (by decide) F.sub_dict_NoneType F.slot_NoneType_eq F.slot_dict_eq_refl
    (fun _ hq => call_gives F.slot_NoneType_eq rfl F.entry_NoneType_eq (F.args_NoneType_eq_2 _ _) (SeqAt.NoneType___eq___none_ref_0 l) hq)
    (fun _ hq => call_meets F.slot_dict_eq_refl ⟨_, ho, rfl⟩ F.entry_dict_eq (F.args_dict_eq_2 _ _) (dict_decl_none l es ep dd sl) ⟨ho, hq⟩)
    (fun _ hq => wpAny_of_eq (rfl : isSame .none (.ref l) = pure false) hq) (.inr hu) h
theorem rc_int_dict (b : Int) (u : Tok) (ho : s.heap.get? l = some o) (hx : o.ExactDict) (hd : o.data = .dict es ep) (hu : A.units < cLine) : SeqAt.RcAt A s (.int b u) (.ref l) false := fun prog w E Q h => by
  obtain ⟨cls, dd, data, sl⟩ := o
  obtain ⟨hc, _, _⟩ := hx
  simp only at hc hd
  subst hc hd
  exact SeqAt.rc_eq_decline_or (k := false) (typeIs_int s b u) ⟨_, ho, rfl⟩ (by decide) F.sub_dict_int F.slot_int_eq F.slot_dict_eq_refl
    (fun _ hq => call_meets F.slot_int_eq (typeIs_int s b u) F.entry_int_eq (F.args_int_eq_2 _ _) (int_decl_dict b u l (.type "dict") es ep dd sl) ⟨ho, hq⟩)
    (fun _ hq => call_meets F.slot_dict_eq_refl ⟨_, ho, rfl⟩ F.entry_dict_eq (F.args_dict_eq_2 _ _) (dict_decl_int l es ep dd sl b u) ⟨ho, hq⟩)
    (fun _ hq => wpAny_of_eq (rfl : isSame (.int b u) (.ref l) = pure false) hq) (.inr hu) h
theorem rc_tup_dict {t : Addr} {items : Array Value} (ht : s.heap.IsTuple t items) (ho : s.heap.get? l = some o) (hx : o.ExactDict) (hd : o.data = .dict es ep) (hu : A.units < cLine) : SeqAt.RcAt A s (.ref t) (.ref l) false := fun prog w E Q h => by
  obtain ⟨⟨cls2, dd2, data2, sl2⟩, ho2, hc2, n2, hd2⟩ := id ht
  obtain ⟨cls, dd, data, sl⟩ := o
  obtain ⟨hc, _, _⟩ := hx
  simp only at hc hd hc2 hd2
  subst hc hd hc2 hd2
  have hne : t ≠ l := fun z => by rw [z, ho] at ho2; exact absurd (congrArg Obj.cls (Option.some.inj ho2)) (by simp)
  exact (SeqAt.rc_eq_decline_or (k := false) ⟨_, ho2, rfl⟩ ⟨_, ho, rfl⟩ (by decide) F.sub_dict_tuple F.slot_tuple_eq F.slot_dict_eq_refl
    (fun _ hq => call_meets F.slot_tuple_eq ⟨_, ho2, rfl⟩ F.entry_tuple_eq (F.args_tuple_eq_2 _ _) (tup_decl_dict t l es ep n2 items dd2 dd sl2 sl) ⟨ho2, ho, hq⟩)
    (fun _ hq => call_meets F.slot_dict_eq_refl ⟨_, ho, rfl⟩ F.entry_dict_eq (F.args_dict_eq_2 _ _) (dict_decl_tup l t es ep n2 items dd dd2 sl sl2) ⟨ho, ho2, hq⟩)
    (fun _ hq => SeqAt.wpAny_isSame_ref_other' hne ho2 ho (by simp) hq) (.inr hu) h)
end
def rEqPlain (K : PySem.W.Frag) : R2 := fun x y H Q => (x = .non ∨ (∃ i, x = .int i) ∨ ∃ t ts, x = .ref t /\ SqT K H t ts) /\ (∃ a, y = .ref a /\ ((∃ xs, SqL K H a xs) ∨ ∃ o kvs, H a = some (.frz o (.dT kvs)))) /\ Q (.bl false) H
theorem op_eqPlain {X : Cx} (hu : X.A.units + 64 < cLine) : OpR X (compareOp .Eq) (rEqPlain X.K) := by
  intro pins s σ H x y v u Q I rx ry h
  obtain ⟨hx, ⟨a, rfl, hy⟩, q⟩ := h
  cases ry
  have hu' : X.A.units < cLine := by omega
  have fin : SeqAt.RcAt X.A s v (.ref a) false := by
    rcases hy with ⟨xs, hs⟩ | ⟨o, kvs, hk⟩
    · obtain ⟨its, rv, p, _⟩ := I.list hs
      rcases hx with rfl | ⟨i, rfl⟩ | ⟨t, ts, rfl, ht⟩
      · cases rx; exact .none_list p.isList hu'
      · obtain ⟨tk, rfl⟩ := rx; exact .int_list i tk p.isList hu'
      · cases rx
        obtain ⟨its2, rv2, p2, _⟩ := I.tuple ht
        exact .tuple_list p2 p.isList hu'
    · obtain ⟨_, hg, hx', es, ep, hdt, _, _⟩ := I.frzT hk
      rcases hx with rfl | ⟨i, rfl⟩ | ⟨t, ts, rfl, ht⟩
      · cases rx; exact rc_none_dict hg hx' hdt hu'
      · obtain ⟨tk, rfl⟩ := rx; exact rc_int_dict i tk hg hx' hdt hu'
      · cases rx
        obtain ⟨its2, rv2, p2, _⟩ := I.tuple ht
        exact rc_tup_dict p2 hg hx' hdt hu'
  exact fin _ _ _ _ ⟨.bl false, H, I, rfl, q⟩
theorem meets_len_raw {P : Program} {w : World} {d : Addr} (hd : (d == sysModules) = false) :
    MeetsIn P w (Builtin.«dict.__len__» ⟨[.ref d], []⟩) (fun _ R s => ∃ (o : Obj) (es : Array DictEntry) (ep : Nat), s.heap.get? d = some o /\ o.data = .dict es ep /\ R (.ok (.ret (.int es.size s.toks))) { s with toks := s.toks + 1 }) :=
  .of_wp fun A R s ⟨o, es, ep, ho, hdat, h⟩ => by
    show wpAny _ _ (dictSize d >>= _) _ _ s
    unfold dictSize
    refine wpAny_bind (wpAny_bind (wpAny_dictEntries ho hdat (wpAny_pure ?_)))
    show wpAny _ _ (Builtin.Dict.pendingCount d >>= _) _ _ s
    refine wpAny_bind (wpAny_pendingCount_other hd ?_)
    refine wpAny_ret_mkInt ?_
    rw [Nat.add_zero]; exact h
theorem call_len_raw {P : Program} {w : World} {A : Around} {E : Value -> Shared -> Prop} {s : Shared} {d : Addr} {o : Obj} {es : Array DictEntry} {ep : Nat} {Q : Value -> Shared -> Prop} (hd : (d == sysModules) = false) (ho : s.heap.get? d = some o) (hx : o.ExactDict) (hdat : o.data = .dict es ep) (hfit : (es.size : Int) < 2 ^ 63)
    (h : Q (.int es.size (s.toks + 1)) { s with toks := s.toks + 1 + 1 }) : wpAny (model P w) A (call (.builtin "len") [.ref d]) Q E s := by
  have ht : s.TypeIs (.ref d) "dict" := ⟨o, ho, hx.1⟩
  refine Calls.call_function_entry kind_len plain_len entry_len (args_len1 _) ?_
  unfold Builtin.«len»
  refine wpAny_bind (m := oneArg "len" _) (wpAny_pure ?_)
  refine wpAny_bind (m := callSpecial? (.ref d) (Str.ofString "__len__")) (wpAny_callSpecial?_slot (name := Str.ofString "__len__") ht F.slot_dict_len
    (call_meetsIn F.slot_dict_len ht F.entry_dict_len (F.args_dict_len_1 _) (meets_len_raw hd) ⟨o, es, ep, ho, hdat, ?_⟩))
  show wpAny _ _ _ _ _ { s with toks := s.toks + 1 }
  refine wpAny_bind (wpAny_holding (wpAny_pure ?_))
  refine wpAny_bind (wpAny_letGo ?_)
  show wpAny _ _ (if ((es.size : Nat) : Int) < 0 then _ else _) _ _ _
  rw [if_neg (by omega)]
  show wpAny _ _ (if ((es.size : Nat) : Int) ≥ 2 ^ 63 then _ else _) _ _ _
  rw [if_neg (by omega)]
  exact wpAny_bind (wpAny_mkInt (wpAny_pure ⟨_, rfl, h⟩))
theorem call_lenT {X : Cx} : CallR X (.builtin "len") (fun xs H Q => ∃ a kvs, xs = [V.ref a] /\ Rd H a (.dT kvs) /\ Q (.int kvs.length) H) := by
  intro pins s σ H xs us Q I r h
  obtain ⟨a, kvs, rfl, ha, q⟩ := h
  obtain ⟨u, rfl, ru⟩ := vals1 r
  cases ru
  obtain ⟨z, hs, xs, pr, o, es, ep, ho, hx, hdt, he, _⟩ := ha.ok I.hok
  have hl : es.size = kvs.length := by
    have := congrArg List.length he
    rw [List.length_map, ← Paired.length pr] at this
    simpa using this
  refine call_len_raw hs ho hx hdt (by rw [hl]; rw [sizeLine_eq] at z; omega) ?_
  rw [hl]
  exact ⟨.int kvs.length, H, I.tok _, ⟨_, rfl⟩, q⟩
theorem for_keysT {d : Addr} {o : Obj} {kvs : List (List Key × V)} {g : TG} {tb : TS} {D : Ends} {σ : L2.St} {H : Hp} (Pv : Nat -> L2.St -> Hp -> Prop) (h0 : Pv 0 σ H) (hl : ∀ i σ H, i <= kvs.length -> Pv i σ H -> H d = some (.frz o (.dT kvs)))
    (hs : ∀ i k x q σ H, kvs[i]? = some (k, x) -> H q = some (.tup (k.map kV)) -> Pv i σ H -> g (.ref q) σ H fun σ2 H2 => tb { D with nx := Pv (i + 1), ct := Pv (i + 1), bk := D.nx } σ2 H2) (hd : ∀ σ H, Pv kvs.length σ H -> D.nx σ H) :
    ∃ W : Nat -> Nat -> L2.St -> Hp -> Prop, (∃ m, W 0 m σ H) /\ ∀ i m σ H, W i m σ H ->
      ((Itkt d o kvs).stop i H /\ D.nx σ H) ∨ ((Itkt d o kvs).go i H /\ ∃ N : L2.St -> Hp -> Prop, (∀ σ' H', N σ' H' -> ∃ m', m' < m /\ W (i + 1) m' σ' H') /\ ∀ x H', (Itkt d o kvs).yld i H x H' -> g x σ H' fun σ2 H2 => tb { D with nx := N, ct := N, bk := D.nx } σ2 H2) := by
  refine ⟨fun i m σ H => m = kvs.length - i /\ i <= kvs.length /\ Pv i σ H, ⟨kvs.length, by simp, Nat.zero_le _, h0⟩, ?_⟩
  rintro i m σ H ⟨rfl, hi, p⟩
  by_cases hlt : i < kvs.length
  · refine .inr ⟨⟨hl i σ H hi p, hlt⟩, Pv (i + 1), fun σ' H' h => ⟨kvs.length - (i + 1), by omega, rfl, hlt, h⟩, ?_⟩
    rintro x H' ⟨rfl, k, v, q, hk, rfl, hq⟩
    exact hs i k v q σ H' hk hq p
  · have e : i = kvs.length := by omega
    subst e
    exact .inl ⟨⟨hl _ σ H hi p, Nat.le_refl _⟩, hd σ H p⟩
theorem for_zip {K : PySem.W.Frag} {a b : Addr} {xs ys : List V} {g : TG} {tb : TS} {D : Ends} {σ : L2.St} {H : Hp} (he : xs.length = ys.length) (Pv : Nat -> L2.St -> Hp -> Prop) (h0 : Pv 0 σ H) (hl : ∀ i σ H, i <= xs.length -> Pv i σ H -> SqL K H a xs /\ SqL K H b ys)
    (hs : ∀ i x y T σ H, xs[i]? = some x -> ys[i]? = some y -> H T = Option.none -> Pv i σ H -> g (.ref T) σ (upd H T (.tup [x, y])) fun σ2 H2 => tb { D with nx := Pv (i + 1), ct := Pv (i + 1), bk := D.nx } σ2 H2) (hd : ∀ σ H, Pv xs.length σ H -> D.nx σ H) :
    ∃ W : Nat -> Nat -> L2.St -> Hp -> Prop, (∃ m, W 0 m σ H) /\ ∀ i m σ H, W i m σ H ->
      ((Itz K a b).stop i H /\ D.nx σ H) ∨ ((Itz K a b).go i H /\ ∃ N : L2.St -> Hp -> Prop, (∀ σ' H', N σ' H' -> ∃ m', m' < m /\ W (i + 1) m' σ' H') /\ ∀ x H', (Itz K a b).yld i H x H' -> g x σ H' fun σ2 H2 => tb { D with nx := N, ct := N, bk := D.nx } σ2 H2) := by
  refine ⟨fun i m σ H => m = xs.length - i /\ i <= xs.length /\ Pv i σ H, ⟨xs.length, by simp, Nat.zero_le _, h0⟩, ?_⟩
  rintro i m σ H ⟨rfl, hi, p⟩
  obtain ⟨l1, l2⟩ := hl i σ H hi p
  by_cases hlt : i < xs.length
  · have e1 : xs[i]? = some xs[i] := List.getElem?_eq_getElem hlt
    have e2 : ys[i]? = some ys[i] := List.getElem?_eq_getElem (by omega)
    refine .inr ⟨⟨xs, ys, _, _, l1, l2, e1, e2⟩, Pv (i + 1), fun σ' H' h => ⟨xs.length - (i + 1), by omega, rfl, hlt, h⟩, ?_⟩
    rintro z H' ⟨T, x, y, rfl, hT, rfl, f1, f2⟩
    exact hs i x y T σ H (f1 _ l1) (f2 _ l2) hT p
  · have e : i = xs.length := by omega
    subst e
    exact .inl ⟨⟨xs, ys, l1, l2, .inl (Nat.le_refl _)⟩, hd σ H p⟩
end L2
set_option Elab.async false
set_option linter.all false
set_option maxRecDepth 100000
set_option maxHeartbeats 4000000
namespace Mt
open Sn77
theorem sames_iff : ∀ (a b : Vs), sames a b = true ↔ a.toList.length = b.toList.length /\ ∀ (j : Nat) (x y : V), a.toList[j]? = some x -> b.toList[j]? = some y -> same x y = true
  | .nil, .nil => by simp [sames, Vs.toList]
  | .nil, .cons b s => by simp [sames, Vs.toList]
  | .cons a r, .nil => by simp [sames, Vs.toList]
  | .cons a r, .cons b s => by
    rw [sames, Bool.and_eq_true, sames_iff r s]
    simp only [Vs.toList, List.length_cons]
    constructor
    · rintro ⟨h, h1, h2⟩
      refine ⟨by omega, fun j x y e1 e2 => ?_⟩
      cases j with
      | zero => simp only [List.getElem?_cons_zero, Option.some.injEq] at e1 e2; subst e1 e2; exact h
      | succ j => exact h2 j x y (by simpa using e1) (by simpa using e2)
    · rintro ⟨h1, h2⟩
      exact ⟨h2 0 a b rfl rfl, by omega, fun j x y e1 e2 => h2 (j + 1) x y (by simpa using e1) (by simpa using e2)⟩
theorem within_iff (b : Ms) : ∀ (a : Ms), within a b = true ↔ ∀ x ∈ a.toList, ∃ w, b.find x.1 = some w /\ same x.2 w = true
  | .nil => by simp [within, Ms.toList]
  | .cons n v r => by
    rw [within, Bool.and_eq_true, within_iff b r]
    simp only [Ms.toList, List.mem_cons, forall_eq_or_imp]
    refine and_congr ?_ Iff.rfl
    cases e : b.find n with
    | none => simp
    | some w => simp
end Mt
namespace Pw
open PySem PySem.Spec PyProof.Rows L2
structure Kit3 (K : PySem.W.Frag) : Prop where
  k : Kit2 K
  bn : PySem.W.kitOne K (.type "NoneType") (.type "bool") = some false
  bb : PySem.W.kitOne K (.type "bool") (.type "bool") = some true
  bi : PySem.W.kitOne K (.type "int") (.type "bool") = some false
  bt : PySem.W.kitOne K (.type "tuple") (.type "bool") = some false
  bl : PySem.W.kitOne K (.type "list") (.type "bool") = some false
  bd : PySem.W.kitOne K (.type "dict") (.type "bool") = some false
section
variable {P : Program} {w : World} {K : PySem.W.Frag} {mg : Str -> Option Value} {base : Heap} {f : Addr} {fd : FuncData} {CV : Addr}
def isB : Sn77.V -> Bool
  | .bool _ => true
  | _ => false
theorem repC_b {H : Hp} {v : Sn77.V} {c : V} (kt : Kit3 K) (h : RepC CV H v c) : ∃ t, TyOfF K H c t /\ PySem.W.kitOne K t (.type "bool") = some (isB v) := by
  cases v with
  | null => rw [RepC] at h; subst h; exact ⟨_, .of .non, kt.bn⟩
  | bool b => rw [RepC] at h; subst h; exact ⟨_, .of (.bl b), kt.bb⟩
  | int z => rw [RepC] at h; obtain ⟨rfl, _⟩ := h; exact ⟨_, .of (.int z), kt.bi⟩
  | str s => rw [RepC] at h; obtain ⟨t, rfl, h1⟩ := h; exact ⟨_, .of (.tup h1), kt.bt⟩
  | list l => rw [RepC] at h; obtain ⟨p, o, xs, rfl, h1, _⟩ := h; exact ⟨_, .of (.frz h1), kt.bl⟩
  | obj m => rw [RepC] at h; obtain ⟨p, o, xs, rfl, h1, _⟩ := h; exact ⟨_, .fdT h1, kt.bd⟩
theorem boot_bool1 : bootBuiltins "bool" = some (.type "bool") := by decide +kernel
def rEqAll (K : PySem.W.Frag) : R2 := fun x y H Q => rEqD K x y H Q ∨ rEqPlain K x y H Q
theorem op_eqAll {X : Cx} (hu : X.A.units + 64 < cLine) : OpR X (compareOp .Eq) (rEqAll X.K) := by
  intro pins s σ H x y v u Q I rx ry h
  rcases h with h | h
  · exact op_eqD hu pins s σ H x y v u Q I rx ry h
  · exact op_eqPlain hu pins s σ H x y v u Q I rx ry h
theorem hu64 {A : Around} {k : Nat} (hr : Room k A) : A.units + 64 < cLine := hr.units
theorem shaped_tup (l : List Nat) : SeqAt.shaped (.tuple (l.map fun c => .int (c : Nat))) = true := shaped_ints l
theorem dp_tup {H : Hp} {t : Addr} {l : List Nat} (h : SqT K H t (bV l)) : Dp K H (.ref t) (.tuple (l.map fun c => .int (c : Nat))) := by
  refine .tup h ?_
  clear h
  induction l with
  | nil => exact .nil
  | cons c r ih => exact .cons (.int _) ih
def datOf : Sn77.V -> PyData
  | .null => .none
  | .bool b => .bool b
  | .int z => .int z
  | .str s => .tuple (s.map fun c => .int (c : Nat))
  | _ => .none
theorem dat_dp {H : Hp} {v : Sn77.V} {c : V} (h : RepC CV H v c) (nl : ∀ l, v ≠ .list l) (nm : ∀ m, v ≠ .obj m) : Dp K H c (datOf v) /\ SeqAt.shaped (datOf v) = true := by
  cases v with
  | null => rw [RepC] at h; subst h; exact ⟨.non, rfl⟩
  | bool b => rw [RepC] at h; subst h; exact ⟨.bl b, rfl⟩
  | int z => rw [RepC] at h; obtain ⟨rfl, _⟩ := h; exact ⟨.int z, rfl⟩
  | str s => rw [RepC] at h; obtain ⟨t, rfl, h1⟩ := h; exact ⟨dp_tup (SqT.of h1), shaped_tup s⟩
  | list l => exact absurd rfl (nl l)
  | obj m => exact absurd rfl (nm m)
def spSamePlain (CV : Addr) : Sp := fun vs H Q _ => ∃ (c1 c2 : V) (v u : Sn77.V), vs = [c1, c2] /\ RepC CV H v c1 /\ RepC CV H u c2 /\ (∀ l, v ≠ .list l) /\ (∀ m, v ≠ .obj m) /\ Q (.bl (Sn77.same v u)) H
theorem sc_is_same_plain : FnScope ["one", "other"] ["one", "other"] (defScope s_is_same_plain) := ⟨rfl, rfl, rfl, by decide +kernel, rfl, by decide +kernel, by decide +kernel⟩
theorem ok_is_same_plain (F : Fun K "is_same_plain" "is_same_plain" s_is_same_plain f fd) (kt : Kit3 K) (mi : mg "isinstance" = Option.none) (mb : mg "bool" = Option.none) : FnOk P w K mg base CX0 1 f fd ["one", "other"] (spSamePlain CV) := by
  refine F.ok sc_is_same_plain (fun vs H Q E h => ?_) (fun cdv A outer s H vs Q E hr h => ?_)
  · obtain ⟨c1, c2, v, u, rfl, _⟩ := h
    rfl
  obtain ⟨c1, c2, v, u, rfl, h1, h2, nl, nm, q⟩ := h
  obtain ⟨t1, ty1, k1⟩ := repC_b kt h1
  obtain ⟨t2, ty2, k2⟩ := repC_b kt h2
  refine ⟨_, pss_one (ps_ret (pe_and (pe_cmpR op_eq (pe_callB (call_isinstF (T := "bool")) rfl mi PyProof.Rows.boot_isinstance (pa_cons (pv 0) (pa_cons (pe_bltn (v := .ty "bool") rfl mb boot_bool1 rfl) pa_nil)))
    (pe_callB (call_isinstF (T := "bool")) rfl mi PyProof.Rows.boot_isinstance (pa_cons (pv 1) (pa_cons (pe_bltn (v := .ty "bool") rfl mb boot_bool1 rfl) pa_nil))) (nomark _)) (pe_one (pe_cmpR (op_eqAll (hu64 hr)) (pv 0) (pv 1) (nomark _))))), ?_⟩
  refine ⟨_, rfl, c1, t1, _, rfl, ty1, k1, _, rfl, c2, t2, _, rfl, ty2, k2, rfl, _, rfl, ?_⟩
  by_cases hb : isB v = isB u
  · rw [decide_eq_true (by rw [hb])]
    refine iteT ⟨_, rfl, _, rfl, ?_⟩
    obtain ⟨d1, s1⟩ := dat_dp (K := K) h1 nl nm
    by_cases hc : (∀ l, u ≠ .list l) /\ ∀ m, u ≠ .obj m
    · obtain ⟨d2, s2⟩ := dat_dp (K := K) h2 hc.1 hc.2
      refine .inl ⟨_, _, d1, d2, s1, s2, ?_⟩
      have e : PyData.eqv (datOf v) (datOf u) = Sn77.same v u := by
        cases v with
        | null => cases u <;> first | rfl | (exact absurd rfl (hc.1 _)) | (exact absurd rfl (hc.2 _)) | (cases hb)
        | bool b => cases u <;> first | rfl | (exact absurd rfl (hc.1 _)) | (exact absurd rfl (hc.2 _)) | (cases hb)
        | int z => cases u <;> first | rfl | (exact absurd rfl (hc.1 _)) | (exact absurd rfl (hc.2 _)) | (cases hb)
        | str s =>
          cases u with
          | str s' =>
            show PyData.eqvAll _ _ = Sn77.same (.str s) (.str s')
            rw [eqv_ints, Sn77.same, Bool.eq_iff_iff]
            simp
          | list l => exact absurd rfl (hc.1 _)
          | obj l => exact absurd rfl (hc.2 _)
          | _ => rfl
        | list l => exact absurd rfl (nl l)
        | obj m => exact absurd rfl (nm m)
      rw [e]
      exact q
    · have hf : Sn77.same v u = false := by
        cases u with
        | list l => cases v <;> first | (exact absurd rfl (nl _)) | (rw [Sn77.same] <;> intros <;> simp_all)
        | obj l => cases v <;> first | (exact absurd rfl (nm _)) | (rw [Sn77.same] <;> intros <;> simp_all)
        | _ => exact absurd ⟨(fun _ z => nomatch z), (fun _ z => nomatch z)⟩ hc
      rw [hf] at q
      refine .inr ⟨?_, ?_, q⟩
      · cases v with
        | null => rw [RepC] at h1; exact .inl h1
        | bool b =>
          cases u with
          | bool c => exact absurd ⟨(fun _ z => nomatch z), (fun _ z => nomatch z)⟩ hc
          | _ => cases hb
        | int z => rw [RepC] at h1; exact .inr (.inl ⟨z, h1.1⟩)
        | str s => rw [RepC] at h1; obtain ⟨t, e, ht⟩ := h1; exact .inr (.inr ⟨t, _, e, SqT.of ht⟩)
        | list l => exact absurd rfl (nl l)
        | obj m => exact absurd rfl (nm m)
      · cases u with
        | list l => rw [RepC] at h2; obtain ⟨p, o, xs, e, hp, _⟩ := h2; exact ⟨p, e, .inl ⟨xs, .inl (.inr ⟨o, hp⟩)⟩⟩
        | obj m => rw [RepC] at h2; obtain ⟨p, o, xs, e, hp, _⟩ := h2; exact ⟨p, e, .inr ⟨o, xs, hp⟩⟩
        | _ => exact absurd ⟨(fun _ z => nomatch z), (fun _ z => nomatch z)⟩ hc
  · rw [decide_eq_false (fun z => hb (V.bl.inj z))]
    refine iteF ?_
    have hf : Sn77.same v u = false := by
      cases v with
      | bool b => cases u <;> first | rfl | (exact absurd rfl hb)
      | list l => exact absurd rfl (nl l)
      | obj m => exact absurd rfl (nm m)
      | null => cases u <;> first | rfl | (exact absurd rfl hb)
      | int z => cases u <;> first | rfl | (exact absurd rfl hb)
      | str z => cases u <;> first | rfl | (exact absurd rfl hb)
    rw [hf] at q
    exact q
def spSame (CV : Addr) (d : Nat) : Sp := fun vs H Q _ => ∃ (a b : Addr) (v u : Sn77.V), vs = [.ref a, .ref b] /\ RepV CV H v a /\ RepV CV H u b /\ Sn77.deep v <= d /\ ∀ H', Same H H' -> Q (.bl (Sn77.same v u)) H'
def spSameL (CV : Addr) (d : Nat) : Sp := fun vs H Q _ => ∃ (p p' : Addr) (o o' : Obj) (xs ys : List V) (l l' : Sn77.Vs), vs = [.ref p, .ref p'] /\ H p = some (.frz o (.lst xs)) /\ H p' = some (.frz o' (.lst ys)) /\ RepL CV H l xs /\ RepL CV H l' ys /\ Sn77.deeps l + 1 <= d /\ ∀ H', Same H H' -> Q (.bl (Sn77.sames l l')) H'
def spSameM (CV : Addr) (d : Nat) : Sp := fun vs H Q _ => ∃ (p p' : Addr) (o o' : Obj) (xs ys : List (List Key × V)) (m m' : Sn77.Ms), vs = [.ref p, .ref p'] /\ H p = some (.frz o (.dT xs)) /\ H p' = some (.frz o' (.dT ys)) /\ RepM CV H m xs /\ RepM CV H m' ys /\ Nd m /\ Sn77.deepest m + 1 <= d /\ ∀ H', Same H H' -> Q (.bl (Sn77.same (.obj m) (.obj m'))) H'
theorem sc_are_same_lists : FnScope ["one", "other", "item", "other_item"] ["one", "other"] (defScope s_are_same_lists) := ⟨rfl, rfl, rfl, by decide +kernel, rfl, by decide +kernel, by decide +kernel⟩
theorem ok_are_same_lists0 {k : Nat} (F : Fun K "are_same_lists" "are_same_lists" s_are_same_lists f fd) : FnOk P w K mg base CX0 (k + 1) f fd ["one", "other"] (spSameL CV 0) := by
  refine F.ok sc_are_same_lists (fun vs H Q E h => ?_) (fun cdv A outer s H vs Q E hr h => ?_)
  · obtain ⟨p, p', o, o', xs, ys, l, l', rfl, _⟩ := h
    rfl
  obtain ⟨p, p', o, o', xs, ys, l, l', rfl, _, _, _, _, h, _⟩ := h
  omega
theorem ok_are_same_lists {d k : Nat} (F : Fun K "are_same_lists" "are_same_lists" s_are_same_lists f fd) (mn : mg "len" = Option.none) (mz : mg "zip" = Option.none) (is : DefOk P w K mg base CX0 k "is_same" ["one", "other"] (spSame CV d)) : FnOk P w K mg base CX0 (k + 1) f fd ["one", "other"] (spSameL CV (d + 1)) := by
  refine F.ok sc_are_same_lists (fun vs H Q E h => ?_) (fun cdv A outer s H vs Q E hr h => ?_)
  · obtain ⟨p, p', o, o', xs, ys, l, l', rfl, _⟩ := h
    rfl
  obtain ⟨p, p', o, o', xs, ys, l, l', rfl, hp, hp', rep, rep', hd, q⟩ := h
  have nd := sc_are_same_lists.nd
  refine ⟨_, pss_cons (ps_if (pt_cmpR op_ne (pe_callB call_len_seq rfl mn PySem.boot_len (pa_cons (pv 0) pa_nil)) (pe_callB call_len_seq rfl mn PySem.boot_len (pa_cons (pv 1) pa_nil)) (nomark _)) (pss_one (ps_ret pe_bl)) pss_nil)
    (pss_cons (ps_for PassesOwn.never rfl (pi_zip rfl mz (pa_cons (pv 0) (pa_cons (pv 1) pa_nil))) (pg_tup rfl (pgs_cons (pg_name (i := 2) nd rfl (Or.inl rfl)) (pgs_cons (pg_name (i := 3) nd rfl (Or.inl rfl)) pgs_nil)))
      (pss_one (ps_if (pt_not (pt_val (pe_callD is hr pass0 (pa_cons (pv 2) (pa_cons (pv 3) pa_nil))))) (pss_one (ps_ret pe_bl)) pss_nil)))
    (pss_one (ps_ret pe_bl))), ?_⟩
  have l1 := repL_len rep
  have l2 := repL_len rep'
  refine ⟨_, rfl, p, _, rfl, .inl (.inl (.inr ⟨o, hp⟩)), _, rfl, p', _, rfl, .inl (.inl (.inr ⟨o', hp'⟩)), rfl, _, rfl, ?_⟩
  by_cases he : xs.length = ys.length
  · rw [decide_eq_true (by rw [he])]
    refine iteF ?_
    refine ⟨_, rfl, _, rfl, p, p', xs, ys, rfl, .inl (.inr ⟨o, hp⟩), .inl (.inr ⟨o', hp'⟩), for_zip he (fun i σ H' => (∃ v2 v3 : Option V, σ = [some (.ref p), some (.ref p'), v2, v3]) /\ Same H H' /\ ∀ (j : Nat) (x y : Sn77.V), j < i -> l.toList[j]? = some x -> l'.toList[j]? = some y -> Sn77.same x y = true)
      ⟨⟨_, _, rfl⟩, .refl H, fun j x y z => absurd z (Nat.not_lt_zero _)⟩ (fun i σ H' _ ⟨_, s1, _⟩ => ⟨.inl (.inr ⟨o, s1 _ _ hp⟩), .inl (.inr ⟨o', s1 _ _ hp'⟩)⟩) ?_ ?_⟩
    · rintro i x y T σ H' hx hy hT ⟨⟨v2, v3, rfl⟩, s1, all⟩
      obtain ⟨v, a, e1, rfl, r1⟩ := repL_at rep hx
      obtain ⟨u, b, e2, rfl, r2⟩ := repL_at rep' hy
      have sT : Same H (L2.upd H' T (.tup [.ref a, .ref b])) := s1.trans (Same.upd hT _)
      have hdv : Sn77.deep v <= d := by
        have := Mt.deeps_le l v (List.mem_of_getElem? e1)
        omega
      refine ⟨T, _, rfl, SqT.of upd_same, rfl, _, _, rfl, _, _, rfl, rfl, ?_⟩
      refine ⟨_, rfl, _, rfl, a, b, v, u, rfl, r1.sol (Sol.of sT), r2.sol (Sol.of sT), hdv, fun H2 s2 => ⟨_, rfl, ?_⟩⟩
      cases hs : Sn77.same v u with
      | true =>
        refine iteF ⟨⟨_, _, rfl⟩, sT.trans s2, fun j x y hj ex ey => ?_⟩
        by_cases hji : j < i
        · exact all j x y hji ex ey
        · have : j = i := by omega
          subst this
          rw [e1] at ex
          rw [e2] at ey
          cases ex
          cases ey
          exact hs
      | false =>
        refine iteT ?_
        have hf : Sn77.sames l l' = false := by
          rw [Bool.eq_false_iff]
          intro z
          have := ((Mt.sames_iff l l').mp z).2 i v u e1 e2
          rw [hs] at this
          cases this
        have := q H2 (sT.trans s2)
        rw [hf] at this
        exact this
    · rintro σ H' ⟨_, s1, all⟩
      have ht : Sn77.sames l l' = true := (Mt.sames_iff l l').mpr ⟨by omega, fun j x y ex ey => all j x y (by have := (List.getElem?_eq_some_iff.mp ex).1; omega) ex ey⟩
      have := q H' s1
      rw [ht] at this
      exact this
  · rw [decide_eq_false (fun z => he (by have := V.int.inj z; omega))]
    refine iteT ?_
    have hf : Sn77.sames l l' = false := by
      rw [Bool.eq_false_iff]
      intro z
      have := ((Mt.sames_iff l l').mp z).1
      omega
    have := q H (.refl H)
    rw [hf] at this
    exact this
end
end Pw
set_option Elab.async false
set_option linter.all false
set_option maxRecDepth 100000
set_option maxHeartbeats 4000000
namespace Pw
open PySem PySem.Spec PyProof.Rows L2
section
variable {P : Program} {w : World} {K : PySem.W.Frag} {mg : Str -> Option Value} {base : Heap} {f : Addr} {fd : FuncData} {CV : Addr}
theorem sc_are_same_members : FnScope ["one", "other", "name"] ["one", "other"] (defScope s_are_same_members) := ⟨rfl, rfl, rfl, by decide +kernel, rfl, by decide +kernel, by decide +kernel⟩
theorem ok_are_same_members0 {k : Nat} (F : Fun K "are_same_members" "are_same_members" s_are_same_members f fd) : FnOk P w K mg base CX0 (k + 1) f fd ["one", "other"] (spSameM CV 0) := by
  refine F.ok sc_are_same_members (fun vs H Q E h => ?_) (fun cdv A outer s H vs Q E hr h => ?_)
  · obtain ⟨p, p', o, o', xs, ys, l, l', rfl, _⟩ := h
    rfl
  obtain ⟨p, p', o, o', xs, ys, l, l', rfl, _, _, _, _, _, h, _⟩ := h
  omega
theorem ok_are_same_members {d k : Nat} (F : Fun K "are_same_members" "are_same_members" s_are_same_members f fd) (mn : mg "len" = Option.none) (is : DefOk P w K mg base CX0 k "is_same" ["one", "other"] (spSame CV d)) : FnOk P w K mg base CX0 (k + 1) f fd ["one", "other"] (spSameM CV (d + 1)) := by
  refine F.ok sc_are_same_members (fun vs H Q E h => ?_) (fun cdv A outer s H vs Q E hr h => ?_)
  · obtain ⟨p, p', o, o', xs, ys, l, l', rfl, _⟩ := h
    rfl
  obtain ⟨p, p', o, o', xs, ys, m, m', rfl, hp, hp', rep, rep', hnd, hd, q⟩ := h
  have nd := sc_are_same_members.nd
  have hu := hu_of hr
  refine ⟨_, pss_cons (ps_if (pt_cmpR op_ne (pe_callB call_lenT rfl mn PySem.boot_len (pa_cons (pv 0) pa_nil)) (pe_callB call_lenT rfl mn PySem.boot_len (pa_cons (pv 1) pa_nil)) (nomark _)) (pss_one (ps_ret pe_bl)) pss_nil)
    (pss_cons (ps_for PassesOwn.never rfl (pi_keys (pv 0)) (pg_name (i := 2) nd rfl (Or.inl rfl))
      (pss_one (ps_if (PW.pt (pw_or (pt_cmp (pc_dnotin hu (pv 2) (pv 1))) (pw_or1 (pt_not (pt_val (pe_callD is hr pass0 (pa_cons (pe_dget hu (pv 0) (pv 2) (fun _ _ => rfl)) (pa_cons (pe_dget hu (pv 1) (pv 2) (fun _ _ => rfl)) pa_nil)))))))) (pss_one (ps_ret pe_bl)) pss_nil)))
    (pss_one (ps_ret pe_bl))), ?_⟩
  have l1 := repM_len rep
  have l2 := repM_len rep'
  refine ⟨_, rfl, p, _, rfl, .inr ⟨o, hp⟩, _, rfl, p', _, rfl, .inr ⟨o', hp'⟩, rfl, _, rfl, ?_⟩
  have fals : Sn77.same (.obj m) (.obj m') = false -> ∀ H', Same H H' -> Q (.bl false) H' := fun e H' s1 => by
    have := q H' s1
    rw [e] at this
    exact this
  by_cases he : xs.length = ys.length
  · rw [decide_eq_true (by rw [he])]
    refine iteF ?_
    have hwi : Sn77.same (.obj m) (.obj m') = Sn77.within m m' := by
      rw [Sn77.same]
      rw [show (m.toList.length == m'.toList.length) = true from by rw [beq_iff_eq]; omega, Bool.true_and]
    refine ⟨_, rfl, p, o, rfl, .inr ⟨xs, hp, for_keysT (fun i σ H' => (∃ v2 : Option V, σ = [some (.ref p), some (.ref p'), v2]) /\ Same H H' /\ ∀ (j : Nat) (x : List Nat × Sn77.V), j < i -> m.toList[j]? = some x -> ∃ w, m'.find x.1 = some w /\ Sn77.same x.2 w = true)
      ⟨⟨_, rfl⟩, .refl H, fun j x z => absurd z (Nat.not_lt_zero _)⟩ (fun i σ H' _ ⟨_, s1, _⟩ => s1 _ _ hp) ?_ ?_⟩⟩
    · rintro i kk x t σ H' hx ht ⟨⟨v2, rfl⟩, s1, all⟩
      obtain ⟨v, a, e1, h0, h2, r1⟩ := repM_at rep hx
      have h0 : kk = keyN v.1 := h0
      have h2 : x = .ref a := h2
      subst h0 h2
      have hval : valV xs (keyN v.1) = some (.ref a) := repM_nd (repM_iff.mp rep) hnd i _ hx
      have hdv : Sn77.deep v.2 <= d := by
        have := Mt.deepest_le m v (List.mem_of_getElem? e1)
        omega
      obtain ⟨f1, f2⟩ := find_val rep' v.1
      refine ⟨_, rfl, _, rfl, p', _, rfl, .inr ⟨ys, keyN v.1, t, .inr ⟨o', s1 _ _ hp'⟩, rfl, ht, rfl⟩, _, rfl, ?_⟩
      cases hf : m'.find v.1 with
      | none =>
        rw [f2 hf]
        refine iteT (iteT ?_)
        refine fals ?_ H' s1
        rw [hwi, Bool.eq_false_iff]
        intro z
        obtain ⟨w', z1, _⟩ := (Mt.within_iff m' m).mp z v (List.mem_of_getElem? e1)
        rw [hf] at z1
        cases z1
      | some u =>
        obtain ⟨b, hb, r2⟩ := f1 u hf
        rw [hb]
        refine iteF ⟨_, rfl, _, rfl, p, _, rfl, .inr ⟨xs, keyN v.1, t, .inr ⟨o, s1 _ _ hp⟩, rfl, ht, hval.symm⟩, _, rfl, _, rfl, p', _, rfl, .inr ⟨ys, keyN v.1, t, .inr ⟨o', s1 _ _ hp'⟩, rfl, ht, hb.symm⟩, a, b, v.2, u, rfl, r1.sol (Sol.of s1), r2.sol (Sol.of s1), hdv, fun H2 s2 => ⟨_, rfl, ?_⟩⟩
        cases hs : Sn77.same v.2 u with
        | true =>
          refine iteF ⟨⟨_, rfl⟩, s1.trans s2, fun j x hj ex => ?_⟩
          by_cases hji : j < i
          · exact all j x hji ex
          · have : j = i := by omega
            subst this
            rw [e1] at ex
            cases ex
            exact ⟨u, hf, hs⟩
        | false =>
          refine iteT (fals ?_ H2 (s1.trans s2))
          rw [hwi, Bool.eq_false_iff]
          intro z
          obtain ⟨w', z1, z2⟩ := (Mt.within_iff m' m).mp z v (List.mem_of_getElem? e1)
          rw [hf] at z1
          cases z1
          rw [hs] at z2
          cases z2
    · rintro σ H' ⟨_, s1, all⟩
      have ht : Sn77.same (.obj m) (.obj m') = true := by
        rw [hwi, Mt.within_iff]
        intro x hx
        obtain ⟨j, hj, e⟩ := List.getElem_of_mem hx
        exact all j x (by omega) (by rw [← e]; exact List.getElem?_eq_getElem hj)
      have := q H' s1
      rw [ht] at this
      exact this
  · rw [decide_eq_false (fun z => he (by have := V.int.inj z; omega))]
    refine iteT (fals ?_ H (.refl H))
    rw [Sn77.same, show (m.toList.length == m'.toList.length) = false from by rw [beq_eq_false_iff_ne]; omega, Bool.false_and]
theorem sc_is_same : FnScope ["one", "other"] ["one", "other"] (defScope s_is_same) := ⟨rfl, rfl, rfl, by decide +kernel, rfl, by decide +kernel, by decide +kernel⟩
theorem ok_is_same {d k : Nat} (hk : 2 <= k) (F : Fun K "is_same" "is_same" s_is_same f fd) (T : VTxt K CV) (kt : Kit2 K) (mi : mg "isinstance" = Option.none) (md : mg "dict" = Option.none) (ml : mg "list" = Option.none)
    (sm : DefOk P w K mg base CX0 k "are_same_members" ["one", "other"] (spSameM CV d)) (sl : DefOk P w K mg base CX0 k "are_same_lists" ["one", "other"] (spSameL CV d)) (sp : DefOk P w K mg base CX0 1 "is_same_plain" ["one", "other"] (spSamePlain CV)) : FnOk P w K mg base CX0 (k + 1) f fd ["one", "other"] (spSame CV d) := by
  refine F.ok sc_is_same (fun vs H Q E h => ?_) (fun cdv A outer s H vs Q E hr h => ?_)
  · obtain ⟨a, b, v, u, rfl, _⟩ := h
    rfl
  obtain ⟨a, b, v, u, rfl, ⟨dx, c, h1, r1⟩, ⟨dx', c', h1', r2⟩, hd, q⟩ := h
  obtain ⟨t, ty, k1, k2, _⟩ := repC_ty kt r1
  obtain ⟨t', ty', k1', k2', _⟩ := repC_ty kt r2
  refine ⟨_, pss_cons (ps_if (pt_val (pe_callB (call_isinstF (T := "dict")) rfl mi PyProof.Rows.boot_isinstance (pa_cons (pe_fld (pv 0) rfl) (pa_cons (pe_bltn (v := .ty "dict") rfl md boot_dict1 rfl) pa_nil))))
      (pss_one (ps_ret (pe_and (pe_callB (call_isinstF (T := "dict")) rfl mi PyProof.Rows.boot_isinstance (pa_cons (pe_fld (pv 1) rfl) (pa_cons (pe_bltn (v := .ty "dict") rfl md boot_dict1 rfl) pa_nil))) (pe_one (pe_callD sm hr pass0 (pa_cons (pe_fld (pv 0) rfl) (pa_cons (pe_fld (pv 1) rfl) pa_nil))))))) pss_nil)
    (pss_cons (ps_if (pt_val (pe_callB (call_isinstF (T := "list")) rfl mi PyProof.Rows.boot_isinstance (pa_cons (pe_fld (pv 0) rfl) (pa_cons (pe_bltn (v := .ty "list") rfl ml boot_list1 rfl) pa_nil))))
      (pss_one (ps_ret (pe_and (pe_callB (call_isinstF (T := "list")) rfl mi PyProof.Rows.boot_isinstance (pa_cons (pe_fld (pv 1) rfl) (pa_cons (pe_bltn (v := .ty "list") rfl ml boot_list1 rfl) pa_nil))) (pe_one (pe_callD sl hr pass0 (pa_cons (pe_fld (pv 0) rfl) (pa_cons (pe_fld (pv 1) rfl) pa_nil))))))) pss_nil)
    (pss_one (ps_ret (pe_callD sp hr pass0 (pa_cons (pe_fld (pv 0) rfl) (pa_cons (pe_fld (pv 1) rfl) pa_nil)))))), ?_⟩
  have one : ∀ {tA : TE} {Q' : VK}, (∀ x : V, x = c -> Q' x H) -> tFld K (tVar 0) "content" [some (.ref a), some (.ref b)] H Q' := fun {tA Q'} h => ⟨_, rfl, a, CV, dx, _, _, rfl, h1, T.cl, T.nC, vf_content c _ _, h c rfl⟩
  refine ⟨_, rfl, a, CV, dx, _, _, rfl, h1, T.cl, T.nC, vf_content c _ _, c, t, _, rfl, ty, k2, _, rfl, ?_⟩
  cases v with
  | obj m =>
    refine iteT ⟨_, rfl, b, CV, dx', _, _, rfl, h1', T.cl, T.nC, vf_content c' _ _, c', t', _, rfl, ty', k2', _, rfl, ?_⟩
    cases u with
    | obj m' =>
      refine iteT ⟨_, rfl, a, CV, dx, _, _, rfl, h1, T.cl, T.nC, vf_content c _ _, _, rfl, b, CV, dx', _, _, rfl, h1', T.cl, T.nC, vf_content c' _ _, ?_⟩
      rw [RepC] at r1 r2
      obtain ⟨p, o, xs, rfl, hp, rep, hnd⟩ := r1
      obtain ⟨p', o', ys, rfl, hp', rep', _⟩ := r2
      rw [Sn77.deep] at hd
      exact ⟨p, p', o, o', xs, ys, m, m', rfl, hp, hp', rep, rep', hnd, hd, q⟩
    | _ => exact iteF (q H (.refl H))
  | list l =>
    refine iteF ⟨_, rfl, a, CV, dx, _, _, rfl, h1, T.cl, T.nC, vf_content c _ _, c, t, _, rfl, ty, k1, _, rfl, ?_⟩
    refine iteT ⟨_, rfl, b, CV, dx', _, _, rfl, h1', T.cl, T.nC, vf_content c' _ _, c', t', _, rfl, ty', k1', _, rfl, ?_⟩
    cases u with
    | list l' =>
      refine iteT ⟨_, rfl, a, CV, dx, _, _, rfl, h1, T.cl, T.nC, vf_content c _ _, _, rfl, b, CV, dx', _, _, rfl, h1', T.cl, T.nC, vf_content c' _ _, ?_⟩
      rw [RepC] at r1 r2
      obtain ⟨p, o, xs, rfl, hp, rep⟩ := r1
      obtain ⟨p', o', ys, rfl, hp', rep'⟩ := r2
      rw [Sn77.deep] at hd
      refine ⟨p, p', o, o', xs, ys, l, l', rfl, hp, hp', rep, rep', hd, fun H' s1 => ?_⟩
      have := q H' s1
      rw [Sn77.same] at this
      exact this
    | _ => exact iteF (q H (.refl H))
  | _ =>
    refine iteF ⟨_, rfl, a, CV, dx, _, _, rfl, h1, T.cl, T.nC, vf_content c _ _, c, t, _, rfl, ty, k1, _, rfl, ?_⟩
    refine iteF ⟨_, rfl, a, CV, dx, _, _, rfl, h1, T.cl, T.nC, vf_content c _ _, _, rfl, b, CV, dx', _, _, rfl, h1', T.cl, T.nC, vf_content c' _ _, ?_⟩
    exact ⟨c, c', _, u, rfl, r1, r2, (fun _ z => nomatch z), (fun _ z => nomatch z), q H (.refl H)⟩
structure SmFns (P : Program) (w : World) (K : PySem.W.Frag) (mg : Str -> Option Value) (CV : Addr) : Prop where
  T : VTxt K CV
  kt : Kit3 K
  mi : mg "isinstance" = Option.none
  md : mg "dict" = Option.none
  ml : mg "list" = Option.none
  mb : mg "bool" = Option.none
  mn : mg "len" = Option.none
  mz : mg "zip" = Option.none
  aS : DefAt K mg "is_same" "is_same" s_is_same ["one", "other"]
  aM : DefAt K mg "are_same_members" "are_same_members" s_are_same_members ["one", "other"]
  aL : DefAt K mg "are_same_lists" "are_same_lists" s_are_same_lists ["one", "other"]
  aP : DefAt K mg "is_same_plain" "is_same_plain" s_is_same_plain ["one", "other"]
theorem SmFns.value (R : SmFns P w K mg CV) : ∀ d, DefOk P w K mg base CX0 (2 * d + 3) "is_same" ["one", "other"] (spSame CV d) := by
  have sp : DefOk P w K mg base CX0 1 "is_same_plain" ["one", "other"] (spSamePlain CV) := R.aP.ok fun f fd F => ok_is_same_plain F R.kt R.mi R.mb
  intro d
  induction d with
  | zero =>
    have sl : DefOk P w K mg base CX0 2 "are_same_lists" ["one", "other"] (spSameL CV 0) := R.aL.ok fun f fd F => ok_are_same_lists0 F
    have sm : DefOk P w K mg base CX0 2 "are_same_members" ["one", "other"] (spSameM CV 0) := R.aM.ok fun f fd F => ok_are_same_members0 F
    exact R.aS.ok fun f fd F => ok_is_same (by omega) F R.T R.kt.k R.mi R.md R.ml sm sl sp
  | succ d is =>
    have sl : DefOk P w K mg base CX0 (2 * d + 4) "are_same_lists" ["one", "other"] (spSameL CV (d + 1)) := R.aL.ok fun f fd F => ok_are_same_lists F R.mn R.mz is
    have sm : DefOk P w K mg base CX0 (2 * d + 4) "are_same_members" ["one", "other"] (spSameM CV (d + 1)) := R.aM.ok fun f fd F => ok_are_same_members F R.mn is
    exact R.aS.ok fun f fd F => ok_is_same (by omega) F R.T R.kt.k R.mi R.md R.ml sm sl sp
end
end Pw
set_option Elab.async false
set_option linter.all false
set_option maxRecDepth 100000
set_option maxHeartbeats 4000000
namespace Pw
open PySem PySem.Spec PyProof.Rows L2
structure RawR (P : Program) (w : World) (K : PySem.W.Frag) (mg : Str -> Option Value) (C CV cN : Addr) : Prop where
  T : Txt K mg C cN
  V : VTxt K CV
  ne : C ≠ CV
  kt : Kit2 K
  g_ZERO : Gv mg "ZERO" (.int 48)
  g_NINE : Gv mg "NINE" (.int 57)
  g_SMALL_A : Gv mg "SMALL_A" (.int 97)
  g_SMALL_F : Gv mg "SMALL_F" (.int 102)
  g_LARGE_A : Gv mg "LARGE_A" (.int 65)
  g_LARGE_F : Gv mg "LARGE_F" (.int 70)
  g_BACKSLASH : Gv mg "BACKSLASH" (.int 92)
  g_SMALL_U : Gv mg "SMALL_U" (.int 117)
  g_QUOTE : Gv mg "QUOTE" (.int 34)
  g_BLANK : Gv mg "BLANK" (.int 32)
  g_COLON : Gv mg "COLON" (.int 58)
  g_MINUS : Gv mg "MINUS" (.int 45)
  g_LARGEST : Gv mg "LARGEST" (.int 9223372036854775807)
  g_OPEN_LIST : Gv mg "OPEN_LIST" (.int 91)
  g_CLOSE_LIST : Gv mg "CLOSE_LIST" (.int 93)
  g_OPEN_MEMBERS : Gv mg "OPEN_MEMBERS" (.int 123)
  g_CLOSE_MEMBERS : Gv mg "CLOSE_MEMBERS" (.int 125)
  g_COMMA : Gv mg "COMMA" (.int 44)
  g_DIGITS : Gv mg "DIGITS" (.str (Str.ofString "0123456789abcdef"))
  n_ord : mg "ord" = Option.none
  n_len : mg "len" = Option.none
  n_all : mg "all" = Option.none
  n_range : mg "range" = Option.none
  n_tuple : mg "tuple" = Option.none
  n_str : mg "str" = Option.none
  n_max : mg "max" = Option.none
  n_sum : mg "sum" = Option.none
  n_isinstance : mg "isinstance" = Option.none
  n_dict : mg "dict" = Option.none
  n_list : mg "list" = Option.none
  BL : ∃ a, mg "BLANKS" = some (.ref a) /\ TupIn K a blanksV
  FO : FormsIn K mg
  WO : ∃ a, mg nm_WORDS = some (.ref a) /\ ModD P w K a wordsT
  ES : ∃ a, mg nm_ESC = some (.ref a) /\ ModD P w K a escR
  d_is_digit : DefAt K mg "is_digit" "is_digit" s_is_digit ["sign"]
  d_spelled : DefAt K mg "spelled" "spelled" s_spelled ["word"]
  d_tail_byte : DefAt K mg "tail_byte" "tail_byte" s_tail_byte ["number"]
  d_character_bytes : DefAt K mg "character_bytes" "character_bytes" s_character_bytes ["number"]
  d_is_first_half : DefAt K mg "is_first_half" "is_first_half" s_is_first_half ["number"]
  d_is_second_half : DefAt K mg "is_second_half" "is_second_half" s_is_second_half ["number"]
  d_digit_of_sixteen : DefAt K mg "digit_of_sixteen" "digit_of_sixteen" s_digit_of_sixteen ["sign"]
  d_is_tail : DefAt K mg "is_tail" "is_tail" s_is_tail ["tail", "next_lowest", "next_highest"]
  d_character_size : DefAt K mg "character_size" "character_size" s_character_size ["source", "place"]
  d_is_utf8 : DefAt K mg "is_utf8" "is_utf8" s_is_utf8 ["source"]
  d_plain_bytes : DefAt K mg "plain_bytes" "plain_bytes" s_plain_bytes ["content"]
  d_text_bytes : DefAt K mg "text_bytes" "text_bytes" s_text_bytes ["text"]
  d_plain_value : DefAt K mg "plain_value" "plain_value" s_plain_value ["content"]
  d_text_value : DefAt K mg "text_value" "text_value" s_text_value ["text"]
  d_name_bytes : DefAt K mg "name_bytes" "name_bytes" s_name_bytes ["name"]
  d_enclosed_size : DefAt K mg "enclosed_size" "enclosed_size" s_enclosed_size ["sizes"]
  d_enclosed_depth : DefAt K mg "enclosed_depth" "enclosed_depth" s_enclosed_depth ["content"]
  d_list_value : DefAt K mg "list_value" "list_value" s_list_value ["listed"]
  d_members_value : DefAt K mg "members_value" "members_value" s_members_value ["members"]
  d_read_nested : DefAt K mg "read_nested" "read_nested" s_read_nested ["source", "deepest"]
  m_peek : MethAt K C "peek" "Reader.peek" m_peek ["self"]
  m_take : MethAt K C "take" "Reader.take" m_take ["self"]
  m_take_if : MethAt K C "take_if" "Reader.take_if" m_take_if ["self", "wanted"]
  m_expect : MethAt K C "expect" "Reader.expect" m_expect ["self", "wanted"]
  m_skip_blanks : MethAt K C "skip_blanks" "Reader.skip_blanks" m_skip_blanks ["self"]
  m_enter : MethAt K C "enter" "Reader.enter" m_enter ["self", "opening", "depth"]
  m_read_four_digits : MethAt K C "read_four_digits" "Reader.read_four_digits" m_read_four_digits ["self"]
  m_read_character : MethAt K C "read_character" "Reader.read_character" m_read_character ["self"]
  m_read_escaped : MethAt K C "read_escaped" "Reader.read_escaped" m_read_escaped ["self"]
  m_read_text : MethAt K C "read_text" "Reader.read_text" m_read_text ["self"]
  m_read_name : MethAt K C "read_name" "Reader.read_name" m_read_name ["self"]
  m_read_digits : MethAt K C "read_digits" "Reader.read_digits" m_read_digits ["self", "most"]
  m_read_number : MethAt K C "read_number" "Reader.read_number" m_read_number ["self"]
  m_read_word : MethAt K C "read_word" "Reader.read_word" m_read_word ["self"]
  m_read_value : MethAt K C "read_value" "Reader.read_value" m_read_value ["self", "depth"]
  m_read_bare_value : MethAt K C "read_bare_value" "Reader.read_bare_value" m_read_bare_value ["self", "depth"]
  m_read_list : MethAt K C "read_list" "Reader.read_list" m_read_list ["self", "depth"]
  m_read_members : MethAt K C "read_members" "Reader.read_members" m_read_members ["self", "depth"]
  k_Reader : MakeAt K mg C "Reader" "Reader.__init__" m_init_Reader ["self", "source", "deepest"]
  k_Value : MakeAt K mg CV "Value" "Value.__init__" m_init_Value ["self", "content", "size", "depth"]
section
variable {P : Program} {w : World} {K : PySem.W.Frag} {mg : Str -> Option Value} {base : Heap} {C CV cN cL cP cW : Addr}
structure Net1 (P : Program) (w : World) (K : PySem.W.Frag) (mg : Str -> Option Value) (base : Heap) (C CV cN : Addr) : Prop where
  R : RdFns P w K mg base C CV cN
  D : DefOk P w K mg base CX0 1 "is_digit" ["sign"] spDigit
  ut : DefOk P w K mg base CX0 3 "is_utf8" ["source"] (spUtf8 K)
  mkR : MakeOk P w K mg base CX0 1 C "Reader" ["self", "source", "deepest"] (spInit C)
  mkV : MakeOk P w K mg base CX0 1 CV "Value" ["self", "content", "size", "depth"] (spVInit CV)
  tb : DefOk P w K mg base CX0 2 "text_bytes" ["text"] spTextBytes
  pb : DefOk P w K mg base CX0 2 "plain_bytes" ["content"] spPlain
  nb : DefOk P w K mg base CX0 3 "name_bytes" ["name"] spNameBytes
  es : DefOk P w K mg base CX0 1 "enclosed_size" ["sizes"] (spEncSize K)
  ed : DefOk P w K mg base CX0 1 "enclosed_depth" ["content"] (spEncDepth CV)
  pv3 : DefOk P w K mg base CX0 3 "plain_value" ["content"] (spPlainValue CV)
  tv3 : DefOk P w K mg base CX0 3 "text_value" ["text"] (spTextValue CV)
  lv3 : DefOk P w K mg base CX0 3 "list_value" ["listed"] (spListValue CV)
  mv4 : DefOk P w K mg base CX0 4 "members_value" ["members"] (spMembersValue CV)
theorem net1 (R : RawR P w K mg C CV cN) : Net1 P w K mg base C CV cN := by
  have D : DefOk P w K mg base CX0 1 "is_digit" ["sign"] spDigit := R.d_is_digit.ok fun f fd F => ok_is_digit F R.g_ZERO R.g_NINE
  have sp : DefOk P w K mg base CX0 1 "spelled" ["word"] spSpelled := R.d_spelled.ok fun f fd F => ok_spelled F R.n_ord
  have tby : DefOk P w K mg base CX0 1 "tail_byte" ["number"] spTailByte := R.d_tail_byte.ok fun f fd F => ok_tail_byte F
  have cb : DefOk P w K mg base CX0 2 "character_bytes" ["number"] spCharBytes := R.d_character_bytes.ok fun f fd F => ok_character_bytes F tby
  have f1 : DefOk P w K mg base CX0 1 "is_first_half" ["number"] (spBetween 55296 56319) := R.d_is_first_half.ok fun f fd F => ok_is_first_half F
  have f2 : DefOk P w K mg base CX0 1 "is_second_half" ["number"] (spBetween 56320 57343) := R.d_is_second_half.ok fun f fd F => ok_is_second_half F
  have hx : DefOk P w K mg base (CXe P w) 2 "digit_of_sixteen" ["sign"] (spHex cN) := R.d_digit_of_sixteen.ok fun f fd F => ok_digit_of_sixteen F D R.g_ZERO R.g_SMALL_A R.g_SMALL_F R.g_LARGE_A R.g_LARGE_F R.T.mN R.T.xN
  have it : DefOk P w K mg base CX0 1 "is_tail" ["tail", "next_lowest", "next_highest"] (spTail K) := R.d_is_tail.ok fun f fd F => ok_is_tail F R.n_len R.n_all
  have cs : DefOk P w K mg base CX0 2 "character_size" ["source", "place"] (spChSize K) := R.d_character_size.ok fun f fd F => ok_character_size F R.FO it R.n_len
  have ut : DefOk P w K mg base CX0 3 "is_utf8" ["source"] (spUtf8 K) := R.d_is_utf8.ok fun f fd F => ok_is_utf8 F cs R.n_len
  have mkR : MakeOk P w K mg base CX0 1 C "Reader" ["self", "source", "deepest"] (spInit C) := R.k_Reader.ok fun f fd F => ok_init F R.T
  have pk : MethOk P w K mg base CX0 1 C "peek" ["self"] (spPeek K C) := R.m_peek.ok fun f fd F => ok_peek F R.T
  have tk : MethOk P w K mg base CX0 2 C "take" ["self"] (spTake K C) := R.m_take.ok fun f fd F => ok_take F R.T pk
  have ti : MethOk P w K mg base CX0 2 C "take_if" ["self", "wanted"] (spTakeIf K C) := R.m_take_if.ok fun f fd F => ok_take_if F R.T pk
  have ex : MethOk P w K mg base (CXe P w) 3 C "expect" ["self", "wanted"] (spExpect K C cN) := R.m_expect.ok fun f fd F => ok_expect F R.T tk
  have sk : MethOk P w K mg base CX0 2 C "skip_blanks" ["self"] (spSkip K C) := R.m_skip_blanks.ok fun f fd F => ok_skip_blanks F R.T R.BL pk
  have en : MethOk P w K mg base (CXe P w) 4 C "enter" ["self", "opening", "depth"] (spEnter K C cN) := R.m_enter.ok fun f fd F => ok_enter F R.T ex sk
  have h4 : MethOk P w K mg base (CXe P w) 3 C "read_four_digits" ["self"] (spHex4 K C cN) := R.m_read_four_digits.ok fun f fd F => ok_read_four_digits F R.T R.n_range tk hx
  have ch : MethOk P w K mg base (CXe P w) 4 C "read_character" ["self"] (spChar K C cN) := R.m_read_character.ok fun f fd F => ok_read_character F R.T R.g_BACKSLASH R.g_SMALL_U h4 ex f1 f2
  obtain ⟨aE, mE, dE⟩ := R.ES
  have esc : MethOk P w K mg base (CXe P w) 5 C "read_escaped" ["self"] (spEsc K C cN) := R.m_read_escaped.ok fun f fd F => ok_read_escaped F R.T R.g_SMALL_U mE dE tk ch cb
  have tx : MethOk P w K mg base (CXe P w) 6 C "read_text" ["self"] (spText K C cN) := R.m_read_text.ok fun f fd F => ok_read_text F R.T R.g_QUOTE R.g_BLANK R.g_BACKSLASH R.n_tuple ex tk esc
  have nm : MethOk P w K mg base (CXe P w) 7 C "read_name" ["self"] (spName K C cN) := R.m_read_name.ok fun f fd F => ok_read_name F R.T R.g_COLON sk tx ex
  have dg : MethOk P w K mg base (CXe P w) 3 C "read_digits" ["self", "most"] (spDigits K C cN) := R.m_read_digits.ok fun f fd F => ok_read_digits F R.T R.g_ZERO D pk tk
  have nu : MethOk P w K mg base (CXe P w) 4 C "read_number" ["self"] (spNumber K C cN) := R.m_read_number.ok fun f fd F => ok_read_number F R.T R.g_MINUS R.g_ZERO R.g_LARGEST ti dg
  have mkV : MakeOk P w K mg base CX0 1 CV "Value" ["self", "content", "size", "depth"] (spVInit CV) := R.k_Value.ok fun f fd F => ok_vinit F R.V
  have pb : DefOk P w K mg base CX0 2 "plain_bytes" ["content"] spPlain := R.d_plain_bytes.ok fun f fd F => ok_plain_bytes F sp R.n_str
  have tb : DefOk P w K mg base CX0 2 "text_bytes" ["text"] spTextBytes := R.d_text_bytes.ok fun f fd F => ok_text_bytes F sp R.g_QUOTE R.g_BLANK R.g_BACKSLASH R.g_DIGITS
  have pv3 : DefOk P w K mg base CX0 3 "plain_value" ["content"] (spPlainValue CV) := R.d_plain_value.ok fun f fd F => ok_plain_value F pb mkV R.n_len
  have tv3 : DefOk P w K mg base CX0 3 "text_value" ["text"] (spTextValue CV) := R.d_text_value.ok fun f fd F => ok_text_value F tb mkV R.n_len
  have nb : DefOk P w K mg base CX0 3 "name_bytes" ["name"] spNameBytes := R.d_name_bytes.ok fun f fd F => ok_name_bytes F tb R.g_COLON
  have es : DefOk P w K mg base CX0 1 "enclosed_size" ["sizes"] (spEncSize K) := R.d_enclosed_size.ok fun f fd F => ok_enclosed_size F R.n_len R.n_max R.n_sum
  have ed : DefOk P w K mg base CX0 1 "enclosed_depth" ["content"] (spEncDepth CV) := R.d_enclosed_depth.ok fun f fd F => ok_enclosed_depth F R.V R.kt.k R.n_isinstance R.n_dict R.n_list R.n_max
  have lv3 : DefOk P w K mg base CX0 3 "list_value" ["listed"] (spListValue CV) := R.d_list_value.ok fun f fd F => ok_list_value F R.V es ed mkV
  have mv4 : DefOk P w K mg base CX0 4 "members_value" ["members"] (spMembersValue CV) := R.d_members_value.ok fun f fd F => ok_members_value F R.V es ed nb R.n_len mkV
  obtain ⟨aW, mW, dW⟩ := R.WO
  have wd : MethOk P w K mg base (CXe P w) 4 C "read_word" ["self"] (spWord K C cN) := R.m_read_word.ok fun f fd F => ok_read_word F R.T mW dW sp
  exact ⟨⟨R.T, R.ne, R.g_OPEN_LIST, R.g_CLOSE_LIST, R.g_OPEN_MEMBERS, R.g_CLOSE_MEMBERS, R.g_COMMA, R.g_QUOTE, R.g_MINUS, pk, ti, ex, sk, en, tx, nm, nu, wd, D, DefOk.up tv3 (by omega), DefOk.up pv3 (by omega), DefOk.up lv3 (by omega), DefOk.up mv4 (by omega), R.m_read_value, R.m_read_bare_value, R.m_read_list, R.m_read_members⟩, D, ut, mkR, mkV, tb, pb, nb, es, ed, pv3, tv3, lv3, mv4⟩
theorem net1_nested (R : RawR P w K mg C CV cN) (N : Net1 P w K mg base C CV cN) (dp : Nat) : DefOk P w K mg base (CXe P w) (3 * dp + 24) "read_nested" ["source", "deepest"] (spNested K CV cN dp) := R.d_read_nested.ok fun f fd F => ok_read_nested F N.R N.ut N.mkR
end
end Pw
set_option Elab.async false
set_option linter.all false
set_option maxRecDepth 100000
set_option maxHeartbeats 4000000
namespace L2
open PySem PySem.Spec PyProof.Rows
theorem Fun.okW {P : Program} {w : World} {K : PySem.W.Frag} {mg : Str -> Option Value} {base : Heap} {x qual : Str} {st : Stmt} {f : Addr} {fd : FuncData} {N ps : List Str} {k : Nat} {sp : Sp} (F : Fun K x qual st f fd) (S : FnScope N ps (defScope st)) (len : ∀ vs H Q E, sp vs H Q E -> vs.length = ps.length)
    (hbody : ∀ (cdv : Value) (A : Around) (outer : List Env) (s : Shared) (H : Hp) (vs : List V) (Q : VK) (E : XK), Room k (A.deeper (envOfC qual (defScope st) s.heap.objs.size f cdv)) -> sp vs H Q E ->
      ∃ t, PSs (cxOf (CXw P w) P w K mg base N qual (defScope st) f cdv A outer s H E) (defBody st) t /\ t { nx := fun _ H' => Q .non H', rt := Q } (start N vs) H) : FnOk P w K mg base (CXw P w) (k + 1) f fd ps sp := by
  obtain ⟨oc, od, kV, doc, pm, an, cdv, ct, osl, rfl, lk, hcd⟩ := F.ex
  exact fn_of lk hcd S len fun A outer s H vs Q E hr hsp => hbody cdv A outer s H vs Q E hr hsp
end L2
namespace Pw
open PySem PySem.Spec PyProof.Rows L2
section
variable {P : Program} {w : World} {K : PySem.W.Frag} {mg : Str -> Option Value} {base : Heap} {f : Addr} {fd : FuncData} {CV cN cP cW cL cO cD cS : Addr}
theorem sc_read_second : FnScope ["p"] ["p"] (defScope s_read_second) := ⟨rfl, rfl, rfl, by decide +kernel, rfl, by decide +kernel, by decide +kernel⟩
theorem ok_read_second (F : Fun K "read_second" "read_second" s_read_second f fd) (mN : mg "NotDocument" = some (.ref cN)) (xN : xcIn K cN = true) (mS : mg "NotSecondDocument" = some (.ref cS)) (xS : xcIn K cS = true) (rd : DefOk P w K mg base (CXe P w) 121 "read_document" ["source"] (spDoc K CV cN)) : FnOk P w K mg base (CXw P w) 122 f fd ["p"] (spDoc K CV cS) := by
  refine F.okW sc_read_second (fun vs H Q E h => ?_) (fun cdv A outer s H vs Q E hr h => ?_)
  · obtain ⟨ta, b, rfl, _⟩ := h
    rfl
  obtain ⟨ta, b, rfl, hS, hl, hb, q, qe⟩ := h
  refine ⟨_, pss_one (ps_tryR (tbf := fun Ex => tRet (tCall (spDoc K CV cN) [] Ex (tCons (tVar 0) tNil))) rfl mN xN rfl mS xS (fun E' pn Ex hx => pss_one (ps_ret (pe_callD rd hr hx (pa_cons (pv 0) pa_nil))))), ?_⟩
  exact ⟨_, rfl, ta, b, rfl, hS, hl, hb, q, fun hn H' => ⟨rfl, qe hn H'⟩⟩
def resSame (cS : Addr) (v : Sn77.V) (l : List Nat) : Except Addr (List Int) := match Sn77.read l with
  | Option.none => .error cS
  | some u => .ok [if Sn77.same v u = true then 1 else 0]
theorem sc_compared : FnScope ["document", "p"] ["document", "p"] (defScope s_compared) := ⟨rfl, rfl, rfl, by decide +kernel, rfl, by decide +kernel, by decide +kernel⟩
theorem ok_compared (F : Fun K "compared" "compared" s_compared f fd) (is : DefOk P w K mg base CX0 67 "is_same" ["one", "other"] (spSame CV 32)) (rs : DefOk P w K mg base (CXw P w) 122 "read_second" ["p"] (spDoc K CV cS)) : FnOk P w K mg base (CXw P w) 123 f fd ["document", "p"] (spWork K CV (resSame cS)) := by
  refine F.okW sc_compared (fun vs H Q E h => ?_) (fun cdv A outer s H vs Q E hr h => ?_)
  · obtain ⟨a, p, v, b, l, rfl, _⟩ := h
    rfl
  obtain ⟨a, p, v, b, l, rfl, hv, rep, hS, hl, hb, q, qe⟩ := h
  unfold resSame at q qe
  refine ⟨_, pss_one (ps_ret (pe_ifExp (pt_val (pe_callD is hr pass0 (pa_cons (pv 0) (pa_cons (pe_callD rs hr pass_cw (pa_cons (pv 1) pa_nil)) pa_nil)))) (pe_lst (pa_cons pe_int pa_nil)) (pe_lst (pa_cons pe_int pa_nil)))), ?_⟩
  refine ⟨_, rfl, _, rfl, p, l, rfl, hS, hl, hb, fun u hu H1 c s1 ru => ?_, fun hu H1 => ?_⟩
  · simp only [hu] at q
    refine ⟨a, c, v, u, rfl, rep.sol (Sol.of s1), ru, Mt.read_deep hv, fun H2 s2 => ⟨_, rfl, ?_⟩⟩
    cases hs : Sn77.same v u with
    | true =>
      refine iteT ⟨Nat.le_trans (Nat.le_refl 1) (by decide), fun p2 n2 => q _ rfl _ p2 ?_⟩
      rw [upd_same, hs]
      rfl
    | false =>
      refine iteF ⟨Nat.le_trans (Nat.le_refl 1) (by decide), fun p2 n2 => q _ rfl _ p2 ?_⟩
      rw [upd_same, hs]
      rfl
  · simp only [hu] at qe
    exact qe _ rfl H1
end
end Pw
set_option Elab.async false
set_option linter.all false
set_option maxRecDepth 100000
set_option maxHeartbeats 4000000
namespace Pw
open PySem PySem.Spec PyProof.Rows L2
section
variable {P : Program} {w : World} {K : PySem.W.Frag} {mg : Str -> Option Value} {base : Heap} {f : Addr} {fd : FuncData} {C CV cN cP cW cL cO cD cS : Addr}
def spTop (K : PySem.W.Frag) (due : List Nat -> List Nat -> List Int) : Sp := fun vs H Q _ => ∃ (ta pa : Addr) (b l : List Nat), vs = [.ref ta, .ref pa] /\ SrcAt K H ta b /\ SrcAt K H pa l /\ b.length <= 65536 /\ l.length <= 65536 /\ (∀ c ∈ b, c < 256) /\ (∀ c ∈ l, c < 256) /\
  ∀ H' p, H' p = some (.lst ((due b l).map V.int)) -> Q (.ref p) H'
theorem nats_ints {t : List Int} (h : Sn77Neutral.bytes t = true) : t = (Sn77Neutral.nats t).map (fun c : Nat => (c : Int)) /\ (∀ c ∈ Sn77Neutral.nats t, c < 256) /\ (Sn77Neutral.nats t).length = t.length := by
  have h' : ∀ z ∈ t, 0 <= z /\ z < 256 := fun z hz => by
    have q := List.all_eq_true.mp h z hz
    unfold Sn77Neutral.natural at q
    rw [Bool.and_eq_true] at q
    exact ⟨of_decide_eq_true q.1, of_decide_eq_true q.2⟩
  clear h
  unfold Sn77Neutral.nats
  refine ⟨?_, fun c hc => ?_, List.length_map ..⟩
  · rw [List.map_map]
    conv => lhs; rw [← List.map_id t]
    refine List.map_congr_left fun z hz => ?_
    have := h' z hz
    show z = ((z.toNat : Nat) : Int)
    omega
  · obtain ⟨z, hz, rfl⟩ := List.mem_map.mp hc
    have := h' z hz
    omega
theorem src_of {H : Hp} {x : V} {t : List Int} (hO : OnlyF H) (h : Dw K H x (.list (t.map PySem.W.WData.int))) (hb : Sn77Neutral.bytes t = true) : ∃ a, x = .ref a /\ SrcAt K H a (Sn77Neutral.nats t) := by
  cases h with
  | lst hs ds =>
    rename_i a xs
    obtain rfl := ints_dw _ _ ds
    have e : t.map V.int = bV (Sn77Neutral.nats t) := by
      conv => lhs; rw [(nats_ints hb).1]
      rw [List.map_map]
      rfl
    rw [e] at hs
    refine ⟨a, rfl, ?_⟩
    rcases hs with (hs | ⟨o, hs⟩) | hs
    · rcases hO a with z | ⟨o, u, z⟩
      · rw [z] at hs; cases hs
      · rw [z] at hs; cases hs
    · exact .inl ⟨o, hs⟩
    · exact .inr hs
theorem bytes_of {t : List Int} (h : t.all (PySem.W.Codec.inInt 0 255) = true) : Sn77Neutral.bytes t = true := by
  unfold Sn77Neutral.bytes
  rw [List.all_eq_true] at h ⊢
  intro z hz
  have q := h z hz
  unfold PySem.W.Codec.inInt at q
  rw [Bool.and_eq_true] at q
  have q1 := of_decide_eq_true q.1
  have q2 := of_decide_eq_true q.2
  unfold Sn77Neutral.natural
  rw [Bool.and_eq_true]
  exact ⟨decide_eq_true q1, decide_eq_true (by omega)⟩
theorem top_of {H : Hp} {xs : List V} {t p : List Int} {due : List Nat -> List Nat -> List Int} {D : List Int} (hO : OnlyF H) (hw : ((PySem.W.Codec.inLen 0 65536 t && t.all (PySem.W.Codec.inInt 0 255)) && ((PySem.W.Codec.inLen 0 65536 p && p.all (PySem.W.Codec.inInt 0 255)) && true)) = true)
    (h : DwAll K H xs [.list (t.map PySem.W.WData.int), .list (p.map PySem.W.WData.int)])
    (hd : (Sn77Neutral.nats t).length <= 65536 -> (Sn77Neutral.nats p).length <= 65536 -> due (Sn77Neutral.nats t) (Sn77Neutral.nats p) = D) : spTop K due xs H (fun v H' => Dw K H' v (.list (D.map PySem.W.WData.int))) fun _ _ _ => False := by
  rw [Bool.and_eq_true, Bool.and_eq_true, Bool.and_eq_true, Bool.and_eq_true] at hw
  obtain ⟨⟨l1, b1⟩, ⟨l2, b2⟩, _⟩ := hw
  have l1 := (PySem.W.Codec.inNat_iff.mp l1).2
  have l2 := (PySem.W.Codec.inNat_iff.mp l2).2
  have b1 := bytes_of b1
  have b2 := bytes_of b2
  cases h with
  | cons h1 h =>
    cases h with
    | cons h2 h =>
      cases h
      obtain ⟨ta, rfl, s1⟩ := src_of hO h1 b1
      obtain ⟨pa, rfl, s2⟩ := src_of hO h2 b2
      have z1 := nats_ints b1
      have z2 := nats_ints b2
      refine ⟨ta, pa, _, _, rfl, s1, s2, by omega, by omega, z1.2.1, z2.2.1, fun H' p hp => ?_⟩
      rw [hd (by omega) (by omega)] at hp
      exact .lst (.inl (.inl hp)) (dw_ints _)
theorem between_ok {n : Nat} (h : n <= 65536) : Sn77.between (n : Int) 0 Sn77.LONG = true := by
  unfold Sn77.between Sn77.LONG
  rw [Bool.and_eq_true]
  exact ⟨decide_eq_true (by omega), decide_eq_true (by omega)⟩
theorem top_mk {x qual : Str} {st : Stmt} {ps : List Str} {sp : Sp} {k : Nat} {CX : CXT} {fa : Addr} (D : DefAt K mg x qual st ps) (hmg : mg x = some (.ref fa))
    (b : ∀ (kV doc pm : Value) (an : Option Addr) (cdv ct : Value) (us : List Value), us.length = ps.length -> bindArgs (PySem.W.fnOf x qual (defArgs st) (defBody st) (defScope st) .none kV doc pm an cdv ct) ⟨us, []⟩ = pure (ps.zip us))
    (h : ∀ (base : Heap) (f : Addr) (fd : FuncData), Fun K x qual st f fd -> FnOk P w K mg base CX k f fd ps sp) :
    ∃ fd : FuncData, (∀ (s : Shared) (us : List Value), us.length = ps.length -> BindsTo s fd ⟨us, []⟩ (ps.zip us)) /\ ∀ base : Heap, K.In base -> base.Ns mainGlobals mg -> FnOk P w K mg base CX k fa fd ps sp := by
  obtain ⟨f, fd, F, m, _, _⟩ := D
  rw [hmg] at m
  cases m
  refine ⟨fd, fun s us hl => ?_, fun base _ _ => h base fa fd F⟩
  obtain ⟨oc, od, kV, doc, pm, an, cdv, ct, osl, rfl, lk, hcd⟩ := F.ex
  exact .of_eq (b kV doc pm an cdv ct us hl)
end
end Pw
set_option Elab.async false
set_option linter.all false
set_option maxRecDepth 100000
set_option maxHeartbeats 4000000
namespace Pw
open PySem PySem.Spec PyProof.Rows L2
section
variable {P : Program} {w : World} {K : PySem.W.Frag} {mg : Str -> Option Value} {base : Heap} {f : Addr} {fd : FuncData} {C CV cN cP cW cL cO cD cS : Addr}
def dueSame (b l : List Nat) : List Int := match Sn77.read b with
  | Option.none => [-3]
  | some v => match Sn77.read l with
    | Option.none => [-4]
    | some u => [if Sn77.same v u = true then 1 else 0]
theorem due_same (nd : [cN, cP, cO, cS, cW, cD, cL].Nodup) (b l : List Nat) : dueOf (resSame cS) (clauses cN cP cO cS cW cD cL) cN b l = dueSame b l := by
  simp only [List.nodup_cons, List.mem_cons, List.not_mem_nil, not_or, or_false, not_false_eq_true, List.nodup_nil, and_true] at nd
  obtain ⟨⟨n1, n2, n3, n4, n5, n6⟩, ⟨o1, o2, o3, o4, o5⟩, ⟨p1, p2, p3, p4⟩, ⟨q1, q2, q3⟩, ⟨r1, r2⟩, t1⟩ := nd
  unfold dueOf dueSame resSame
  cases Sn77.read b with
  | none => simp [codeOf]
  | some v =>
    simp only
    cases Sn77.read l with
    | none => simp [codeOf, Ne.symm n3]
    | some u => rfl
theorem spec_same {t p : List Int} (h1 : (Sn77Neutral.nats t).length <= 65536) (h2 : (Sn77Neutral.nats p).length <= 65536) : dueSame (Sn77Neutral.nats t) (Sn77Neutral.nats p) = PySn77.same t p := by
  have l1 : (Sn77Neutral.nats t).length = t.length := List.length_map ..
  have l2 : (Sn77Neutral.nats p).length = p.length := List.length_map ..
  unfold PySn77.same Sn77Neutral.f Sn77Neutral.answered Sn77Neutral.gives dueSame
  simp only [between_ok (n := t.length) (by omega), between_ok (n := p.length) (by omega), Bool.and_self, Bool.true_eq_false, if_false]
  cases Sn77.read (Sn77Neutral.nats t) with
  | none => rfl
  | some v =>
    simp only
    cases Sn77.read (Sn77Neutral.nats p) with
    | none => rfl
    | some u => rfl
theorem sc_same : FnScope ["t", "p"] ["t", "p"] (defScope s_same) := ⟨rfl, rfl, rfl, by decide +kernel, rfl, by decide +kernel, by decide +kernel⟩
theorem ok_same {fw : Addr} {due : List Nat -> List Nat -> List Int} (F : Fun K "same" "same" s_same f fd) (an : DefOk P w K mg base CX0 124 "answered" ["work", "t", "p"] (spAnswered K fw due)) (gf : Gv mg "compared" (.ref fw)) : FnOk P w K mg base CX0 125 f fd ["t", "p"] (spTop K due) := by
  refine F.ok sc_same (fun vs H Q E h => ?_) (fun cdv A outer s H vs Q E hr h => ?_)
  · obtain ⟨ta, pa, b, l, rfl, _⟩ := h
    rfl
  obtain ⟨ta, pa, b, l, rfl, hT, hP, hbl, hll, hb, hl, q⟩ := h
  refine ⟨_, pss_one (ps_ret (pe_callD an hr pass0 (pa_cons (pe_g gf) (pa_cons (pv 0) (pa_cons (pv 1) pa_nil))))), ?_⟩
  exact ⟨_, rfl, _, rfl, ta, pa, b, l, rfl, hT, hP, hbl, hll, hb, hl, q⟩
theorem tin_same {cN cP cO cS cW cD cL : Addr} (C : Addr) (h : C ∈ [cN, cS]) : C ∈ [cN] ∨ C ∈ [cP, cO, cS] ∨ C ∈ [cW, cD] ∨ C ∈ [cL] := by
  simp only [List.mem_cons, List.not_mem_nil, or_false] at h ⊢
  rcases h with h | h
  · exact .inl h
  · exact .inr (.inl (.inr (.inr h)))
structure RawC (P : Program) (w : World) (K : PySem.W.Frag) (mg : Str -> Option Value) (cN cP cO cS cW cD cL : Addr) : Prop where
  T : ClsAt K mg (fun C => C ∈ [cN, cS]) cN cP cO cS cW cD cL
  xS : xcIn K cS = true
  g : Gv mg "DEEPEST_DOCUMENT" (.int 32)
  d_doc : DefAt K mg "read_document" "read_document" s_read_document ["source"]
  d_sec : DefAt K mg "read_second" "read_second" s_read_second ["p"]
  d_cmp : DefAt K mg "compared" "compared" s_compared ["document", "p"]
  d_ans : DefAt K mg "answered" "answered" s_answered ["work", "t", "p"]
  d_same : DefAt K mg "same" "same" s_same ["t", "p"]
theorem same_all (R : RawR P w K mg C CV cN) (S : SmFns P w K mg CV) (T : RawC P w K mg cN cP cO cS cW cD cL) : ∀ (f : Addr) (fd : FuncData), Fun K "same" "same" s_same f fd -> FnOk P w K mg base CX0 125 f fd ["t", "p"] (spTop K dueSame) := by
  have N : Net1 P w K mg base C CV cN := net1 R
  have rd : DefOk P w K mg base (CXe P w) 121 "read_document" ["source"] (spDoc K CV cN) := T.d_doc.ok fun f fd F => ok_read_document F T.g (net1_nested R N 32)
  have rs : DefOk P w K mg base (CXw P w) 122 "read_second" ["p"] (spDoc K CV cS) := T.d_sec.ok fun f fd F => ok_read_second F T.T.mN R.T.xN T.T.mS T.xS rd
  have is : DefOk P w K mg base CX0 67 "is_same" ["one", "other"] (spSame CV 32) := S.value 32
  obtain ⟨fw, fdw, Fw, mw, bw, kw⟩ := T.d_cmp
  have FW := ok_compared (base := base) Fw is rs
  have an : DefOk P w K mg base CX0 124 "answered" ["work", "t", "p"] (spAnswered K fw dueSame) := T.d_ans.ok fun f fd F => by
    have := ok_answered (by omega) F T.T (fun v l C h => by
      unfold resSame at h
      split at h
      · cases h; simp
      · cases h) rd FW kw bw
    have e : dueOf (resSame cS) (clauses cN cP cO cS cW cD cL) cN = dueSame := funext fun b => funext fun l => due_same T.T.nd b l
    rw [e] at this
    exact this
  exact fun f fd F => ok_same F an ⟨_, mw, rfl⟩
end
end Pw
set_option Elab.async false
set_option linter.all false
set_option maxRecDepth 100000
set_option maxHeartbeats 4000000
namespace Pw
open PySem PySem.Spec PyProof.Rows L2 PySem.W
section
variable {K : PySem.W.Frag} {h : Heap} {mg : Str -> Option Value}
theorem methAt_mk2 {cn : Str} {C : Addr} {x qual : Str} {st : Stmt} {ps : List Str} {f : Addr} {oc : Value} {od an : Option Addr} {osl : Array (Option Value)} {kV doc pm cdv ct : Value} (X : K.In h) (aC : PySem.W.nsIn K mainGlobals cn = some (some (.ref C))) (a : PySem.W.findIn K (.ref C) x = some (some (.ref f))) (i : PySem.W.isFn K (.ref f) = true)
    (l : K.lookup f = some ⟨oc, od, .func (PySem.W.fnOf x qual (defArgs st) (defBody st) (defScope st) .none kV doc pm an cdv ct), osl⟩) (c : PySem.W.codeIn K cdv qual = true) (k : PySem.W.keepIn K (.ref f) = true)
    (b : ∀ (kV doc pm : Value) (an : Option Addr) (cdv ct : Value) (us : List Value), us.length = ps.length -> bindArgs (PySem.W.fnOf x qual (defArgs st) (defBody st) (defScope st) .none kV doc pm an cdv ct) ⟨us, []⟩ = pure (ps.zip us)) : MethAt K C x qual st ps := methAt_mk a i l c k b
theorem txt_mk {C cN : Addr} (X : K.In h) (G : h.Ns mainGlobals mg) (aC : PySem.W.nsIn K mainGlobals "Reader" = some (some (.ref C))) (aN : PySem.W.nsIn K mainGlobals "NotDocument" = some (some (.ref cN))) (pg : PySem.W.plainGet K C Str.empty = true) (hd : PySem.W.hasDictIn K C = true) (po : PySem.W.plainOver K C = true)
    (sa : PySem.W.findIn K (.ref C) "__setattr__" = some (some (.builtin "object.__setattr__"))) (nS : PySem.W.findIn K (.ref C) "source" = some Option.none) (nP : PySem.W.findIn K (.ref C) "place" = some Option.none) (nD : PySem.W.findIn K (.ref C) "deepest" = some Option.none) (xN : xcIn K cN = true)
    (len : mg "len" = Option.none) (gEnd : Gv mg "END" (.int 256)) : Txt K mg C cN := ⟨⟨pg, hd, po, sa⟩, nS, nP, nD, PySem.W.mg_of X G aN, xN, len, gEnd⟩
theorem vtxt_mk {C : Addr} (X : K.In h) (aC : PySem.W.nsIn K mainGlobals "Value" = some (some (.ref C))) (pg : PySem.W.plainGet K C Str.empty = true) (hd : PySem.W.hasDictIn K C = true) (po : PySem.W.plainOver K C = true)
    (sa : PySem.W.findIn K (.ref C) "__setattr__" = some (some (.builtin "object.__setattr__"))) (nS : PySem.W.findIn K (.ref C) "content" = some Option.none) (nP : PySem.W.findIn K (.ref C) "size" = some Option.none) (nD : PySem.W.findIn K (.ref C) "depth" = some Option.none) : VTxt K C := ⟨⟨pg, hd, po, sa⟩, nS, nP, nD⟩
def XcAt (K : PySem.W.Frag) (mg : Str -> Option Value) (x : Str) (C : Addr) : Prop := mg x = some (.ref C) /\ xcIn K C = true
theorem xc_mk {x : Str} {C : Addr} (X : K.In h) (G : h.Ns mainGlobals mg) (a : PySem.W.nsIn K mainGlobals x = some (some (.ref C))) (e : xcIn K C = true) : XcAt K mg x C := ⟨PySem.W.mg_of X G a, e⟩
end
end Pw
set_option Elab.async false
set_option linter.all false
set_option maxRecDepth 100000
set_option maxHeartbeats 4000000
namespace Pw
open PySem PySem.Spec PyProof.Rows L2 PySem.W
section
variable {K : PySem.W.Frag} {h : Heap} {mg : Str -> Option Value}
theorem s_top_same (K : PySem.W.Frag) (H : Hp) (xs : List V) (a : Codec.denoteAll PySem.Challenge.rw_patchwords_s04_same.args) (hO : OnlyF H) (hw : Codec.withinAll PySem.Challenge.rw_patchwords_s04_same.args a = true) (hq : Codec.app PySem.Challenge.rw_patchwords_s04_same.args PySem.Challenge.rw_patchwords_s04_same.asked a = true)
    (hd : DwAll K H xs (Codec.encAll PySem.Challenge.rw_patchwords_s04_same.args a)) :
    spTop K dueSame xs H (fun v H' => Dw K H' v (PySem.Challenge.rw_patchwords_s04_same.ret.enc (Codec.app PySem.Challenge.rw_patchwords_s04_same.args PySem.Challenge.rw_patchwords_s04_same.f a))) fun _ _ _ => False := by
  have q : ((Codec.inLen 0 65536 a.1 && a.1.all (Codec.inInt 0 255)) && ((Codec.inLen 0 65536 a.2.1 && a.2.1.all (Codec.inInt 0 255)) && true)) = true := hw
  have hd : DwAll K H xs [.list (List.map WData.int a.1), .list (List.map WData.int a.2.1)] := hd
  exact top_of hO q hd fun h1 h2 => spec_same h1 h2
end
end Pw
set_option Elab.async false
set_option linter.all false
namespace PySem.W.Fast
def tw17886292834082478939:=0
def tw8079219583866171897:=0
def tw182095759064141034:=0
def tw11474569773588231875:=0
def tw16317808544421344712:=0
def tw14717892256603996587:=0
def tw6595130526188574334:=0
def tw13850559029268447389:=0
def tw10423371081042220848:=0
def tw8529772423936564110:=0
def tw9217478899412187865:=0
def tw3444232416193914939:=0
def tw13669475862458015441:=0
def tw767536090313172481:=0
def tw5460071802363863100:=0
def tw1056914363579993699:=0
def tw15199771823357846491:=0
def tw18095562631524859618:=0
def tw2414483204852916280:=0
def tw11088134006363392640:=0
def tw15408990969194739936:=0
def tw3632582378724966532:=0
def tw14015242522770546346:=0
def tw16110389522236947720:=0
def tw2927714357757032980:=0
def tw11592130427450501694:=0
def tw6896158615824575071:=0
def tw11955713593472045354:=0
def tw14918593590204516855:=0
def tw5840969187186776628:=0
def tw18350742971061880556:=0
def tw5791188126798794159:=0
def tw18437228276706030054:=0
def tw989273396618188834:=0
def tw10690645589005483645:=0
def tw8001257473409169112:=0
def tw7936136255248859132:=0
def tw5615622456636198447:=0
def tw14720586081452968045:=0
def tw2685766169688229437:=0
def tw16560056974578027587:=0
def tw15477908712351248322:=0
def tw12749139605044115055:=0
def tw10009147582069160495:=0
def tw233031470668149384:=0
def tw1695838113881404302:=0
def tw7627612790847200032:=0
def tw8748153765985899383:=0
def tw9926184360087960830:=0
def tw8755731888369426482:=0
def tw9011882111736779588:=0
def tw15207031202508337138:=0
def tw5677210913990422643:=0
def tw4691755515417533800:=0
def tw4432359846300324690:=0
def tw10570720077912346383:=0
def tw7491130467825119815:=0
def tw7094927459374898432:=0
def tw10873625181301896964:=0
def tw2698015508021387427:=0
def tw14941342957911209140:=0
def tw6633128045671234176:=0
def tw9538672553087425799:=0
def tw11599049097905320537:=0
def tw1009092287336158338:=0
def tw17913280056633392629:=0
def tw10728771936220794427:=0
def tw2506021439044543619:=0
def tw12276348543554351844:=0
def tw4079328360318469641:=0
def tw15681577008003679026:=0
def tw6547799789601543271:=0
def tw7090839378675507361:=0
def tw8513901195038142554:=0
def tw16310674146500278719:=0
def tw3066872695816685047:=0
def tw10425987069152975521:=0
def tw7282198340309157262:=0
def tw16547800549925568220:=0
def tw16095214604020603271:=0
def tw2899696251014330569:=0
def tw8851396565770965706:=0
def tw11699672558863498712:=0
def tw18396542555697452632:=0
def tw16733228578673058350:=0
def tw3182636659547464552:=0
def tw13834184423409582400:=0
def tw5151167616789549133:=0
def tw4281057247932707521:=0
def tw11060237195038987257:=0
def tw12787266817729810906:=0
def tw2476622216740380811:=0
def tw14748233594744654166:=0
def tw6815906864811315391:=0
def tw6488190056876589945:=0
def tw3512346729423681572:=0
def tw955260109964473497:=0
def tw13193355280580107876:=0
def tw10350233493474236090:=0
def tw3088028278213146134:=0
def tw8221655522923547084:=0
def tw15162095785725075831:=0
def tw7828004660285335940:=0
def tw5624669219617954139:=0
def tw4522384019267358239:=0
def tw18170624743324518087:=0
def tw16566366154340303835:=0
def tw2803642248031319107:=0
def tw16323788066248383188:=0
def tw1748963132168340792:=0
def tw10516009976252638436:=0
def tw18198541531289179706:=0
def tw6132012596185868852:=0
def tw2370283404952594856:=0
def tw2173536170432039838:=0
def tw5326530523569259399:=0
def tw14294489520437206831:=0
def tw8481264151552910876:=0
def tw10244135986492698313:=0
def tw10402832551362756046:=0
def tw6500147406914068716:=0
def tw5628261933687114891:=0
def tw14833358706278755507:=0
def tw8409823174029410842:=0
def tw13318067964304774777:=0
def tw10266431186198031537:=0
def tw11050800168650529192:=0
def tw13956024565487099722:=0
def tw13789340382218714665:=0
def tw203351012591665694:=0
def tw15293002213298082784:=0
def tw15075657917878433890:=0
def tw2889373436190813967:=0
def tw9809493045280909524:=0
def tw15417530727181454633:=0
def tw3872121254127551155:=0
def tw14078559412772602389:=0
def tw15816845540607453711:=0
def tw1736211994494647303:=0
def tw3085321782455174191:=0
def tw17934050803469298746:=0
def tw17854340781416387260:=0
def tw8458050213953912858:=0
def tw824084004157780154:=0
def tw12295670670453840038:=0
def tw3735113348314372233:=0
def tw562317437688988826:=0
def tw8484551445222459462:=0
def tw140577062611417354:=0
def tw2227236161093473194:=0
def tw17829509650523344315:=0
def tw7064260429907397978:=0
def tw4399178949893183255:=0
def tw6001606026104962359:=0
def tw17822519639448815611:=0
def tw12043862952198949568:=0
def tw15048416920791006980:=0
def tw7241817025815171465:=0
def tw16353270485333776126:=0
def tw10577449281432478782:=0
def tw3678930724322573711:=0
def tw17196943726333049762:=0
def tw8203396314074104765:=0
def tw11144135713393622361:=0
def tw11834487927098993551:=0
def tw5111114245577309237:=0
def tw14618606381534048710:=0
def tw12640539358012479373:=0
def tw14652041419993470141:=0
def tw7375233837488452150:=0
def tw17072831713384227362:=0
def tw10816929278548718878:=0
def tw505289448474523755:=0
def tw17335786317567448220:=0
def tw14221790699783306924:=0
def tw15693447858796949787:=0
def tw9142451303062812140:=0
def tw10201373517234854019:=0
def tw88713013539810864:=0
def tw7405724956294512087:=0
def tw5358865488998744734:=0
def tw5095506205927738151:=0
def tw5951288106605114385:=0
def tw8876246175367357124:=0
def tw8406832558446471909:=0
def tw3669380039941246102:=0
def tw9000256024142273546:=0
def tw14600239116866430564:=0
def tw17965356081743802835:=0
def tw5317107037104379721:=0
def tw12061587105239104801:=0
def tw17818846618619294162:=0
def tw750503803927927773:=0
def tw8918346567547545629:=0
def tw5519426813548374707:=0
def tw2759691073067170512:=0
def tw11479485844535905431:=0
def tw16152290603896908168:=0
def tw12864679933937924652:=0
def tw6528363866461042909:=0
def tw7612162265931455551:=0
def tw8632702776913657998:=0
def tw11310012208584244523:=0
def tw11002082245877274569:=0
def tw10974242728463548962:=0
def tw1091069714544805334:=0
def tw16655620946685976340:=0
def tw6076481930418342474:=0
def tw2327390351575447625:=0
def tw17718756979151346269:=0
def tw2904783125822594056:=0
def tw5715027160349020600:=0
def tw6225915737419732839:=0
def tw15170811345968810027:=0
def tw9741106245843269807:=0
def tw7183391763427637518:=0
def tw16107234091763951398:=0
def tw10427246983434524890:=0
def tw5857450889941664150:=0
def tw1884416940582626471:=0
def tw5937692092100223571:=0
def tw8071879458779191345:=0
def tw13833921176732997565:=0
def tw8259053710704242346:=0
def tw5286703158468135324:=0
def tw2392463982387518687:=0
def tw4149907292342656518:=0
def tw8721240465886464923:=0
def tw285137979685356035:=0
def tw6784194318941112751:=0
def tw7863800656399372396:=0
def tw9797061248252136007:=0
def tw452734354209735511:=0
def tw682385602879301177:=0
def tw6031428182877528638:=0
def tw11841306694053095502:=0
def tw7298221292447990070:=0
def tw9024144179390503599:=0
def tw10687090790292977565:=0
def tw10119263158565049000:=0
def tw8787897610300905320:=0
def tw10116259903313394182:=0
def tw6921968646138174125:=0
def tw25355406239243174:=0
def tw15937971977613624158:=0
def tw12915691969603809848:=0
def tw4956909978620091901:=0
def tw12776506340558255695:=0
def tw9934801777875491099:=0
def tw18350585998997689775:=0
def tw10087051906164917448:=0
def tw16111203496490201754:=0
def tw14857248908692521118:=0
def tw736258094489885094:=0
def tw7688845052395631903:=0
def tw7463856473363374551:=0
def tw15687314195207335053:=0
def tw9867138232202119600:=0
def tw7881593945269724677:=0
def tw15852911756222175929:=0
def tw2642940710347225425:=0
def tw914119902234330211:=0
def tw14038852349229898922:=0
def tw8864466298073686282:=0
def tw8458659352811803432:=0
def tw18064415964164260135:=0
def tw2911185084123192843:=0
def tw8953849877454214530:=0
def tw17438934884549545131:=0
def tw15881534280662404655:=0
def tw5347203835099077361:=0
def tw17667199020459227825:=0
def tw15093155781184046755:=0
def tw13371119241046559964:=0
def tw7889564581676104485:=0
def tw13306291215660164988:=0
def tw6490602627699152806:=0
def tw8106613873940227209:=0
def tw17309635898446534778:=0
def tw12154736980457585850:=0
def tw4127727652079465400:=0
def tw14343404867591998295:=0
def tw1673048942219479977:=0
def tw15769777340271882097:=0
def tw12415501369167705028:=0
def tw1944142055162649330:=0
def tw11606569234153385246:=0
def tw10275346519439464462:=0
def tw6233133644238682094:=0
def tw6417324996752296955:=0
def tw10202809066324518201:=0
def tw13255577623333509924:=0
def tw7117702832823629361:=0
def tw7254754176267793628:=0
def tw16003960359665338680:=0
def tw7468028143778707048:=0
def tw6370210089741857330:=0
def tw1732429250696977111:=0
def tw12337897588184070154:=0
def tw4193121235752954024:=0
def tw6751469620594907527:=0
def tw696721453837518242:=0
def tw3099920659968483652:=0
def tw3001629418090021193:=0
def tw2488115215838195917:=0
def tw12405405039017508390:=0
def tw4047373998667441268:=0
def tw4479798515617676192:=0
def tw10420990161562793510:=0
def tw820730248719669544:=0
def tw9941828996175965518:=0
def tw4372230208866596421:=0
def tw4365110386224088247:=0
def tw17441345190600637443:=0
def tw5834952440956993102:=0
def tw18067686678169028955:=0
def tw10462543737779679005:=0
def tw16586029196157334183:=0
def tw16227264231415927786:=0
def tw9192343679709319188:=0
def tw13609967642690423804:=0
def tw16151997727371191406:=0
def tw192467853586736086:=0
def tw271969754305413647:=0
def tw4519537842430050039:=0
def tw4196897099705653797:=0
def tw3219593932208890543:=0
def tw1335179197212258926:=0
def tw3449010652907849474:=0
def tw89388662763660670:=0
def tw11186681395043011619:=0
def tw273623553587430175:=0
def tw10351282826358084131:=0
def tw18423366434943259010:=0
def tw11383153211717636667:=0
def tw16299022046582167138:=0
def tw6480870422808751722:=0
def tw11023607153879937975:=0
def tw6753397695649613977:=0
def tw17660029109039223110:=0
def tw4281177603635815489:=0
def tw4713388888073153291:=0
def tw11797140305176955412:=0
def tw2131779785761481289:=0
def tw2143804549399942221:=0
def tw12734666711153972450:=0
def tw16146247278803676460:=0
def tw17606043132688497943:=0
def tw4019799057534268875:=0
def tw10349549438424304273:=0
def tw13179999333495644655:=0
def tw10810291041629527732:=0
def tw9281365623097110655:=0
def tw18057106695311111128:=0
def tw11344458393688796169:=0
def tw10054438455412124204:=0
def tw14503884267799803443:=0
def tw6165264266764545270:=0
def tw8776313840346708864:=0
def tw1790150973367040790:=0
def tw8266930574071542041:=0
def tw15469853236985184184:=0
def tw14398060817628934286:=0
def tw14102868860191058359:=0
def tw6451474196359239200:=0
def tw9350859848491881517:=0
def tw16081296030486351951:=0
def tw17413764543949532692:=0
def tw12339989648829863981:=0
def tw528435553646244942:=0
def tw2867290211711827023:=0
def tw1919967228337687418:=0
def tw7218754187446813511:=0
def tw17113925810273125531:=0
def tw13920695143714233140:=0
def tw8273191746126633114:=0
def tw1728202924101866572:=0
def tw5231797247591051843:=0
def tw7855866148673320875:=0
def tw8477321588128782735:=0
def tw9818717225522141046:=0
def tw16137990541736800854:=0
def tw3078053901214300077:=0
def tw10524573599333756491:=0
def tw15347948810463877566:=0
def tw795715479705174791:=0
def tw10240417916735195096:=0
def tw17324937202390812005:=0
def tw9322346113239061004:=0
def tw10099128273134561151:=0
def tw7597610061391580620:=0
def tw14980822105914786188:=0
def tw9557930017765959892:=0
def tw5297081210062610854:=0
def tw4210215346907694456:=0
def tw14037004480759483175:=0
def tw9845021127931634490:=0
def tw17935992384938902535:=0
def tw6826709466721629733:=0
def tw551030421081684432:=0
def tw11564659757091791957:=0
def tw6373187260355921332:=0
def tw16854316564040993141:=0
def tw17286269050925237158:=0
def tw16415252523086478951:=0
def tw13617736284513685048:=0
def tw13005798526522408182:=0
def tw9890283449111936789:=0
def tw3078902063400980024:=0
def tw6172252321067024890:=0
def tw16550635554290501621:=0
def tw5970329625833463836:=0
def tw1726017487636789909:=0
def tw1082639330864341465:=0
def tw15742262051453489731:=0
def tw6459531788691376092:=0
def tw11017411200896887977:=0
def tw17301706047938742393:=0
def tw2828687869284456158:=0
def tw2249710953483428796:=0
def tw8106673641705162230:=0
def tw10678096811981142652:=0
def tw3741820573917434932:=0
def tw6629538640529043789:=0
def tw3893769244520175785:=0
def tw12539297810053886409:=0
def tw2658281055260491097:=0
def tw10934596933753094211:=0
def tw6874422624471727364:=0
def tw3295969292829096522:=0
def tw12530984362728582730:=0
def tw16052002414115501449:=0
def tw4829162090838499094:=0
def tw5935725218268649642:=0
def tw16619521166300684746:=0
def tw7123430326347797412:=0
def tw11694680559014741034:=0
def tw13335947746039601405:=0
def tw4609715432975613338:=0
def tw14714069331386169616:=0
def tw4621561899423180831:=0
def tw4529076217623134205:=0
def tw6169432955884874749:=0
def tw15260799826458329814:=0
def tw9669406674459526899:=0
def tw11205002950346971740:=0
def tw11065526834584169498:=0
def tw12557497566708578689:=0
def tw1550187369956051219:=0
def tw13479282593222742230:=0
def tw11885138779589895371:=0
def tw6521860545314344829:=0
def tw6022891299991226042:=0
def tw7648766515165900819:=0
def tw733705031789008989:=0
def tw81876711306479795:=0
def tw15357597737372778206:=0
def tw18282181311319026414:=0
def tw9632199552399937262:=0
def tw5394722245826831350:=0
def tw5833342894652882600:=0
def tw365553871090852544:=0
def tw17464069977125362:=0
def tw10173486308993591497:=0
def tw6420701043444900547:=0
def tw10481604579369600220:=0
def tw4854000493095677631:=0
def tw8660933104347191656:=0
def tw17547014748435374236:=0
def tw8853889823410126032:=0
def tw13783263043488030928:=0
def tw10952457750243769512:=0
def tw4112571105935250961:=0
def tw14629029260999012805:=0
def tw15012473582762178551:=0
def tw7089357841185471789:=0
def tw3997102482457878854:=0
def tw11158295997956558103:=0
def tw5083837766073013017:=0
def tw18302048492446919073:=0
def tw5304698256635562078:=0
def tw1217593081209594479:=0
def tw6814295494902974145:=0
def tw15421115428129497170:=0
def tw16710491130169520162:=0
def tw17650794146430842129:=0
def tw17146822838921162885:=0
def tw9528174238519518769:=0
def tw4539719149237562386:=0
def tw17442700879603881807:=0
def tw6040867300460110431:=0
def tw4080152063197976338:=0
def tw11778688041774615582:=0
def tw9126585193328263481:=0
def tw11480416742309615215:=0
def tw9772672462965929861:=0
def tw1872933660096206455:=0
end PySem.W.Fast
open PySem PySem.W PyProof.Rows
set_option maxRecDepth 100000 in
set_option maxHeartbeats 0 in
theorem PySem.Challenge.cw_patchwords_s04_same_holds : PySem.Challenge.rw_patchwords_s04_same.Holds := by
  w_on; k_headS; (case hw => exact ⟨[.list [], .list []], by decide +kernel, by decide +kernel⟩)
  k_fillS
  refine L2.walk_specK (r := PySem.Challenge.rw_patchwords_s04_same) (k := 125) (CX := L2.CX0) (ps := ["t", "p"]) (sp := fun K => Pw.spTop K Pw.dueSame) (by decide +kernel) rfl rfl ⟨rfl, by decide, by decide⟩ (fun w h Y => PySem.W.kIn_of Y) ?F Pw.s_top_same (fun _ _ _ _ z => z)
  case F =>
    intro w mg fa h Y KX G hmg
    have R_n_len := PySem.W.mg_none_of (n := "len") KX G (by k_is)
    have g_END := Pw.gvI_mk (x := "END") KX G (by k_is)
    have R_T := Pw.txt_mk KX G (by k_is) (by k_is) (by k_is) (by k_is) (by k_is) (by k_is) (by k_is) (by k_is) (by k_is) (by kernel_rfl) R_n_len g_END
    have R_V := Pw.vtxt_mk KX (by k_is) (by k_is) (by k_is) (by k_is) (by k_is) (by k_is) (by k_is) (by k_is)
    have R_kt : Pw.Kit2 (PySem.Challenge.cw_patchwords_s04_same_holds.heap_1 w.params) := ⟨⟨(by kernel_rfl), (by kernel_rfl), (by kernel_rfl), (by kernel_rfl)⟩, (by kernel_rfl), (by kernel_rfl), (by kernel_rfl), (by kernel_rfl), (by kernel_rfl), (by kernel_rfl), (by kernel_rfl), (by kernel_rfl), (by kernel_rfl), (by kernel_rfl), (by kernel_rfl), (by kernel_rfl)⟩
    have c_NotDocument := Pw.xc_mk (x := "NotDocument") KX G (by k_is) (by kernel_rfl)
    have c_TooLarge := Pw.xc_mk (x := "TooLarge") KX G (by k_is) (by kernel_rfl)
    have c_NotPointer := Pw.xc_mk (x := "NotPointer") KX G (by k_is) (by kernel_rfl)
    have c_Nowhere := Pw.xc_mk (x := "Nowhere") KX G (by k_is) (by kernel_rfl)
    have c_NotOperations := Pw.xc_mk (x := "NotOperations") KX G (by k_is) (by kernel_rfl)
    have c_NotDone := Pw.xc_mk (x := "NotDone") KX G (by k_is) (by kernel_rfl)
    have c_NotSecondDocument := Pw.xc_mk (x := "NotSecondDocument") KX G (by k_is) (by kernel_rfl)
    have R_g_ZERO := Pw.gvI_mk (x := "ZERO") KX G (by k_is)
    have R_g_NINE := Pw.gvI_mk (x := "NINE") KX G (by k_is)
    have R_g_SMALL_A := Pw.gvI_mk (x := "SMALL_A") KX G (by k_is)
    have R_g_SMALL_F := Pw.gvI_mk (x := "SMALL_F") KX G (by k_is)
    have R_g_LARGE_A := Pw.gvI_mk (x := "LARGE_A") KX G (by k_is)
    have R_g_LARGE_F := Pw.gvI_mk (x := "LARGE_F") KX G (by k_is)
    have R_g_BACKSLASH := Pw.gvI_mk (x := "BACKSLASH") KX G (by k_is)
    have R_g_SMALL_U := Pw.gvI_mk (x := "SMALL_U") KX G (by k_is)
    have R_g_QUOTE := Pw.gvI_mk (x := "QUOTE") KX G (by k_is)
    have R_g_BLANK := Pw.gvI_mk (x := "BLANK") KX G (by k_is)
    have R_g_COLON := Pw.gvI_mk (x := "COLON") KX G (by k_is)
    have R_g_MINUS := Pw.gvI_mk (x := "MINUS") KX G (by k_is)
    have R_g_LARGEST := Pw.gvI_mk (x := "LARGEST") KX G (by k_is)
    have R_g_OPEN_LIST := Pw.gvI_mk (x := "OPEN_LIST") KX G (by k_is)
    have R_g_CLOSE_LIST := Pw.gvI_mk (x := "CLOSE_LIST") KX G (by k_is)
    have R_g_OPEN_MEMBERS := Pw.gvI_mk (x := "OPEN_MEMBERS") KX G (by k_is)
    have R_g_CLOSE_MEMBERS := Pw.gvI_mk (x := "CLOSE_MEMBERS") KX G (by k_is)
    have R_g_COMMA := Pw.gvI_mk (x := "COMMA") KX G (by k_is)
    have R_g_DIGITS := Pw.gvS_mk (x := "DIGITS") KX G (by k_is)
    have R_n_ord := PySem.W.mg_none_of (n := "ord") KX G (by k_is)
    have R_n_all := PySem.W.mg_none_of (n := "all") KX G (by k_is)
    have R_n_range := PySem.W.mg_none_of (n := "range") KX G (by k_is)
    have R_n_tuple := PySem.W.mg_none_of (n := "tuple") KX G (by k_is)
    have R_n_str := PySem.W.mg_none_of (n := "str") KX G (by k_is)
    have R_n_max := PySem.W.mg_none_of (n := "max") KX G (by k_is)
    have R_n_sum := PySem.W.mg_none_of (n := "sum") KX G (by k_is)
    have R_n_isinstance := PySem.W.mg_none_of (n := "isinstance") KX G (by k_is)
    have R_n_dict := PySem.W.mg_none_of (n := "dict") KX G (by k_is)
    have R_n_list := PySem.W.mg_none_of (n := "list") KX G (by k_is)
    have R_BL := Pw.blanks_mk (by k_is) KX G (by k_is)
    have R_FO := Pw.forms_mk (by k_is) KX G (by k_is) (Pw.tup5_mk (by k_is)) (Pw.tup5_mk (by k_is)) (Pw.tup5_mk (by k_is)) (Pw.tup5_mk (by k_is)) (Pw.tup5_mk (by k_is)) (Pw.tup5_mk (by k_is)) (Pw.tup5_mk (by k_is)) (Pw.tup5_mk (by k_is)) (Pw.tup5_mk (by k_is))
    have R_WO := Pw.words_mk (P := PySem.Challenge.rw_patchwords_s04_same.prog) (by k_is) (by decide) KX G (by k_is)
    have R_ES := Pw.escR_mk (P := PySem.Challenge.rw_patchwords_s04_same.prog) (w := w) (by k_is) (by decide) KX G (by k_is)
    have R_d_is_digit := Pw.defAt_mk (x := "is_digit") (qual := "is_digit") (st := Pw.s_is_digit) (ps := ["sign"]) KX G (by k_is) (by k_is) (by k_is) (by k_is) (fun _ _ _ _ _ _ us hl => match us, hl with | [_], _ => rfl)
    have R_d_spelled := Pw.defAt_mk (x := "spelled") (qual := "spelled") (st := Pw.s_spelled) (ps := ["word"]) KX G (by k_is) (by k_is) (by k_is) (by k_is) (fun _ _ _ _ _ _ us hl => match us, hl with | [_], _ => rfl)
    have R_d_tail_byte := Pw.defAt_mk (x := "tail_byte") (qual := "tail_byte") (st := Pw.s_tail_byte) (ps := ["number"]) KX G (by k_is) (by k_is) (by k_is) (by k_is) (fun _ _ _ _ _ _ us hl => match us, hl with | [_], _ => rfl)
    have R_d_character_bytes := Pw.defAt_mk (x := "character_bytes") (qual := "character_bytes") (st := Pw.s_character_bytes) (ps := ["number"]) KX G (by k_is) (by k_is) (by k_is) (by k_is) (fun _ _ _ _ _ _ us hl => match us, hl with | [_], _ => rfl)
    have R_d_is_first_half := Pw.defAt_mk (x := "is_first_half") (qual := "is_first_half") (st := Pw.s_is_first_half) (ps := ["number"]) KX G (by k_is) (by k_is) (by k_is) (by k_is) (fun _ _ _ _ _ _ us hl => match us, hl with | [_], _ => rfl)
    have R_d_is_second_half := Pw.defAt_mk (x := "is_second_half") (qual := "is_second_half") (st := Pw.s_is_second_half) (ps := ["number"]) KX G (by k_is) (by k_is) (by k_is) (by k_is) (fun _ _ _ _ _ _ us hl => match us, hl with | [_], _ => rfl)
    have R_d_digit_of_sixteen := Pw.defAt_mk (x := "digit_of_sixteen") (qual := "digit_of_sixteen") (st := Pw.s_digit_of_sixteen) (ps := ["sign"]) KX G (by k_is) (by k_is) (by k_is) (by k_is) (fun _ _ _ _ _ _ us hl => match us, hl with | [_], _ => rfl)
    have R_d_is_tail := Pw.defAt_mk (x := "is_tail") (qual := "is_tail") (st := Pw.s_is_tail) (ps := ["tail", "next_lowest", "next_highest"]) KX G (by k_is) (by k_is) (by k_is) (by k_is) (fun _ _ _ _ _ _ us hl => match us, hl with | [_, _, _], _ => rfl)
    have R_d_character_size := Pw.defAt_mk (x := "character_size") (qual := "character_size") (st := Pw.s_character_size) (ps := ["source", "place"]) KX G (by k_is) (by k_is) (by k_is) (by k_is) (fun _ _ _ _ _ _ us hl => match us, hl with | [_, _], _ => rfl)
    have R_d_is_utf8 := Pw.defAt_mk (x := "is_utf8") (qual := "is_utf8") (st := Pw.s_is_utf8) (ps := ["source"]) KX G (by k_is) (by k_is) (by k_is) (by k_is) (fun _ _ _ _ _ _ us hl => match us, hl with | [_], _ => rfl)
    have R_d_plain_bytes := Pw.defAt_mk (x := "plain_bytes") (qual := "plain_bytes") (st := Pw.s_plain_bytes) (ps := ["content"]) KX G (by k_is) (by k_is) (by k_is) (by k_is) (fun _ _ _ _ _ _ us hl => match us, hl with | [_], _ => rfl)
    have R_d_text_bytes := Pw.defAt_mk (x := "text_bytes") (qual := "text_bytes") (st := Pw.s_text_bytes) (ps := ["text"]) KX G (by k_is) (by k_is) (by k_is) (by k_is) (fun _ _ _ _ _ _ us hl => match us, hl with | [_], _ => rfl)
    have R_d_plain_value := Pw.defAt_mk (x := "plain_value") (qual := "plain_value") (st := Pw.s_plain_value) (ps := ["content"]) KX G (by k_is) (by k_is) (by k_is) (by k_is) (fun _ _ _ _ _ _ us hl => match us, hl with | [_], _ => rfl)
    have R_d_text_value := Pw.defAt_mk (x := "text_value") (qual := "text_value") (st := Pw.s_text_value) (ps := ["text"]) KX G (by k_is) (by k_is) (by k_is) (by k_is) (fun _ _ _ _ _ _ us hl => match us, hl with | [_], _ => rfl)
    have R_d_name_bytes := Pw.defAt_mk (x := "name_bytes") (qual := "name_bytes") (st := Pw.s_name_bytes) (ps := ["name"]) KX G (by k_is) (by k_is) (by k_is) (by k_is) (fun _ _ _ _ _ _ us hl => match us, hl with | [_], _ => rfl)
    have R_d_enclosed_size := Pw.defAt_mk (x := "enclosed_size") (qual := "enclosed_size") (st := Pw.s_enclosed_size) (ps := ["sizes"]) KX G (by k_is) (by k_is) (by k_is) (by k_is) (fun _ _ _ _ _ _ us hl => match us, hl with | [_], _ => rfl)
    have R_d_enclosed_depth := Pw.defAt_mk (x := "enclosed_depth") (qual := "enclosed_depth") (st := Pw.s_enclosed_depth) (ps := ["content"]) KX G (by k_is) (by k_is) (by k_is) (by k_is) (fun _ _ _ _ _ _ us hl => match us, hl with | [_], _ => rfl)
    have R_d_list_value := Pw.defAt_mk (x := "list_value") (qual := "list_value") (st := Pw.s_list_value) (ps := ["listed"]) KX G (by k_is) (by k_is) (by k_is) (by k_is) (fun _ _ _ _ _ _ us hl => match us, hl with | [_], _ => rfl)
    have R_d_members_value := Pw.defAt_mk (x := "members_value") (qual := "members_value") (st := Pw.s_members_value) (ps := ["members"]) KX G (by k_is) (by k_is) (by k_is) (by k_is) (fun _ _ _ _ _ _ us hl => match us, hl with | [_], _ => rfl)
    have R_d_read_nested := Pw.defAt_mk (x := "read_nested") (qual := "read_nested") (st := Pw.s_read_nested) (ps := ["source", "deepest"]) KX G (by k_is) (by k_is) (by k_is) (by k_is) (fun _ _ _ _ _ _ us hl => match us, hl with | [_, _], _ => rfl)
    have R_m_peek := Pw.methAt_mk2 (cn := "Reader") (x := "peek") (qual := "Reader.peek") (st := Pw.m_peek) (ps := ["self"]) KX (by k_is) (by k_is) (by k_is) (by k_is) (by k_is) (by k_is) (fun _ _ _ _ _ _ us hl => match us, hl with | [_], _ => rfl)
    have R_m_take := Pw.methAt_mk2 (cn := "Reader") (x := "take") (qual := "Reader.take") (st := Pw.m_take) (ps := ["self"]) KX (by k_is) (by k_is) (by k_is) (by k_is) (by k_is) (by k_is) (fun _ _ _ _ _ _ us hl => match us, hl with | [_], _ => rfl)
    have R_m_take_if := Pw.methAt_mk2 (cn := "Reader") (x := "take_if") (qual := "Reader.take_if") (st := Pw.m_take_if) (ps := ["self", "wanted"]) KX (by k_is) (by k_is) (by k_is) (by k_is) (by k_is) (by k_is) (fun _ _ _ _ _ _ us hl => match us, hl with | [_, _], _ => rfl)
    have R_m_expect := Pw.methAt_mk2 (cn := "Reader") (x := "expect") (qual := "Reader.expect") (st := Pw.m_expect) (ps := ["self", "wanted"]) KX (by k_is) (by k_is) (by k_is) (by k_is) (by k_is) (by k_is) (fun _ _ _ _ _ _ us hl => match us, hl with | [_, _], _ => rfl)
    have R_m_skip_blanks := Pw.methAt_mk2 (cn := "Reader") (x := "skip_blanks") (qual := "Reader.skip_blanks") (st := Pw.m_skip_blanks) (ps := ["self"]) KX (by k_is) (by k_is) (by k_is) (by k_is) (by k_is) (by k_is) (fun _ _ _ _ _ _ us hl => match us, hl with | [_], _ => rfl)
    have R_m_enter := Pw.methAt_mk2 (cn := "Reader") (x := "enter") (qual := "Reader.enter") (st := Pw.m_enter) (ps := ["self", "opening", "depth"]) KX (by k_is) (by k_is) (by k_is) (by k_is) (by k_is) (by k_is) (fun _ _ _ _ _ _ us hl => match us, hl with | [_, _, _], _ => rfl)
    have R_m_read_four_digits := Pw.methAt_mk2 (cn := "Reader") (x := "read_four_digits") (qual := "Reader.read_four_digits") (st := Pw.m_read_four_digits) (ps := ["self"]) KX (by k_is) (by k_is) (by k_is) (by k_is) (by k_is) (by k_is) (fun _ _ _ _ _ _ us hl => match us, hl with | [_], _ => rfl)
    have R_m_read_character := Pw.methAt_mk2 (cn := "Reader") (x := "read_character") (qual := "Reader.read_character") (st := Pw.m_read_character) (ps := ["self"]) KX (by k_is) (by k_is) (by k_is) (by k_is) (by k_is) (by k_is) (fun _ _ _ _ _ _ us hl => match us, hl with | [_], _ => rfl)
    have R_m_read_escaped := Pw.methAt_mk2 (cn := "Reader") (x := "read_escaped") (qual := "Reader.read_escaped") (st := Pw.m_read_escaped) (ps := ["self"]) KX (by k_is) (by k_is) (by k_is) (by k_is) (by k_is) (by k_is) (fun _ _ _ _ _ _ us hl => match us, hl with | [_], _ => rfl)
    have R_m_read_text := Pw.methAt_mk2 (cn := "Reader") (x := "read_text") (qual := "Reader.read_text") (st := Pw.m_read_text) (ps := ["self"]) KX (by k_is) (by k_is) (by k_is) (by k_is) (by k_is) (by k_is) (fun _ _ _ _ _ _ us hl => match us, hl with | [_], _ => rfl)
    have R_m_read_name := Pw.methAt_mk2 (cn := "Reader") (x := "read_name") (qual := "Reader.read_name") (st := Pw.m_read_name) (ps := ["self"]) KX (by k_is) (by k_is) (by k_is) (by k_is) (by k_is) (by k_is) (fun _ _ _ _ _ _ us hl => match us, hl with | [_], _ => rfl)
    have R_m_read_digits := Pw.methAt_mk2 (cn := "Reader") (x := "read_digits") (qual := "Reader.read_digits") (st := Pw.m_read_digits) (ps := ["self", "most"]) KX (by k_is) (by k_is) (by k_is) (by k_is) (by k_is) (by k_is) (fun _ _ _ _ _ _ us hl => match us, hl with | [_, _], _ => rfl)
    have R_m_read_number := Pw.methAt_mk2 (cn := "Reader") (x := "read_number") (qual := "Reader.read_number") (st := Pw.m_read_number) (ps := ["self"]) KX (by k_is) (by k_is) (by k_is) (by k_is) (by k_is) (by k_is) (fun _ _ _ _ _ _ us hl => match us, hl with | [_], _ => rfl)
    have R_m_read_word := Pw.methAt_mk2 (cn := "Reader") (x := "read_word") (qual := "Reader.read_word") (st := Pw.m_read_word) (ps := ["self"]) KX (by k_is) (by k_is) (by k_is) (by k_is) (by k_is) (by k_is) (fun _ _ _ _ _ _ us hl => match us, hl with | [_], _ => rfl)
    have R_m_read_value := Pw.methAt_mk2 (cn := "Reader") (x := "read_value") (qual := "Reader.read_value") (st := Pw.m_read_value) (ps := ["self", "depth"]) KX (by k_is) (by k_is) (by k_is) (by k_is) (by k_is) (by k_is) (fun _ _ _ _ _ _ us hl => match us, hl with | [_, _], _ => rfl)
    have R_m_read_bare_value := Pw.methAt_mk2 (cn := "Reader") (x := "read_bare_value") (qual := "Reader.read_bare_value") (st := Pw.m_read_bare_value) (ps := ["self", "depth"]) KX (by k_is) (by k_is) (by k_is) (by k_is) (by k_is) (by k_is) (fun _ _ _ _ _ _ us hl => match us, hl with | [_, _], _ => rfl)
    have R_m_read_list := Pw.methAt_mk2 (cn := "Reader") (x := "read_list") (qual := "Reader.read_list") (st := Pw.m_read_list) (ps := ["self", "depth"]) KX (by k_is) (by k_is) (by k_is) (by k_is) (by k_is) (by k_is) (fun _ _ _ _ _ _ us hl => match us, hl with | [_, _], _ => rfl)
    have R_m_read_members := Pw.methAt_mk2 (cn := "Reader") (x := "read_members") (qual := "Reader.read_members") (st := Pw.m_read_members) (ps := ["self", "depth"]) KX (by k_is) (by k_is) (by k_is) (by k_is) (by k_is) (by k_is) (fun _ _ _ _ _ _ us hl => match us, hl with | [_, _], _ => rfl)
    have R_k_Reader := Pw.makeAt_mk (x := "Reader") (qual := "Reader.__init__") (st := Pw.m_init_Reader) (ps := ["self", "source", "deepest"]) KX G (by k_is) (by k_is) (by k_is) (by k_is) (by k_is) (by k_is) (by k_is) (by k_is) (fun _ _ _ _ _ _ us hl => match us, hl with | [_, _, _], _ => rfl)
    have R_k_Value := Pw.makeAt_mk (x := "Value") (qual := "Value.__init__") (st := Pw.m_init_Value) (ps := ["self", "content", "size", "depth"]) KX G (by k_is) (by k_is) (by k_is) (by k_is) (by k_is) (by k_is) (by k_is) (by k_is) (fun _ _ _ _ _ _ us hl => match us, hl with | [_, _, _, _], _ => rfl)
    have S_n_bool := PySem.W.mg_none_of (n := "bool") KX G (by k_is)
    have S_n_zip := PySem.W.mg_none_of (n := "zip") KX G (by k_is)
    have S_d_is_same := Pw.defAt_mk (x := "is_same") (qual := "is_same") (st := Pw.s_is_same) (ps := ["one", "other"]) KX G (by k_is) (by k_is) (by k_is) (by k_is) (fun _ _ _ _ _ _ us hl => match us, hl with | [_, _], _ => rfl)
    have S_d_are_same_members := Pw.defAt_mk (x := "are_same_members") (qual := "are_same_members") (st := Pw.s_are_same_members) (ps := ["one", "other"]) KX G (by k_is) (by k_is) (by k_is) (by k_is) (fun _ _ _ _ _ _ us hl => match us, hl with | [_, _], _ => rfl)
    have S_d_are_same_lists := Pw.defAt_mk (x := "are_same_lists") (qual := "are_same_lists") (st := Pw.s_are_same_lists) (ps := ["one", "other"]) KX G (by k_is) (by k_is) (by k_is) (by k_is) (fun _ _ _ _ _ _ us hl => match us, hl with | [_, _], _ => rfl)
    have S_d_is_same_plain := Pw.defAt_mk (x := "is_same_plain") (qual := "is_same_plain") (st := Pw.s_is_same_plain) (ps := ["one", "other"]) KX G (by k_is) (by k_is) (by k_is) (by k_is) (fun _ _ _ _ _ _ us hl => match us, hl with | [_, _], _ => rfl)
    have A_read_document := Pw.defAt_mk (x := "read_document") (qual := "read_document") (st := Pw.s_read_document) (ps := ["source"]) KX G (by k_is) (by k_is) (by k_is) (by k_is) (fun _ _ _ _ _ _ us hl => match us, hl with | [_], _ => rfl)
    have A_read_second := Pw.defAt_mk (x := "read_second") (qual := "read_second") (st := Pw.s_read_second) (ps := ["p"]) KX G (by k_is) (by k_is) (by k_is) (by k_is) (fun _ _ _ _ _ _ us hl => match us, hl with | [_], _ => rfl)
    have A_compared := Pw.defAt_mk (x := "compared") (qual := "compared") (st := Pw.s_compared) (ps := ["document", "p"]) KX G (by k_is) (by k_is) (by k_is) (by k_is) (fun _ _ _ _ _ _ us hl => match us, hl with | [_, _], _ => rfl)
    have A_answered := Pw.defAt_mk (x := "answered") (qual := "answered") (st := Pw.s_answered) (ps := ["work", "t", "p"]) KX G (by k_is) (by k_is) (by k_is) (by k_is) (fun _ _ _ _ _ _ us hl => match us, hl with | [_, _, _], _ => rfl)
    have A_same := Pw.defAt_mk (x := "same") (qual := "same") (st := Pw.s_same) (ps := ["t", "p"]) KX G (by k_is) (by k_is) (by k_is) (by k_is) (fun _ _ _ _ _ _ us hl => match us, hl with | [_, _], _ => rfl)
    have A_g := Pw.gvI_mk (x := "DEEPEST_DOCUMENT") KX G (by k_is)
    exact Pw.top_mk A_same hmg (fun _ _ _ _ _ _ us hl => match us, hl with | [_, _], _ => rfl) (fun base f fd F => Pw.same_all (base := base) ⟨R_T, R_V, (by decide), R_kt, R_g_ZERO, R_g_NINE, R_g_SMALL_A, R_g_SMALL_F, R_g_LARGE_A, R_g_LARGE_F, R_g_BACKSLASH, R_g_SMALL_U, R_g_QUOTE, R_g_BLANK, R_g_COLON, R_g_MINUS, R_g_LARGEST, R_g_OPEN_LIST, R_g_CLOSE_LIST, R_g_OPEN_MEMBERS, R_g_CLOSE_MEMBERS, R_g_COMMA, R_g_DIGITS, R_n_ord, R_n_len, R_n_all, R_n_range, R_n_tuple, R_n_str, R_n_max, R_n_sum, R_n_isinstance, R_n_dict, R_n_list, R_BL, R_FO, R_WO, R_ES, R_d_is_digit, R_d_spelled, R_d_tail_byte, R_d_character_bytes, R_d_is_first_half, R_d_is_second_half, R_d_digit_of_sixteen, R_d_is_tail, R_d_character_size, R_d_is_utf8, R_d_plain_bytes, R_d_text_bytes, R_d_plain_value, R_d_text_value, R_d_name_bytes, R_d_enclosed_size, R_d_enclosed_depth, R_d_list_value, R_d_members_value, R_d_read_nested, R_m_peek, R_m_take, R_m_take_if, R_m_expect, R_m_skip_blanks, R_m_enter, R_m_read_four_digits, R_m_read_character, R_m_read_escaped, R_m_read_text, R_m_read_name, R_m_read_digits, R_m_read_number, R_m_read_word, R_m_read_value, R_m_read_bare_value, R_m_read_list, R_m_read_members, R_k_Reader, R_k_Value⟩ ⟨R_V, ⟨R_kt, (by kernel_rfl), (by kernel_rfl), (by kernel_rfl), (by kernel_rfl), (by kernel_rfl), (by kernel_rfl)⟩, R_n_isinstance, R_n_dict, R_n_list, S_n_bool, R_n_len, S_n_zip, S_d_is_same, S_d_are_same_members, S_d_are_same_lists, S_d_is_same_plain⟩ ⟨⟨(by decide), c_NotDocument.1, c_NotPointer.1, c_NotOperations.1, c_NotSecondDocument.1, c_Nowhere.1, c_NotDone.1, c_TooLarge.1, (fun C hC => by simp only [List.mem_cons, List.not_mem_nil, or_false] at hC; rcases hC with rfl | rfl <;> kernel_rfl), (fun C hC => by simp only [List.mem_cons, List.not_mem_nil, or_false] at hC; rcases hC with rfl | rfl <;> kernel_rfl), (fun C hC => by simp only [List.mem_cons, List.not_mem_nil, or_false] at hC; rcases hC with rfl | rfl <;> kernel_rfl), (fun C hC => by simp only [List.mem_cons, List.not_mem_nil, or_false] at hC; rcases hC with rfl | rfl <;> kernel_rfl), List.mem_cons_self .., Pw.tin_same⟩, c_NotSecondDocument.2, A_g, A_read_document, A_read_second, A_compared, A_answered, A_same⟩ f fd F)
